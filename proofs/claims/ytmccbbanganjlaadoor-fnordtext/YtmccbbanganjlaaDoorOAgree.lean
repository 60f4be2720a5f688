/- Plain facts: a text of an order is read back by both readers; no Go text in sight; conditions: none. -/
import Derived.Test.YtmccbbanganjlaaDoorORead5
import Derived.Test.YtmccbbanganjlaaDoorSRead3
namespace Go.Proofs.YtmccbbanganjlaaDoor
open Go.RowKit
set_option linter.unusedVariables false
set_option maxRecDepth 20000

theorem side_word {t : Int} (h : sideB t = true) : sideF (wordOf t) = t ∧ (∀ b ∈ (wordOf t).data.toList, b ≠ 32) ∧ (wordOf t).data.toList.length ≤ 5 := by
  have : t = 0 ∨ t = 1 := by simp [sideB, inB] at h; omega
  rcases this with rfl | rfl <;> decide +kernel
theorem eta2 (b : ByteArray) : (⟨b.data.toList.toArray⟩ : ByteArray) = b := by
  cases b with | mk d => simp

theorem back_step {s : ByteArray} {who seq du n : Int} (hw : 1 ≤ who ∧ who ≤ 9) (hq : 1 ≤ seq ∧ seq ≤ 900) (hd : sideB du = true) (hs : s.data.toList = (Lib.decDigits who.toNat ++ 32 :: (Lib.decDigits seq.toNat ++ 32 :: ([115, 116, 101, 112] ++ 32 :: (wordOf du).data.toList)))) :
    s.size ≤ 100 ∧ 3 ≤ (words s.data.toList).length ∧ readerOf (wordB s 2) = some 55 ∧ (oW s = who ∧ oS s = seq ∧ oT s 55 = du ∧ oN s 55 = 0) ∧ (uF s 0 = who ∧ uF s 1 = seq ∧ sT s 55 = du ∧ sN s 55 = 0) := by
  obtain ⟨gq, zq, vq, uq⟩ := good_digits who (by omega) (by omega)
  obtain ⟨gs, zs, vs, us⟩ := good_digits seq (by omega) (by omega)
  obtain ⟨sw, gw, zw⟩ := side_word hd
  have hws : words s.data.toList = [Lib.decDigits who.toNat, Lib.decDigits seq.toNat, [115, 116, 101, 112], (wordOf du).data.toList] := by rw [hs, words_app _ _ gq, words_app _ _ gs, words_app _ _ (by decide), words_last _ gw]
  have hle : s.size ≤ 100 := by
    rw [← size_len, hs]
    simp only [List.length_append, List.length_cons, List.length_nil]
    omega
  have h0 : wordB s 0 = ⟨(Lib.decDigits who.toNat).toArray⟩ := by unfold wordB; rw [hws]; rfl
  have h1 : wordB s 1 = ⟨(Lib.decDigits seq.toNat).toArray⟩ := by unfold wordB; rw [hws]; rfl
  have h2 : wordB s 2 = ⟨#[115, 116, 101, 112]⟩ := by unfold wordB; rw [hws]; rfl
  have h3 : wordB s 3 = wordOf du := by unfold wordB; rw [hws]; exact eta2 _
  refine ⟨hle, by rw [hws]; simp, by rw [h2]; decide +kernel, ⟨by unfold oW; rw [h0]; exact vq, by unfold oS; rw [h1]; exact vs, by unfold oT; show sideF (wordB s 3) = du; rw [h3]; exact sw, rfl⟩, by unfold uF; rw [if_pos hle, hws]; exact uq, by unfold uF; rw [if_pos hle, hws]; exact us, by show sideF (wordB s 3) = du; rw [h3]; exact sw, rfl⟩

theorem back_give {s : ByteArray} {who seq du n : Int} (hw : 1 ≤ who ∧ who ≤ 9) (hq : 1 ≤ seq ∧ seq ≤ 900) (hd : 1 ≤ du ∧ du ≤ 9) (hn : 1 ≤ n ∧ n ≤ 9) (hs : s.data.toList = (Lib.decDigits who.toNat ++ 32 :: (Lib.decDigits seq.toNat ++ 32 :: ([103, 105, 118, 101] ++ 32 :: (Lib.decDigits du.toNat ++ 32 :: Lib.decDigits n.toNat))))) :
    s.size ≤ 100 ∧ 3 ≤ (words s.data.toList).length ∧ readerOf (wordB s 2) = some 57 ∧ (oW s = who ∧ oS s = seq ∧ oT s 57 = du ∧ oN s 57 = n) ∧ (uF s 0 = who ∧ uF s 1 = seq ∧ sT s 57 = du ∧ sN s 57 = n) := by
  obtain ⟨gq, zq, vq, uq⟩ := good_digits who (by omega) (by omega)
  obtain ⟨gs, zs, vs, us⟩ := good_digits seq (by omega) (by omega)
  obtain ⟨gt, zt, vt, ut⟩ := good_digits du (by omega) (by omega)
  obtain ⟨gn, zn, vn, un⟩ := good_digits n (by omega) (by omega)
  have hws : words s.data.toList = [Lib.decDigits who.toNat, Lib.decDigits seq.toNat, [103, 105, 118, 101], Lib.decDigits du.toNat, Lib.decDigits n.toNat] := by rw [hs, words_app _ _ gq, words_app _ _ gs, words_app _ _ (by decide), words_app _ _ gt, words_last _ gn]
  have hle : s.size ≤ 100 := by
    rw [← size_len, hs]
    simp only [List.length_append, List.length_cons, List.length_nil]
    omega
  have h0 : wordB s 0 = ⟨(Lib.decDigits who.toNat).toArray⟩ := by unfold wordB; rw [hws]; rfl
  have h1 : wordB s 1 = ⟨(Lib.decDigits seq.toNat).toArray⟩ := by unfold wordB; rw [hws]; rfl
  have h2 : wordB s 2 = ⟨#[103, 105, 118, 101]⟩ := by unfold wordB; rw [hws]; rfl
  have h3 : wordB s 3 = ⟨(Lib.decDigits du.toNat).toArray⟩ := by unfold wordB; rw [hws]; rfl
  have h4 : wordB s 4 = ⟨(Lib.decDigits n.toNat).toArray⟩ := by unfold wordB; rw [hws]; rfl
  refine ⟨hle, by rw [hws]; simp, by rw [h2]; decide +kernel, ⟨by unfold oW; rw [h0]; exact vq, by unfold oS; rw [h1]; exact vs, by unfold oT; show atoiV (wordB s 3).data.toList = du; rw [h3]; exact vt, by unfold oN; show atoiV (wordB s 4).data.toList = n; rw [h4]; exact vn⟩, by unfold uF; rw [if_pos hle, hws]; exact uq, by unfold uF; rw [if_pos hle, hws]; exact us, by show uF s 3 = du; unfold uF; rw [if_pos hle, hws]; exact ut, by show uF s 4 = n; unfold uF; rw [if_pos hle, hws]; exact un⟩

theorem back_drop {s : ByteArray} {who seq du n : Int} (hw : 1 ≤ who ∧ who ≤ 9) (hq : 1 ≤ seq ∧ seq ≤ 900) (hn : 1 ≤ n ∧ n ≤ 9) (hs : s.data.toList = (Lib.decDigits who.toNat ++ 32 :: (Lib.decDigits seq.toNat ++ 32 :: ([100, 114, 111, 112] ++ 32 :: Lib.decDigits n.toNat)))) :
    s.size ≤ 100 ∧ 3 ≤ (words s.data.toList).length ∧ readerOf (wordB s 2) = some 58 ∧ (oW s = who ∧ oS s = seq ∧ oT s 58 = 0 ∧ oN s 58 = n) ∧ (uF s 0 = who ∧ uF s 1 = seq ∧ sT s 58 = 0 ∧ sN s 58 = n) := by
  obtain ⟨gq, zq, vq, uq⟩ := good_digits who (by omega) (by omega)
  obtain ⟨gs, zs, vs, us⟩ := good_digits seq (by omega) (by omega)
  obtain ⟨gn, zn, vn, un⟩ := good_digits n (by omega) (by omega)
  have hws : words s.data.toList = [Lib.decDigits who.toNat, Lib.decDigits seq.toNat, [100, 114, 111, 112], Lib.decDigits n.toNat] := by rw [hs, words_app _ _ gq, words_app _ _ gs, words_app _ _ (by decide), words_last _ gn]
  have hle : s.size ≤ 100 := by
    rw [← size_len, hs]
    simp only [List.length_append, List.length_cons, List.length_nil]
    omega
  have h0 : wordB s 0 = ⟨(Lib.decDigits who.toNat).toArray⟩ := by unfold wordB; rw [hws]; rfl
  have h1 : wordB s 1 = ⟨(Lib.decDigits seq.toNat).toArray⟩ := by unfold wordB; rw [hws]; rfl
  have h2 : wordB s 2 = ⟨#[100, 114, 111, 112]⟩ := by unfold wordB; rw [hws]; rfl
  have h3 : wordB s 3 = ⟨(Lib.decDigits n.toNat).toArray⟩ := by unfold wordB; rw [hws]; rfl
  refine ⟨hle, by rw [hws]; simp, by rw [h2]; decide +kernel, ⟨by unfold oW; rw [h0]; exact vq, by unfold oS; rw [h1]; exact vs, rfl, by unfold oN; show atoiV (wordB s 3).data.toList = n; rw [h3]; exact vn⟩, by unfold uF; rw [if_pos hle, hws]; exact uq, by unfold uF; rw [if_pos hle, hws]; exact us, rfl, by show uF s 3 = n; unfold uF; rw [if_pos hle, hws]; exact un⟩

theorem back_pick {s : ByteArray} {who seq du n : Int} (hw : 1 ≤ who ∧ who ≤ 9) (hq : 1 ≤ seq ∧ seq ≤ 900) (hn : 1 ≤ n ∧ n ≤ 9) (hs : s.data.toList = (Lib.decDigits who.toNat ++ 32 :: (Lib.decDigits seq.toNat ++ 32 :: ([112, 105, 99, 107] ++ 32 :: Lib.decDigits n.toNat)))) :
    s.size ≤ 100 ∧ 3 ≤ (words s.data.toList).length ∧ readerOf (wordB s 2) = some 59 ∧ (oW s = who ∧ oS s = seq ∧ oT s 59 = 0 ∧ oN s 59 = n) ∧ (uF s 0 = who ∧ uF s 1 = seq ∧ sT s 59 = 0 ∧ sN s 59 = n) := by
  obtain ⟨gq, zq, vq, uq⟩ := good_digits who (by omega) (by omega)
  obtain ⟨gs, zs, vs, us⟩ := good_digits seq (by omega) (by omega)
  obtain ⟨gn, zn, vn, un⟩ := good_digits n (by omega) (by omega)
  have hws : words s.data.toList = [Lib.decDigits who.toNat, Lib.decDigits seq.toNat, [112, 105, 99, 107], Lib.decDigits n.toNat] := by rw [hs, words_app _ _ gq, words_app _ _ gs, words_app _ _ (by decide), words_last _ gn]
  have hle : s.size ≤ 100 := by
    rw [← size_len, hs]
    simp only [List.length_append, List.length_cons, List.length_nil]
    omega
  have h0 : wordB s 0 = ⟨(Lib.decDigits who.toNat).toArray⟩ := by unfold wordB; rw [hws]; rfl
  have h1 : wordB s 1 = ⟨(Lib.decDigits seq.toNat).toArray⟩ := by unfold wordB; rw [hws]; rfl
  have h2 : wordB s 2 = ⟨#[112, 105, 99, 107]⟩ := by unfold wordB; rw [hws]; rfl
  have h3 : wordB s 3 = ⟨(Lib.decDigits n.toNat).toArray⟩ := by unfold wordB; rw [hws]; rfl
  refine ⟨hle, by rw [hws]; simp, by rw [h2]; decide +kernel, ⟨by unfold oW; rw [h0]; exact vq, by unfold oS; rw [h1]; exact vs, rfl, by unfold oN; show atoiV (wordB s 3).data.toList = n; rw [h3]; exact vn⟩, by unfold uF; rw [if_pos hle, hws]; exact uq, by unfold uF; rw [if_pos hle, hws]; exact us, rfl, by show uF s 3 = n; unfold uF; rw [if_pos hle, hws]; exact un⟩

theorem back_throw {s : ByteArray} {who seq du n : Int} (hw : 1 ≤ who ∧ who ≤ 9) (hq : 1 ≤ seq ∧ seq ≤ 900) (hd : sideB du = true) (hn : 1 ≤ n ∧ n ≤ 9) (hs : s.data.toList = (Lib.decDigits who.toNat ++ 32 :: (Lib.decDigits seq.toNat ++ 32 :: ([116, 104, 114, 111, 119] ++ 32 :: ((wordOf du).data.toList ++ 32 :: Lib.decDigits n.toNat))))) :
    s.size ≤ 100 ∧ 3 ≤ (words s.data.toList).length ∧ readerOf (wordB s 2) = some 60 ∧ (oW s = who ∧ oS s = seq ∧ oT s 60 = du ∧ oN s 60 = n) ∧ (uF s 0 = who ∧ uF s 1 = seq ∧ sT s 60 = du ∧ sN s 60 = n) := by
  obtain ⟨gq, zq, vq, uq⟩ := good_digits who (by omega) (by omega)
  obtain ⟨gs, zs, vs, us⟩ := good_digits seq (by omega) (by omega)
  obtain ⟨sw, gw, zw⟩ := side_word hd
  obtain ⟨gn, zn, vn, un⟩ := good_digits n (by omega) (by omega)
  have hws : words s.data.toList = [Lib.decDigits who.toNat, Lib.decDigits seq.toNat, [116, 104, 114, 111, 119], (wordOf du).data.toList, Lib.decDigits n.toNat] := by rw [hs, words_app _ _ gq, words_app _ _ gs, words_app _ _ (by decide), words_app _ _ gw, words_last _ gn]
  have hle : s.size ≤ 100 := by
    rw [← size_len, hs]
    simp only [List.length_append, List.length_cons, List.length_nil]
    omega
  have h0 : wordB s 0 = ⟨(Lib.decDigits who.toNat).toArray⟩ := by unfold wordB; rw [hws]; rfl
  have h1 : wordB s 1 = ⟨(Lib.decDigits seq.toNat).toArray⟩ := by unfold wordB; rw [hws]; rfl
  have h2 : wordB s 2 = ⟨#[116, 104, 114, 111, 119]⟩ := by unfold wordB; rw [hws]; rfl
  have h3 : wordB s 3 = wordOf du := by unfold wordB; rw [hws]; exact eta2 _
  have h4 : wordB s 4 = ⟨(Lib.decDigits n.toNat).toArray⟩ := by unfold wordB; rw [hws]; rfl
  refine ⟨hle, by rw [hws]; simp, by rw [h2]; decide +kernel, ⟨by unfold oW; rw [h0]; exact vq, by unfold oS; rw [h1]; exact vs, by unfold oT; show sideF (wordB s 3) = du; rw [h3]; exact sw, by unfold oN; show atoiV (wordB s 4).data.toList = n; rw [h4]; exact vn⟩, by unfold uF; rw [if_pos hle, hws]; exact uq, by unfold uF; rw [if_pos hle, hws]; exact us, by show sideF (wordB s 3) = du; rw [h3]; exact sw, by show uF s 4 = n; unfold uF; rw [if_pos hle, hws]; exact un⟩

theorem back_rest {s : ByteArray} {who seq du n : Int} (hw : 1 ≤ who ∧ who ≤ 9) (hq : 1 ≤ seq ∧ seq ≤ 900) (hs : s.data.toList = (Lib.decDigits who.toNat ++ 32 :: (Lib.decDigits seq.toNat ++ 32 :: [114, 101, 115, 116]))) :
    s.size ≤ 100 ∧ 3 ≤ (words s.data.toList).length ∧ readerOf (wordB s 2) = some 61 ∧ (oW s = who ∧ oS s = seq ∧ oT s 61 = 0 ∧ oN s 61 = 0) ∧ (uF s 0 = who ∧ uF s 1 = seq ∧ sT s 61 = 0 ∧ sN s 61 = 0) := by
  obtain ⟨gq, zq, vq, uq⟩ := good_digits who (by omega) (by omega)
  obtain ⟨gs, zs, vs, us⟩ := good_digits seq (by omega) (by omega)
  have hws : words s.data.toList = [Lib.decDigits who.toNat, Lib.decDigits seq.toNat, [114, 101, 115, 116]] := by rw [hs, words_app _ _ gq, words_app _ _ gs, words_last _ (by decide)]
  have hle : s.size ≤ 100 := by
    rw [← size_len, hs]
    simp only [List.length_append, List.length_cons, List.length_nil]
    omega
  have h0 : wordB s 0 = ⟨(Lib.decDigits who.toNat).toArray⟩ := by unfold wordB; rw [hws]; rfl
  have h1 : wordB s 1 = ⟨(Lib.decDigits seq.toNat).toArray⟩ := by unfold wordB; rw [hws]; rfl
  have h2 : wordB s 2 = ⟨#[114, 101, 115, 116]⟩ := by unfold wordB; rw [hws]; rfl
  refine ⟨hle, by rw [hws]; simp, by rw [h2]; decide +kernel, ⟨by unfold oW; rw [h0]; exact vq, by unfold oS; rw [h1]; exact vs, rfl, rfl⟩, by unfold uF; rw [if_pos hle, hws]; exact uq, by unfold uF; rw [if_pos hle, hws]; exact us, rfl, rfl⟩
end Go.Proofs.YtmccbbanganjlaaDoor
