/- The walk of the model's l2Words: it hands back the words; conditions: the text has at most 100 bytes (else none). -/
import Derived.Test.YtpfemjenhnnfmaaDoorRead1
import Derived.OwnWalk
import Derived.LoopTactic
namespace Go.Proofs.YtpfemjenhnnfmaaDoor
open Go.RowKit
set_option linter.unusedVariables false
set_option maxRecDepth 20000

theorem Tryd.info9 : (Tryd.prog.info? 9).map (fun i => (i.zero, i.size, i.bytes)) = some (some (.string ⟨#[]⟩), 1, 16) := by kernel_rfl
def strs (ws : List (List UInt8)) : List Value := ws.map fun l => .string ⟨l.toArray⟩
theorem strs_snoc (A : List (List UInt8)) (cur : List UInt8) : strs (A ++ [cur]) = strs A ++ [.string ⟨cur.toArray⟩] := by simp [strs]
theorem go_blank {l : List UInt8} {k : Nat} (hk : k < l.length) (cur : List UInt8) (h : l[k] = 32) : wordsGo cur (l.drop k) = cur :: wordsGo [] (l.drop (k + 1)) := by
  rw [List.drop_eq_getElem_cons hk]
  conv => lhs; unfold wordsGo
  rw [if_pos h]
theorem go_else {l : List UInt8} {k : Nat} (hk : k < l.length) (cur : List UInt8) (h : ¬ l[k] = 32) : wordsGo cur (l.drop k) = wordsGo (cur ++ [l[k]]) (l.drop (k + 1)) := by
  rw [List.drop_eq_getElem_cons hk]
  conv => lhs; unfold wordsGo
  rw [if_neg h]

set_option maxHeartbeats 1000000 in
theorem words_spec (s : ByteArray) (hs : (s.size : Int) ≤ 100) (w : World) :
    Calls Tryd.prog 19 #[.string s] w fun e w' => ∃ v, e = .returned v ∧ w'.ownsRow w.heap.size 9 1 v (words s.data.toList).length (strs (words s.data.toList)) ∧ Below w.heap.size w w' := by
  obtain ⟨i0, hi, hz0, hz1, hz2⟩ := info_parts Tryd.info9
  go_enter Tryd.func19, Tryd.ntmps19
  go_wp2
  go_loopw [3, 4, 5] (fun out word i wr => ∃ (k : Nat) (A : List (List UInt8)) (cur : List UInt8), k ≤ s.size ∧ i = .int .i64 k ∧ word = .string ⟨cur.toArray⟩ ∧ A.length ≤ k ∧ cur.length ≤ k ∧ words s.data.toList = A ++ wordsGo cur (s.data.toList.drop k) ∧ wr.ownsRow w.heap.size 9 1 out A.length (strs A) ∧ Below w.heap.size w wr)
    (fun _ _ i _ => s.size - (intOf i).toNat)
  case atStart => exact ⟨0, [], [], Nat.zero_le _, rfl, rfl, Nat.le_refl _, Nat.le_refl _, by simp [words_go], World.ownsRow_made w #[] 0 (Nat.le_refl _) (by simp) (by simp), (Below.refl _ _).alloc (by simp) _⟩
  case round =>
    obtain ⟨k, A, cur, hk, rfl, rfl, hA, hcur, hgo, hown, hbel⟩ := hrel
    have HG : Hid (words s.data.toList = A ++ wordsGo cur (s.data.toList.drop k)) := hgo
    clear hgo
    by_cases hks : k < s.size
    · have hlt : k < s.data.toList.length := by rw [size_len]; exact hks
      by_cases hb : (s[k]'hks).toNat = 32
      · have hb' : (((s[k]'hks).toNat : Int) == 32) = true := by simp [hb]
        have HE : Hid (words s.data.toList = (A ++ [cur]) ++ wordsGo [] (s.data.toList.drop (k + 1))) := by
          show words s.data.toList = _
          rw [HG.out, go_blank hlt cur (by rw [at_list s hks]; exact UInt8.toNat_inj.1 hb)]; simp
        clear hlt hb HG
        go_wp2_with (at_builtin; refine wpList_append_own _ rfl _ _ 50 rfl w.heap.size 9 i0 (.string ⟨#[]⟩) 1 16 Tryd.underlying50 hi hz0 hz1 hz2 rfl (by decide) _ _ _ rfl (hown.alloc _) ⟨wr.heap.size, 0, none⟩ 1 1 [.string ⟨cur.toArray⟩] rfl rfl ?c1 ?c2 ?c3 ?c4 ?c5 ?_)
        case c1 =>
          intro j u hj
          match j, hj with
          | 0, hj => simp at hj; subst hj; simp [Addr.add]
        case c2 => intro u hu; simp at hu; subst hu; rfl
        case c3 => unfold maxLen; omega
        case c4 => omega
        case c5 => have := hbel.size; simp; omega
        · intro v' w1 hown' hgrow _
          have hbel1 : Below w.heap.size w w1 := (hbel.alloc hbel.size _).grown hgrow (by have := hbel.size; simp; omega) (fun kk e => (hown.lt kk e).1)
          clear hgrow hown hbel
          go_wp2
          go_roundw
          case rel => exact ⟨k + 1, A ++ [cur], [], by omega, by go_num, rfl, by simp; omega, by simp, HE.out, by rw [List.length_append, strs_snoc]; exact hown', hbel1⟩
          case measure => simp [intOf]; omega
      · have hb' : (((s[k]'hks).toNat : Int) == 32) = false := by simp; omega
        have HE : Hid (words s.data.toList = A ++ wordsGo (cur ++ [s[k]'hks]) (s.data.toList.drop (k + 1))) := by
          show words s.data.toList = _
          rw [HG.out, go_else hlt cur (by rw [at_list s hks]; intro e; apply hb; rw [e]; rfl), at_list s hks]
        clear hlt hb HG
        have cv := conv1 wr ((s[k]'hks).toNat : Int)
        have ll : (cur.length : Int) ≤ 8388607 := by omega
        go_wp2
        go_roundw
        case rel => exact ⟨k + 1, A, cur ++ [s[k]'hks], by omega, by go_num, congrArg Value.string (ByteArray.mk_append_mk cur [s[k]'hks]), by omega, by simp; omega, HE.out, hown.alloc _, hbel.alloc hbel.size _⟩
        case measure => simp [intOf]; omega
    · have hks' : k = s.size := by omega
      have HE : Hid (words s.data.toList = A ++ [cur]) := by
        show words s.data.toList = _
        rw [HG.out, List.drop_eq_nil_of_le (by rw [size_len]; omega)]; rfl
      clear hks' HG
      go_wp2_with (at_builtin; refine wpList_append_own _ rfl _ _ 50 rfl w.heap.size 9 i0 (.string ⟨#[]⟩) 1 16 Tryd.underlying50 hi hz0 hz1 hz2 rfl (by decide) _ _ _ rfl (hown.alloc _) ⟨wr.heap.size, 0, none⟩ 1 1 [.string ⟨cur.toArray⟩] rfl rfl ?d1 ?d2 ?d3 ?d4 ?d5 ?_)
      case d1 =>
        intro j u hj
        match j, hj with
        | 0, hj => simp at hj; subst hj; simp [Addr.add]
      case d2 => intro u hu; simp at hu; subst hu; rfl
      case d3 => unfold maxLen; omega
      case d4 => omega
      case d5 => have := hbel.size; simp; omega
      · intro v' w1 hown' hgrow _
        have hbel1 : Below w.heap.size w w1 := (hbel.alloc hbel.size _).grown hgrow (by have := hbel.size; simp; omega) (fun kk e => (hown.lt kk e).1)
        clear hgrow hown hbel
        go_wp2
        go_ret
        exact ⟨v', rfl, by rw [HE.out, List.length_append, strs_snoc]; exact hown', hbel1⟩

theorem words_long (s : ByteArray) (hs : (100 : Int) < (s.size : Int)) (w : World) :
    Calls Tryd.prog 19 #[.string s] w fun e w' => e = .returned (.slice (some ⟨w.heap.size, 0, none⟩) 0 0) ∧ Below w.heap.size w w' := by
  go_enter Tryd.func19, Tryd.ntmps19
  go_wp2
  go_ret
  exact ⟨rfl, (Below.refl _ _).alloc (by simp) _⟩

/-- What the k-th of some words is to the model: its number, or -1. -/
def atF (ws : List (List UInt8)) (k : Nat) : Int := match ws[k]? with
  | some l => numF l
  | none => -1

theorem at_none (v : Option Addr) (n cap k : Nat) (h : (n : Int) ≤ (k : Int)) (hk : k ≤ 100) (w : World) :
    Calls Tryd.prog 20 #[.slice v n cap, .int .i64 k] w fun e w' => e = .returned (.int .i64 (-1)) ∧ w' = w := by
  go_enter Tryd.func20, Tryd.ntmps20
  go_wp2
  go_ret
  exact ⟨rfl, rfl⟩

theorem at_some (g n cap k : Nat) (h : (k : Int) < (n : Int)) (hn : n ≤ 1000) (l : List UInt8) (hl : l.length ≤ 1000) (w : World) (hc : w.cell? ⟨g, k, none⟩ = some (.string ⟨l.toArray⟩)) :
    Calls Tryd.prog 20 #[.slice (some ⟨g, 0, none⟩) n cap, .int .i64 k] w fun e w' => e = .returned (.int .i64 (numF l)) ∧ w' = w := by
  go_enter Tryd.func20, Tryd.ntmps20
  go_wp2_with fail
  refine (number ⟨l.toArray⟩ _ (by simpa [ByteArray.size] using hl)).mono ?_
  rintro e w' ⟨rfl, rfl⟩
  go_wp2
  go_ret
  exact ⟨rfl, rfl⟩

theorem word_len : ∀ (l : List UInt8) (x : List UInt8), x ∈ words l → x.length ≤ l.length
  | [], x, h => by simp [words] at h; subst h; simp
  | b :: r, x, h => by
    obtain ⟨w', ws', e⟩ := words_cons r
    have ih := word_len r
    unfold words at h
    split at h
    · rcases List.mem_cons.1 h with rfl | h
      · simp
      · have := ih x h; simp; omega
    · rw [e] at h ih
      rcases List.mem_cons.1 h with rfl | h
      · have := ih w' (by simp); simp; omega
      · have := ih x (by simp [h]); simp; omega

theorem wlen : ∀ l : List UInt8, (words l).length ≤ l.length + 1
  | [] => by simp [words]
  | b :: r => by
    obtain ⟨w', ws', e⟩ := words_cons r
    have ih := wlen r
    unfold words
    rw [e] at ih ⊢
    split <;> simp at ih ⊢ <;> omega

/-- The model's look at the k-th word, whatever the words. -/
theorem at_any (s : ByteArray) (hs : (s.size : Int) ≤ 100) (base k : Nat) (hk : k ≤ 100) (v : Value) (w : World) (ho : w.ownsRow base 9 1 v (words s.data.toList).length (strs (words s.data.toList))) :
    Calls Tryd.prog 20 #[v, .int .i64 k] w fun e w' => e = .returned (.int .i64 (atF (words s.data.toList) k)) ∧ w' = w := by
  have hlen : (words s.data.toList).length ≤ s.size + 1 := by
    have := wlen s.data.toList
    rw [size_len] at this; exact this
  by_cases hlt : k < (words s.data.toList).length
  · obtain ⟨l, hl⟩ : ∃ l, (words s.data.toList)[k]? = some l := ⟨_, List.getElem?_eq_getElem hlt⟩
    have hll : l.length ≤ 1000 := by
      have := word_len s.data.toList l (List.mem_of_getElem? hl)
      rw [size_len] at this; omega
    have e : atF (words s.data.toList) k = numF l := by unfold atF; rw [hl]
    rw [e]
    rcases ho.2 with ⟨_, h0⟩ | ⟨g, cap, cur, rfl, _⟩
    · omega
    · have hc := ho.cells (g := g) rfl k (.string ⟨l.toArray⟩) (by simp [strs, hl])
      rw [show (⟨g, 0, none⟩ : Addr).add k = ⟨g, k, none⟩ by unfold Addr.add; split <;> simp_all] at hc
      exact at_some g _ cap k (by omega) (by omega) l hll w hc
  · have e : atF (words s.data.toList) k = -1 := by unfold atF; rw [List.getElem?_eq_none (by omega)]
    rw [e]
    rcases ho.2 with ⟨rfl, h0⟩ | ⟨g, cap, cur, rfl, _⟩
    · exact at_none none 0 0 k (by omega) hk w
    · exact at_none _ _ cap k (by omega) hk w
end Go.Proofs.YtpfemjenhnnfmaaDoor
