/- SrvOk of the server: marks of its copy; copies of holds; conditions: the holds and ghosts lie in memory. -/
import Derived.Test.YtlbjgecjonegkaaHM3
import Derived.Test.YtlbjgecjonegkaaCCopy
import Derived.Test.YtlbjgecjonegkaaCCopyS
namespace Go.Proofs.Ytlbjgecjonegkaa
open Go.RowKit Go.Deep
set_option linter.unusedVariables false

theorem HOwT.up {w : World} {B n T T' : Nat} {F : Nat → HV} (h : HOwT w B n F T) (hT : T ≤ T') : HOwT w B n F T' := by
  obtain ⟨h1, los, his, h2, h3⟩ := h
  exact ⟨h1, los, his, fun k hk => ⟨(h2 k hk).1, Nat.le_trans (h2 k hk).2 hT⟩, h3⟩
theorem HOwT.far {w : World} {B n T O j : Nat} {u : Value} {F : Nat → HV} (h : HOwT w B n F T) (hO : O < B) : HOwT (w.setCell ⟨O, j, none⟩ u) B n F T := by
  obtain ⟨h1, los, his, h2, h3⟩ := h
  obtain ⟨g1, los', his', g2, g3⟩ := HOwC.far (O := O) (j := j) (u := u) (⟨h1, los, his, fun k hk => (h2 k hk).1, h3⟩ : HOwC w B n F n) hO
  refine ⟨g1, los, his, fun k hk => ⟨?_, (h2 k hk).2⟩, h3⟩
  obtain ⟨bW, bO, bX, bI, a1, a2, a3, ⟨c0, c1, c2, c3, c4, c5, c6, c7⟩, a5, a6⟩ := (h2 k hk).1
  have kk : ∀ o, (w.setCell ⟨O, j, none⟩ u).cell? ⟨B, o, none⟩ = w.cell? ⟨B, o, none⟩ := fun o => set_out (fun e => by omega)
  exact ⟨bW, bO, bX, bI, a1, a2, by rw [set_size]; exact a3, ⟨(kk _).trans c0, (kk _).trans c1, (kk _).trans c2, (kk _).trans c3, (kk _).trans c4, (kk _).trans c5, (kk _).trans c6, (kk _).trans c7⟩, a5.set (by omega), ownC_set a6 (by omega)⟩
set_option maxHeartbeats 2000000 in
theorem toSrvT (up : Bool) (aH : Option Addr) (n cH : Nat) (F : Nat → HV) (aG : Option Addr) (g cG : Nat) (Z : Nat → Nat → Int) (hn : n ≤ 1048576) (hg : g ≤ 1048576) (hS : ∀ k, k < n → (F k).V.short 1048576) (w : World) (hH : HRow w aH n F) (hG : P7.RowK w aG g Z) :
    Calls Try.prog 8 #[.agg #[.bool up, .slice aH n cH, .slice aG g cG]] w fun e w' => (∃ B G, e = .returned (.agg #[.bool up, .slice (some ⟨B, 0, none⟩) n n, .slice (some ⟨G, 0, none⟩) g g]) ∧ HOwT w' B n F G ∧ P7.OwnK w' G g Z g ∧ B < w'.heap.size ∧ G < w'.heap.size ∧ w.heap.size ≤ B ∧ B < G) ∧ Below w.heap.size w w' := by
  have HH : Hid (HRow w aH n F) := hH
  have HG : Hid (P7.RowK w aG g Z) := hG
  have HS : Hid (∀ k, k < n → (F k).V.short 1048576) := hS
  clear hH hG hS
  go_enter Try.func8, Try.ntmps8
  go_wp2_with fail
  obtain ⟨w0, e0⟩ : ∃ w0, w0 = ((w.alloc (.cells #[.bool up, .slice aH n cH, .slice aG g cG] 27)).alloc (.cells #[.bool false, .slice none 0 0, .slice none 0 0] 35)).alloc (.cells #[.bool up, .slice none 0 0, .slice none 0 0] 35) := ⟨_, rfl⟩
  have B1 : Hid (Below w.heap.size w w0) := by rw [e0]; exact (((Below.refl _ _).alloc (by simp) _).alloc (by simp) _).alloc (by simp; omega) _
  have A2 : Hid (Bk w0 w.heap.size [.bool up, .slice aH n cH, .slice aG g cG]) := by rw [e0]; exact ((bk_new w 27 [.bool up, .slice aH n cH, .slice aG g cG]).below ((Below.refl _ _).alloc (Nat.le_refl _) _)).below ((Below.refl _ _).alloc (Nat.le_refl _) _)
  have R3 : Hid (Bk w0 (w.heap.size + 1) [.bool false, .slice none 0 0, .slice none 0 0]) := by rw [e0]; have := (bk_new (w.alloc (.cells #[.bool up, .slice aH n cH, .slice aG g cG] 27)) 35 [.bool false, .slice none 0 0, .slice none 0 0]).below ((Below.refl _ _).alloc (Nat.le_refl _) (.cells #[.bool up, .slice none 0 0, .slice none 0 0] 35)); rwa [show (w.alloc (.cells #[.bool up, .slice aH n cH, .slice aG g cG] 27)).heap.size = w.heap.size + 1 by simp] at this
  have O4 : Hid (Bk w0 (w.heap.size + 1 + 1) [.bool up, .slice none 0 0, .slice none 0 0]) := by rw [e0]; have := bk_new ((w.alloc (.cells #[.bool up, .slice aH n cH, .slice aG g cG] 27)).alloc (.cells #[.bool false, .slice none 0 0, .slice none 0 0] 35)) 35 [.bool up, .slice none 0 0, .slice none 0 0]; rwa [show ((w.alloc (.cells #[.bool up, .slice aH n cH, .slice aG g cG] 27)).alloc (.cells #[.bool false, .slice none 0 0, .slice none 0 0] 35)).heap.size = w.heap.size + 1 + 1 by simp] at this
  rw [← e0]
  clear e0
  have z0 : w.heap.size + 1 + 1 < w0.heap.size := O4.out.1
  refine (toHoldsC_any aH n cH F hn HS.out _ (HH.out.below B1.out)).mono ?_
  rintro e w1 ⟨rfl, ho1, hs1, hb1⟩
  have B5 : Hid (Below w.heap.size w w1) := bthen B1.out hb1
  have A5 : Hid (Bk w1 w.heap.size [.bool up, .slice aH n cH, .slice aG g cG]) := A2.out.below hb1
  have R5 : Hid (Bk w1 (w.heap.size + 1) [.bool false, .slice none 0 0, .slice none 0 0]) := R3.out.below hb1
  have O5 : Hid (Bk w1 (w.heap.size + 1 + 1) [.bool up, .slice none 0 0, .slice none 0 0]) := O4.out.below hb1
  clear B1 A2 R3 O4
  have H1 : Hid (HOwT w1 w0.heap.size n F w1.heap.size) := HOwC.top ho1
  clear ho1 hb1
  obtain ⟨B, eB⟩ : ∃ B, B = w0.heap.size := ⟨_, rfl⟩
  rw [← eB] at z0 hs1 H1 ⊢
  clear eB
  have yO0 : w1.cell? ⟨(w.heap.size + 1 + 1), 0, none⟩ = some (.bool up) := (O5.out.2 0 (by simp)).1
  have zO0 : w1.frozen? ⟨(w.heap.size + 1 + 1), 0, none⟩ = false := (O5.out.2 0 (by simp)).2
  have yO1 : w1.cell? ⟨(w.heap.size + 1 + 1), 1, none⟩ = some (.slice none 0 0) := (O5.out.2 1 (by simp)).1
  have zO1 : w1.frozen? ⟨(w.heap.size + 1 + 1), 1, none⟩ = false := (O5.out.2 1 (by simp)).2
  have yO2 : w1.cell? ⟨(w.heap.size + 1 + 1), 2, none⟩ = some (.slice none 0 0) := (O5.out.2 2 (by simp)).1
  have zO2 : w1.frozen? ⟨(w.heap.size + 1 + 1), 2, none⟩ = false := (O5.out.2 2 (by simp)).2
  have hlO : (w.heap.size + 1 + 1) < w1.heap.size := O5.out.1
  have yA0 : w1.cell? ⟨w.heap.size, 0, none⟩ = some (.bool up) := (A5.out.2 0 (by simp)).1
  have yA1 : w1.cell? ⟨w.heap.size, 1, none⟩ = some (.slice aH n cH) := (A5.out.2 1 (by simp)).1
  have yA2 : w1.cell? ⟨w.heap.size, 2, none⟩ = some (.slice aG g cG) := (A5.out.2 2 (by simp)).1
  have hlA : w.heap.size < w1.heap.size := A5.out.1
  go_wp2_with fail
  obtain ⟨v1, ev1⟩ : ∃ v, v = w1.setCell ⟨w.heap.size + 1 + 1, 1, none⟩ (.slice (some ⟨B, 0, none⟩) n n) := ⟨_, rfl⟩
  clear yO0 zO0 yO1 zO1 yO2 zO2 hlO yA0 yA1 yA2 hlA
  have nB : Hid (Below w.heap.size w v1) := by rw [ev1]; exact B5.out.setCell (by show w.heap.size ≤ w.heap.size + 1 + 1; omega) _
  have nA : Hid (Bk v1 w.heap.size [.bool up, .slice aH n cH, .slice aG g cG]) := by rw [ev1]; exact A5.out.far (by omega)
  have nR : Hid (Bk v1 (w.heap.size + 1) [.bool false, .slice none 0 0, .slice none 0 0]) := by rw [ev1]; exact R5.out.far (by omega)
  have nO : Hid (Bk v1 (w.heap.size + 1 + 1) [.bool up, .slice (some ⟨B, 0, none⟩) n n, .slice none 0 0]) := by rw [ev1]; exact O5.out.set (j := 1) (by simp)
  have nH : Hid (HOwT v1 B n F v1.heap.size) := by rw [ev1]; exact (H1.out.far (by omega)).up (by rw [set_size]; exact Nat.le_refl _)
  have hs2 : B < v1.heap.size := by rw [ev1, set_size]; exact hs1
  rw [← ev1]
  clear ev1 B5 A5 R5 O5 H1
  refine (P7.toList_any aG g cG Z hg _ (P7.row_below HG.out nB.out)).mono ?_
  rintro e w2 ⟨rfl, ho2, hs3, hb2⟩
  have B6 : Hid (Below w.heap.size w w2) := bthen nB.out hb2
  have A6 : Hid (Bk w2 w.heap.size [.bool up, .slice aH n cH, .slice aG g cG]) := nA.out.below hb2
  have R6 : Hid (Bk w2 (w.heap.size + 1) [.bool false, .slice none 0 0, .slice none 0 0]) := nR.out.below hb2
  have O6 : Hid (Bk w2 (w.heap.size + 1 + 1) [.bool up, .slice (some ⟨B, 0, none⟩) n n, .slice none 0 0]) := nO.out.below hb2
  clear nB nA nR nO
  have H2 : Hid (HOwT w2 B n F v1.heap.size) := nH.out.below hs2 hb2
  have G2 : Hid (P7.OwnK w2 v1.heap.size g Z g) := ho2
  have hs4 : B < w2.heap.size := Nat.lt_of_lt_of_le hs2 hb2.size
  clear ho2 hb2 nH
  obtain ⟨G, eG⟩ : ∃ G, G = v1.heap.size := ⟨_, rfl⟩
  rw [← eG] at hs2 hs3 G2 H2 ⊢
  clear eG hs1
  have yO0 : w2.cell? ⟨(w.heap.size + 1 + 1), 0, none⟩ = some (.bool up) := (O6.out.2 0 (by simp)).1
  have zO0 : w2.frozen? ⟨(w.heap.size + 1 + 1), 0, none⟩ = false := (O6.out.2 0 (by simp)).2
  have yO1 : w2.cell? ⟨(w.heap.size + 1 + 1), 1, none⟩ = some (.slice (some ⟨B, 0, none⟩) n n) := (O6.out.2 1 (by simp)).1
  have zO1 : w2.frozen? ⟨(w.heap.size + 1 + 1), 1, none⟩ = false := (O6.out.2 1 (by simp)).2
  have yO2 : w2.cell? ⟨(w.heap.size + 1 + 1), 2, none⟩ = some (.slice none 0 0) := (O6.out.2 2 (by simp)).1
  have zO2 : w2.frozen? ⟨(w.heap.size + 1 + 1), 2, none⟩ = false := (O6.out.2 2 (by simp)).2
  have hlO : (w.heap.size + 1 + 1) < w2.heap.size := O6.out.1
  have yR0 : w2.cell? ⟨(w.heap.size + 1), 0, none⟩ = some (.bool false) := (R6.out.2 0 (by simp)).1
  have zR0 : w2.frozen? ⟨(w.heap.size + 1), 0, none⟩ = false := (R6.out.2 0 (by simp)).2
  have yR1 : w2.cell? ⟨(w.heap.size + 1), 1, none⟩ = some (.slice none 0 0) := (R6.out.2 1 (by simp)).1
  have zR1 : w2.frozen? ⟨(w.heap.size + 1), 1, none⟩ = false := (R6.out.2 1 (by simp)).2
  have yR2 : w2.cell? ⟨(w.heap.size + 1), 2, none⟩ = some (.slice none 0 0) := (R6.out.2 2 (by simp)).1
  have zR2 : w2.frozen? ⟨(w.heap.size + 1), 2, none⟩ = false := (R6.out.2 2 (by simp)).2
  have hlR : (w.heap.size + 1) < w2.heap.size := R6.out.1
  go_wp2
  refine bodyPost_ret (v := .agg #[.bool up, .slice (some ⟨B, 0, none⟩) n n, .slice (some ⟨G, 0, none⟩) g g]) (by simp [results, Try.results8, go_sem, *]) rfl ?_
  exact ⟨⟨B, G, rfl, ((((H2.out.far (O := w.heap.size + 1 + 1) (by omega)).far (O := w.heap.size + 1) (by omega)).far (O := w.heap.size + 1) (by omega)).far (O := w.heap.size + 1) (by omega)), (P7.own_far (P7.own_far (P7.own_far (P7.own_far G2.out (O := w.heap.size + 1 + 1) (by omega)) (O := w.heap.size + 1) (by omega)) (O := w.heap.size + 1) (by omega)) (O := w.heap.size + 1) (by omega)), by simpa [World.setCell] using hs4, by simpa [World.setCell] using hs3, by omega, by omega⟩, ((((B6.out.setCell (by show w.heap.size ≤ w.heap.size + 1 + 1; omega) _).setCell (by show w.heap.size ≤ w.heap.size + 1; omega) _).setCell (by show w.heap.size ≤ w.heap.size + 1; omega) _).setCell (by show w.heap.size ≤ w.heap.size + 1; omega) _)⟩

namespace P7
theorem setg (w : World) (B i : Nat) (u : Value) : w.grownBy (w.setCell ⟨B, i, none⟩ u) (some B) ∧ (w.setCell ⟨B, i, none⟩ u).heap.size = w.heap.size :=
  ⟨⟨rfl, rfl, rfl, by simp [World.setCell], fun k _ hne => Below.heap_setCell _ _ _ _ (fun e => hne (by rw [e]))⟩, by simp [World.setCell]⟩

theorem putK_grown (w : World) (B k : Nat) (Z : Nat → Nat → Int) : w.grownBy (putK w B k Z) (some B) ∧ (putK w B k Z).heap.size = w.heap.size := by
  unfold putK
  refine ⟨(((((((setg _ _ _ _).1.trans (setg _ _ _ _).1).trans (setg _ _ _ _).1).trans (setg _ _ _ _).1).trans (setg _ _ _ _).1).trans (setg _ _ _ _).1).trans (setg _ _ _ _).1), ?_⟩
  rw [(setg _ _ _ _).2, (setg _ _ _ _).2, (setg _ _ _ _).2, (setg _ _ _ _).2, (setg _ _ _ _).2, (setg _ _ _ _).2, (setg _ _ _ _).2]

set_option maxRecDepth 20000 in
set_option maxHeartbeats 2000000 in
theorem markL (s B n cap : Nat) (Z : Nat → Nat → Int) (hn : n ≤ 2000000) (hs : s ≤ 2000000000) (w : World) (hB : B < w.heap.size) (h : OwnK w B n Z n) :
    Calls Try.prog 33 #[.slice (some ⟨B, 0, none⟩) n cap, .int .i64 (s : Int)] w fun e w' => e = .returned (.int .i64 ((s + n * 7 : Nat) : Int)) ∧ OwnK w' B n (Mk 7 s) n ∧ w.grownBy w' (some B) ∧ w'.heap.size = w.heap.size := by
  have H0 : Hid (OwnK w B n (Mk 7 s) 0) := ⟨h.1, fun _ _ h => absurd h (by omega)⟩
  clear h
  go_enter Try.func33, Try.ntmps33
  go_wp2
  go_loopw [1, 5] (fun c i wr => ∃ k : Nat, k ≤ n ∧ .int .i64 k = i ∧ .int .i64 (Mk 7 s k 0) = c ∧ OwnK wr B n (Mk 7 s) k ∧ w.grownBy wr (some B) ∧ wr.heap.size = w.heap.size) (fun _ i _ => n - (intOf i).toNat)
  case atStart => exact ⟨0, Nat.zero_le _, rfl, by simp [Mk], H0.out, World.grownBy.refl _ _, rfl⟩
  case round =>
    obtain ⟨k, hk, rfl, rfl, hown, hg, hsz⟩ := hrel
    by_cases hkn : k < n
    · have hkn' : (k : Int) < (n : Int) := by omega
      obtain ⟨⟨v0, d0⟩, f0⟩ := own_cell hown hkn 0 (by omega)
      obtain ⟨⟨v1, d1⟩, f1⟩ := own_cell hown hkn 1 (by omega)
      obtain ⟨⟨v2, d2⟩, f2⟩ := own_cell hown hkn 2 (by omega)
      obtain ⟨⟨v3, d3⟩, f3⟩ := own_cell hown hkn 3 (by omega)
      obtain ⟨⟨v4, d4⟩, f4⟩ := own_cell hown hkn 4 (by omega)
      obtain ⟨⟨v5, d5⟩, f5⟩ := own_cell hown hkn 5 (by omega)
      obtain ⟨⟨v6, d6⟩, f6⟩ := own_cell hown hkn 6 (by omega)
      simp only [Nat.add_zero] at d0 f0
      have HP : Hid (OwnK (putK wr B k (Mk 7 s)) B n (Mk 7 s) (k + 1)) := own_put hown hkn
      have HG : Hid (w.grownBy (putK wr B k (Mk 7 s)) (some B) ∧ (putK wr B k (Mk 7 s)).heap.size = w.heap.size) := ⟨hg.trans (putK_grown wr B k (Mk 7 s)).1, (putK_grown wr B k (Mk 7 s)).2.trans hsz⟩
      have m1 : IntKind.wrap .i64 ((Mk 7 s k 0) + 1) = (Mk 7 s k 1) := by unfold Mk; simp [IntKind.wrap, IntKind.bits, IntKind.signed]; omega
      have m2 : IntKind.wrap .i64 ((Mk 7 s k 1) + 1) = (Mk 7 s k 2) := by unfold Mk; simp [IntKind.wrap, IntKind.bits, IntKind.signed]; omega
      have m3 : IntKind.wrap .i64 ((Mk 7 s k 2) + 1) = (Mk 7 s k 3) := by unfold Mk; simp [IntKind.wrap, IntKind.bits, IntKind.signed]; omega
      have m4 : IntKind.wrap .i64 ((Mk 7 s k 3) + 1) = (Mk 7 s k 4) := by unfold Mk; simp [IntKind.wrap, IntKind.bits, IntKind.signed]; omega
      have m5 : IntKind.wrap .i64 ((Mk 7 s k 4) + 1) = (Mk 7 s k 5) := by unfold Mk; simp [IntKind.wrap, IntKind.bits, IntKind.signed]; omega
      have m6 : IntKind.wrap .i64 ((Mk 7 s k 5) + 1) = (Mk 7 s k 6) := by unfold Mk; simp [IntKind.wrap, IntKind.bits, IntKind.signed]; omega
      have m7 : IntKind.wrap .i64 ((Mk 7 s k 6) + 1) = (Mk 7 s (k + 1) 0) := by unfold Mk; simp [IntKind.wrap, IntKind.bits, IntKind.signed]; omega
      clear hown hg hsz
      go_wp2
      go_roundw
      case rel => exact ⟨k + 1, by omega, by go_num, rfl, HP.out, HG.out.1, HG.out.2⟩
      case measure => simp [intOf]; omega
    · have hkn' : k = n := by omega
      subst hkn'
      have HO : Hid (OwnK wr B k (Mk 7 s) k) := hown
      clear hown
      go_wp2
      go_ret
      exact ⟨rfl, HO.out, hg, hsz⟩

end P7
theorem P7.own_sm {w w' : World} {B n k : Nat} {Z : Nat → Nat → Int} (h : P7.OwnK w B n Z k) (hs : Sm w w' B) : P7.OwnK w' B n Z k :=
  ⟨fun i hi => by rw [(hs i).1, (hs i).2]; exact h.1 i hi, fun k' j h1 h2 => by rw [(hs _).1]; exact h.2 k' j h1 h2⟩

set_option maxHeartbeats 2000000 in
theorem markSrv (up : Bool) (B n G g : Nat) (F : Nat → HV) (Z : Nat → Nat → Int) (hn : n + sumH F n + g ≤ 1048576) (w : World) (hB : B < w.heap.size) (hG : G < w.heap.size) (hBG : B < G) (hH : HOwT w B n F G) (hK : P7.OwnK w G g Z g) :
    Calls Try.prog 14 #[.agg #[.bool up, .slice (some ⟨B, 0, none⟩) n n, .slice (some ⟨G, 0, none⟩) g g], .int .i64 1] w fun e w' => (∃ s : Nat, e = .returned (.int .i64 (s : Int))) ∧ w.heap.size ≤ w'.heap.size ∧ (∀ b, b < w.heap.size → (b < B ∨ G < b) → Sm w w' b) ∧ Below B w w' := by
  have HH : Hid (HOwT w B n F G) := hH
  have HK : Hid (P7.OwnK w G g Z g) := hK
  clear hH hK
  go_enter Try.func14, Try.ntmps14
  go_wp2_with fail
  obtain ⟨w0, e0⟩ : ∃ w0, w0 = w.alloc (.cells #[.bool up, .slice (some ⟨B, 0, none⟩) n n, .slice (some ⟨G, 0, none⟩) g g] 35) := ⟨_, rfl⟩
  have hb0 : Below w.heap.size w w0 := by rw [e0]; exact (Below.refl _ _).alloc (Nat.le_refl _) _
  have X0 : Hid (Bk w0 w.heap.size [.bool up, .slice (some ⟨B, 0, none⟩) n n, .slice (some ⟨G, 0, none⟩) g g]) := by rw [e0]; exact bk_new w 35 [.bool up, .slice (some ⟨B, 0, none⟩) n n, .slice (some ⟨G, 0, none⟩) g g]
  rw [← e0]
  clear e0
  have z0 := hb0.size
  have z0b : w.heap.size < w0.heap.size := X0.out.1
  refine (markHolds B n n F G (by omega) _ (by omega) (HH.out.below hB hb0)).mono ?_
  rintro e w1 ⟨⟨s, rfl, hs⟩, z1, sm1, bl1⟩
  have z1a : w0.heap.size ≤ w1.heap.size := Nat.le_of_eq z1.symm
  have z1b : w1.heap.size ≤ w0.heap.size := Nat.le_of_eq z1
  have S1 : Hid (∀ b, b < w0.heap.size → (b < B ∨ (G ≤ b ∧ ¬ b = B)) → Sm w0 w1 b) := sm1
  have BL1 : Hid (Below B w0 w1) := bl1
  clear sm1 bl1 z1
  have X1 : Hid (Bk w1 w.heap.size [.bool up, .slice (some ⟨B, 0, none⟩) n n, .slice (some ⟨G, 0, none⟩) g g]) := X0.out.sm z1a (S1.out w.heap.size (by omega) (.inr ⟨by omega, by omega⟩))
  have K1 : Hid (P7.OwnK w1 G g Z g) := P7.own_sm (P7.own_below HK.out hG hb0) (S1.out G (by omega) (.inr ⟨Nat.le_refl _, by omega⟩))
  have yX0 : w1.cell? ⟨w.heap.size, 0, none⟩ = some (.bool up) := (X1.out.2 0 (by simp)).1
  have yX1 : w1.cell? ⟨w.heap.size, 1, none⟩ = some (.slice (some ⟨B, 0, none⟩) n n) := (X1.out.2 1 (by simp)).1
  have yX2 : w1.cell? ⟨w.heap.size, 2, none⟩ = some (.slice (some ⟨G, 0, none⟩) g g) := (X1.out.2 2 (by simp)).1
  have hlX : w.heap.size < w1.heap.size := X1.out.1
  go_wp2_with fail
  clear yX0 yX1 yX2 hlX
  refine (P7.markL s G g g Z (by omega) (by omega) _ (by omega) K1.out).mono ?_
  rintro e w2 ⟨rfl, _, hg2, z2⟩
  have z2a : w1.heap.size ≤ w2.heap.size := Nat.le_of_eq z2.symm
  have S2 : Hid (∀ b, b < w1.heap.size → ¬ b = G → Sm w1 w2 b) := fun b h1 h2 => sm_grown hg2 h1 (fun e => by injection e with e; omega)
  have BL2 : Hid (Below B w1 w2) := (Below.refl B w1).grown hg2 (by omega) (fun k e => by cases e; omega)
  clear hg2 z2 K1 X1
  go_wp2
  go_ret
  exact ⟨⟨s + g * 7, rfl⟩, by omega, fun b hb hq => (sm_below hb0 hb).trans ((S1.out b (by omega) (by rcases hq with q | q; exact .inl q; exact .inr ⟨by omega, by omega⟩)).trans (S2.out b (by omega) (by rcases hq with q | q <;> omega))), ((hb0.mono (by omega)).trans BL1.out).trans BL2.out⟩
end Go.Proofs.Ytlbjgecjonegkaa
