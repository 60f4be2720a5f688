/- The law FnCllNew; conditions: those typed. -/
import Derived.Test.YtjllgmkficjiaaaCG
import Derived.Test.YtjllgmkficjiaaaCD
namespace Go.Proofs.Ytjllgmkficjiaaa
open Go.RowKit Go.Deep
set_option linter.unusedVariables false


theorem OwnC.sm {lo hi : Nat} {w w' : World} {v : Value} {V : CV} (h : OwnC lo hi w v V) (hs : w.heap.size ≤ w'.heap.size) (k : ∀ b, lo ≤ b → b < hi → Sm w w' b) : OwnC lo hi w' v V := by
  obtain ⟨vW, vO, vX, vI, gW, gO, gX, gI, sl, xs, e, rW, rO, rX, rI, hd, hx1, hx2⟩ := h
  exact ⟨vW, vO, vX, vI, gW, gO, gX, gI, sl, xs, e, rW.sm hs (k gW), rO.sm hs (k gO) (fun i _ => k (xs i)), rX.sm hs (k gX), rI.sm hs (k gI), hd, hx1, hx2⟩
theorem OwnC.below {lo hi : Nat} {w w' : World} {v : Value} {V : CV} (h : OwnC lo hi w v V) (hh : hi ≤ w.heap.size) (hb : Below w.heap.size w w') : OwnC lo hi w' v V :=
  h.sm hb.size (fun b _ hb' => sm_below hb (Nat.lt_of_lt_of_le hb' hh))
theorem newV_facts (c d k : Int) (Z : Nat → Nat → Int) (n : Nat) (hn : n ≤ 6) : (newV c d k Z n).nW ≤ 2000000 ∧ (newV c d k Z n).nX ≤ 1000 ∧ (newV c d k Z n).nI ≤ 1000 ∧ (newV c d k Z n).nO ≤ 1000 ∧ ∀ j, j < (newV c d k Z n).nO → (newV c d k Z n).N j = 0 := by
  unfold newV
  split
  · refine ⟨?_, by simp, by simp, by simp, fun j _ => rfl⟩
    have : (inL c d k Z n).length ≤ n := by
      unfold inL
      exact Nat.le_trans (List.length_filter_le _ _) (by simp)
    show (inL c d k Z n).length ≤ 2000000
    omega
  · exact ⟨Nat.zero_le _, Nat.zero_le _, Nat.zero_le _, Nat.zero_le _, fun j _ => rfl⟩
theorem new_of_own {lo hi : Nat} {w : World} {v : Value} {c d k : Int} {Z : Nat → Nat → Int} {n : Nat} (h : OwnC lo hi w v (newV c d k Z n)) (hh : (hasB c d k && allB c d Z n) = true) :
    ∃ aW cW gO cO gX cX gI cI s0 s1 t0 t1, v = .agg #[.int .i64 k, .slice aW (inL c d k Z n).length cW, .int .i64 0, .slice (some ⟨gO, 0, none⟩) 2 cO, .slice (some ⟨gX, 0, none⟩) 2 cX, .slice (some ⟨gI, 0, none⟩) 2 cI] ∧ New w aW (inL c d k Z n).length (fun i j => Z (inL c d k Z n)[i]! j) gO gX gI s0 s1 t0 t1 := by
  rw [newV, if_pos hh] at h
  obtain ⟨vW, vO, vX, vI, gW, gO, gX, gI, sl, xs, e, h1, h2, h3, h4, _⟩ := h
  simp only at e h1 h2 h3 h4
  obtain ⟨aW, cW, rfl⟩ := rwShape h1
  rcases h2 with ⟨q, _⟩ | ⟨cO, rfl, _, a2, a3, a4⟩
  · omega
  rcases h3 with ⟨q, _⟩ | ⟨cX, rfl, _, b2, b3, b4⟩
  · omega
  rcases h4 with ⟨q, _⟩ | ⟨cI, rfl, _, d2, d3, d4⟩
  · omega
  obtain ⟨p0, r0⟩ := a4 0 (by omega)
  obtain ⟨p1, r1⟩ := a4 1 (by omega)
  obtain ⟨s0, t0, e0⟩ := rpShape r0
  obtain ⟨s1, t1, e1⟩ := rpShape r1
  refine ⟨aW, cW, gO, cO, gX, cX, gI, cI, s0, s1, t0, t1, e, ?_, by omega, by omega, by omega, by rw [p0, e0], by rw [p1, e1], b4.2 0 (by omega), b4.2 1 (by omega), d4.2 0 (by omega), d4.2 1 (by omega)⟩
  rcases h1 with ⟨q, _⟩ | ⟨c', e', q1, q2, q3, u⟩
  · exact .inl q
  · simp at e'
    obtain ⟨rfl, rfl⟩ := e'
    exact .inr ⟨gW, rfl, by omega, own_row u⟩
/-- How many are in the cells below k. -/
def cnt (c d : Int) (Z : Nat → Nat → Int) (n : Nat) : Nat → Nat
  | 0 => 0
  | k + 1 => cnt c d Z n k + (inL c d k Z n).length
theorem cnt_filter (c d : Int) (Z : Nat → Nat → Int) (n k : Nat) : cnt c d Z n k = ((List.range n).filter (fun i => decide (0 ≤ cellF c d (Z i 1) ∧ cellF c d (Z i 1) < (k : Int)))).length := by
  induction k with
  | zero =>
    show 0 = _
    symm
    rw [List.length_eq_zero_iff, List.filter_eq_nil_iff]
    intro i _
    simp only [decide_eq_true_eq]
    omega
  | succ k ih =>
    show cnt c d Z n k + (inL c d k Z n).length = _
    rw [ih]
    unfold inL
    clear ih
    generalize List.range n = L
    induction L with
    | nil => rfl
    | cons x L ihL =>
      simp only [List.filter_cons]
      by_cases h1 : 0 ≤ cellF c d (Z x 1) ∧ cellF c d (Z x 1) < (k : Int)
      · have h2 : 0 ≤ cellF c d (Z x 1) ∧ cellF c d (Z x 1) < ((k + 1 : Nat) : Int) := ⟨h1.1, by omega⟩
        have h3 : ¬ cellF c d (Z x 1) = (k : Int) := by omega
        simp only [h1, h2, decide_true, if_true, and_self, beq_iff_eq, h3, if_false, List.length_cons]
        omega
      · by_cases h3 : cellF c d (Z x 1) = (k : Int)
        · have h2 : 0 ≤ cellF c d (Z x 1) ∧ cellF c d (Z x 1) < ((k + 1 : Nat) : Int) := ⟨by omega, by omega⟩
          have h1' : decide (0 ≤ cellF c d (Z x 1) ∧ cellF c d (Z x 1) < (k : Int)) = false := decide_eq_false h1
          have h2' : decide (0 ≤ cellF c d (Z x 1) ∧ cellF c d (Z x 1) < ((k + 1 : Nat) : Int)) = true := decide_eq_true h2
          have h3' : (cellF c d (Z x 1) == (k : Int)) = true := by rw [h3]; simp
          rw [h1', h2', h3']
          simp only [if_true, List.length_cons, Bool.false_eq_true, if_false]
          omega
        · have h2 : ¬ (0 ≤ cellF c d (Z x 1) ∧ cellF c d (Z x 1) < ((k + 1 : Nat) : Int)) := fun h => h1 ⟨h.1, by omega⟩
          have h1' : decide (0 ≤ cellF c d (Z x 1) ∧ cellF c d (Z x 1) < (k : Int)) = false := decide_eq_false h1
          have h2' : decide (0 ≤ cellF c d (Z x 1) ∧ cellF c d (Z x 1) < ((k + 1 : Nat) : Int)) = false := decide_eq_false h2
          have h3' : (cellF c d (Z x 1) == (k : Int)) = false := beq_eq_false_iff_ne.2 h3
          rw [h1', h2', h3']
          simp only [Bool.false_eq_true, if_false]
          exact ihL
theorem cnt_le (c d : Int) (Z : Nat → Nat → Int) (n k : Nat) : cnt c d Z n k ≤ n := by
  rw [cnt_filter]
  exact Nat.le_trans (List.length_filter_le _ _) (by simp)
theorem cellF_range {c d a : Int} (h : ¬ cellF c d a = -1) : 0 ≤ cellF c d a ∧ cellF c d a < c := by
  unfold cellF at h ⊢
  split at h
  · rename_i hc
    rw [if_pos hc]
    obtain ⟨h1, h2⟩ := hc
    obtain ⟨b1, b2, b3, b4⟩ := okB_bounds h1
    obtain ⟨q1, q2⟩ := inB_true.1 h2
    refine ⟨Int.ediv_nonneg q1 (by omega), ?_⟩
    rw [Int.ediv_lt_iff_lt_mul (by omega)]
    omega
  · exact absurd rfl h
theorem cnt_all {c d : Int} {Z : Nat → Nat → Int} {n m : Nat} (hm : (m : Int) = c) (h : allB c d Z n = true) : cnt c d Z n m = n := by
  rw [cnt_filter]
  have : (List.range n).filter (fun i => decide (0 ≤ cellF c d (Z i 1) ∧ cellF c d (Z i 1) < (m : Int))) = List.range n := by
    rw [List.filter_eq_self]
    intro i hi
    have g := allB_at h (List.mem_range.1 hi)
    simp only [goodB, wkB, wlkB, Bool.and_eq_true, bne_iff_ne] at g
    have := cellF_range g.1.2
    simp
    omega
  rw [this]
  simp

theorem ls_below {w w' : World} {g n : Nat} {Z : Nat → Nat → Int} (h : g < w.heap.size ∧ ∀ k j, k < n → j < 5 → w.cell? ⟨g, 0 + k * 5 + j, none⟩ = some (.int .i64 (Z k j))) (hb : Below w.heap.size w w') : g < w'.heap.size ∧ ∀ k j, k < n → j < 5 → w'.cell? ⟨g, 0 + k * 5 + j, none⟩ = some (.int .i64 (Z k j)) :=
  ⟨Nat.lt_of_lt_of_le h.1 hb.size, fun k j hk hj => (hb.cell (p := ⟨g, _, none⟩) h.1).trans (h.2 k j hk hj)⟩
set_option maxRecDepth 100000 in
set_option maxHeartbeats 1000000 in
theorem law_new (a : Option Addr) (len cap : Nat) (zs : List Int) (w : World) (h : IsRow w a len cap zs) :
    Calls Try.prog 3 #[.slice a len cap] w fun e w' => e = .returned (.bool true) ∧ Below w.heap.size w w' := by
  have H : Hid (IsRow w a len cap zs) := h
  clear h
  by_cases hl : (1048576 : Int) < (len : Int)
  · go_enter Try.func3, Try.ntmps3
    go_wp2
    go_ret
    exact ⟨rfl, Below.refl _ _⟩
  go_enter Try.func3, Try.ntmps3
  go_wp2_with fail
  refine (draw_new a len cap zs _ H.out).mono ?_
  rintro e w1 ⟨c, d, k0, v, n, Z, rfl, hwk, hn, hk0, hb1⟩
  obtain ⟨g, cp, rfl, g1, g2, hcel, _⟩ := hwk.cells
  have HC0 : Hid (g < w1.heap.size ∧ ∀ k j, k < n → j < 5 → w1.cell? ⟨g, 0 + k * 5 + j, none⟩ = some (.int .i64 (Z k j))) := ⟨g2, hcel⟩
  have BD : Hid (Below w.heap.size w w1) := hb1
  clear hwk hcel hb1 H
  go_wp2_with fail
  obtain ⟨w2, e2⟩ : ∃ y, y = w1.alloc (.cells #[.int .i64 c, .int .i64 d] 24) := ⟨_, rfl⟩
  rw [← e2]
  have hb2 : Below w1.heap.size w1 w2 := by rw [e2]; exact (Below.refl _ _).alloc (Nat.le_refl _) _
  have M2 : Bk w2 w1.heap.size [.int .i64 c, .int .i64 d] := by rw [e2]; exact bk_new w1 24 [.int .i64 c, .int .i64 d]
  clear e2
  have B1 : Hid (Below w.heap.size w w2) := bthen BD.out hb2
  have L2 : Hid (g < w2.heap.size ∧ ∀ k j, k < n → j < 5 → w2.cell? ⟨g, 0 + k * 5 + j, none⟩ = some (.int .i64 (Z k j))) := ⟨Nat.lt_of_lt_of_le HC0.out.1 hb2.size, fun k j hk hj => (hb2.cell (p := ⟨g, _, none⟩) HC0.out.1).trans (HC0.out.2 k j hk hj)⟩
  clear hb2 BD HC0
  obtain ⟨gm, egm⟩ : ∃ q, q = w1.heap.size := ⟨_, rfl⟩
  rw [← egm] at M2 ⊢
  have gm1 : gm ≤ w1.heap.size := by omega
  clear egm
  have M3 : Hid (Bk w2 gm [.int .i64 c, .int .i64 d]) := M2
  clear M2
  obtain ⟨U, eU⟩ : ∃ U, newV c d k0 Z n = U := ⟨_, rfl⟩
  have EU : Hid (newV c d k0 Z n = U) := eU
  have HF : Hid (U.nW ≤ 2000000 ∧ U.nX ≤ 1000 ∧ U.nI ≤ 1000 ∧ U.nO ≤ 1000 ∧ ∀ j, j < U.nO → U.N j = 0) := by unfold Hid; rw [← eU]; exact newV_facts c d k0 Z n hn
  clear eU
  refine (new_impl c d k0 g n cp Z (by omega) _ L2.out.1 L2.out.2).mono ?_
  rintro e w3 ⟨⟨u1, rfl, hO⟩, hb⟩
  rw [EU.out] at hO
  obtain ⟨a1W, k1W, a1O, k1O, a1X, k1X, a1I, k1I, rfl, _⟩ := hO.at
  have hz3 : w3.heap.size ≤ w3.heap.size := Nat.le_refl _
  obtain ⟨h1, eh⟩ : ∃ q, q = w3.heap.size := ⟨_, rfl⟩
  obtain ⟨l1, el⟩ : ∃ q, q = w2.heap.size := ⟨_, rfl⟩
  rw [← eh, ← el] at hO
  have eh1 : h1 ≤ w3.heap.size := by omega
  clear eh el hz3
  have B4 : Hid (Below w.heap.size w w3) := bthen B1.out hb
  have L4 : Hid (g < w3.heap.size ∧ ∀ k j, k < n → j < 5 → w3.cell? ⟨g, 0 + k * 5 + j, none⟩ = some (.int .i64 (Z k j))) := ⟨Nat.lt_of_lt_of_le L2.out.1 hb.size, fun k j hk hj => (hb.cell (p := ⟨g, _, none⟩) L2.out.1).trans (L2.out.2 k j hk hj)⟩
  have M4 : Hid (Bk w3 gm [.int .i64 c, .int .i64 d]) := M3.out.below hb
  clear B1 L2 M3
  clear hb
  have O5 : Hid (OwnC l1 h1 w3 (.agg #[.int .i64 U.c, .slice a1W U.nW k1W, .int .i64 U.g, .slice a1O U.nO k1O, .slice a1X U.nX k1X, .slice a1I U.nI k1I]) U ∧ h1 ≤ w3.heap.size) := ⟨hO, eh1⟩
  clear hO eh1
  have yM0 : w3.cell? ⟨gm, 0, none⟩ = some (.int .i64 c) := (M4.out.2 0 (by simp)).1
  have yM1 : w3.cell? ⟨gm, 1, none⟩ = some (.int .i64 d) := (M4.out.2 1 (by simp)).1
  have hlM : gm < w3.heap.size := M4.out.1
  go_wp2
  obtain ⟨w4, e4⟩ : ∃ y, y = w3.alloc (.cells #[.int .i64 U.c, .slice a1W U.nW k1W, .int .i64 U.g, .slice a1O U.nO k1O, .slice a1X U.nX k1X, .slice a1I U.nI k1I] 31) := ⟨_, rfl⟩
  rw [← e4]
  have hb4 : Below w3.heap.size w3 w4 := by rw [e4]; exact (Below.refl _ _).alloc (Nat.le_refl _) _
  have X4 : Bk w4 w3.heap.size [.int .i64 U.c, .slice a1W U.nW k1W, .int .i64 U.g, .slice a1O U.nO k1O, .slice a1X U.nX k1X, .slice a1I U.nI k1I] := by rw [e4]; exact bk_new w3 31 [.int .i64 U.c, .slice a1W U.nW k1W, .int .i64 U.g, .slice a1O U.nO k1O, .slice a1X U.nX k1X, .slice a1I U.nI k1I]
  clear e4
  clear yM0 yM1 hlM
  have B6 : Hid (Below w.heap.size w w4) := bthen B4.out hb4
  have L6 : Hid (g < w4.heap.size ∧ ∀ k j, k < n → j < 5 → w4.cell? ⟨g, 0 + k * 5 + j, none⟩ = some (.int .i64 (Z k j))) := ⟨Nat.lt_of_lt_of_le L4.out.1 hb4.size, fun k j hk hj => (hb4.cell (p := ⟨g, _, none⟩) L4.out.1).trans (L4.out.2 k j hk hj)⟩
  have M6 : Hid (Bk w4 gm [.int .i64 c, .int .i64 d]) := M4.out.below hb4
  have O6 : Hid (OwnC l1 h1 w4 (.agg #[.int .i64 U.c, .slice a1W U.nW k1W, .int .i64 U.g, .slice a1O U.nO k1O, .slice a1X U.nX k1X, .slice a1I U.nI k1I]) U ∧ h1 ≤ w4.heap.size) := ⟨O5.out.1.below O5.out.2 hb4, Nat.le_trans O5.out.2 hb4.size⟩
  clear B4 L4 M4 O5
  clear hb4
  obtain ⟨gx, egx⟩ : ∃ q, q = w3.heap.size := ⟨_, rfl⟩
  rw [← egx] at X4 ⊢
  clear egx
  have X7 : Hid (Bk w4 gx [.int .i64 U.c, .slice a1W U.nW k1W, .int .i64 U.g, .slice a1O U.nO k1O, .slice a1X U.nX k1X, .slice a1I U.nI k1I]) := X4
  clear X4
  have yM0 : w4.cell? ⟨gm, 0, none⟩ = some (.int .i64 c) := (M6.out.2 0 (by simp)).1
  have yM1 : w4.cell? ⟨gm, 1, none⟩ = some (.int .i64 d) := (M6.out.2 1 (by simp)).1
  have hlM : gm < w4.heap.size := M6.out.1
  have yX0 : w4.cell? ⟨gx, 0, none⟩ = some (.int .i64 U.c) := (X7.out.2 0 (by simp)).1
  have yX1 : w4.cell? ⟨gx, 1, none⟩ = some (.slice a1W U.nW k1W) := (X7.out.2 1 (by simp)).1
  have yX2 : w4.cell? ⟨gx, 2, none⟩ = some (.int .i64 U.g) := (X7.out.2 2 (by simp)).1
  have yX3 : w4.cell? ⟨gx, 3, none⟩ = some (.slice a1O U.nO k1O) := (X7.out.2 3 (by simp)).1
  have yX4 : w4.cell? ⟨gx, 4, none⟩ = some (.slice a1X U.nX k1X) := (X7.out.2 4 (by simp)).1
  have yX5 : w4.cell? ⟨gx, 5, none⟩ = some (.slice a1I U.nI k1I) := (X7.out.2 5 (by simp)).1
  have hlX : gx < w4.heap.size := X7.out.1
  refine wp_region_held_drew (S := fun w' => (∀ b o, b < w4.heap.size → w'.cell? ⟨b, o, none⟩ = w4.cell? ⟨b, o, none⟩) ∧ w4.heap.size ≤ w'.heap.size) (by kernel_rfl) ⟨fun _ _ _ => rfl, Nat.le_refl _⟩ ?_
  intro hHeld
  refine wpAnyH_take (i := 0) (v := .agg #[.int .i64 U.c, .slice a1W U.nW k1W, .int .i64 U.g, .slice a1O U.nO k1O, .slice a1X U.nX k1X, .slice a1I U.nI k1I]) rfl (by kernel_rfl) (by kernel_rfl) (by kernel_rfl) (fun _ _ _ h => h) (Or.inl ⟨by rfl, ?_⟩) (by assumption) ?_
  · intro wx hSw; go_simp
  try simp only [Act.put, List.setIfInBounds_toArray, List.set_cons_zero, List.set_cons_succ, List.getElem_toArray, List.getElem_cons_zero]
  refine wpAnyH_take (i := 1) (v := .agg #[.int .i64 c, .int .i64 d]) rfl (by kernel_rfl) (by kernel_rfl) (by kernel_rfl) (fun _ _ _ h => h) (Or.inl ⟨by rfl, ?_⟩) (by assumption) ?_
  · intro wx hSw; go_simp
  try simp only [Act.put, List.setIfInBounds_toArray, List.set_cons_zero, List.set_cons_succ, List.getElem_toArray, List.getElem_cons_zero, List.getElem_cons_succ]
  refine wpAnyH_take (i := 2) (v := .int .i64 k0) rfl (by kernel_rfl) (by kernel_rfl) (by kernel_rfl) (fun _ _ _ h => h) (Or.inl ⟨by rfl, ?_⟩) (by assumption) ?_
  · intro wx hSw; go_simp
  try simp only [Act.put, List.setIfInBounds_toArray, List.set_cons_zero, List.set_cons_succ, List.getElem_toArray, List.getElem_cons_zero, List.getElem_cons_succ]
  refine wpAnyH_take (i := 3) (v := .slice (some ⟨g, 0, none⟩) n cp) rfl (by kernel_rfl) (by kernel_rfl) (by kernel_rfl) (fun _ _ _ h => h) (Or.inl ⟨by rfl, ?_⟩) (by assumption) ?_
  · intro wx hSw; go_simp
  try simp only [Act.put, List.setIfInBounds_toArray, List.set_cons_zero, List.set_cons_succ, List.getElem_toArray, List.getElem_cons_zero, List.getElem_cons_succ]
  refine wpAnyH_ready (rs := [4]) (by kernel_rfl) (by simp) ?_
  refine AllReadyH.cons rfl (fun K hK => ?_) AllReadyH.nil
  go_simp
  go_wp2_with fail
  refine (new_spec c d k0 g n cp Z (by omega) _ (ls_below L6.out (by repeat (first | exact Below.refl _ _ | refine bthen ?_ (by assumption) | apply Below.drew))).1 (ls_below L6.out (by repeat (first | exact Below.refl _ _ | refine bthen ?_ (by assumption) | apply Below.drew))).2).mono ?_
  rintro e x1 ⟨⟨u2, rfl, hO2⟩, hx1⟩
  refine hK.out _ _ (keepS (by assumption) hx1) (fun hNew => ?_)
  clear hK K hHeld
  have hHeld := hNew
  clear hNew
  try simp only [Act.put, List.setIfInBounds_toArray, List.set_cons_zero, List.set_cons_succ, List.getElem_toArray, List.getElem_cons_zero, List.getElem_cons_succ]
  refine wpAnyH_ready (rs := [5]) (by kernel_rfl) (by simp) ?_
  refine AllReadyH.cons rfl (fun K hK => ?_) AllReadyH.nil
  go_simp
  go_wp2_with fail
  refine (maCell _ _ _ _ _ _ U HF.out.1 HF.out.2.1 HF.out.2.2.1 HF.out.2.2.2.1 HF.out.2.2.2.2 _ ((O6.out.1).below O6.out.2 (by repeat (first | exact Below.refl _ _ | refine bthen ?_ (by assumption) | apply Below.drew))) (by rw [← EU.out]; exact hO2)).mono ?_
  rintro e x2 ⟨rfl, hx2⟩
  refine hK.out _ _ (keepS (by assumption) hx2) (fun hNew => ?_)
  clear hK K hHeld
  have hHeld := hNew
  clear hNew
  try simp only [Act.put, List.setIfInBounds_toArray, List.set_cons_zero, List.set_cons_succ, List.getElem_toArray, List.getElem_cons_zero, List.getElem_cons_succ]
  refine wpAnyH_take (i := 6) (v := .bool false) rfl (by kernel_rfl) (by kernel_rfl) (by kernel_rfl) (fun _ _ _ h => h) (Or.inl ⟨by rfl, ?_⟩) (by assumption) ?_
  · intro wx hSw; go_simp
  try simp only [Act.put, List.setIfInBounds_toArray, List.set_cons_zero, List.set_cons_succ, List.getElem_toArray, List.getElem_cons_zero, List.getElem_cons_succ]
  refine wpAnyH_done (by kernel_rfl) ?_ _
  clear hHeld
  have hz : Below w4.heap.size w4 x2 := by repeat (first | exact Below.refl _ _ | refine bthen ?_ (by assumption) | apply Below.drew)
  clear yM0 yM1 hlM yX0 yX1 yX2 yX3 yX4 yX5 hlX
  have B8 : Hid (Below w.heap.size w x2) := bthen B6.out hz
  have L8 : Hid (g < x2.heap.size ∧ ∀ k j, k < n → j < 5 → x2.cell? ⟨g, 0 + k * 5 + j, none⟩ = some (.int .i64 (Z k j))) := ⟨Nat.lt_of_lt_of_le L6.out.1 hz.size, fun k j hk hj => (hz.cell (p := ⟨g, _, none⟩) L6.out.1).trans (L6.out.2 k j hk hj)⟩
  have M8 : Hid (Bk x2 gm [.int .i64 c, .int .i64 d]) := M6.out.below hz
  have O8 : Hid (OwnC l1 h1 x2 (.agg #[.int .i64 U.c, .slice a1W U.nW k1W, .int .i64 U.g, .slice a1O U.nO k1O, .slice a1X U.nX k1X, .slice a1I U.nI k1I]) U ∧ h1 ≤ x2.heap.size) := ⟨O6.out.1.below O6.out.2 hz, Nat.le_trans O6.out.2 hz.size⟩
  have X8 : Hid (Bk x2 gx [.int .i64 U.c, .slice a1W U.nW k1W, .int .i64 U.g, .slice a1O U.nO k1O, .slice a1X U.nX k1X, .slice a1I U.nI k1I]) := X7.out.below hz
  clear B6 L6 M6 O6 X7
  clear hz hx1 hx2 hO2
  have yM0 : x2.cell? ⟨gm, 0, none⟩ = some (.int .i64 c) := (M8.out.2 0 (by simp)).1
  have yM1 : x2.cell? ⟨gm, 1, none⟩ = some (.int .i64 d) := (M8.out.2 1 (by simp)).1
  have hlM : gm < x2.heap.size := M8.out.1
  have yX0 : x2.cell? ⟨gx, 0, none⟩ = some (.int .i64 U.c) := (X8.out.2 0 (by simp)).1
  have yX1 : x2.cell? ⟨gx, 1, none⟩ = some (.slice a1W U.nW k1W) := (X8.out.2 1 (by simp)).1
  have yX2 : x2.cell? ⟨gx, 2, none⟩ = some (.int .i64 U.g) := (X8.out.2 2 (by simp)).1
  have yX3 : x2.cell? ⟨gx, 3, none⟩ = some (.slice a1O U.nO k1O) := (X8.out.2 3 (by simp)).1
  have yX4 : x2.cell? ⟨gx, 4, none⟩ = some (.slice a1X U.nX k1X) := (X8.out.2 4 (by simp)).1
  have yX5 : x2.cell? ⟨gx, 5, none⟩ = some (.slice a1I U.nI k1I) := (X8.out.2 5 (by simp)).1
  have hlX : gx < x2.heap.size := X8.out.1
  go_wp2_with fail
  refine (ok_spec _ _ _).mono ?_
  rintro e w5 ⟨rfl, hb5⟩
  clear yM0 yM1 hlM yX0 yX1 yX2 yX3 yX4 yX5 hlX
  have B9 : Hid (Below w.heap.size w w5) := bthen B8.out hb5
  have L9 : Hid (g < w5.heap.size ∧ ∀ k j, k < n → j < 5 → w5.cell? ⟨g, 0 + k * 5 + j, none⟩ = some (.int .i64 (Z k j))) := ⟨Nat.lt_of_lt_of_le L8.out.1 hb5.size, fun k j hk hj => (hb5.cell (p := ⟨g, _, none⟩) L8.out.1).trans (L8.out.2 k j hk hj)⟩
  have M9 : Hid (Bk w5 gm [.int .i64 c, .int .i64 d]) := M8.out.below hb5
  have O9 : Hid (OwnC l1 h1 w5 (.agg #[.int .i64 U.c, .slice a1W U.nW k1W, .int .i64 U.g, .slice a1O U.nO k1O, .slice a1X U.nX k1X, .slice a1I U.nI k1I]) U ∧ h1 ≤ w5.heap.size) := ⟨O8.out.1.below O8.out.2 hb5, Nat.le_trans O8.out.2 hb5.size⟩
  have X9 : Hid (Bk w5 gx [.int .i64 U.c, .slice a1W U.nW k1W, .int .i64 U.g, .slice a1O U.nO k1O, .slice a1X U.nX k1X, .slice a1I U.nI k1I]) := X8.out.below hb5
  clear B8 L8 M8 O8 X8
  clear hb5
  cases h0 : okB c d
  · have hU : Hid (U = ⟨0, 0, fun _ _ => 0, 0, 0, fun _ => 0, fun _ _ _ => 0, 0, fun _ => 0, 0, fun _ => 0⟩) := by unfold Hid; rw [← EU.out, newV, if_neg (by simp [hasB, h0])]
    have yM0 : w5.cell? ⟨gm, 0, none⟩ = some (.int .i64 c) := (M9.out.2 0 (by simp)).1
    have yM1 : w5.cell? ⟨gm, 1, none⟩ = some (.int .i64 d) := (M9.out.2 1 (by simp)).1
    have hlM : gm < w5.heap.size := M9.out.1
    have yX0 : w5.cell? ⟨gx, 0, none⟩ = some (.int .i64 U.c) := (X9.out.2 0 (by simp)).1
    have yX1 : w5.cell? ⟨gx, 1, none⟩ = some (.slice a1W U.nW k1W) := (X9.out.2 1 (by simp)).1
    have yX2 : w5.cell? ⟨gx, 2, none⟩ = some (.int .i64 U.g) := (X9.out.2 2 (by simp)).1
    have yX3 : w5.cell? ⟨gx, 3, none⟩ = some (.slice a1O U.nO k1O) := (X9.out.2 3 (by simp)).1
    have yX4 : w5.cell? ⟨gx, 4, none⟩ = some (.slice a1X U.nX k1X) := (X9.out.2 4 (by simp)).1
    have yX5 : w5.cell? ⟨gx, 5, none⟩ = some (.slice a1I U.nI k1I) := (X9.out.2 5 (by simp)).1
    have hlX : gx < w5.heap.size := X9.out.1
    go_wp2_with fail
    refine (maCell l1 h1 0 0 _ (.agg #[.int .i64 0, .slice none 0 0, .int .i64 0, .slice none 0 0, .slice none 0 0, .slice none 0 0]) U HF.out.1 HF.out.2.1 HF.out.2.2.1 HF.out.2.2.2.1 HF.out.2.2.2.2 _ O9.out.1 (by rw [hU.out]; exact nothing_own 0 0 _)).mono ?_
    rintro e y1 ⟨rfl, hy1⟩
    clear yM0 yM1 hlM yX0 yX1 yX2 yX3 yX4 yX5 hlX
    have B10 : Hid (Below w.heap.size w y1) := bthen B9.out hy1
    have L10 : Hid (g < y1.heap.size ∧ ∀ k j, k < n → j < 5 → y1.cell? ⟨g, 0 + k * 5 + j, none⟩ = some (.int .i64 (Z k j))) := ⟨Nat.lt_of_lt_of_le L9.out.1 hy1.size, fun k j hk hj => (hy1.cell (p := ⟨g, _, none⟩) L9.out.1).trans (L9.out.2 k j hk hj)⟩
    have M10 : Hid (Bk y1 gm [.int .i64 c, .int .i64 d]) := M9.out.below hy1
    have O10 : Hid (OwnC l1 h1 y1 (.agg #[.int .i64 U.c, .slice a1W U.nW k1W, .int .i64 U.g, .slice a1O U.nO k1O, .slice a1X U.nX k1X, .slice a1I U.nI k1I]) U ∧ h1 ≤ y1.heap.size) := ⟨O9.out.1.below O9.out.2 hy1, Nat.le_trans O9.out.2 hy1.size⟩
    have X10 : Hid (Bk y1 gx [.int .i64 U.c, .slice a1W U.nW k1W, .int .i64 U.g, .slice a1O U.nO k1O, .slice a1X U.nX k1X, .slice a1I U.nI k1I]) := X9.out.below hy1
    clear B9 L9 M9 O9 X9
    clear hy1
    clear hU
    go_wp2_with fail
    refine (maOk_any _).mono ?_
    rintro e y2 ⟨rfl, hy2⟩
    have B11 : Hid (Below w.heap.size w y2) := bthen B10.out hy2
    have L11 : Hid (g < y2.heap.size ∧ ∀ k j, k < n → j < 5 → y2.cell? ⟨g, 0 + k * 5 + j, none⟩ = some (.int .i64 (Z k j))) := ⟨Nat.lt_of_lt_of_le L10.out.1 hy2.size, fun k j hk hj => (hy2.cell (p := ⟨g, _, none⟩) L10.out.1).trans (L10.out.2 k j hk hj)⟩
    have M11 : Hid (Bk y2 gm [.int .i64 c, .int .i64 d]) := M10.out.below hy2
    have O11 : Hid (OwnC l1 h1 y2 (.agg #[.int .i64 U.c, .slice a1W U.nW k1W, .int .i64 U.g, .slice a1O U.nO k1O, .slice a1X U.nX k1X, .slice a1I U.nI k1I]) U ∧ h1 ≤ y2.heap.size) := ⟨O10.out.1.below O10.out.2 hy2, Nat.le_trans O10.out.2 hy2.size⟩
    have X11 : Hid (Bk y2 gx [.int .i64 U.c, .slice a1W U.nW k1W, .int .i64 U.g, .slice a1O U.nO k1O, .slice a1X U.nX k1X, .slice a1I U.nI k1I]) := X10.out.below hy2
    clear B10 L10 M10 O10 X10
    clear hy2
    go_wp2
    go_ret
    exact ⟨rfl, B11.out⟩
  have yM0 : w5.cell? ⟨gm, 0, none⟩ = some (.int .i64 c) := (M9.out.2 0 (by simp)).1
  have yM1 : w5.cell? ⟨gm, 1, none⟩ = some (.int .i64 d) := (M9.out.2 1 (by simp)).1
  have hlM : gm < w5.heap.size := M9.out.1
  have yX0 : w5.cell? ⟨gx, 0, none⟩ = some (.int .i64 U.c) := (X9.out.2 0 (by simp)).1
  have yX1 : w5.cell? ⟨gx, 1, none⟩ = some (.slice a1W U.nW k1W) := (X9.out.2 1 (by simp)).1
  have yX2 : w5.cell? ⟨gx, 2, none⟩ = some (.int .i64 U.g) := (X9.out.2 2 (by simp)).1
  have yX3 : w5.cell? ⟨gx, 3, none⟩ = some (.slice a1O U.nO k1O) := (X9.out.2 3 (by simp)).1
  have yX4 : w5.cell? ⟨gx, 4, none⟩ = some (.slice a1X U.nX k1X) := (X9.out.2 4 (by simp)).1
  have yX5 : w5.cell? ⟨gx, 5, none⟩ = some (.slice a1I U.nI k1I) := (X9.out.2 5 (by simp)).1
  have hlX : gx < w5.heap.size := X9.out.1
  go_wp2_with fail
  refine (listOk_spec c d g 0 n cp Z (by omega) _ L9.out.1 L9.out.2).mono ?_
  rintro e w6 ⟨rfl, hb6⟩
  clear yM0 yM1 hlM yX0 yX1 yX2 yX3 yX4 yX5 hlX
  have B12 : Hid (Below w.heap.size w w6) := bthen B9.out hb6
  have L12 : Hid (g < w6.heap.size ∧ ∀ k j, k < n → j < 5 → w6.cell? ⟨g, 0 + k * 5 + j, none⟩ = some (.int .i64 (Z k j))) := ⟨Nat.lt_of_lt_of_le L9.out.1 hb6.size, fun k j hk hj => (hb6.cell (p := ⟨g, _, none⟩) L9.out.1).trans (L9.out.2 k j hk hj)⟩
  have M12 : Hid (Bk w6 gm [.int .i64 c, .int .i64 d]) := M9.out.below hb6
  have O12 : Hid (OwnC l1 h1 w6 (.agg #[.int .i64 U.c, .slice a1W U.nW k1W, .int .i64 U.g, .slice a1O U.nO k1O, .slice a1X U.nX k1X, .slice a1I U.nI k1I]) U ∧ h1 ≤ w6.heap.size) := ⟨O9.out.1.below O9.out.2 hb6, Nat.le_trans O9.out.2 hb6.size⟩
  have X12 : Hid (Bk w6 gx [.int .i64 U.c, .slice a1W U.nW k1W, .int .i64 U.g, .slice a1O U.nO k1O, .slice a1X U.nX k1X, .slice a1I U.nI k1I]) := X9.out.below hb6
  clear B9 L9 M9 O9 X9
  clear hb6
  cases hal : allB c d Z n
  · have hU : Hid (U = ⟨0, 0, fun _ _ => 0, 0, 0, fun _ => 0, fun _ _ _ => 0, 0, fun _ => 0, 0, fun _ => 0⟩) := by unfold Hid; rw [← EU.out, newV, if_neg (by simp [hal])]
    have yM0 : w6.cell? ⟨gm, 0, none⟩ = some (.int .i64 c) := (M12.out.2 0 (by simp)).1
    have yM1 : w6.cell? ⟨gm, 1, none⟩ = some (.int .i64 d) := (M12.out.2 1 (by simp)).1
    have hlM : gm < w6.heap.size := M12.out.1
    have yX0 : w6.cell? ⟨gx, 0, none⟩ = some (.int .i64 U.c) := (X12.out.2 0 (by simp)).1
    have yX1 : w6.cell? ⟨gx, 1, none⟩ = some (.slice a1W U.nW k1W) := (X12.out.2 1 (by simp)).1
    have yX2 : w6.cell? ⟨gx, 2, none⟩ = some (.int .i64 U.g) := (X12.out.2 2 (by simp)).1
    have yX3 : w6.cell? ⟨gx, 3, none⟩ = some (.slice a1O U.nO k1O) := (X12.out.2 3 (by simp)).1
    have yX4 : w6.cell? ⟨gx, 4, none⟩ = some (.slice a1X U.nX k1X) := (X12.out.2 4 (by simp)).1
    have yX5 : w6.cell? ⟨gx, 5, none⟩ = some (.slice a1I U.nI k1I) := (X12.out.2 5 (by simp)).1
    have hlX : gx < w6.heap.size := X12.out.1
    go_wp2_with fail
    refine (maCell l1 h1 0 0 _ (.agg #[.int .i64 0, .slice none 0 0, .int .i64 0, .slice none 0 0, .slice none 0 0, .slice none 0 0]) U HF.out.1 HF.out.2.1 HF.out.2.2.1 HF.out.2.2.2.1 HF.out.2.2.2.2 _ O12.out.1 (by rw [hU.out]; exact nothing_own 0 0 _)).mono ?_
    rintro e y1 ⟨rfl, hy1⟩
    clear yM0 yM1 hlM yX0 yX1 yX2 yX3 yX4 yX5 hlX
    have B13 : Hid (Below w.heap.size w y1) := bthen B12.out hy1
    have L13 : Hid (g < y1.heap.size ∧ ∀ k j, k < n → j < 5 → y1.cell? ⟨g, 0 + k * 5 + j, none⟩ = some (.int .i64 (Z k j))) := ⟨Nat.lt_of_lt_of_le L12.out.1 hy1.size, fun k j hk hj => (hy1.cell (p := ⟨g, _, none⟩) L12.out.1).trans (L12.out.2 k j hk hj)⟩
    have M13 : Hid (Bk y1 gm [.int .i64 c, .int .i64 d]) := M12.out.below hy1
    have O13 : Hid (OwnC l1 h1 y1 (.agg #[.int .i64 U.c, .slice a1W U.nW k1W, .int .i64 U.g, .slice a1O U.nO k1O, .slice a1X U.nX k1X, .slice a1I U.nI k1I]) U ∧ h1 ≤ y1.heap.size) := ⟨O12.out.1.below O12.out.2 hy1, Nat.le_trans O12.out.2 hy1.size⟩
    have X13 : Hid (Bk y1 gx [.int .i64 U.c, .slice a1W U.nW k1W, .int .i64 U.g, .slice a1O U.nO k1O, .slice a1X U.nX k1X, .slice a1I U.nI k1I]) := X12.out.below hy1
    clear B12 L12 M12 O12 X12
    clear hy1
    clear hU
    go_wp2_with fail
    refine (maOk_any _).mono ?_
    rintro e y2 ⟨rfl, hy2⟩
    have B14 : Hid (Below w.heap.size w y2) := bthen B13.out hy2
    have L14 : Hid (g < y2.heap.size ∧ ∀ k j, k < n → j < 5 → y2.cell? ⟨g, 0 + k * 5 + j, none⟩ = some (.int .i64 (Z k j))) := ⟨Nat.lt_of_lt_of_le L13.out.1 hy2.size, fun k j hk hj => (hy2.cell (p := ⟨g, _, none⟩) L13.out.1).trans (L13.out.2 k j hk hj)⟩
    have M14 : Hid (Bk y2 gm [.int .i64 c, .int .i64 d]) := M13.out.below hy2
    have O14 : Hid (OwnC l1 h1 y2 (.agg #[.int .i64 U.c, .slice a1W U.nW k1W, .int .i64 U.g, .slice a1O U.nO k1O, .slice a1X U.nX k1X, .slice a1I U.nI k1I]) U ∧ h1 ≤ y2.heap.size) := ⟨O13.out.1.below O13.out.2 hy2, Nat.le_trans O13.out.2 hy2.size⟩
    have X14 : Hid (Bk y2 gx [.int .i64 U.c, .slice a1W U.nW k1W, .int .i64 U.g, .slice a1O U.nO k1O, .slice a1X U.nX k1X, .slice a1I U.nI k1I]) := X13.out.below hy2
    clear B13 L13 M13 O13 X13
    clear hy2
    go_wp2
    go_ret
    exact ⟨rfl, B14.out⟩
  clear X12
  clear O12
  obtain ⟨q1, q2, q3, q4⟩ := okB_bounds h0
  obtain ⟨m, hm⟩ : ∃ m : Nat, (m : Int) = c := ⟨c.toNat, by omega⟩
  have HM : Hid ((m : Int) = c) := hm
  have HAL : Hid (allB c d Z n = true) := hal
  have H0K : Hid (okB c d = true) := h0
  clear hm hal EU HF
  have yM0 : w6.cell? ⟨gm, 0, none⟩ = some (.int .i64 c) := (M12.out.2 0 (by simp)).1
  have yM1 : w6.cell? ⟨gm, 1, none⟩ = some (.int .i64 d) := (M12.out.2 1 (by simp)).1
  have hlM : gm < w6.heap.size := M12.out.1
  go_wp2_with fail
  clear yM0 yM1 hlM
  go_loopw [7, 8] (fun s i wr => ∃ (k z : Nat), k ≤ m ∧ .int .i64 k = i ∧ .int .i64 z = s ∧ z = cnt c d Z n k ∧ Below w.heap.size w wr ∧ (g < wr.heap.size ∧ ∀ k j, k < n → j < 5 → wr.cell? ⟨g, 0 + k * 5 + j, none⟩ = some (.int .i64 (Z k j))) ∧ Bk wr gm [.int .i64 c, .int .i64 d]) (fun _ i _ => m - (intOf i).toNat)
  case atStart => exact ⟨0, 0, Nat.zero_le _, rfl, rfl, rfl, B12.out, L12.out, M12.out⟩
  case round =>
    clear B12 L12 M12
    obtain ⟨k, z, hk, rfl, rfl, hz, hbel, hL, hM⟩ := hrel
    have HZ : Hid (z = cnt c d Z n k) := hz
    have hzn : z ≤ n := by rw [hz]; exact cnt_le c d Z n k
    clear hz
    have B15 : Hid (Below w.heap.size w wr) := hbel
    have L16 : Hid (g < wr.heap.size ∧ ∀ k j, k < n → j < 5 → wr.cell? ⟨g, 0 + k * 5 + j, none⟩ = some (.int .i64 (Z k j))) := hL
    have M17 : Hid (Bk wr gm [.int .i64 c, .int .i64 d]) := hM
    clear hbel hL hM
    by_cases hkm : k < m
    · have hkc : (k : Int) < c := by have := HM.out; omega
      have hh : hasB c d k = true := by simp only [hasB, Bool.and_eq_true]; exact ⟨H0K.out, inB_true.2 (by omega)⟩
      have yM0 : wr.cell? ⟨gm, 0, none⟩ = some (.int .i64 c) := (M17.out.2 0 (by simp)).1
      have yM1 : wr.cell? ⟨gm, 1, none⟩ = some (.int .i64 d) := (M17.out.2 1 (by simp)).1
      have hlM : gm < wr.heap.size := M17.out.1
      go_wp2_with fail
      refine (new_impl c d k g n cp Z (by omega) _ L16.out.1 L16.out.2).mono ?_
      rintro e v3 ⟨⟨u3, rfl, hO⟩, hb⟩
      obtain ⟨aW, cW, gO, cO, gX, cX, gI, cI, s0, s1, t0, t1, rfl, hNew⟩ := new_of_own hO (by rw [hh, HAL.out]; rfl)
      clear hO
      obtain ⟨nL, enL⟩ : ∃ q, q = (inL c d k Z n).length := ⟨_, rfl⟩
      obtain ⟨WL, eWL⟩ : ∃ q : Nat → Nat → Int, q = (fun i j => Z (inL c d k Z n)[i]! j) := ⟨fun i j => Z (inL c d k Z n)[i]! j, rfl⟩
      have HIL : Hid (nL = (inL c d k Z n).length) := enL
      have hnl : nL ≤ n := by rw [enL]; unfold inL; exact Nat.le_trans (List.length_filter_le _ _) (by simp)
      have hal2 : allB c d WL nL = true := by rw [enL, eWL]; exact allB_inL HAL.out
      have hcel2 : Hid (∀ i, i < nL → cellF c d (WL i 1) = k) := by rw [enL, eWL]; exact fun i hi => (inL_mem hi).2
      rw [← enL, ← eWL] at hNew
      rw [← enL]
      clear enL eWL
      clear yM0 yM1 hlM
      have B18 : Hid (Below w.heap.size w v3) := bthen B15.out hb
      have L18 : Hid (g < v3.heap.size ∧ ∀ k j, k < n → j < 5 → v3.cell? ⟨g, 0 + k * 5 + j, none⟩ = some (.int .i64 (Z k j))) := ⟨Nat.lt_of_lt_of_le L16.out.1 hb.size, fun k j hk hj => (hb.cell (p := ⟨g, _, none⟩) L16.out.1).trans (L16.out.2 k j hk hj)⟩
      have M18 : Hid (Bk v3 gm [.int .i64 c, .int .i64 d]) := M17.out.below hb
      clear B15 L16 M17
      clear hb
      have N19 : Hid (New v3 aW nL WL gO gX gI s0 s1 t0 t1) := hNew
      clear hNew
      have yM0 : v3.cell? ⟨gm, 0, none⟩ = some (.int .i64 c) := (M18.out.2 0 (by simp)).1
      have yM1 : v3.cell? ⟨gm, 1, none⟩ = some (.int .i64 d) := (M18.out.2 1 (by simp)).1
      have hlM : gm < v3.heap.size := M18.out.1
      go_wp2_with fail
      obtain ⟨v4, e4⟩ : ∃ y, y = v3.alloc (.cells #[.int .i64 (k : Int), .slice aW nL cW, .int .i64 0, .slice (some ⟨gO, 0, none⟩) 2 cO, .slice (some ⟨gX, 0, none⟩) 2 cX, .slice (some ⟨gI, 0, none⟩) 2 cI] 31) := ⟨_, rfl⟩
      rw [← e4]
      have hb4 : Below v3.heap.size v3 v4 := by rw [e4]; exact (Below.refl _ _).alloc (Nat.le_refl _) _
      have X4 : Bk v4 v3.heap.size [.int .i64 (k : Int), .slice aW nL cW, .int .i64 0, .slice (some ⟨gO, 0, none⟩) 2 cO, .slice (some ⟨gX, 0, none⟩) 2 cX, .slice (some ⟨gI, 0, none⟩) 2 cI] := by rw [e4]; exact bk_new v3 31 [.int .i64 (k : Int), .slice aW nL cW, .int .i64 0, .slice (some ⟨gO, 0, none⟩) 2 cO, .slice (some ⟨gX, 0, none⟩) 2 cX, .slice (some ⟨gI, 0, none⟩) 2 cI]
      clear e4
      clear yM0 yM1 hlM
      have B20 : Hid (Below w.heap.size w v4) := bthen B18.out hb4
      have L20 : Hid (g < v4.heap.size ∧ ∀ k j, k < n → j < 5 → v4.cell? ⟨g, 0 + k * 5 + j, none⟩ = some (.int .i64 (Z k j))) := ⟨Nat.lt_of_lt_of_le L18.out.1 hb4.size, fun k j hk hj => (hb4.cell (p := ⟨g, _, none⟩) L18.out.1).trans (L18.out.2 k j hk hj)⟩
      have M20 : Hid (Bk v4 gm [.int .i64 c, .int .i64 d]) := M18.out.below hb4
      have N20 : Hid (New v4 aW nL WL gO gX gI s0 s1 t0 t1) := N19.out.below hb4
      clear B18 L18 M18 N19
      clear hb4
      obtain ⟨gy, egy⟩ : ∃ q, q = v3.heap.size := ⟨_, rfl⟩
      rw [← egy] at X4 ⊢
      clear egy
      have Y21 : Hid (Bk v4 gy [.int .i64 (k : Int), .slice aW nL cW, .int .i64 0, .slice (some ⟨gO, 0, none⟩) 2 cO, .slice (some ⟨gX, 0, none⟩) 2 cX, .slice (some ⟨gI, 0, none⟩) 2 cI]) := X4
      clear X4
      refine (cllOk_new c d k aW nL cW WL gO cO gX cX gI cI s0 s1 t0 t1 (by omega) hh hal2 hcel2.out _ N20.out).mono ?_
      rintro e v5 ⟨rfl, hb⟩
      have B22 : Hid (Below w.heap.size w v5) := bthen B20.out hb
      have L22 : Hid (g < v5.heap.size ∧ ∀ k j, k < n → j < 5 → v5.cell? ⟨g, 0 + k * 5 + j, none⟩ = some (.int .i64 (Z k j))) := ⟨Nat.lt_of_lt_of_le L20.out.1 hb.size, fun k j hk hj => (hb.cell (p := ⟨g, _, none⟩) L20.out.1).trans (L20.out.2 k j hk hj)⟩
      have M22 : Hid (Bk v5 gm [.int .i64 c, .int .i64 d]) := M20.out.below hb
      have N22 : Hid (New v5 aW nL WL gO gX gI s0 s1 t0 t1) := N20.out.below hb
      have Y22 : Hid (Bk v5 gy [.int .i64 (k : Int), .slice aW nL cW, .int .i64 0, .slice (some ⟨gO, 0, none⟩) 2 cO, .slice (some ⟨gX, 0, none⟩) 2 cX, .slice (some ⟨gI, 0, none⟩) 2 cI]) := Y21.out.below hb
      clear B20 L20 M20 N20 Y21
      clear hb
      have yM0 : v5.cell? ⟨gm, 0, none⟩ = some (.int .i64 c) := (M22.out.2 0 (by simp)).1
      have yM1 : v5.cell? ⟨gm, 1, none⟩ = some (.int .i64 d) := (M22.out.2 1 (by simp)).1
      have hlM : gm < v5.heap.size := M22.out.1
      have yY0 : v5.cell? ⟨gy, 0, none⟩ = some (.int .i64 (k : Int)) := (Y22.out.2 0 (by simp)).1
      have yY1 : v5.cell? ⟨gy, 1, none⟩ = some (.slice aW nL cW) := (Y22.out.2 1 (by simp)).1
      have yY2 : v5.cell? ⟨gy, 2, none⟩ = some (.int .i64 0) := (Y22.out.2 2 (by simp)).1
      have yY3 : v5.cell? ⟨gy, 3, none⟩ = some (.slice (some ⟨gO, 0, none⟩) 2 cO) := (Y22.out.2 3 (by simp)).1
      have yY4 : v5.cell? ⟨gy, 4, none⟩ = some (.slice (some ⟨gX, 0, none⟩) 2 cX) := (Y22.out.2 4 (by simp)).1
      have yY5 : v5.cell? ⟨gy, 5, none⟩ = some (.slice (some ⟨gI, 0, none⟩) 2 cI) := (Y22.out.2 5 (by simp)).1
      have hlY : gy < v5.heap.size := Y22.out.1
      have hw : IntKind.wrap .i64 ((z : Int) + nL) = ((z + nL : Nat) : Int) := by simp [IntKind.wrap, IntKind.bits, IntKind.signed]; omega
      go_wp2
      go_roundw
      case rel => exact ⟨k + 1, z + nL, by omega, by go_num, by first | rfl | simp, by rw [HZ.out, HIL.out]; rfl, B22.out, L22.out, M22.out⟩
      case measure => simp [intOf]; omega
    · have hkc : ¬ (k : Int) < c := by have := HM.out; omega
      have hkm2 : k = m := by omega
      have hzn2 : z = n := by rw [HZ.out, hkm2]; exact cnt_all HM.out HAL.out
      clear hkm2
      subst hzn2
      have yM0 : wr.cell? ⟨gm, 0, none⟩ = some (.int .i64 c) := (M17.out.2 0 (by simp)).1
      have yM1 : wr.cell? ⟨gm, 1, none⟩ = some (.int .i64 d) := (M17.out.2 1 (by simp)).1
      have hlM : gm < wr.heap.size := M17.out.1
      go_wp2
      go_ret
      exact ⟨by simp, B15.out⟩
end Go.Proofs.Ytjllgmkficjiaaa
