/- l5Ack of the model; conditions: the cell lies in memory of its own, and the side's parcels are numbered one behind the other. -/
import Derived.Test.YtoiehmnhfjmfeaaGreatAck2
import Derived.Test.YtoiehmnhfjmfeaaGreatCCopyS
namespace Go.Proofs.YtoiehmnhfjmfeaaGreat
open Go.RowKit Go.Deep
set_option linter.unusedVariables false

theorem OwnC.more {lo lo' hi hi' : Nat} {w w' : World} {v : Value} {V : CV} (h : OwnC lo hi w v V) (h0 : lo' ≤ lo) (h1 : hi ≤ hi') (h2 : hi' ≤ w'.heap.size) (k : ∀ b, lo ≤ b → b < hi → Sm w w' b) : OwnC lo' hi' w' v V := by
  obtain ⟨vW, vO, vX, vI, gW, gO, gX, gI, sl, xs, e, rW, rO, rX, rI, hd, hx1, hx2⟩ := h
  refine ⟨vW, vO, vX, vI, gW, gO, gX, gI, sl, xs, e, rW.go h0 h1 h2 (fun _ => k _), ?_, rX.go h0 h1 h2 (fun _ => k _), rI.go h0 h1 h2 (fun _ => k _), hd, hx1, hx2⟩
  rcases rO with r | ⟨co, e1, l1, l2, l3, hc⟩
  · exact .inl r
  · exact .inr ⟨co, e1, by omega, by omega, h2, fun j hj => ⟨(k gO l1 l2 j).1.trans (hc j hj).1, (hc j hj).2.go h0 h1 h2 (fun _ => k _)⟩⟩

set_option maxRecDepth 20000 in
set_option maxHeartbeats 8000000 in
theorem l5Ack_spec (v : Value) (V : CV) (lo q : Nat) (z : Int) (hs0 : V.short 1048576) (hqO : q < V.nO) (hqX : q < V.nX) (hX0 : 0 ≤ V.X q) (hX1 : V.X q ≤ 5000) (hat0 : ∀ k, k < V.N q → V.O q k 0 = V.X q - V.N q + k) (w : World) (h : CopyAt lo w v V) :
    Calls Tryz.prog 42 #[v, .int .i64 (q : Int), .int .i64 z] w fun e w' => (∃ u t, e = .returned (.tuple #[u, .bool t]) ∧ t = ackB V q z ∧ OwnC w.heap.size w'.heap.size w' u (V.after q z)) ∧ Below w.heap.size w w' := by
  obtain ⟨bW, bO, bX, bI, q0, q1, q2, q3, q4, rfl, g1, g2, g3, g4⟩ := h
  have CP : Hid (CopyAt lo w (.agg #[.int .i64 V.c, .slice (some ⟨bW, 0, none⟩) V.nW V.nW, .int .i64 V.g, .slice (some ⟨bO, 0, none⟩) V.nO V.nO, .slice (some ⟨bX, 0, none⟩) V.nX V.nX, .slice (some ⟨bI, 0, none⟩) V.nI V.nI]) V) := ⟨bW, bO, bX, bI, q0, q1, q2, q3, q4, rfl, g1, g2, g3, g4⟩
  have hs : Hid (V.short 1048576) := hs0
  have hat : Hid (∀ k, k < V.N q → V.O q k 0 = V.X q - V.N q + k) := hat0
  have hNq : V.N q ≤ 1048576 := hs0.2.2.1 q hqO
  clear g1 g2 g3 g4 hs0 hat0 q0 q1 q2 q3 q4
  have hwr : IntKind.i64.wrap (V.X q - V.N q) = V.X q - V.N q := by rw [IntKind.wrap_i64]; omega
  have hq1 : (q : Int) < V.nO := by omega
  have hq2 : (q : Int) < V.nX := by omega
  go_enter Tryz.func42, Tryz.ntmps42
  go_wp2_with fail
  obtain ⟨w0, e0⟩ : ∃ w0, w0 = ((w.alloc (.cells #[.int .i64 V.c, .slice (some ⟨bW, 0, none⟩) V.nW V.nW, .int .i64 V.g, .slice (some ⟨bO, 0, none⟩) V.nO V.nO, .slice (some ⟨bX, 0, none⟩) V.nX V.nX, .slice (some ⟨bI, 0, none⟩) V.nI V.nI] 37)).alloc (.cells #[.int .i64 0, .slice none 0 0, .int .i64 0, .slice none 0 0, .slice none 0 0, .slice none 0 0] 37)) := ⟨_, rfl⟩
  have z0 : w.heap.size + 2 ≤ w0.heap.size := by rw [e0]; simp
  have B0 : Hid (Below w.heap.size w w0) := by rw [e0]; exact ((Below.refl _ _).alloc (by simp) _).alloc (by simp) _
  have R0 : Hid (Six w0 (w.heap.size + 1) [.int .i64 0, .slice none 0 0, .int .i64 0, .slice none 0 0, .slice none 0 0, .slice none 0 0]) := by rw [e0]; have h := six_new (w.alloc (.cells #[.int .i64 V.c, .slice (some ⟨bW, 0, none⟩) V.nW V.nW, .int .i64 V.g, .slice (some ⟨bO, 0, none⟩) V.nO V.nO, .slice (some ⟨bX, 0, none⟩) V.nX V.nX, .slice (some ⟨bI, 0, none⟩) V.nI V.nI] 37)) 37 (.int .i64 0) (.slice none 0 0) (.int .i64 0) (.slice none 0 0) (.slice none 0 0) (.slice none 0 0); rw [World.size_alloc] at h; exact h
  rw [← e0]
  clear e0
  refine (copyC_spec _ V lo hs.out _ (CP.out.below B0.out)).mono ?_
  rintro e w1 ⟨⟨v1, rfl, hO, hT⟩, hb1⟩
  obtain ⟨aW, kW, aO, kO, aX, kX, aI, kI, rfl, _, _, _, _⟩ := hO.at
  have B1 : Hid (Below w.heap.size w w1) := bthen B0.out hb1
  have R1 : Hid (Six w1 (w.heap.size + 1) [.int .i64 0, .slice none 0 0, .int .i64 0, .slice none 0 0, .slice none 0 0, .slice none 0 0]) := R0.out.below (by omega) hb1
  have z1 : w0.heap.size ≤ w1.heap.size := hb1.size
  have HO : Hid (OwnC w0.heap.size w1.heap.size w1 (.agg #[.int .i64 V.c, .slice aW V.nW kW, .int .i64 V.g, .slice aO V.nO kO, .slice aX V.nX kX, .slice aI V.nI kI]) V) := hO
  have HT : Hid (Thaw w0.heap.size w1.heap.size w1 (.agg #[.int .i64 V.c, .slice aW V.nW kW, .int .i64 V.g, .slice aO V.nO kO, .slice aX V.nX kX, .slice aI V.nI kI])) := hT
  clear hO hT hb1 B0 R0
  go_wp2_with fail
  obtain ⟨w2, e2⟩ : ∃ w2, w2 = w1.alloc (.cells #[.int .i64 V.c, .slice aW V.nW kW, .int .i64 V.g, .slice aO V.nO kO, .slice aX V.nX kX, .slice aI V.nI kI] 37) := ⟨_, rfl⟩
  have k2 : Below w1.heap.size w1 w2 := by rw [e2]; exact (Below.refl _ _).alloc (Nat.le_refl _) _
  have X2 : Hid (Six w2 w1.heap.size [.int .i64 V.c, .slice aW V.nW kW, .int .i64 V.g, .slice aO V.nO kO, .slice aX V.nX kX, .slice aI V.nI kI]) := by rw [e2]; exact six_new w1 37 (.int .i64 V.c) (.slice aW V.nW kW) (.int .i64 V.g) (.slice aO V.nO kO) (.slice aX V.nX kX) (.slice aI V.nI kI)
  have z2 : w1.heap.size < w2.heap.size := by rw [e2]; simp
  rw [← e2]
  clear e2
  have B2 : Hid (Below w.heap.size w w2) := bthen B1.out k2
  have R2 : Hid (Six w2 (w.heap.size + 1) [.int .i64 0, .slice none 0 0, .int .i64 0, .slice none 0 0, .slice none 0 0, .slice none 0 0]) := R1.out.below (by omega) k2
  have O2 := HO.out.below (Nat.le_refl _) k2
  have T2 := HT.out.sm (fun b _ hb => sm_below k2 hb)
  clear B1 R1 HO HT k2
  generalize w1.heap.size = x8 at *
  generalize w0.heap.size = l0 at *
  have OWX : Hid (OwnC l0 x8 w2 (.agg #[.int .i64 V.c, .slice aW V.nW kW, .int .i64 V.g, .slice aO V.nO kO, .slice aX V.nX kX, .slice aI V.nI kI]) V) := O2
  obtain ⟨vW, vO, vX, vI, gW, gO, gX, gI, sl, xs, e, rW, rO, rX, rI, hd, hx1, hx2⟩ := O2
  obtain ⟨rfl, rfl, rfl, rfl⟩ := agg6 e
  rcases rO with ⟨e0, _⟩ | ⟨co, e1, l1, l2, l3, hc1⟩
  · exact absurd e0 (by omega)
  simp only [Value.slice.injEq, true_and] at e1
  obtain ⟨rfl, rfl⟩ := e1
  obtain ⟨_, _, ex, hax⟩ := rX.is
  simp only [Value.slice.injEq, true_and] at ex
  obtain ⟨rfl, rfl⟩ := ex
  obtain rfl := hax (by omega)
  have OW : Hid (OwnC l0 x8 w2 (.agg #[.int .i64 V.c, .slice aW V.nW kW, .int .i64 V.g, .slice (some ⟨gO, 0, none⟩) V.nO kO, .slice (some ⟨gX, 0, none⟩) V.nX kX, .slice aI V.nI kI]) V) := OWX.out
  clear OWX
  have lX : l0 ≤ gX ∧ gX < x8 := rX.in (by omega)
  have OX : Own1 w2 gX V.nX V.X V.nX := by rcases rX with h | ⟨_, _, _, _, _, h⟩; omega; exact h
  obtain ⟨qa, qc, eq, hqa⟩ := (hc1 q hqO).2.is
  have oq : w2.cell? ⟨gO, q, none⟩ = some (.slice qa (V.N q) qc) := by rw [← eq]; exact (hc1 q hqO).1
  have fq : w2.frozen? ⟨gO, q, none⟩ = false := (T2 _ _ _ gO V.nO kO _ _ rfl).2.2 q hqO
  have xq : w2.cell? ⟨gX, q, none⟩ = some (.int .i64 (V.X q)) := OX.2 q hqX
  have HP : Hid (RP l0 x8 w2 (.slice qa (V.N q) qc) (V.N q) (V.O q) (xs q)) := by rw [← eq]; exact (hc1 q hqO).2
  have RWH : Hid (RW l0 x8 w2 (.slice aW V.nW kW) V.nW V.W gW) := rW
  have RXH : Hid (RI l0 x8 w2 (.slice (some ⟨gX, 0, none⟩) V.nX kX) V.nX V.X gX) := rX
  have RIH : Hid (RI l0 x8 w2 (.slice aI V.nI kI) V.nI V.I gI) := rI
  have CH : Hid (∀ k, k < V.nO → w2.cell? ⟨gO, k, none⟩ = some (sl k) ∧ RP l0 x8 w2 (sl k) (V.N k) (V.O k) (xs k)) := hc1
  have DH : Hid _ := hd
  have H1 : Hid _ := hx1
  have H2 : Hid _ := hx2
  have HQA : Hid (V.N q ≠ 0 → qa = some ⟨xs q, 0, none⟩) := hqa
  clear rW rX rI hc1 hd hx1 hx2 T2 OX e eq hqa hax
  have a0 : w2.cell? ⟨x8, 0, none⟩ = some (.int .i64 V.c) := (X2.out 0 (by decide)).1
  have a1 : w2.cell? ⟨x8, 1, none⟩ = some (.slice aW V.nW kW) := (X2.out 1 (by decide)).1
  have a2 : w2.cell? ⟨x8, 2, none⟩ = some (.int .i64 V.g) := (X2.out 2 (by decide)).1
  have a3 : w2.cell? ⟨x8, 3, none⟩ = some (.slice (some ⟨gO, 0, none⟩) V.nO kO) := (X2.out 3 (by decide)).1
  have a4 : w2.cell? ⟨x8, 4, none⟩ = some (.slice (some ⟨gX, 0, none⟩) V.nX kX) := (X2.out 4 (by decide)).1
  have a5 : w2.cell? ⟨x8, 5, none⟩ = some (.slice aI V.nI kI) := (X2.out 5 (by decide)).1
  have r0 : w2.cell? ⟨w.heap.size + 1, 0, none⟩ = some (.int .i64 0) := (R2.out 0 (by decide)).1
  have f0 : w2.frozen? ⟨w.heap.size + 1, 0, none⟩ = false := (R2.out 0 (by decide)).2
  have r1 : w2.cell? ⟨w.heap.size + 1, 1, none⟩ = some (.slice none 0 0) := (R2.out 1 (by decide)).1
  have f1 : w2.frozen? ⟨w.heap.size + 1, 1, none⟩ = false := (R2.out 1 (by decide)).2
  have r2 : w2.cell? ⟨w.heap.size + 1, 2, none⟩ = some (.int .i64 0) := (R2.out 2 (by decide)).1
  have f2 : w2.frozen? ⟨w.heap.size + 1, 2, none⟩ = false := (R2.out 2 (by decide)).2
  have r3 : w2.cell? ⟨w.heap.size + 1, 3, none⟩ = some (.slice none 0 0) := (R2.out 3 (by decide)).1
  have f3 : w2.frozen? ⟨w.heap.size + 1, 3, none⟩ = false := (R2.out 3 (by decide)).2
  have r4 : w2.cell? ⟨w.heap.size + 1, 4, none⟩ = some (.slice none 0 0) := (R2.out 4 (by decide)).1
  have f4 : w2.frozen? ⟨w.heap.size + 1, 4, none⟩ = false := (R2.out 4 (by decide)).2
  have r5 : w2.cell? ⟨w.heap.size + 1, 5, none⟩ = some (.slice none 0 0) := (R2.out 5 (by decide)).1
  have f5 : w2.frozen? ⟨w.heap.size + 1, 5, none⟩ = false := (R2.out 5 (by decide)).2
  have lx : x8 < w2.heap.size := by omega
  have lr : w.heap.size + 1 < w2.heap.size := by omega
  have lgX : gX < w2.heap.size := by omega
  have lgO : gO < w2.heap.size := by omega
  have hxr : ¬ x8 = w.heap.size + 1 := by omega
  by_cases hz : V.X q < z
  · have hA : ackB V q z = false := by simp [ackB, hz]
    refine wp_region_held_drew (S := fun w' => (∀ b o, b < w2.heap.size → w'.cell? ⟨b, o, none⟩ = w2.cell? ⟨b, o, none⟩) ∧ w2.heap.size ≤ w'.heap.size) (by kernel_rfl) ⟨fun _ _ _ => rfl, Nat.le_refl _⟩ ?_
    intro hHeld
    refine wpAnyH_take (i := 0) (v := .int .i64 z) rfl (by kernel_rfl) (by kernel_rfl) (by kernel_rfl) (fun _ _ _ h => h) (Or.inl ⟨by rfl, ?_⟩) (by assumption) ?_
    · intro wx hSw; go_simp
    try simp only [Act.put, List.setIfInBounds_toArray, List.set_cons_zero, List.set_cons_succ, List.getElem_toArray, List.getElem_cons_zero]
    refine wpAnyH_take (i := 1) (v := .pointer (some ⟨x8, 4, none⟩)) rfl (by kernel_rfl) (by kernel_rfl) (by kernel_rfl) (fun _ _ _ h => h) (Or.inl ⟨by rfl, ?_⟩) (by assumption) ?_
    · intro wx hSw; go_simp
    try simp only [Act.put, List.setIfInBounds_toArray, List.set_cons_zero, List.set_cons_succ, List.getElem_toArray, List.getElem_cons_zero, List.getElem_cons_succ]
    refine wpAnyH_take (i := 2) (v := .slice (some ⟨gX, 0, none⟩) V.nX kX) rfl (by kernel_rfl) (by kernel_rfl) (by kernel_rfl) (fun _ _ _ h => h) (Or.inl ⟨by rfl, ?_⟩) (by assumption) ?_
    · intro wx hSw; have y4 := (hSw.1 x8 4 lx).trans a4; clear hSw; go_simp
    try simp only [Act.put, List.setIfInBounds_toArray, List.set_cons_zero, List.set_cons_succ, List.getElem_toArray, List.getElem_cons_zero, List.getElem_cons_succ]
    refine wpAnyH_take (i := 3) (v := .int .i64 (q : Int)) rfl (by kernel_rfl) (by kernel_rfl) (by kernel_rfl) (fun _ _ _ h => h) (Or.inl ⟨by rfl, ?_⟩) (by assumption) ?_
    · intro wx hSw; go_simp
    try simp only [Act.put, List.setIfInBounds_toArray, List.set_cons_zero, List.set_cons_succ, List.getElem_toArray, List.getElem_cons_zero, List.getElem_cons_succ]
    refine wpAnyH_take (i := 4) (v := .pointer (some ⟨gX, q, none⟩)) rfl (by kernel_rfl) (by kernel_rfl) (by kernel_rfl) (fun _ _ _ h => h) (Or.inl ⟨by rfl, ?_⟩) (by assumption) ?_
    · intro wx hSw; go_simp
    try simp only [Act.put, List.setIfInBounds_toArray, List.set_cons_zero, List.set_cons_succ, List.getElem_toArray, List.getElem_cons_zero, List.getElem_cons_succ]
    refine wpAnyH_take (i := 5) (v := .int .i64 (V.X q)) rfl (by kernel_rfl) (by kernel_rfl) (by kernel_rfl) (fun _ _ _ h => h) (Or.inl ⟨by rfl, ?_⟩) (by assumption) ?_
    · intro wx hSw; have yx := (hSw.1 gX q lgX).trans xq; clear hSw; go_simp
    try simp only [Act.put, List.setIfInBounds_toArray, List.set_cons_zero, List.set_cons_succ, List.getElem_toArray, List.getElem_cons_zero, List.getElem_cons_succ]
    refine wpAnyH_take (i := 6) (v := .bool true) rfl (by kernel_rfl) (by kernel_rfl) (by kernel_rfl) (fun _ _ _ h => h) (Or.inl ⟨by rfl, ?_⟩) (by assumption) ?_
    · intro wx hSw; go_simp
    try simp only [Act.put, List.setIfInBounds_toArray, List.set_cons_zero, List.set_cons_succ, List.getElem_toArray, List.getElem_cons_zero, List.getElem_cons_succ]
    refine wpAnyH_take (i := 7) (v := .bool true) rfl (by kernel_rfl) (by kernel_rfl) (by kernel_rfl) (fun _ _ _ h => h) (Or.inl ⟨by rfl, ?_⟩) (by assumption) ?_
    · intro wx hSw; go_simp
    try simp only [Act.put, List.setIfInBounds_toArray, List.set_cons_zero, List.set_cons_succ, List.getElem_toArray, List.getElem_cons_zero, List.getElem_cons_succ]
    refine wpAnyH_take (i := 8) (v := undef) rfl (by kernel_rfl) (by kernel_rfl) (by kernel_rfl) (fun _ _ _ h => h) (Or.inr ⟨by rfl, rfl⟩) (by assumption) ?_
    try simp only [Act.put, List.setIfInBounds_toArray, List.set_cons_zero, List.set_cons_succ, List.getElem_toArray, List.getElem_cons_zero, List.getElem_cons_succ]
    refine wpAnyH_take (i := 9) (v := undef) rfl (by kernel_rfl) (by kernel_rfl) (by kernel_rfl) (fun _ _ _ h => h) (Or.inr ⟨by rfl, rfl⟩) (by assumption) ?_
    try simp only [Act.put, List.setIfInBounds_toArray, List.set_cons_zero, List.set_cons_succ, List.getElem_toArray, List.getElem_cons_zero, List.getElem_cons_succ]
    refine wpAnyH_take (i := 10) (v := undef) rfl (by kernel_rfl) (by kernel_rfl) (by kernel_rfl) (fun _ _ _ h => h) (Or.inr ⟨by rfl, rfl⟩) (by assumption) ?_
    try simp only [Act.put, List.setIfInBounds_toArray, List.set_cons_zero, List.set_cons_succ, List.getElem_toArray, List.getElem_cons_zero, List.getElem_cons_succ]
    refine wpAnyH_take (i := 11) (v := undef) rfl (by kernel_rfl) (by kernel_rfl) (by kernel_rfl) (fun _ _ _ h => h) (Or.inr ⟨by rfl, rfl⟩) (by assumption) ?_
    try simp only [Act.put, List.setIfInBounds_toArray, List.set_cons_zero, List.set_cons_succ, List.getElem_toArray, List.getElem_cons_zero, List.getElem_cons_succ]
    refine wpAnyH_take (i := 12) (v := undef) rfl (by kernel_rfl) (by kernel_rfl) (by kernel_rfl) (fun _ _ _ h => h) (Or.inr ⟨by rfl, rfl⟩) (by assumption) ?_
    try simp only [Act.put, List.setIfInBounds_toArray, List.set_cons_zero, List.set_cons_succ, List.getElem_toArray, List.getElem_cons_zero, List.getElem_cons_succ]
    refine wpAnyH_take (i := 13) (v := undef) rfl (by kernel_rfl) (by kernel_rfl) (by kernel_rfl) (fun _ _ _ h => h) (Or.inr ⟨by rfl, rfl⟩) (by assumption) ?_
    try simp only [Act.put, List.setIfInBounds_toArray, List.set_cons_zero, List.set_cons_succ, List.getElem_toArray, List.getElem_cons_zero, List.getElem_cons_succ]
    refine wpAnyH_take (i := 14) (v := undef) rfl (by kernel_rfl) (by kernel_rfl) (by kernel_rfl) (fun _ _ _ h => h) (Or.inr ⟨by rfl, rfl⟩) (by assumption) ?_
    try simp only [Act.put, List.setIfInBounds_toArray, List.set_cons_zero, List.set_cons_succ, List.getElem_toArray, List.getElem_cons_zero, List.getElem_cons_succ]
    refine wpAnyH_take (i := 15) (v := undef) rfl (by kernel_rfl) (by kernel_rfl) (by kernel_rfl) (fun _ _ _ h => h) (Or.inr ⟨by rfl, rfl⟩) (by assumption) ?_
    try simp only [Act.put, List.setIfInBounds_toArray, List.set_cons_zero, List.set_cons_succ, List.getElem_toArray, List.getElem_cons_zero, List.getElem_cons_succ]
    refine wpAnyH_take (i := 16) (v := undef) rfl (by kernel_rfl) (by kernel_rfl) (by kernel_rfl) (fun _ _ _ h => h) (Or.inr ⟨by rfl, rfl⟩) (by assumption) ?_
    try simp only [Act.put, List.setIfInBounds_toArray, List.set_cons_zero, List.set_cons_succ, List.getElem_toArray, List.getElem_cons_zero, List.getElem_cons_succ]
    refine wpAnyH_take (i := 17) (v := undef) rfl (by kernel_rfl) (by kernel_rfl) (by kernel_rfl) (fun _ _ _ h => h) (Or.inr ⟨by rfl, rfl⟩) (by assumption) ?_
    try simp only [Act.put, List.setIfInBounds_toArray, List.set_cons_zero, List.set_cons_succ, List.getElem_toArray, List.getElem_cons_zero, List.getElem_cons_succ]
    refine wpAnyH_take (i := 18) (v := undef) rfl (by kernel_rfl) (by kernel_rfl) (by kernel_rfl) (fun _ _ _ h => h) (Or.inr ⟨by rfl, rfl⟩) (by assumption) ?_
    try simp only [Act.put, List.setIfInBounds_toArray, List.set_cons_zero, List.set_cons_succ, List.getElem_toArray, List.getElem_cons_zero, List.getElem_cons_succ]
    refine wpAnyH_take (i := 19) (v := undef) rfl (by kernel_rfl) (by kernel_rfl) (by kernel_rfl) (fun _ _ _ h => h) (Or.inr ⟨by rfl, rfl⟩) (by assumption) ?_
    try simp only [Act.put, List.setIfInBounds_toArray, List.set_cons_zero, List.set_cons_succ, List.getElem_toArray, List.getElem_cons_zero, List.getElem_cons_succ]
    refine wpAnyH_take (i := 20) (v := undef) rfl (by kernel_rfl) (by kernel_rfl) (by kernel_rfl) (fun _ _ _ h => h) (Or.inr ⟨by rfl, rfl⟩) (by assumption) ?_
    try simp only [Act.put, List.setIfInBounds_toArray, List.set_cons_zero, List.set_cons_succ, List.getElem_toArray, List.getElem_cons_zero, List.getElem_cons_succ]
    refine wpAnyH_take (i := 21) (v := undef) rfl (by kernel_rfl) (by kernel_rfl) (by kernel_rfl) (fun _ _ _ h => h) (Or.inr ⟨by rfl, rfl⟩) (by assumption) ?_
    try simp only [Act.put, List.setIfInBounds_toArray, List.set_cons_zero, List.set_cons_succ, List.getElem_toArray, List.getElem_cons_zero, List.getElem_cons_succ]
    refine wpAnyH_take (i := 22) (v := .bool true) rfl (by kernel_rfl) (by kernel_rfl) (by kernel_rfl) (fun _ _ _ h => h) (Or.inl ⟨by rfl, ?_⟩) (by assumption) ?_
    · intro wx hSw; go_simp
    try simp only [Act.put, List.setIfInBounds_toArray, List.set_cons_zero, List.set_cons_succ, List.getElem_toArray, List.getElem_cons_zero, List.getElem_cons_succ]
    refine wpAnyH_done (by kernel_rfl) ?_ _
    clear hHeld
    obtain ⟨w3, e3⟩ : ∃ w3, w3 = w2.drew := ⟨_, rfl⟩
    rw [← e3]
    have k3 : Below w2.heap.size w2 w3 := by rw [e3]; exact (Below.refl _ _).drew
    have lx3 : x8 < w3.heap.size := by rw [e3]; exact lx
    have lr3 : w.heap.size + 1 < w3.heap.size := by rw [e3]; exact lr
    have hz9 : w3.heap.size = w2.heap.size := by rw [e3]; rfl
    have HZ9 : Hid (w3.heap.size = w2.heap.size) := hz9
    clear e3 hz9 xq oq fq hwr
    have A_w3 : Hid (Six w3 x8 [.int .i64 V.c, .slice aW V.nW kW, .int .i64 V.g, .slice (some ⟨gO, 0, none⟩) V.nO kO, .slice (some ⟨gX, 0, none⟩) V.nX kX, .slice aI V.nI kI]) := fun i hi => by have h := (fun g (hg : g < w2.heap.size) => sm_below k3 hg) x8 lx i; rw [h.1, h.2]; exact X2.out i hi
    have R_w3 : Hid (Six w3 (w.heap.size + 1) [.int .i64 0, .slice none 0 0, .int .i64 0, .slice none 0 0, .slice none 0 0, .slice none 0 0]) := fun i hi => by have h := (fun g (hg : g < w2.heap.size) => sm_below k3 hg) (w.heap.size + 1) lr i; rw [h.1, h.2]; exact R2.out i hi
    clear a0 a1 a2 a3 a4 a5 r0 f0 r1 f1 r2 f2 r3 f3 r4 f4 r5 f5
    have a0 : w3.cell? ⟨x8, 0, none⟩ = some (.int .i64 V.c) := (A_w3.out 0 (by decide)).1
    have a1 : w3.cell? ⟨x8, 1, none⟩ = some (.slice aW V.nW kW) := (A_w3.out 1 (by decide)).1
    have a2 : w3.cell? ⟨x8, 2, none⟩ = some (.int .i64 V.g) := (A_w3.out 2 (by decide)).1
    have a3 : w3.cell? ⟨x8, 3, none⟩ = some (.slice (some ⟨gO, 0, none⟩) V.nO kO) := (A_w3.out 3 (by decide)).1
    have a4 : w3.cell? ⟨x8, 4, none⟩ = some (.slice (some ⟨gX, 0, none⟩) V.nX kX) := (A_w3.out 4 (by decide)).1
    have a5 : w3.cell? ⟨x8, 5, none⟩ = some (.slice aI V.nI kI) := (A_w3.out 5 (by decide)).1
    have r0 : w3.cell? ⟨w.heap.size + 1, 0, none⟩ = some (.int .i64 0) := (R_w3.out 0 (by decide)).1
    have f0 : w3.frozen? ⟨w.heap.size + 1, 0, none⟩ = false := (R_w3.out 0 (by decide)).2
    have r1 : w3.cell? ⟨w.heap.size + 1, 1, none⟩ = some (.slice none 0 0) := (R_w3.out 1 (by decide)).1
    have f1 : w3.frozen? ⟨w.heap.size + 1, 1, none⟩ = false := (R_w3.out 1 (by decide)).2
    have r2 : w3.cell? ⟨w.heap.size + 1, 2, none⟩ = some (.int .i64 0) := (R_w3.out 2 (by decide)).1
    have f2 : w3.frozen? ⟨w.heap.size + 1, 2, none⟩ = false := (R_w3.out 2 (by decide)).2
    have r3 : w3.cell? ⟨w.heap.size + 1, 3, none⟩ = some (.slice none 0 0) := (R_w3.out 3 (by decide)).1
    have f3 : w3.frozen? ⟨w.heap.size + 1, 3, none⟩ = false := (R_w3.out 3 (by decide)).2
    have r4 : w3.cell? ⟨w.heap.size + 1, 4, none⟩ = some (.slice none 0 0) := (R_w3.out 4 (by decide)).1
    have f4 : w3.frozen? ⟨w.heap.size + 1, 4, none⟩ = false := (R_w3.out 4 (by decide)).2
    have r5 : w3.cell? ⟨w.heap.size + 1, 5, none⟩ = some (.slice none 0 0) := (R_w3.out 5 (by decide)).1
    have f5 : w3.frozen? ⟨w.heap.size + 1, 5, none⟩ = false := (R_w3.out 5 (by decide)).2
    have K3 : Hid (Below w2.heap.size w2 w3) := k3
    clear k3
    go_wp2
    refine bodyPost_ret (v := .tuple #[.agg #[.int .i64 V.c, .slice aW V.nW kW, .int .i64 V.g, .slice (some ⟨gO, 0, none⟩) V.nO kO, .slice (some ⟨gX, 0, none⟩) V.nX kX, .slice aI V.nI kI], .bool false]) (by simp [results, Tryz.results42, go_sem, r0, r1, r2, r3, r4, r5]) rfl ?_
    have hzz := size_put6 w3 (w.heap.size + 1) (.int .i64 V.c) (.slice aW V.nW kW) (.int .i64 V.g) (.slice (some ⟨gO, 0, none⟩) V.nO kO) (.slice (some ⟨gX, 0, none⟩) V.nX kX) (.slice aI V.nI kI)
    have hz9 := HZ9.out
    refine ⟨⟨_, _, rfl, hA.symm, ?_⟩, below_put6 (bthen B2.out K3.out) (Nat.le_succ _) _ _ _ _ _ _⟩
    rw [show V.after q z = V by simp [CV.after, hA]]
    show OwnC w.heap.size (put6 w3 (w.heap.size + 1) (.int .i64 V.c) (.slice aW V.nW kW) (.int .i64 V.g) (.slice (some ⟨gO, 0, none⟩) V.nO kO) (.slice (some ⟨gX, 0, none⟩) V.nX kX) (.slice aI V.nI kI)).heap.size (put6 w3 (w.heap.size + 1) (.int .i64 V.c) (.slice aW V.nW kW) (.int .i64 V.g) (.slice (some ⟨gO, 0, none⟩) V.nO kO) (.slice (some ⟨gX, 0, none⟩) V.nX kX) (.slice aI V.nI kI)) _ _
    rw [hzz]
    exact OW.out.more (by omega) (by omega) (Nat.le_of_eq hzz.symm) (fun y h1 h2 => Sm.trans (sm_below K3.out (by omega)) (sm_put6 (by omega) (.int .i64 V.c) (.slice aW V.nW kW) (.int .i64 V.g) (.slice (some ⟨gO, 0, none⟩) V.nO kO) (.slice (some ⟨gX, 0, none⟩) V.nX kX) (.slice aI V.nI kI)))
  have hz1 : decide (V.X q < z) = false := by simp; omega
  have hone := ack_one hat.out (z := z) (by omega)
  by_cases hz2 : z ≤ V.X q - V.N q
  · have hA : ackB V q z = false := by simp [ackB]; exact fun _ => hone.2 hz2
    clear hz hone
    refine wp_region_held_drew (S := fun w' => (∀ b o, b < w2.heap.size → w'.cell? ⟨b, o, none⟩ = w2.cell? ⟨b, o, none⟩) ∧ w2.heap.size ≤ w'.heap.size) (by kernel_rfl) ⟨fun _ _ _ => rfl, Nat.le_refl _⟩ ?_
    intro hHeld
    refine wpAnyH_take (i := 0) (v := .int .i64 z) rfl (by kernel_rfl) (by kernel_rfl) (by kernel_rfl) (fun _ _ _ h => h) (Or.inl ⟨by rfl, ?_⟩) (by assumption) ?_
    · intro wx hSw; go_simp
    try simp only [Act.put, List.setIfInBounds_toArray, List.set_cons_zero, List.set_cons_succ, List.getElem_toArray, List.getElem_cons_zero]
    refine wpAnyH_take (i := 1) (v := .pointer (some ⟨x8, 4, none⟩)) rfl (by kernel_rfl) (by kernel_rfl) (by kernel_rfl) (fun _ _ _ h => h) (Or.inl ⟨by rfl, ?_⟩) (by assumption) ?_
    · intro wx hSw; go_simp
    try simp only [Act.put, List.setIfInBounds_toArray, List.set_cons_zero, List.set_cons_succ, List.getElem_toArray, List.getElem_cons_zero, List.getElem_cons_succ]
    refine wpAnyH_take (i := 2) (v := .slice (some ⟨gX, 0, none⟩) V.nX kX) rfl (by kernel_rfl) (by kernel_rfl) (by kernel_rfl) (fun _ _ _ h => h) (Or.inl ⟨by rfl, ?_⟩) (by assumption) ?_
    · intro wx hSw; have y4 := (hSw.1 x8 4 lx).trans a4; clear hSw; go_simp
    try simp only [Act.put, List.setIfInBounds_toArray, List.set_cons_zero, List.set_cons_succ, List.getElem_toArray, List.getElem_cons_zero, List.getElem_cons_succ]
    refine wpAnyH_take (i := 3) (v := .int .i64 (q : Int)) rfl (by kernel_rfl) (by kernel_rfl) (by kernel_rfl) (fun _ _ _ h => h) (Or.inl ⟨by rfl, ?_⟩) (by assumption) ?_
    · intro wx hSw; go_simp
    try simp only [Act.put, List.setIfInBounds_toArray, List.set_cons_zero, List.set_cons_succ, List.getElem_toArray, List.getElem_cons_zero, List.getElem_cons_succ]
    refine wpAnyH_take (i := 4) (v := .pointer (some ⟨gX, q, none⟩)) rfl (by kernel_rfl) (by kernel_rfl) (by kernel_rfl) (fun _ _ _ h => h) (Or.inl ⟨by rfl, ?_⟩) (by assumption) ?_
    · intro wx hSw; go_simp
    try simp only [Act.put, List.setIfInBounds_toArray, List.set_cons_zero, List.set_cons_succ, List.getElem_toArray, List.getElem_cons_zero, List.getElem_cons_succ]
    refine wpAnyH_take (i := 5) (v := .int .i64 (V.X q)) rfl (by kernel_rfl) (by kernel_rfl) (by kernel_rfl) (fun _ _ _ h => h) (Or.inl ⟨by rfl, ?_⟩) (by assumption) ?_
    · intro wx hSw; have yx := (hSw.1 gX q lgX).trans xq; clear hSw; go_simp
    try simp only [Act.put, List.setIfInBounds_toArray, List.set_cons_zero, List.set_cons_succ, List.getElem_toArray, List.getElem_cons_zero, List.getElem_cons_succ]
    refine wpAnyH_take (i := 6) (v := .bool false) rfl (by kernel_rfl) (by kernel_rfl) (by kernel_rfl) (fun _ _ _ h => h) (Or.inl ⟨by rfl, ?_⟩) (by assumption) ?_
    · intro wx hSw; go_simp
    try simp only [Act.put, List.setIfInBounds_toArray, List.set_cons_zero, List.set_cons_succ, List.getElem_toArray, List.getElem_cons_zero, List.getElem_cons_succ]
    refine wpAnyH_take (i := 7) (v := .bool false) rfl (by kernel_rfl) (by kernel_rfl) (by kernel_rfl) (fun _ _ _ h => h) (Or.inl ⟨by rfl, ?_⟩) (by assumption) ?_
    · intro wx hSw; go_simp
    try simp only [Act.put, List.setIfInBounds_toArray, List.set_cons_zero, List.set_cons_succ, List.getElem_toArray, List.getElem_cons_zero, List.getElem_cons_succ]
    refine wpAnyH_take (i := 8) (v := .int .i64 z) rfl (by kernel_rfl) (by kernel_rfl) (by kernel_rfl) (fun _ _ _ h => h) (Or.inl ⟨by rfl, ?_⟩) (by assumption) ?_
    · intro wx hSw; go_simp
    try simp only [Act.put, List.setIfInBounds_toArray, List.set_cons_zero, List.set_cons_succ, List.getElem_toArray, List.getElem_cons_zero, List.getElem_cons_succ]
    refine wpAnyH_take (i := 9) (v := .pointer (some ⟨x8, 4, none⟩)) rfl (by kernel_rfl) (by kernel_rfl) (by kernel_rfl) (fun _ _ _ h => h) (Or.inl ⟨by rfl, ?_⟩) (by assumption) ?_
    · intro wx hSw; go_simp
    try simp only [Act.put, List.setIfInBounds_toArray, List.set_cons_zero, List.set_cons_succ, List.getElem_toArray, List.getElem_cons_zero, List.getElem_cons_succ]
    refine wpAnyH_take (i := 10) (v := .slice (some ⟨gX, 0, none⟩) V.nX kX) rfl (by kernel_rfl) (by kernel_rfl) (by kernel_rfl) (fun _ _ _ h => h) (Or.inl ⟨by rfl, ?_⟩) (by assumption) ?_
    · intro wx hSw; have y4 := (hSw.1 x8 4 lx).trans a4; clear hSw; go_simp
    try simp only [Act.put, List.setIfInBounds_toArray, List.set_cons_zero, List.set_cons_succ, List.getElem_toArray, List.getElem_cons_zero, List.getElem_cons_succ]
    refine wpAnyH_take (i := 11) (v := .int .i64 (q : Int)) rfl (by kernel_rfl) (by kernel_rfl) (by kernel_rfl) (fun _ _ _ h => h) (Or.inl ⟨by rfl, ?_⟩) (by assumption) ?_
    · intro wx hSw; go_simp
    try simp only [Act.put, List.setIfInBounds_toArray, List.set_cons_zero, List.set_cons_succ, List.getElem_toArray, List.getElem_cons_zero, List.getElem_cons_succ]
    refine wpAnyH_take (i := 12) (v := .pointer (some ⟨gX, q, none⟩)) rfl (by kernel_rfl) (by kernel_rfl) (by kernel_rfl) (fun _ _ _ h => h) (Or.inl ⟨by rfl, ?_⟩) (by assumption) ?_
    · intro wx hSw; go_simp
    try simp only [Act.put, List.setIfInBounds_toArray, List.set_cons_zero, List.set_cons_succ, List.getElem_toArray, List.getElem_cons_zero, List.getElem_cons_succ]
    refine wpAnyH_take (i := 13) (v := .int .i64 (V.X q)) rfl (by kernel_rfl) (by kernel_rfl) (by kernel_rfl) (fun _ _ _ h => h) (Or.inl ⟨by rfl, ?_⟩) (by assumption) ?_
    · intro wx hSw; have yx := (hSw.1 gX q lgX).trans xq; clear hSw; go_simp
    try simp only [Act.put, List.setIfInBounds_toArray, List.set_cons_zero, List.set_cons_succ, List.getElem_toArray, List.getElem_cons_zero, List.getElem_cons_succ]
    refine wpAnyH_take (i := 14) (v := .pointer (some ⟨x8, 3, none⟩)) rfl (by kernel_rfl) (by kernel_rfl) (by kernel_rfl) (fun _ _ _ h => h) (Or.inl ⟨by rfl, ?_⟩) (by assumption) ?_
    · intro wx hSw; go_simp
    try simp only [Act.put, List.setIfInBounds_toArray, List.set_cons_zero, List.set_cons_succ, List.getElem_toArray, List.getElem_cons_zero, List.getElem_cons_succ]
    refine wpAnyH_take (i := 15) (v := .slice (some ⟨gO, 0, none⟩) V.nO kO) rfl (by kernel_rfl) (by kernel_rfl) (by kernel_rfl) (fun _ _ _ h => h) (Or.inl ⟨by rfl, ?_⟩) (by assumption) ?_
    · intro wx hSw; have y3 := (hSw.1 x8 3 lx).trans a3; clear hSw; go_simp
    try simp only [Act.put, List.setIfInBounds_toArray, List.set_cons_zero, List.set_cons_succ, List.getElem_toArray, List.getElem_cons_zero, List.getElem_cons_succ]
    refine wpAnyH_take (i := 16) (v := .int .i64 (q : Int)) rfl (by kernel_rfl) (by kernel_rfl) (by kernel_rfl) (fun _ _ _ h => h) (Or.inl ⟨by rfl, ?_⟩) (by assumption) ?_
    · intro wx hSw; go_simp
    try simp only [Act.put, List.setIfInBounds_toArray, List.set_cons_zero, List.set_cons_succ, List.getElem_toArray, List.getElem_cons_zero, List.getElem_cons_succ]
    refine wpAnyH_take (i := 17) (v := .pointer (some ⟨gO, q, none⟩)) rfl (by kernel_rfl) (by kernel_rfl) (by kernel_rfl) (fun _ _ _ h => h) (Or.inl ⟨by rfl, ?_⟩) (by assumption) ?_
    · intro wx hSw; go_simp
    try simp only [Act.put, List.setIfInBounds_toArray, List.set_cons_zero, List.set_cons_succ, List.getElem_toArray, List.getElem_cons_zero, List.getElem_cons_succ]
    refine wpAnyH_take (i := 18) (v := .slice qa (V.N q) qc) rfl (by kernel_rfl) (by kernel_rfl) (by kernel_rfl) (fun _ _ _ h => h) (Or.inl ⟨by rfl, ?_⟩) (by assumption) ?_
    · intro wx hSw; have yo := (hSw.1 gO q lgO).trans oq; clear hSw; go_simp
    try simp only [Act.put, List.setIfInBounds_toArray, List.set_cons_zero, List.set_cons_succ, List.getElem_toArray, List.getElem_cons_zero, List.getElem_cons_succ]
    refine wpAnyH_take (i := 19) (v := .int .i64 (V.N q : Int)) rfl (by kernel_rfl) (by kernel_rfl) (by kernel_rfl) (fun _ _ _ h => h) (Or.inl ⟨by rfl, ?_⟩) (by assumption) ?_
    · intro wx hSw; go_simp
    try simp only [Act.put, List.setIfInBounds_toArray, List.set_cons_zero, List.set_cons_succ, List.getElem_toArray, List.getElem_cons_zero, List.getElem_cons_succ]
    refine wpAnyH_take (i := 20) (v := .int .i64 (V.X q - V.N q)) rfl (by kernel_rfl) (by kernel_rfl) (by kernel_rfl) (fun _ _ _ h => h) (Or.inl ⟨by rfl, ?_⟩) (by assumption) ?_
    · intro wx hSw; go_simp
    try simp only [Act.put, List.setIfInBounds_toArray, List.set_cons_zero, List.set_cons_succ, List.getElem_toArray, List.getElem_cons_zero, List.getElem_cons_succ]
    refine wpAnyH_take (i := 21) (v := .bool true) rfl (by kernel_rfl) (by kernel_rfl) (by kernel_rfl) (fun _ _ _ h => h) (Or.inl ⟨by rfl, ?_⟩) (by assumption) ?_
    · intro wx hSw; go_simp
    try simp only [Act.put, List.setIfInBounds_toArray, List.set_cons_zero, List.set_cons_succ, List.getElem_toArray, List.getElem_cons_zero, List.getElem_cons_succ]
    refine wpAnyH_take (i := 22) (v := .bool true) rfl (by kernel_rfl) (by kernel_rfl) (by kernel_rfl) (fun _ _ _ h => h) (Or.inl ⟨by rfl, ?_⟩) (by assumption) ?_
    · intro wx hSw; go_simp
    try simp only [Act.put, List.setIfInBounds_toArray, List.set_cons_zero, List.set_cons_succ, List.getElem_toArray, List.getElem_cons_zero, List.getElem_cons_succ]
    refine wpAnyH_done (by kernel_rfl) ?_ _
    clear hHeld
    obtain ⟨w3, e3⟩ : ∃ w3, w3 = w2.drew := ⟨_, rfl⟩
    rw [← e3]
    have k3 : Below w2.heap.size w2 w3 := by rw [e3]; exact (Below.refl _ _).drew
    have lx3 : x8 < w3.heap.size := by rw [e3]; exact lx
    have lr3 : w.heap.size + 1 < w3.heap.size := by rw [e3]; exact lr
    have hz9 : w3.heap.size = w2.heap.size := by rw [e3]; rfl
    have HZ9 : Hid (w3.heap.size = w2.heap.size) := hz9
    clear e3 hz9 xq oq fq hwr
    have A_w3 : Hid (Six w3 x8 [.int .i64 V.c, .slice aW V.nW kW, .int .i64 V.g, .slice (some ⟨gO, 0, none⟩) V.nO kO, .slice (some ⟨gX, 0, none⟩) V.nX kX, .slice aI V.nI kI]) := fun i hi => by have h := (fun g (hg : g < w2.heap.size) => sm_below k3 hg) x8 lx i; rw [h.1, h.2]; exact X2.out i hi
    have R_w3 : Hid (Six w3 (w.heap.size + 1) [.int .i64 0, .slice none 0 0, .int .i64 0, .slice none 0 0, .slice none 0 0, .slice none 0 0]) := fun i hi => by have h := (fun g (hg : g < w2.heap.size) => sm_below k3 hg) (w.heap.size + 1) lr i; rw [h.1, h.2]; exact R2.out i hi
    clear a0 a1 a2 a3 a4 a5 r0 f0 r1 f1 r2 f2 r3 f3 r4 f4 r5 f5
    have a0 : w3.cell? ⟨x8, 0, none⟩ = some (.int .i64 V.c) := (A_w3.out 0 (by decide)).1
    have a1 : w3.cell? ⟨x8, 1, none⟩ = some (.slice aW V.nW kW) := (A_w3.out 1 (by decide)).1
    have a2 : w3.cell? ⟨x8, 2, none⟩ = some (.int .i64 V.g) := (A_w3.out 2 (by decide)).1
    have a3 : w3.cell? ⟨x8, 3, none⟩ = some (.slice (some ⟨gO, 0, none⟩) V.nO kO) := (A_w3.out 3 (by decide)).1
    have a4 : w3.cell? ⟨x8, 4, none⟩ = some (.slice (some ⟨gX, 0, none⟩) V.nX kX) := (A_w3.out 4 (by decide)).1
    have a5 : w3.cell? ⟨x8, 5, none⟩ = some (.slice aI V.nI kI) := (A_w3.out 5 (by decide)).1
    have r0 : w3.cell? ⟨w.heap.size + 1, 0, none⟩ = some (.int .i64 0) := (R_w3.out 0 (by decide)).1
    have f0 : w3.frozen? ⟨w.heap.size + 1, 0, none⟩ = false := (R_w3.out 0 (by decide)).2
    have r1 : w3.cell? ⟨w.heap.size + 1, 1, none⟩ = some (.slice none 0 0) := (R_w3.out 1 (by decide)).1
    have f1 : w3.frozen? ⟨w.heap.size + 1, 1, none⟩ = false := (R_w3.out 1 (by decide)).2
    have r2 : w3.cell? ⟨w.heap.size + 1, 2, none⟩ = some (.int .i64 0) := (R_w3.out 2 (by decide)).1
    have f2 : w3.frozen? ⟨w.heap.size + 1, 2, none⟩ = false := (R_w3.out 2 (by decide)).2
    have r3 : w3.cell? ⟨w.heap.size + 1, 3, none⟩ = some (.slice none 0 0) := (R_w3.out 3 (by decide)).1
    have f3 : w3.frozen? ⟨w.heap.size + 1, 3, none⟩ = false := (R_w3.out 3 (by decide)).2
    have r4 : w3.cell? ⟨w.heap.size + 1, 4, none⟩ = some (.slice none 0 0) := (R_w3.out 4 (by decide)).1
    have f4 : w3.frozen? ⟨w.heap.size + 1, 4, none⟩ = false := (R_w3.out 4 (by decide)).2
    have r5 : w3.cell? ⟨w.heap.size + 1, 5, none⟩ = some (.slice none 0 0) := (R_w3.out 5 (by decide)).1
    have f5 : w3.frozen? ⟨w.heap.size + 1, 5, none⟩ = false := (R_w3.out 5 (by decide)).2
    have K3 : Hid (Below w2.heap.size w2 w3) := k3
    clear k3
    go_wp2
    refine bodyPost_ret (v := .tuple #[.agg #[.int .i64 V.c, .slice aW V.nW kW, .int .i64 V.g, .slice (some ⟨gO, 0, none⟩) V.nO kO, .slice (some ⟨gX, 0, none⟩) V.nX kX, .slice aI V.nI kI], .bool false]) (by simp [results, Tryz.results42, go_sem, r0, r1, r2, r3, r4, r5]) rfl ?_
    have hzz := size_put6 w3 (w.heap.size + 1) (.int .i64 V.c) (.slice aW V.nW kW) (.int .i64 V.g) (.slice (some ⟨gO, 0, none⟩) V.nO kO) (.slice (some ⟨gX, 0, none⟩) V.nX kX) (.slice aI V.nI kI)
    have hz9 := HZ9.out
    refine ⟨⟨_, _, rfl, hA.symm, ?_⟩, below_put6 (bthen B2.out K3.out) (Nat.le_succ _) _ _ _ _ _ _⟩
    rw [show V.after q z = V by simp [CV.after, hA]]
    show OwnC w.heap.size (put6 w3 (w.heap.size + 1) (.int .i64 V.c) (.slice aW V.nW kW) (.int .i64 V.g) (.slice (some ⟨gO, 0, none⟩) V.nO kO) (.slice (some ⟨gX, 0, none⟩) V.nX kX) (.slice aI V.nI kI)).heap.size (put6 w3 (w.heap.size + 1) (.int .i64 V.c) (.slice aW V.nW kW) (.int .i64 V.g) (.slice (some ⟨gO, 0, none⟩) V.nO kO) (.slice (some ⟨gX, 0, none⟩) V.nX kX) (.slice aI V.nI kI)) _ _
    rw [hzz]
    exact OW.out.more (by omega) (by omega) (Nat.le_of_eq hzz.symm) (fun y h1 h2 => Sm.trans (sm_below K3.out (by omega)) (sm_put6 (by omega) (.int .i64 V.c) (.slice aW V.nW kW) (.int .i64 V.g) (.slice (some ⟨gO, 0, none⟩) V.nO kO) (.slice (some ⟨gX, 0, none⟩) V.nX kX) (.slice aI V.nI kI)))
  have hA : ackB V q z = true := by
    simp only [ackB, hz1, Bool.false_or, Bool.not_eq_true', decide_eq_false_iff_not]
    exact fun e => hz2 (hone.1 e)
  have hN0 : V.N q ≠ 0 := fun e => by omega
  have hz3 : decide (z ≤ V.X q - V.N q) = false := by simp; omega
  clear hz hone hz2
  refine wp_region_held_drew (S := fun w' => (∀ b o, b < w2.heap.size → w'.cell? ⟨b, o, none⟩ = w2.cell? ⟨b, o, none⟩) ∧ w2.heap.size ≤ w'.heap.size) (by kernel_rfl) ⟨fun _ _ _ => rfl, Nat.le_refl _⟩ ?_
  intro hHeld
  refine wpAnyH_take (i := 0) (v := .int .i64 z) rfl (by kernel_rfl) (by kernel_rfl) (by kernel_rfl) (fun _ _ _ h => h) (Or.inl ⟨by rfl, ?_⟩) (by assumption) ?_
  · intro wx hSw; go_simp
  try simp only [Act.put, List.setIfInBounds_toArray, List.set_cons_zero, List.set_cons_succ, List.getElem_toArray, List.getElem_cons_zero]
  refine wpAnyH_take (i := 1) (v := .pointer (some ⟨x8, 4, none⟩)) rfl (by kernel_rfl) (by kernel_rfl) (by kernel_rfl) (fun _ _ _ h => h) (Or.inl ⟨by rfl, ?_⟩) (by assumption) ?_
  · intro wx hSw; go_simp
  try simp only [Act.put, List.setIfInBounds_toArray, List.set_cons_zero, List.set_cons_succ, List.getElem_toArray, List.getElem_cons_zero, List.getElem_cons_succ]
  refine wpAnyH_take (i := 2) (v := .slice (some ⟨gX, 0, none⟩) V.nX kX) rfl (by kernel_rfl) (by kernel_rfl) (by kernel_rfl) (fun _ _ _ h => h) (Or.inl ⟨by rfl, ?_⟩) (by assumption) ?_
  · intro wx hSw; have y4 := (hSw.1 x8 4 lx).trans a4; clear hSw; go_simp
  try simp only [Act.put, List.setIfInBounds_toArray, List.set_cons_zero, List.set_cons_succ, List.getElem_toArray, List.getElem_cons_zero, List.getElem_cons_succ]
  refine wpAnyH_take (i := 3) (v := .int .i64 (q : Int)) rfl (by kernel_rfl) (by kernel_rfl) (by kernel_rfl) (fun _ _ _ h => h) (Or.inl ⟨by rfl, ?_⟩) (by assumption) ?_
  · intro wx hSw; go_simp
  try simp only [Act.put, List.setIfInBounds_toArray, List.set_cons_zero, List.set_cons_succ, List.getElem_toArray, List.getElem_cons_zero, List.getElem_cons_succ]
  refine wpAnyH_take (i := 4) (v := .pointer (some ⟨gX, q, none⟩)) rfl (by kernel_rfl) (by kernel_rfl) (by kernel_rfl) (fun _ _ _ h => h) (Or.inl ⟨by rfl, ?_⟩) (by assumption) ?_
  · intro wx hSw; go_simp
  try simp only [Act.put, List.setIfInBounds_toArray, List.set_cons_zero, List.set_cons_succ, List.getElem_toArray, List.getElem_cons_zero, List.getElem_cons_succ]
  refine wpAnyH_take (i := 5) (v := .int .i64 (V.X q)) rfl (by kernel_rfl) (by kernel_rfl) (by kernel_rfl) (fun _ _ _ h => h) (Or.inl ⟨by rfl, ?_⟩) (by assumption) ?_
  · intro wx hSw; have yx := (hSw.1 gX q lgX).trans xq; clear hSw; go_simp
  try simp only [Act.put, List.setIfInBounds_toArray, List.set_cons_zero, List.set_cons_succ, List.getElem_toArray, List.getElem_cons_zero, List.getElem_cons_succ]
  refine wpAnyH_take (i := 6) (v := .bool false) rfl (by kernel_rfl) (by kernel_rfl) (by kernel_rfl) (fun _ _ _ h => h) (Or.inl ⟨by rfl, ?_⟩) (by assumption) ?_
  · intro wx hSw; go_simp
  try simp only [Act.put, List.setIfInBounds_toArray, List.set_cons_zero, List.set_cons_succ, List.getElem_toArray, List.getElem_cons_zero, List.getElem_cons_succ]
  refine wpAnyH_take (i := 7) (v := .bool false) rfl (by kernel_rfl) (by kernel_rfl) (by kernel_rfl) (fun _ _ _ h => h) (Or.inl ⟨by rfl, ?_⟩) (by assumption) ?_
  · intro wx hSw; go_simp
  try simp only [Act.put, List.setIfInBounds_toArray, List.set_cons_zero, List.set_cons_succ, List.getElem_toArray, List.getElem_cons_zero, List.getElem_cons_succ]
  refine wpAnyH_take (i := 8) (v := .int .i64 z) rfl (by kernel_rfl) (by kernel_rfl) (by kernel_rfl) (fun _ _ _ h => h) (Or.inl ⟨by rfl, ?_⟩) (by assumption) ?_
  · intro wx hSw; go_simp
  try simp only [Act.put, List.setIfInBounds_toArray, List.set_cons_zero, List.set_cons_succ, List.getElem_toArray, List.getElem_cons_zero, List.getElem_cons_succ]
  refine wpAnyH_take (i := 9) (v := .pointer (some ⟨x8, 4, none⟩)) rfl (by kernel_rfl) (by kernel_rfl) (by kernel_rfl) (fun _ _ _ h => h) (Or.inl ⟨by rfl, ?_⟩) (by assumption) ?_
  · intro wx hSw; go_simp
  try simp only [Act.put, List.setIfInBounds_toArray, List.set_cons_zero, List.set_cons_succ, List.getElem_toArray, List.getElem_cons_zero, List.getElem_cons_succ]
  refine wpAnyH_take (i := 10) (v := .slice (some ⟨gX, 0, none⟩) V.nX kX) rfl (by kernel_rfl) (by kernel_rfl) (by kernel_rfl) (fun _ _ _ h => h) (Or.inl ⟨by rfl, ?_⟩) (by assumption) ?_
  · intro wx hSw; have y4 := (hSw.1 x8 4 lx).trans a4; clear hSw; go_simp
  try simp only [Act.put, List.setIfInBounds_toArray, List.set_cons_zero, List.set_cons_succ, List.getElem_toArray, List.getElem_cons_zero, List.getElem_cons_succ]
  refine wpAnyH_take (i := 11) (v := .int .i64 (q : Int)) rfl (by kernel_rfl) (by kernel_rfl) (by kernel_rfl) (fun _ _ _ h => h) (Or.inl ⟨by rfl, ?_⟩) (by assumption) ?_
  · intro wx hSw; go_simp
  try simp only [Act.put, List.setIfInBounds_toArray, List.set_cons_zero, List.set_cons_succ, List.getElem_toArray, List.getElem_cons_zero, List.getElem_cons_succ]
  refine wpAnyH_take (i := 12) (v := .pointer (some ⟨gX, q, none⟩)) rfl (by kernel_rfl) (by kernel_rfl) (by kernel_rfl) (fun _ _ _ h => h) (Or.inl ⟨by rfl, ?_⟩) (by assumption) ?_
  · intro wx hSw; go_simp
  try simp only [Act.put, List.setIfInBounds_toArray, List.set_cons_zero, List.set_cons_succ, List.getElem_toArray, List.getElem_cons_zero, List.getElem_cons_succ]
  refine wpAnyH_take (i := 13) (v := .int .i64 (V.X q)) rfl (by kernel_rfl) (by kernel_rfl) (by kernel_rfl) (fun _ _ _ h => h) (Or.inl ⟨by rfl, ?_⟩) (by assumption) ?_
  · intro wx hSw; have yx := (hSw.1 gX q lgX).trans xq; clear hSw; go_simp
  try simp only [Act.put, List.setIfInBounds_toArray, List.set_cons_zero, List.set_cons_succ, List.getElem_toArray, List.getElem_cons_zero, List.getElem_cons_succ]
  refine wpAnyH_take (i := 14) (v := .pointer (some ⟨x8, 3, none⟩)) rfl (by kernel_rfl) (by kernel_rfl) (by kernel_rfl) (fun _ _ _ h => h) (Or.inl ⟨by rfl, ?_⟩) (by assumption) ?_
  · intro wx hSw; go_simp
  try simp only [Act.put, List.setIfInBounds_toArray, List.set_cons_zero, List.set_cons_succ, List.getElem_toArray, List.getElem_cons_zero, List.getElem_cons_succ]
  refine wpAnyH_take (i := 15) (v := .slice (some ⟨gO, 0, none⟩) V.nO kO) rfl (by kernel_rfl) (by kernel_rfl) (by kernel_rfl) (fun _ _ _ h => h) (Or.inl ⟨by rfl, ?_⟩) (by assumption) ?_
  · intro wx hSw; have y3 := (hSw.1 x8 3 lx).trans a3; clear hSw; go_simp
  try simp only [Act.put, List.setIfInBounds_toArray, List.set_cons_zero, List.set_cons_succ, List.getElem_toArray, List.getElem_cons_zero, List.getElem_cons_succ]
  refine wpAnyH_take (i := 16) (v := .int .i64 (q : Int)) rfl (by kernel_rfl) (by kernel_rfl) (by kernel_rfl) (fun _ _ _ h => h) (Or.inl ⟨by rfl, ?_⟩) (by assumption) ?_
  · intro wx hSw; go_simp
  try simp only [Act.put, List.setIfInBounds_toArray, List.set_cons_zero, List.set_cons_succ, List.getElem_toArray, List.getElem_cons_zero, List.getElem_cons_succ]
  refine wpAnyH_take (i := 17) (v := .pointer (some ⟨gO, q, none⟩)) rfl (by kernel_rfl) (by kernel_rfl) (by kernel_rfl) (fun _ _ _ h => h) (Or.inl ⟨by rfl, ?_⟩) (by assumption) ?_
  · intro wx hSw; go_simp
  try simp only [Act.put, List.setIfInBounds_toArray, List.set_cons_zero, List.set_cons_succ, List.getElem_toArray, List.getElem_cons_zero, List.getElem_cons_succ]
  refine wpAnyH_take (i := 18) (v := .slice qa (V.N q) qc) rfl (by kernel_rfl) (by kernel_rfl) (by kernel_rfl) (fun _ _ _ h => h) (Or.inl ⟨by rfl, ?_⟩) (by assumption) ?_
  · intro wx hSw; have yo := (hSw.1 gO q lgO).trans oq; clear hSw; go_simp
  try simp only [Act.put, List.setIfInBounds_toArray, List.set_cons_zero, List.set_cons_succ, List.getElem_toArray, List.getElem_cons_zero, List.getElem_cons_succ]
  refine wpAnyH_take (i := 19) (v := .int .i64 (V.N q : Int)) rfl (by kernel_rfl) (by kernel_rfl) (by kernel_rfl) (fun _ _ _ h => h) (Or.inl ⟨by rfl, ?_⟩) (by assumption) ?_
  · intro wx hSw; go_simp
  try simp only [Act.put, List.setIfInBounds_toArray, List.set_cons_zero, List.set_cons_succ, List.getElem_toArray, List.getElem_cons_zero, List.getElem_cons_succ]
  refine wpAnyH_take (i := 20) (v := .int .i64 (V.X q - V.N q)) rfl (by kernel_rfl) (by kernel_rfl) (by kernel_rfl) (fun _ _ _ h => h) (Or.inl ⟨by rfl, ?_⟩) (by assumption) ?_
  · intro wx hSw; go_simp
  try simp only [Act.put, List.setIfInBounds_toArray, List.set_cons_zero, List.set_cons_succ, List.getElem_toArray, List.getElem_cons_zero, List.getElem_cons_succ]
  refine wpAnyH_take (i := 21) (v := .bool false) rfl (by kernel_rfl) (by kernel_rfl) (by kernel_rfl) (fun _ _ _ h => h) (Or.inl ⟨by rfl, ?_⟩) (by assumption) ?_
  · intro wx hSw; go_simp
  try simp only [Act.put, List.setIfInBounds_toArray, List.set_cons_zero, List.set_cons_succ, List.getElem_toArray, List.getElem_cons_zero, List.getElem_cons_succ]
  refine wpAnyH_take (i := 22) (v := .bool false) rfl (by kernel_rfl) (by kernel_rfl) (by kernel_rfl) (fun _ _ _ h => h) (Or.inl ⟨by rfl, ?_⟩) (by assumption) ?_
  · intro wx hSw; go_simp
  try simp only [Act.put, List.setIfInBounds_toArray, List.set_cons_zero, List.set_cons_succ, List.getElem_toArray, List.getElem_cons_zero, List.getElem_cons_succ]
  refine wpAnyH_done (by kernel_rfl) ?_ _
  clear hHeld
  obtain ⟨w3, e3⟩ : ∃ w3, w3 = w2.drew := ⟨_, rfl⟩
  rw [← e3]
  have k3 : Below w2.heap.size w2 w3 := by rw [e3]; exact (Below.refl _ _).drew
  have lx3 : x8 < w3.heap.size := by rw [e3]; exact lx
  have lr3 : w.heap.size + 1 < w3.heap.size := by rw [e3]; exact lr
  have lgO3 : gO < w3.heap.size := by rw [e3]; exact lgO
  have HZ9 : Hid (w3.heap.size = w2.heap.size) := by rw [e3]; rfl
  have oq3 : w3.cell? ⟨gO, q, none⟩ = some (.slice qa (V.N q) qc) := (k3.cell (p := ⟨gO, q, none⟩) lgO).trans oq
  have fq3 : w3.frozen? ⟨gO, q, none⟩ = false := (k3.frozen (p := ⟨gO, q, none⟩) lgO).trans fq
  have hxO : ¬ x8 = gO := by omega
  clear e3 xq oq fq hwr
  have A_w3 : Hid (Six w3 x8 [.int .i64 V.c, .slice aW V.nW kW, .int .i64 V.g, .slice (some ⟨gO, 0, none⟩) V.nO kO, .slice (some ⟨gX, 0, none⟩) V.nX kX, .slice aI V.nI kI]) := fun i hi => by have h := (fun g (hg : g < w2.heap.size) => sm_below k3 hg) x8 lx i; rw [h.1, h.2]; exact X2.out i hi
  have R_w3 : Hid (Six w3 (w.heap.size + 1) [.int .i64 0, .slice none 0 0, .int .i64 0, .slice none 0 0, .slice none 0 0, .slice none 0 0]) := fun i hi => by have h := (fun g (hg : g < w2.heap.size) => sm_below k3 hg) (w.heap.size + 1) lr i; rw [h.1, h.2]; exact R2.out i hi
  clear a0 a1 a2 a3 a4 a5 r0 f0 r1 f1 r2 f2 r3 f3 r4 f4 r5 f5
  have a0 : w3.cell? ⟨x8, 0, none⟩ = some (.int .i64 V.c) := (A_w3.out 0 (by decide)).1
  have a1 : w3.cell? ⟨x8, 1, none⟩ = some (.slice aW V.nW kW) := (A_w3.out 1 (by decide)).1
  have a2 : w3.cell? ⟨x8, 2, none⟩ = some (.int .i64 V.g) := (A_w3.out 2 (by decide)).1
  have a3 : w3.cell? ⟨x8, 3, none⟩ = some (.slice (some ⟨gO, 0, none⟩) V.nO kO) := (A_w3.out 3 (by decide)).1
  have a4 : w3.cell? ⟨x8, 4, none⟩ = some (.slice (some ⟨gX, 0, none⟩) V.nX kX) := (A_w3.out 4 (by decide)).1
  have a5 : w3.cell? ⟨x8, 5, none⟩ = some (.slice aI V.nI kI) := (A_w3.out 5 (by decide)).1
  have r0 : w3.cell? ⟨w.heap.size + 1, 0, none⟩ = some (.int .i64 0) := (R_w3.out 0 (by decide)).1
  have f0 : w3.frozen? ⟨w.heap.size + 1, 0, none⟩ = false := (R_w3.out 0 (by decide)).2
  have r1 : w3.cell? ⟨w.heap.size + 1, 1, none⟩ = some (.slice none 0 0) := (R_w3.out 1 (by decide)).1
  have f1 : w3.frozen? ⟨w.heap.size + 1, 1, none⟩ = false := (R_w3.out 1 (by decide)).2
  have r2 : w3.cell? ⟨w.heap.size + 1, 2, none⟩ = some (.int .i64 0) := (R_w3.out 2 (by decide)).1
  have f2 : w3.frozen? ⟨w.heap.size + 1, 2, none⟩ = false := (R_w3.out 2 (by decide)).2
  have r3 : w3.cell? ⟨w.heap.size + 1, 3, none⟩ = some (.slice none 0 0) := (R_w3.out 3 (by decide)).1
  have f3 : w3.frozen? ⟨w.heap.size + 1, 3, none⟩ = false := (R_w3.out 3 (by decide)).2
  have r4 : w3.cell? ⟨w.heap.size + 1, 4, none⟩ = some (.slice none 0 0) := (R_w3.out 4 (by decide)).1
  have f4 : w3.frozen? ⟨w.heap.size + 1, 4, none⟩ = false := (R_w3.out 4 (by decide)).2
  have r5 : w3.cell? ⟨w.heap.size + 1, 5, none⟩ = some (.slice none 0 0) := (R_w3.out 5 (by decide)).1
  have f5 : w3.frozen? ⟨w.heap.size + 1, 5, none⟩ = false := (R_w3.out 5 (by decide)).2
  have K3 : Hid (Below w2.heap.size w2 w3) := k3
  clear k3
  obtain rfl := HQA.out hN0
  have OQ : Hid (P8.Own8 w2 (xs q) (V.N q) (V.O q) (V.N q)) := by rcases HP.out with h | ⟨_, _, _, _, _, h⟩; exact absurd h.1 hN0; exact h
  have lq : l0 ≤ xs q ∧ xs q < x8 := HP.out.in hN0
  go_wp2_with fail
  refine wp_region_held_drew (S := fun w' => (∀ b o, b < w3.heap.size → ¬ b = gO → w'.cell? ⟨b, o, none⟩ = w3.cell? ⟨b, o, none⟩) ∧ w3.heap.size ≤ w'.heap.size) (by kernel_rfl) ⟨fun _ _ _ _ => rfl, Nat.le_refl _⟩ ?_
  intro hHeld
  refine wpAnyH_take (i := 0) (v := .pointer (some ⟨x8, 3, none⟩)) rfl (by kernel_rfl) (by kernel_rfl) (by kernel_rfl) (fun _ _ _ h => h) (Or.inl ⟨by rfl, ?_⟩) (by assumption) ?_
  · intro wx hSw; go_simp
  try simp only [Act.put, List.setIfInBounds_toArray, List.set_cons_zero, List.set_cons_succ, List.getElem_toArray, List.getElem_cons_zero]
  refine wpAnyH_take (i := 1) (v := .slice (some ⟨gO, 0, none⟩) V.nO kO) rfl (by kernel_rfl) (by kernel_rfl) (by kernel_rfl) (fun _ _ _ h => h) (Or.inl ⟨by rfl, ?_⟩) (by assumption) ?_
  · intro wx hSw; have y3 := (hSw.1 x8 3 lx3 hxO).trans a3; clear hSw; go_simp
  try simp only [Act.put, List.setIfInBounds_toArray, List.set_cons_zero, List.set_cons_succ, List.getElem_toArray, List.getElem_cons_zero, List.getElem_cons_succ]
  refine wpAnyH_take (i := 2) (v := .int .i64 (q : Int)) rfl (by kernel_rfl) (by kernel_rfl) (by kernel_rfl) (fun _ _ _ h => h) (Or.inl ⟨by rfl, ?_⟩) (by assumption) ?_
  · intro wx hSw; go_simp
  try simp only [Act.put, List.setIfInBounds_toArray, List.set_cons_zero, List.set_cons_succ, List.getElem_toArray, List.getElem_cons_zero, List.getElem_cons_succ]
  refine wpAnyH_take (i := 3) (v := .pointer (some ⟨x8, 3, none⟩)) rfl (by kernel_rfl) (by kernel_rfl) (by kernel_rfl) (fun _ _ _ h => h) (Or.inl ⟨by rfl, ?_⟩) (by assumption) ?_
  · intro wx hSw; go_simp
  try simp only [Act.put, List.setIfInBounds_toArray, List.set_cons_zero, List.set_cons_succ, List.getElem_toArray, List.getElem_cons_zero, List.getElem_cons_succ]
  refine wpAnyH_take (i := 4) (v := .slice (some ⟨gO, 0, none⟩) V.nO kO) rfl (by kernel_rfl) (by kernel_rfl) (by kernel_rfl) (fun _ _ _ h => h) (Or.inl ⟨by rfl, ?_⟩) (by assumption) ?_
  · intro wx hSw; have y3 := (hSw.1 x8 3 lx3 hxO).trans a3; clear hSw; go_simp
  try simp only [Act.put, List.setIfInBounds_toArray, List.set_cons_zero, List.set_cons_succ, List.getElem_toArray, List.getElem_cons_zero, List.getElem_cons_succ]
  refine wpAnyH_take (i := 5) (v := .int .i64 (q : Int)) rfl (by kernel_rfl) (by kernel_rfl) (by kernel_rfl) (fun _ _ _ h => h) (Or.inl ⟨by rfl, ?_⟩) (by assumption) ?_
  · intro wx hSw; go_simp
  try simp only [Act.put, List.setIfInBounds_toArray, List.set_cons_zero, List.set_cons_succ, List.getElem_toArray, List.getElem_cons_zero, List.getElem_cons_succ]
  refine wpAnyH_take (i := 6) (v := .pointer (some ⟨gO, q, none⟩)) rfl (by kernel_rfl) (by kernel_rfl) (by kernel_rfl) (fun _ _ _ h => h) (Or.inl ⟨by rfl, ?_⟩) (by assumption) ?_
  · intro wx hSw; go_simp
  try simp only [Act.put, List.setIfInBounds_toArray, List.set_cons_zero, List.set_cons_succ, List.getElem_toArray, List.getElem_cons_zero, List.getElem_cons_succ]
  refine wpAnyH_take (i := 8) (v := .int .i64 z) rfl (by kernel_rfl) (by kernel_rfl) (by kernel_rfl) (fun _ _ _ h => h) (Or.inl ⟨by rfl, ?_⟩) (by assumption) ?_
  · intro wx hSw; go_simp
  try simp only [Act.put, List.setIfInBounds_toArray, List.set_cons_zero, List.set_cons_succ, List.getElem_toArray, List.getElem_cons_zero, List.getElem_cons_succ]
  refine wpAnyH_ready (rs := [7]) (by kernel_rfl) (by simp) ?_
  refine AllReadyH.cons rfl (fun K hK => ?_) AllReadyH.nil
  go_simp
  refine hK.out _ _ hHeld (fun hNew => ?_)
  clear hK K hHeld
  have hHeld := hNew
  clear hNew
  try simp only [Act.put, List.setIfInBounds_toArray, List.set_cons_zero, List.set_cons_succ, List.getElem_toArray, List.getElem_cons_zero, List.getElem_cons_succ]
  refine wpAnyH_ready (rs := [9]) (by kernel_rfl) (by simp) ?_
  refine AllReadyH.cons rfl (fun K hK => ?_) AllReadyH.nil
  go_simp
  go_wp2_with fail
  refine (P8.from_spec z (xs q) 0 (V.N q) qc (V.O q) hNq w3.drew (by have := HZ9.out; show xs q < w3.heap.size; omega) (fun k j h1 h2 => (K3.out.cell (p := ⟨xs q, _, none⟩) (by show xs q < _; omega)).trans (P8.own_row OQ.out k j h1 h2))).mono ?_
  rintro e w4 ⟨u, rfl, hu, hb4⟩
  obtain ⟨g9, uc, ua, hue, hg9, hRP⟩ := rp_ofL (lo := w3.heap.size) hu (Nat.le_refl _)
  subst hue
  obtain ⟨r, hr⟩ : ∃ r, r = (P8.rest (V.O q) (V.N q) z).length := ⟨_, rfl⟩
  rw [← hr]
  have HR : Hid (r = (P8.rest (V.O q) (V.N q) z).length) := hr
  have HRP : Hid _ := hRP
  have hb5 : Below w3.heap.size w3 w4 := bthen ((Below.refl _ _).drew) hb4
  have z4 : w3.heap.size ≤ w4.heap.size := hb5.size
  have hg9b : w3.heap.size ≤ g9 := hg9
  clear hr hu hRP hg9
  refine hK.out _ _ ⟨fun b o h1 h2 => hb5.cell (p := ⟨b, o, none⟩) h1, z4⟩ (fun hNew => ?_)
  clear hK K hHeld
  have hHeld := hNew
  clear hNew
  try simp only [Act.put, List.setIfInBounds_toArray, List.set_cons_zero, List.set_cons_succ, List.getElem_toArray, List.getElem_cons_zero, List.getElem_cons_succ]
  have oq4 : w4.cell? ⟨gO, q, none⟩ = some (.slice (some ⟨xs q, 0, none⟩) (V.N q) qc) := (hb5.cell (p := ⟨gO, q, none⟩) lgO3).trans oq3
  have fq4 : w4.frozen? ⟨gO, q, none⟩ = false := (hb5.frozen (p := ⟨gO, q, none⟩) lgO3).trans fq3
  have lgO4 : gO < w4.heap.size := by omega
  clear oq3 fq3
  refine wpAnyH_take (i := 10) (v := .pointer (some ⟨gO, q, none⟩)) rfl (by kernel_rfl) (by kernel_rfl) (by kernel_rfl) (fun _ _ _ h => h) (Or.inl ⟨by rfl, ?_⟩) (by assumption) ?_
  · intro wx hSw; go_simp
  try simp only [Act.put, List.setIfInBounds_toArray, List.set_cons_zero, List.set_cons_succ, List.getElem_toArray, List.getElem_cons_zero, List.getElem_cons_succ]
  refine wpAnyH_ready (rs := [11]) (by kernel_rfl) (by simp) ?_
  refine AllReadyH.cons rfl (fun K hK => ?_) AllReadyH.nil
  clear hHeld
  go_simp
  refine hK.out _ _ ⟨fun b o h1 h2 => (set_out (fun e => h2 e.1.symm)).trans (hb5.cell (p := ⟨b, o, none⟩) h1), by rw [set_size]; exact z4⟩ (fun hNew => ?_)
  clear hK K hNew
  try simp only [Act.put, List.setIfInBounds_toArray, List.set_cons_zero, List.set_cons_succ, List.getElem_toArray, List.getElem_cons_zero, List.getElem_cons_succ]
  refine wpAnyH_done (by kernel_rfl) ?_ _
  obtain ⟨w5, e5⟩ : ∃ w5, w5 = (w4.setCell ⟨gO, q, none⟩ (.slice ua r uc)) := ⟨_, rfl⟩
  rw [← e5]
  have s5 : ∀ g, g < w2.heap.size → ¬ g = gO → Sm w2 w5 g := fun g h1 h2 => by rw [e5]; exact ((sm_below K3.out h1).trans (sm_below hb5 (by have := HZ9.out; omega))).trans (fun o => ⟨set_out (fun e => h2 e.1.symm), set_frozen⟩)
  have S5 : Hid (∀ g, g < w2.heap.size → ¬ g = gO → Sm w2 w5 g) := s5
  have z5 : Hid (w5.heap.size = w4.heap.size) := by rw [e5]; exact set_size
  have B5 : Hid (Below w.heap.size w w5) := by rw [e5]; exact (bthen (bthen B2.out K3.out) hb5).setCell (by show w.heap.size ≤ gO; omega) _
  have G5 : Hid (∀ k, k < V.nO → w5.cell? ⟨gO, k, none⟩ = some (if k = q then .slice ua r uc else sl k)) := fun k hk => by
      rw [e5]
      by_cases e : k = q
      · subst e; rw [if_pos rfl]; exact set_in (by rw [oq4]; rfl)
      · rw [if_neg e, set_out (fun h => e h.2.symm), hb5.cell (p := ⟨gO, k, none⟩) lgO3, K3.out.cell (p := ⟨gO, k, none⟩) lgO]; exact (CH.out k hk).1
  have P5 : Hid (RP w3.heap.size w4.heap.size w5 (.slice ua r uc) r (fun i j => V.O q (P8.rest (V.O q) (V.N q) z)[i]! j) g9) := by
      have h := HRP.out
      rw [← HR.out] at h
      exact RP.go h (Nat.le_refl _) (Nat.le_refl _) (by rw [z5.out]; exact Nat.le_refl _) (fun _ h1 _ => by rw [e5]; exact fun o => ⟨set_out (fun e => by have := e.1; omega), set_frozen⟩)
  have lx5 : x8 < w5.heap.size := by rw [z5.out]; omega
  have lr5 : w.heap.size + 1 < w5.heap.size := by rw [z5.out]; omega
  clear e5 oq4 fq4 hb5 hb4 s5
  have A_w5 : Hid (Six w5 x8 [.int .i64 V.c, .slice aW V.nW kW, .int .i64 V.g, .slice (some ⟨gO, 0, none⟩) V.nO kO, .slice (some ⟨gX, 0, none⟩) V.nX kX, .slice aI V.nI kI]) := fun i hi => by have h := S5.out x8 lx hxO i; rw [h.1, h.2]; exact X2.out i hi
  have R_w5 : Hid (Six w5 (w.heap.size + 1) [.int .i64 0, .slice none 0 0, .int .i64 0, .slice none 0 0, .slice none 0 0, .slice none 0 0]) := fun i hi => by have h := S5.out (w.heap.size + 1) lr (by omega) i; rw [h.1, h.2]; exact R2.out i hi
  clear a0 a1 a2 a3 a4 a5 r0 f0 r1 f1 r2 f2 r3 f3 r4 f4 r5 f5
  have a0 : w5.cell? ⟨x8, 0, none⟩ = some (.int .i64 V.c) := (A_w5.out 0 (by decide)).1
  have a1 : w5.cell? ⟨x8, 1, none⟩ = some (.slice aW V.nW kW) := (A_w5.out 1 (by decide)).1
  have a2 : w5.cell? ⟨x8, 2, none⟩ = some (.int .i64 V.g) := (A_w5.out 2 (by decide)).1
  have a3 : w5.cell? ⟨x8, 3, none⟩ = some (.slice (some ⟨gO, 0, none⟩) V.nO kO) := (A_w5.out 3 (by decide)).1
  have a4 : w5.cell? ⟨x8, 4, none⟩ = some (.slice (some ⟨gX, 0, none⟩) V.nX kX) := (A_w5.out 4 (by decide)).1
  have a5 : w5.cell? ⟨x8, 5, none⟩ = some (.slice aI V.nI kI) := (A_w5.out 5 (by decide)).1
  have r0 : w5.cell? ⟨w.heap.size + 1, 0, none⟩ = some (.int .i64 0) := (R_w5.out 0 (by decide)).1
  have f0 : w5.frozen? ⟨w.heap.size + 1, 0, none⟩ = false := (R_w5.out 0 (by decide)).2
  have r1 : w5.cell? ⟨w.heap.size + 1, 1, none⟩ = some (.slice none 0 0) := (R_w5.out 1 (by decide)).1
  have f1 : w5.frozen? ⟨w.heap.size + 1, 1, none⟩ = false := (R_w5.out 1 (by decide)).2
  have r2 : w5.cell? ⟨w.heap.size + 1, 2, none⟩ = some (.int .i64 0) := (R_w5.out 2 (by decide)).1
  have f2 : w5.frozen? ⟨w.heap.size + 1, 2, none⟩ = false := (R_w5.out 2 (by decide)).2
  have r3 : w5.cell? ⟨w.heap.size + 1, 3, none⟩ = some (.slice none 0 0) := (R_w5.out 3 (by decide)).1
  have f3 : w5.frozen? ⟨w.heap.size + 1, 3, none⟩ = false := (R_w5.out 3 (by decide)).2
  have r4 : w5.cell? ⟨w.heap.size + 1, 4, none⟩ = some (.slice none 0 0) := (R_w5.out 4 (by decide)).1
  have f4 : w5.frozen? ⟨w.heap.size + 1, 4, none⟩ = false := (R_w5.out 4 (by decide)).2
  have r5 : w5.cell? ⟨w.heap.size + 1, 5, none⟩ = some (.slice none 0 0) := (R_w5.out 5 (by decide)).1
  have f5 : w5.frozen? ⟨w.heap.size + 1, 5, none⟩ = false := (R_w5.out 5 (by decide)).2
  go_wp2
  refine bodyPost_ret (v := .tuple #[.agg #[.int .i64 V.c, .slice aW V.nW kW, .int .i64 V.g, .slice (some ⟨gO, 0, none⟩) V.nO kO, .slice (some ⟨gX, 0, none⟩) V.nX kX, .slice aI V.nI kI], .bool true]) (by simp [results, Tryz.results42, go_sem, r0, r1, r2, r3, r4, r5]) rfl ?_
  have hzz := size_put6 w5 (w.heap.size + 1) (.int .i64 V.c) (.slice aW V.nW kW) (.int .i64 V.g) (.slice (some ⟨gO, 0, none⟩) V.nO kO) (.slice (some ⟨gX, 0, none⟩) V.nX kX) (.slice aI V.nI kI)
  have hz9 := HZ9.out
  have hz5 := z5.out
  refine ⟨⟨_, _, rfl, hA.symm, ?_⟩, below_put6 B5.out (Nat.le_succ _) _ _ _ _ _ _⟩
  rw [show V.after q z = V.ack q z by simp [CV.after, hA]]
  show OwnC w.heap.size (put6 w5 (w.heap.size + 1) (.int .i64 V.c) (.slice aW V.nW kW) (.int .i64 V.g) (.slice (some ⟨gO, 0, none⟩) V.nO kO) (.slice (some ⟨gX, 0, none⟩) V.nX kX) (.slice aI V.nI kI)).heap.size (put6 w5 (w.heap.size + 1) (.int .i64 V.c) (.slice aW V.nW kW) (.int .i64 V.g) (.slice (some ⟨gO, 0, none⟩) V.nO kO) (.slice (some ⟨gX, 0, none⟩) V.nX kX) (.slice aI V.nI kI)) _ _
  rw [hzz]
  have hF : ∀ g, ¬ g = w.heap.size + 1 → Sm w5 (put6 w5 (w.heap.size + 1) (.int .i64 V.c) (.slice aW V.nW kW) (.int .i64 V.g) (.slice (some ⟨gO, 0, none⟩) V.nO kO) (.slice (some ⟨gX, 0, none⟩) V.nX kX) (.slice aI V.nI kI)) g := fun g h => sm_put6 (fun e => h e.symm) (.int .i64 V.c) (.slice aW V.nW kW) (.int .i64 V.g) (.slice (some ⟨gO, 0, none⟩) V.nO kO) (.slice (some ⟨gX, 0, none⟩) V.nX kX) (.slice aI V.nI kI)
  have hSw : ∀ g, g < x8 → l0 ≤ g → ¬ g = gO → Sm w2 (put6 w5 (w.heap.size + 1) (.int .i64 V.c) (.slice aW V.nW kW) (.int .i64 V.g) (.slice (some ⟨gO, 0, none⟩) V.nO kO) (.slice (some ⟨gX, 0, none⟩) V.nX kX) (.slice aI V.nI kI)) g := fun g h1 h2 h3 => (S5.out g (by omega) h3).trans (hF g (by omega))
  obtain ⟨d1, d2, d3, d4, d5, d6⟩ := DH.out
  have e0 : (V.ack q z).N q = r := by rw [HR.out]; simp [CV.ack]
  have e1 : ∀ k, ¬ k = q → (V.ack q z).N k = V.N k := fun k hk => by simp [CV.ack, hk]
  have e2 : ∀ k, ¬ k = q → (V.ack q z).O k = V.O k := fun k hk => by simp [CV.ack, hk]
  have e3 : (V.ack q z).O q = fun i j => V.O q (P8.rest (V.O q) (V.N q) z)[i]! j := by simp [CV.ack]
  have hlt : ∀ k, k < V.nO → V.N k ≠ 0 → l0 ≤ xs k ∧ xs k < x8 := fun k hk e => (CH.out k hk).2.in e
  refine ownC_any (V := V.ack q z) (gW := gW) (gO := gO) (gX := gX) (gI := gI) (sl := fun k => if k = q then .slice ua r uc else sl k) (xs := fun k => if k = q then g9 else xs k) (RWH.out.go (by omega) (by omega) (Nat.le_of_eq hzz.symm) (fun _ h1 h2 => hSw _ h2 h1 d1)) (by omega) (by omega) (Nat.le_of_eq hzz.symm) (fun k hk => ⟨(hF gO (by omega) k).1.trans (G5.out k hk), ?_⟩) (RXH.out.go (by omega) (by omega) (Nat.le_of_eq hzz.symm) (fun _ h1 h2 => hSw _ h2 h1 (fun e => d4 e.symm))) (RIH.out.go (by omega) (by omega) (Nat.le_of_eq hzz.symm) (fun _ h1 h2 => hSw _ h2 h1 (fun e => d5 e.symm))) (fun _ => d1) (fun _ _ => d2) (fun _ _ => d3) (fun _ => d4) (fun _ => d5) (fun _ _ => d6) (fun k hk e => ?_) (fun i j hij hj n1 n2 => ?_)
  · by_cases e : k = q
    · subst e
      simp only [if_true]
      rw [e0, e3]
      exact P5.out.go (by omega) (by omega) (Nat.le_of_eq hzz.symm) (fun _ h1 h2 => hF g9 (by omega))
    · simp only [if_neg e]
      rw [e1 k e, e2 k e]
      exact (CH.out k hk).2.go (by omega) (by omega) (Nat.le_of_eq hzz.symm) (fun _ h1 h2 => hSw _ h2 h1 (H1.out k hk).2.1)
  · by_cases e' : k = q
    · subst e'
      simp only [if_true]
      exact ⟨fun h => by have := RWH.out.in h; omega, by omega, fun h => by have := RXH.out.in h; omega, fun h => by have := RIH.out.in h; omega⟩
    · simp only [if_neg e']
      have h := H1.out k hk
      exact ⟨fun _ => h.1, h.2.1, fun _ => h.2.2.1, fun _ => h.2.2.2⟩
  · have hj2 : j < V.nO := hj
    by_cases ei : i = q
    · subst ei
      have ej : ¬ j = i := by omega
      simp only [if_true, if_neg ej]
      rw [e1 j ej] at n2
      have := hlt j hj2 n2
      omega
    · simp only [if_neg ei]
      rw [e1 i ei] at n1
      by_cases ej : j = q
      · subst ej
        simp only [if_true]
        have := hlt i (by omega) n1
        omega
      · simp only [if_neg ej]
        exact H2.out i j (by omega) hj2 (by omega)

end Go.Proofs.YtoiehmnhfjmfeaaGreat
