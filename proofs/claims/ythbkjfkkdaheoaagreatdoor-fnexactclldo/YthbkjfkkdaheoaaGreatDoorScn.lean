/- sceneOf: where something happens in a cell: its copy, and its walkers in a map; conditions: the cell lies in memory of its own. -/
import Derived.Test.YthbkjfkkdaheoaaGreatDoorTk
import Derived.Test.YthbkjfkkdaheoaaGreatDoorLawNew
import Derived.Test.YthbkjfkkdaheoaaGreatDoorCCopyS
import Derived.Test.YthbkjfkkdaheoaaGreatDoorWm
namespace Go.Proofs.YthbkjfkkdaheoaaGreatDoor
open Go.RowKit Go.Deep
set_option linter.unusedVariables false
def Nine (w : World) (s : Nat) (l : List Value) : Prop := ∀ i, i < 9 → w.cell? ⟨s, i, none⟩ = some (l.getD i undef) ∧ w.frozen? ⟨s, i, none⟩ = false
def Scn (w : World) (c d : Int) (s b lc hc : Nat) (V : CV) (n : Nat) (M : Int → Option (Nat → Int)) : Prop :=
  (∃ aW kW aO kO aX kX aI kI, Nine w s [.int .i64 c, .int .i64 d, .int .i64 V.c, .slice aW V.nW kW, .int .i64 V.g, .slice aO V.nO kO, .slice aX V.nX kX, .slice aI V.nI kI, .map (some b)] ∧ OwnC lc hc w (.agg #[.int .i64 V.c, .slice aW V.nW kW, .int .i64 V.g, .slice aO V.nO kO, .slice aX V.nX kX, .slice aI V.nI kI]) V ∧ Thaw lc hc w (.agg #[.int .i64 V.c, .slice aW V.nW kW, .int .i64 V.g, .slice aO V.nO kO, .slice aX V.nX kX, .slice aI V.nI kI])) ∧ Wm w b n M ∧ s < w.heap.size ∧ ¬ s = b ∧ lc ≤ hc ∧ hc ≤ w.heap.size ∧ (b < lc ∨ hc ≤ b) ∧ (s < lc ∨ hc ≤ s)
theorem nine_new (W : World) (t : TypeId) (v0 v1 v2 v3 v4 v5 v6 v7 v8 : Value) : Nine (W.alloc (.cells #[v0, v1, v2, v3, v4, v5, v6, v7, v8] t)) W.heap.size [v0, v1, v2, v3, v4, v5, v6, v7, v8] := by
  intro i hi
  have : i = 0 ∨ i = 1 ∨ i = 2 ∨ i = 3 ∨ i = 4 ∨ i = 5 ∨ i = 6 ∨ i = 7 ∨ i = 8 := by omega
  rcases this with rfl | rfl | rfl | rfl | rfl | rfl | rfl | rfl | rfl <;> exact ⟨by simp, by simp⟩
set_option maxHeartbeats 8000000 in
theorem sceneOf (c d : Int) (v : Value) (V : CV) (lo : Nat) (hs0 : V.short 1048576) (hwf0 : ∀ k, k < V.nW → (Lit.int .i64 (V.W k 0)).wf = true) (w : World) (h : CopyAt lo w v V) :
    Calls Tryz.prog 49 #[.agg #[.int .i64 c, .int .i64 d], v] w fun e w' => ∃ s b lc hc, e = .returned (.pointer (some ⟨s, 0, none⟩)) ∧ Scn w' c d s b lc hc V V.nW (mapW V.W V.nW) ∧ w.heap.size ≤ s ∧ w.heap.size ≤ b ∧ w.heap.size ≤ lc ∧ Below w.heap.size w w' := by
  have hmm := @run_makeMap Tryz.prog
  obtain ⟨bW, bO, bX, bI, q0, q1, q2, q3, q4, rfl, g1, g2, g3, g4⟩ := h
  have CP : Hid (CopyAt lo w (.agg #[.int .i64 V.c, .slice (some ⟨bW, 0, none⟩) V.nW V.nW, .int .i64 V.g, .slice (some ⟨bO, 0, none⟩) V.nO V.nO, .slice (some ⟨bX, 0, none⟩) V.nX V.nX, .slice (some ⟨bI, 0, none⟩) V.nI V.nI]) V) := ⟨bW, bO, bX, bI, q0, q1, q2, q3, q4, rfl, g1, g2, g3, g4⟩
  have gW : Hid (Own5 w bW V.nW V.W V.nW) := g1
  have hs : Hid (V.short 1048576) := hs0
  have hwf : Hid (∀ k, k < V.nW → (Lit.int .i64 (V.W k 0)).wf = true) := hwf0
  have lW : bW < w.heap.size := by omega
  have hnW : V.nW ≤ 1048576 := hs0.1
  clear g1 g2 g3 g4 hs0 hwf0 q0 q1 q2 q3 q4
  go_enter Tryz.func49, Tryz.ntmps49
  go_wp2_with fail
  obtain ⟨w0, e0⟩ : ∃ w0, w0 = ((w.alloc (.cells #[.int .i64 c, .int .i64 d] 38)).alloc (.cells #[.int .i64 V.c, .slice (some ⟨bW, 0, none⟩) V.nW V.nW, .int .i64 V.g, .slice (some ⟨bO, 0, none⟩) V.nO V.nO, .slice (some ⟨bX, 0, none⟩) V.nX V.nX, .slice (some ⟨bI, 0, none⟩) V.nI V.nI] 35)) := ⟨_, rfl⟩
  have z0 : w.heap.size + 2 ≤ w0.heap.size := by rw [e0]; simp
  have z0b : w0.heap.size ≤ w.heap.size + 2 := by rw [e0]; simp
  have B0 : Hid (Below w.heap.size w w0) := by rw [e0]; exact ((Below.refl _ _).alloc (by simp) _).alloc (by simp) _
  have A0 : Hid (Six w0 (w.heap.size + 1) [.int .i64 V.c, .slice (some ⟨bW, 0, none⟩) V.nW V.nW, .int .i64 V.g, .slice (some ⟨bO, 0, none⟩) V.nO V.nO, .slice (some ⟨bX, 0, none⟩) V.nX V.nX, .slice (some ⟨bI, 0, none⟩) V.nI V.nI]) := by rw [e0]; exact six_box2 w _ 38 35 _ _ _ _ _ _
  have m0 : w0.cell? ⟨w.heap.size, 0, none⟩ = some (.int .i64 c) := by rw [e0]; simp
  have m1 : w0.cell? ⟨w.heap.size, 1, none⟩ = some (.int .i64 d) := by rw [e0]; simp
  obtain ⟨a0, a1, a2, a3, a4, a5⟩ := A0.out.a6
  rw [← e0]
  clear e0
  refine wp_region_held_drew (S := fun w' => Below w0.heap.size w0 w') (by kernel_rfl) ((Below.refl _ _).drew) ?_
  intro hHeld
  refine tkl 0 (.agg #[.int .i64 c, .int .i64 d]) rfl ?_ ?_
  · intro wx hSw; have xm0 := (hSw.cell (p := ⟨w.heap.size, 0, none⟩) (by show w.heap.size < _; omega)).trans m0; have xm1 := (hSw.cell (p := ⟨w.heap.size, 1, none⟩) (by show w.heap.size < _; omega)).trans m1; go_simp
  try simp only [Act.put, aS]
  refine tkl 1 (.agg #[.int .i64 V.c, .slice (some ⟨bW, 0, none⟩) V.nW V.nW, .int .i64 V.g, .slice (some ⟨bO, 0, none⟩) V.nO V.nO, .slice (some ⟨bX, 0, none⟩) V.nX V.nX, .slice (some ⟨bI, 0, none⟩) V.nI V.nI]) rfl ?_ ?_
  · intro wx hSw; have xa0 := (hSw.cell (p := ⟨w.heap.size + 1, 0, none⟩) (by show w.heap.size + 1 < _; omega)).trans a0; have xa1 := (hSw.cell (p := ⟨w.heap.size + 1, 1, none⟩) (by show w.heap.size + 1 < _; omega)).trans a1; have xa2 := (hSw.cell (p := ⟨w.heap.size + 1, 2, none⟩) (by show w.heap.size + 1 < _; omega)).trans a2; have xa3 := (hSw.cell (p := ⟨w.heap.size + 1, 3, none⟩) (by show w.heap.size + 1 < _; omega)).trans a3; have xa4 := (hSw.cell (p := ⟨w.heap.size + 1, 4, none⟩) (by show w.heap.size + 1 < _; omega)).trans a4; have xa5 := (hSw.cell (p := ⟨w.heap.size + 1, 5, none⟩) (by show w.heap.size + 1 < _; omega)).trans a5; go_simp
  try simp only [Act.put, aS]
  clear m0 m1 a0 a1 a2 a3 a4 a5
  refine rdy [2, 3] ?_
  refine AllReadyH.cons rfl (fun K hK => ?_) (AllReadyH.cons rfl (fun K hK => ?_) AllReadyH.nil)
  · go_simp
    go_wp2_with fail
    refine (copyC _ V lo hs.out _ (CP.out.below (B0.out.drew))).mono ?_
    rintro e w1 ⟨⟨v1, rfl, hO, hT⟩, hb1⟩
    obtain ⟨aW, kW, aO, kO, aX, kX, aI, kI, rfl, _, _, _, _⟩ := hO.at
    have hbx : Below w0.heap.size w0 w1 := bthen ((Below.refl _ _).drew) hb1
    have hz1 : w0.heap.size ≤ w1.heap.size := hbx.size
    refine hK.out _ _ hbx (fun hNew => ?_)
    clear hK K hHeld
    have hHeld := hNew
    clear hNew
    try simp only [Act.put, aS]
    refine rd1 3 rfl fun K hK => ?_
    go_simp
    refine hK.out _ _ (hHeld.alloc hz1 _) (fun hNew => ?_)
    clear hK K hHeld
    have hHeld := hNew
    clear hNew
    try simp only [Act.put, aS]
    refine tkl 4 (.agg #[.int .i64 c, .int .i64 d, .int .i64 V.c, .slice aW V.nW kW, .int .i64 V.g, .slice aO V.nO kO, .slice aX V.nX kX, .slice aI V.nI kI, .map (some w1.heap.size)]) rfl ?_ ?_
    · intro wx hSw; go_simp
    try simp only [Act.put, aS]
    refine rd1 5 rfl fun K hK => ?_
    go_simp
    refine hK.out _ _ (hHeld.alloc (by simp; omega) _) (fun hNew => ?_)
    clear hK K hHeld
    have hHeld := hNew
    clear hNew
    try simp only [Act.put, aS]
    refine tkl 6 (.pointer (some ⟨w1.heap.size + 1, 0, none⟩)) rfl ?_ ?_
    · intro wx hSw; go_simp
    try simp only [Act.put, aS]
    refine wpAnyH_done (by kernel_rfl) ?_ _
    obtain ⟨W, s, b, lc, hc, eW, es, eb, OW0, TW0, NW0, MW0, BW0, KW0, hsb, hlh, hhW, hsW, hbW, hbo, hso, hlc, hbw, hsw⟩ : ∃ W s b lc hc, W = ((w1.alloc (.map #[] 0)).alloc (.cells #[.int .i64 c, .int .i64 d, .int .i64 V.c, .slice aW V.nW kW, .int .i64 V.g, .slice aO V.nO kO, .slice aX V.nX kX, .slice aI V.nI kI, .map (some w1.heap.size)] 132)) ∧ s = w1.heap.size + 1 ∧ b = w1.heap.size ∧ OwnC lc hc W (.agg #[.int .i64 V.c, .slice aW V.nW kW, .int .i64 V.g, .slice aO V.nO kO, .slice aX V.nX kX, .slice aI V.nI kI]) V ∧ Thaw lc hc W (.agg #[.int .i64 V.c, .slice aW V.nW kW, .int .i64 V.g, .slice aO V.nO kO, .slice aX V.nX kX, .slice aI V.nI kI]) ∧ Nine W s [.int .i64 c, .int .i64 d, .int .i64 V.c, .slice aW V.nW kW, .int .i64 V.g, .slice aO V.nO kO, .slice aX V.nX kX, .slice aI V.nI kI, .map (some b)] ∧ Wm W b 0 (mapW V.W 0) ∧ Below w.heap.size w W ∧ (∀ x, x < w.heap.size + 2 → Sm w0 W x) ∧ ¬ s = b ∧ lc ≤ hc ∧ hc ≤ W.heap.size ∧ s < W.heap.size ∧ b < W.heap.size ∧ (b < lc ∨ hc ≤ b) ∧ (s < lc ∨ hc ≤ s) ∧ w.heap.size + 2 ≤ lc ∧ w.heap.size + 2 ≤ b ∧ w.heap.size + 2 ≤ s :=
      ⟨_, _, _, w0.heap.size, w1.heap.size, rfl, rfl, rfl, hO.below (Nat.le_refl _) (((Below.refl _ _).alloc (Nat.le_refl _) _).alloc (by simp) _), Thaw.sm hT (fun x _ hx => sm_below (((Below.refl _ _).alloc (Nat.le_refl _) _).alloc (by simp) _) hx), (by have h := nine_new (w1.alloc (.map #[] 0)) 132 (.int .i64 c) (.int .i64 d) (.int .i64 V.c) (.slice aW V.nW kW) (.int .i64 V.g) (.slice aO V.nO kO) (.slice aX V.nX kX) (.slice aI V.nI kI) (.map (some w1.heap.size)); rw [World.size_alloc] at h; exact h), (Wm.new w1).below (k := w1.heap.size + 1) (by omega) ((Below.refl _ _).alloc (by simp) _), (bthen B0.out hHeld), fun x hx => sm_below hHeld (by omega), by omega, by omega, by simp <;> omega, by simp <;> omega, by simp <;> omega, by omega, by omega, by omega, by omega, by omega⟩
    rw [← eW, ← es, ← eb]
    clear eW es eb hHeld hmm
    have TW : Hid _ := TW0
    clear TW0
    have OW : Hid _ := OW0
    have NW : Hid _ := NW0
    have MW : Hid _ := MW0
    have BW : Hid _ := BW0
    have KW : Hid _ := KW0
    clear OW0 NW0 MW0 BW0 KW0
    clear hO hb1 hbx hT
    have q1 : W.cell? ⟨w.heap.size + 1, 1, none⟩ = some (.slice (some ⟨bW, 0, none⟩) V.nW V.nW) := ((KW.out (w.heap.size + 1) (by omega)) 1).1.trans (A0.out 1 (by decide)).1
    have lq : w.heap.size + 1 < W.heap.size := by omega
    go_wp2_with fail
    clear q1 lq
    go_loopw [17] (fun i wr => ∃ k : Nat, k ≤ V.nW ∧ i = .int .i64 k ∧ Wm wr b k (mapW V.W k) ∧ W.grownBy wr (some b)) (fun i _ => V.nW - (intOf i).toNat)
    case atStart => exact ⟨0, Nat.zero_le _, rfl, MW.out, ⟨rfl, rfl, rfl, Nat.le_refl _, fun _ _ _ => rfl⟩⟩
    case round =>
      obtain ⟨k, hk, rfl, hM, hG⟩ := hrel
      have HMk : Hid (Wm wr b k (mapW V.W k)) := hM
      have HG : Hid (W.grownBy wr (some b)) := hG
      have hzr : W.heap.size ≤ wr.heap.size := hG.size
      clear hM hG
      by_cases hkn : k < V.nW
      · have hkn' : (k : Int) < V.nW := by omega
        have c0 : wr.cell? ⟨bW, k * 5, none⟩ = some (.int .i64 (V.W k 0)) := by have h1 := (sm_grown HG.out (b := bW) (by omega) (by simp; omega)) (k * 5 + 0); have h2 := (sm_below BW.out lW) (k * 5 + 0); have h3 := own_row gW.out k 0 hkn (by omega); rw [Nat.zero_add] at h3; exact (h1.1.trans h2.1).trans h3
        have c1 : wr.cell? ⟨bW, k * 5 + 1, none⟩ = some (.int .i64 (V.W k 1)) := by have h1 := (sm_grown HG.out (b := bW) (by omega) (by simp; omega)) (k * 5 + 1); have h2 := (sm_below BW.out lW) (k * 5 + 1); have h3 := own_row gW.out k 1 hkn (by omega); rw [Nat.zero_add] at h3; exact (h1.1.trans h2.1).trans h3
        have c2 : wr.cell? ⟨bW, k * 5 + 2, none⟩ = some (.int .i64 (V.W k 2)) := by have h1 := (sm_grown HG.out (b := bW) (by omega) (by simp; omega)) (k * 5 + 2); have h2 := (sm_below BW.out lW) (k * 5 + 2); have h3 := own_row gW.out k 2 hkn (by omega); rw [Nat.zero_add] at h3; exact (h1.1.trans h2.1).trans h3
        have c3 : wr.cell? ⟨bW, k * 5 + 3, none⟩ = some (.int .i64 (V.W k 3)) := by have h1 := (sm_grown HG.out (b := bW) (by omega) (by simp; omega)) (k * 5 + 3); have h2 := (sm_below BW.out lW) (k * 5 + 3); have h3 := own_row gW.out k 3 hkn (by omega); rw [Nat.zero_add] at h3; exact (h1.1.trans h2.1).trans h3
        have c4 : wr.cell? ⟨bW, k * 5 + 4, none⟩ = some (.int .i64 (V.W k 4)) := by have h1 := (sm_grown HG.out (b := bW) (by omega) (by simp; omega)) (k * 5 + 4); have h2 := (sm_below BW.out lW) (k * 5 + 4); have h3 := own_row gW.out k 4 hkn (by omega); rw [Nat.zero_add] at h3; exact (h1.1.trans h2.1).trans h3
        have lbW : bW < wr.heap.size := by omega
        have n8 : wr.cell? ⟨s, 8, none⟩ = some (.map (some b)) := ((sm_grown HG.out (b := s) (by omega) (by simp; omega)) 8).1.trans (NW.out 8 (by decide)).1
        have ls : s < wr.heap.size := by omega
        go_wp2_with fail
        obtain ⟨w5, e5⟩ : ∃ w5, w5 = wr.alloc (.cells #[.int .i64 (V.W k 0), .int .i64 (V.W k 1), .int .i64 (V.W k 2), .int .i64 (V.W k 3), .int .i64 (V.W k 4)] 54) := ⟨_, rfl⟩
        have hb5 : Below wr.heap.size wr w5 := by rw [e5]; exact (Below.refl _ _).alloc (Nat.le_refl _) _
        have d0 : w5.cell? ⟨wr.heap.size, 0, none⟩ = some (.int .i64 (V.W k 0)) := by rw [e5]; simp
        have d1 : w5.cell? ⟨wr.heap.size, 1, none⟩ = some (.int .i64 (V.W k 1)) := by rw [e5]; simp
        have d2 : w5.cell? ⟨wr.heap.size, 2, none⟩ = some (.int .i64 (V.W k 2)) := by rw [e5]; simp
        have d3 : w5.cell? ⟨wr.heap.size, 3, none⟩ = some (.int .i64 (V.W k 3)) := by rw [e5]; simp
        have d4 : w5.cell? ⟨wr.heap.size, 4, none⟩ = some (.int .i64 (V.W k 4)) := by rw [e5]; simp
        have n9 : w5.cell? ⟨s, 8, none⟩ = some (.map (some b)) := (hb5.cell (p := ⟨s, 8, none⟩) ls).trans n8
        have hs5 : wr.heap.size < w5.heap.size := by rw [e5]; simp
        have ls5 : s < w5.heap.size := by omega
        rw [← e5]
        clear e5 c0 c1 c2 c3 c4 n8 lbW ls
        have M5 : Wm w5.drew b k (mapW V.W k) := HMk.out.below (Nat.lt_of_lt_of_le HMk.out.lt (Nat.le_refl _)) (hb5.drew)
        obtain ⟨w6, hupd, hM6, hg6⟩ := M5.put (hwf.out k hkn) (V.W k)
        refine wp_region_held_drew (S := fun w' => (∀ g o, g < w5.heap.size → ¬ g = b → w'.cell? ⟨g, o, none⟩ = w5.cell? ⟨g, o, none⟩) ∧ w5.heap.size ≤ w'.heap.size) (by kernel_rfl) ⟨fun _ _ _ _ => rfl, Nat.le_refl _⟩ ?_
        intro hHeld
        refine tkl 0 (.pointer (some ⟨s, 0, none⟩)) rfl ?_ ?_
        · intro wx hSw; go_simp
        try simp only [Act.put, aS]
        refine tkl 1 (.pointer (some ⟨s, 0, none⟩)) rfl ?_ ?_
        · intro wx hSw; have x8 := (hSw.1 s 8 ls5 hsb).trans n9; have xl := Nat.lt_of_lt_of_le ls5 hSw.2; go_simp
        try simp only [Act.put, aS]
        refine tkl 2 (.pointer (some ⟨s, 8, none⟩)) rfl ?_ ?_
        · intro wx hSw; go_simp
        try simp only [Act.put, aS]
        refine tkl 3 (.map (some b)) rfl ?_ ?_
        · intro wx hSw; have x8 := (hSw.1 s 8 ls5 hsb).trans n9; go_simp
        try simp only [Act.put, aS]
        refine tkl 4 (.pointer (some ⟨wr.heap.size, 0, none⟩)) rfl ?_ ?_
        · intro wx hSw; go_simp
        try simp only [Act.put, aS]
        refine tkl 5 (.int .i64 (V.W k 0)) rfl ?_ ?_
        · intro wx hSw; have x0 := (hSw.1 wr.heap.size 0 hs5 (by omega)).trans d0; go_simp
        try simp only [Act.put, aS]
        refine tkl 6 (wv (V.W k)) rfl ?_ ?_
        · intro wx hSw; have x0 := (hSw.1 wr.heap.size 0 hs5 (by omega)).trans d0; have x1 := (hSw.1 wr.heap.size 1 hs5 (by omega)).trans d1; have x2 := (hSw.1 wr.heap.size 2 hs5 (by omega)).trans d2; have x3 := (hSw.1 wr.heap.size 3 hs5 (by omega)).trans d3; have x4 := (hSw.1 wr.heap.size 4 hs5 (by omega)).trans d4; unfold wv; go_simp
        try simp only [Act.put, aS]
        refine rd1 7 rfl fun K hK => ?_
        clear hHeld
        go_simp
        refine hK.out _ _ ⟨fun g o hg hne => (sm_grown hg6 (b := g) hg (by simp; exact hne) o).1, hg6.size⟩ (fun hNew => ?_)
        clear hK K hNew
        try simp only [Act.put, aS]
        refine wpAnyH_done (by kernel_rfl) ?_ _
        have hgn : Hid (W.grownBy w6 (some b)) := (HG.out.trans (P8.grown_of_below2 hb5)).trans ⟨hg6.os, hg6.tape, hg6.output, hg6.size, hg6.block⟩
        have HM6 : Hid (Wm w6 b (k + 1) (mapW V.W (k + 1))) := hM6
        clear hM6 hg6 hupd M5 d0 d1 d2 d3 d4 n9 ls5 hb5 HG HMk
        go_wp2
        go_roundw
        case rel => exact ⟨k + 1, by omega, by go_num, HM6.out, hgn.out⟩
        case measure => simp [intOf]; omega
      · have hkk : k = V.nW := by omega
        subst hkk
        go_wp2
        go_ret
        have hsm : ∀ x, x < W.heap.size → ¬ x = b → Sm W wr x := fun x h1 h2 => sm_grown HG.out h1 (by simp; exact h2)
        refine ⟨s, b, lc, hc, rfl, ⟨⟨aW, kW, aO, kO, aX, kX, aI, kI, fun i hi => ?_, OwnC.sm OW.out hzr (fun x h1 h2 => hsm x (by omega) (by omega)), Thaw.sm TW.out (fun x h1 h2 => hsm x (by omega) (by omega))⟩, HMk.out, by omega, hsb, hlh, by omega, hbo, hso⟩, by omega, by omega, by omega, ?_⟩
        · have h1 := hsm s hsW hsb i; rw [h1.1, h1.2]; exact NW.out i hi
        · exact BW.out.grown HG.out BW.out.size (fun kk e => by cases e; omega)
  · go_simp
    refine hK.out _ _ (hHeld.alloc (Nat.le_refl _) _) (fun hNew => ?_)
    clear hK K hHeld
    have hHeld := hNew
    clear hNew
    try simp only [Act.put, aS]
    refine rd1 2 rfl fun K hK => ?_
    go_simp
    go_wp2_with fail
    refine (copyC _ V lo hs.out _ (CP.out.below (bthen B0.out hHeld))).mono ?_
    rintro e w1 ⟨⟨v1, rfl, hO, hT⟩, hb1⟩
    obtain ⟨aW, kW, aO, kO, aX, kX, aI, kI, rfl, _, _, _, _⟩ := hO.at
    have hz1 : w0.heap.size + 1 ≤ w1.heap.size := by have := hb1.size; simpa using this
    have hM1 : Wm w1 w0.heap.size 0 (mapW V.W 0) := (Wm.new w0.drew).below (by show w0.heap.size < _; simp) hb1
    have hO2 : OwnC (w0.heap.size + 1) w1.heap.size w1 (.agg #[.int .i64 V.c, .slice aW V.nW kW, .int .i64 V.g, .slice aO V.nO kO, .slice aX V.nX kX, .slice aI V.nI kI]) V := by have e : (w0.alloc (.map #[] 0)).drew.heap.size = w0.heap.size + 1 := World.size_alloc w0 _; rw [e] at hO; exact hO
    have hT2 : Thaw (w0.heap.size + 1) w1.heap.size w1 (.agg #[.int .i64 V.c, .slice aW V.nW kW, .int .i64 V.g, .slice aO V.nO kO, .slice aX V.nX kX, .slice aI V.nI kI]) := by have e : (w0.alloc (.map #[] 0)).drew.heap.size = w0.heap.size + 1 := World.size_alloc w0 _; rw [e] at hT; exact hT
    refine hK.out _ _ (bthen hHeld hb1) (fun hNew => ?_)
    clear hK K hHeld
    have hHeld := hNew
    clear hNew
    try simp only [Act.put, aS]
    refine tkl 4 (.agg #[.int .i64 c, .int .i64 d, .int .i64 V.c, .slice aW V.nW kW, .int .i64 V.g, .slice aO V.nO kO, .slice aX V.nX kX, .slice aI V.nI kI, .map (some w0.heap.size)]) rfl ?_ ?_
    · intro wx hSw; go_simp
    try simp only [Act.put, aS]
    refine rd1 5 rfl fun K hK => ?_
    go_simp
    refine hK.out _ _ (hHeld.alloc (by omega) _) (fun hNew => ?_)
    clear hK K hHeld
    have hHeld := hNew
    clear hNew
    try simp only [Act.put, aS]
    refine tkl 6 (.pointer (some ⟨w1.heap.size, 0, none⟩)) rfl ?_ ?_
    · intro wx hSw; go_simp
    try simp only [Act.put, aS]
    refine wpAnyH_done (by kernel_rfl) ?_ _
    obtain ⟨W, s, b, lc, hc, eW, es, eb, OW0, TW0, NW0, MW0, BW0, KW0, hsb, hlh, hhW, hsW, hbW, hbo, hso, hlc, hbw, hsw⟩ : ∃ W s b lc hc, W = (w1.alloc (.cells #[.int .i64 c, .int .i64 d, .int .i64 V.c, .slice aW V.nW kW, .int .i64 V.g, .slice aO V.nO kO, .slice aX V.nX kX, .slice aI V.nI kI, .map (some w0.heap.size)] 132)) ∧ s = w1.heap.size ∧ b = w0.heap.size ∧ OwnC lc hc W (.agg #[.int .i64 V.c, .slice aW V.nW kW, .int .i64 V.g, .slice aO V.nO kO, .slice aX V.nX kX, .slice aI V.nI kI]) V ∧ Thaw lc hc W (.agg #[.int .i64 V.c, .slice aW V.nW kW, .int .i64 V.g, .slice aO V.nO kO, .slice aX V.nX kX, .slice aI V.nI kI]) ∧ Nine W s [.int .i64 c, .int .i64 d, .int .i64 V.c, .slice aW V.nW kW, .int .i64 V.g, .slice aO V.nO kO, .slice aX V.nX kX, .slice aI V.nI kI, .map (some b)] ∧ Wm W b 0 (mapW V.W 0) ∧ Below w.heap.size w W ∧ (∀ x, x < w.heap.size + 2 → Sm w0 W x) ∧ ¬ s = b ∧ lc ≤ hc ∧ hc ≤ W.heap.size ∧ s < W.heap.size ∧ b < W.heap.size ∧ (b < lc ∨ hc ≤ b) ∧ (s < lc ∨ hc ≤ s) ∧ w.heap.size + 2 ≤ lc ∧ w.heap.size + 2 ≤ b ∧ w.heap.size + 2 ≤ s :=
      ⟨_, _, _, w0.heap.size + 1, w1.heap.size, rfl, rfl, rfl, hO2.below (Nat.le_refl _) ((Below.refl _ _).alloc (Nat.le_refl _) _), Thaw.sm hT2 (fun x _ hx => sm_below ((Below.refl _ _).alloc (Nat.le_refl _) _) hx), nine_new w1 132 (.int .i64 c) (.int .i64 d) (.int .i64 V.c) (.slice aW V.nW kW) (.int .i64 V.g) (.slice aO V.nO kO) (.slice aX V.nX kX) (.slice aI V.nI kI) (.map (some w0.heap.size)), hM1.below hM1.lt ((Below.refl _ _).alloc (Nat.le_refl _) _), (bthen B0.out hHeld), fun x hx => sm_below hHeld (by omega), by omega, by omega, by simp <;> omega, by simp <;> omega, by simp <;> omega, by omega, by omega, by omega, by omega, by omega⟩
    rw [← eW, ← es, ← eb]
    clear eW es eb hHeld hmm
    have TW : Hid _ := TW0
    clear TW0
    have OW : Hid _ := OW0
    have NW : Hid _ := NW0
    have MW : Hid _ := MW0
    have BW : Hid _ := BW0
    have KW : Hid _ := KW0
    clear OW0 NW0 MW0 BW0 KW0
    clear hO hb1 hO2 hM1 hT hT2
    have q1 : W.cell? ⟨w.heap.size + 1, 1, none⟩ = some (.slice (some ⟨bW, 0, none⟩) V.nW V.nW) := ((KW.out (w.heap.size + 1) (by omega)) 1).1.trans (A0.out 1 (by decide)).1
    have lq : w.heap.size + 1 < W.heap.size := by omega
    go_wp2_with fail
    clear q1 lq
    go_loopw [17] (fun i wr => ∃ k : Nat, k ≤ V.nW ∧ i = .int .i64 k ∧ Wm wr b k (mapW V.W k) ∧ W.grownBy wr (some b)) (fun i _ => V.nW - (intOf i).toNat)
    case atStart => exact ⟨0, Nat.zero_le _, rfl, MW.out, ⟨rfl, rfl, rfl, Nat.le_refl _, fun _ _ _ => rfl⟩⟩
    case round =>
      obtain ⟨k, hk, rfl, hM, hG⟩ := hrel
      have HMk : Hid (Wm wr b k (mapW V.W k)) := hM
      have HG : Hid (W.grownBy wr (some b)) := hG
      have hzr : W.heap.size ≤ wr.heap.size := hG.size
      clear hM hG
      by_cases hkn : k < V.nW
      · have hkn' : (k : Int) < V.nW := by omega
        have c0 : wr.cell? ⟨bW, k * 5, none⟩ = some (.int .i64 (V.W k 0)) := by have h1 := (sm_grown HG.out (b := bW) (by omega) (by simp; omega)) (k * 5 + 0); have h2 := (sm_below BW.out lW) (k * 5 + 0); have h3 := own_row gW.out k 0 hkn (by omega); rw [Nat.zero_add] at h3; exact (h1.1.trans h2.1).trans h3
        have c1 : wr.cell? ⟨bW, k * 5 + 1, none⟩ = some (.int .i64 (V.W k 1)) := by have h1 := (sm_grown HG.out (b := bW) (by omega) (by simp; omega)) (k * 5 + 1); have h2 := (sm_below BW.out lW) (k * 5 + 1); have h3 := own_row gW.out k 1 hkn (by omega); rw [Nat.zero_add] at h3; exact (h1.1.trans h2.1).trans h3
        have c2 : wr.cell? ⟨bW, k * 5 + 2, none⟩ = some (.int .i64 (V.W k 2)) := by have h1 := (sm_grown HG.out (b := bW) (by omega) (by simp; omega)) (k * 5 + 2); have h2 := (sm_below BW.out lW) (k * 5 + 2); have h3 := own_row gW.out k 2 hkn (by omega); rw [Nat.zero_add] at h3; exact (h1.1.trans h2.1).trans h3
        have c3 : wr.cell? ⟨bW, k * 5 + 3, none⟩ = some (.int .i64 (V.W k 3)) := by have h1 := (sm_grown HG.out (b := bW) (by omega) (by simp; omega)) (k * 5 + 3); have h2 := (sm_below BW.out lW) (k * 5 + 3); have h3 := own_row gW.out k 3 hkn (by omega); rw [Nat.zero_add] at h3; exact (h1.1.trans h2.1).trans h3
        have c4 : wr.cell? ⟨bW, k * 5 + 4, none⟩ = some (.int .i64 (V.W k 4)) := by have h1 := (sm_grown HG.out (b := bW) (by omega) (by simp; omega)) (k * 5 + 4); have h2 := (sm_below BW.out lW) (k * 5 + 4); have h3 := own_row gW.out k 4 hkn (by omega); rw [Nat.zero_add] at h3; exact (h1.1.trans h2.1).trans h3
        have lbW : bW < wr.heap.size := by omega
        have n8 : wr.cell? ⟨s, 8, none⟩ = some (.map (some b)) := ((sm_grown HG.out (b := s) (by omega) (by simp; omega)) 8).1.trans (NW.out 8 (by decide)).1
        have ls : s < wr.heap.size := by omega
        go_wp2_with fail
        obtain ⟨w5, e5⟩ : ∃ w5, w5 = wr.alloc (.cells #[.int .i64 (V.W k 0), .int .i64 (V.W k 1), .int .i64 (V.W k 2), .int .i64 (V.W k 3), .int .i64 (V.W k 4)] 54) := ⟨_, rfl⟩
        have hb5 : Below wr.heap.size wr w5 := by rw [e5]; exact (Below.refl _ _).alloc (Nat.le_refl _) _
        have d0 : w5.cell? ⟨wr.heap.size, 0, none⟩ = some (.int .i64 (V.W k 0)) := by rw [e5]; simp
        have d1 : w5.cell? ⟨wr.heap.size, 1, none⟩ = some (.int .i64 (V.W k 1)) := by rw [e5]; simp
        have d2 : w5.cell? ⟨wr.heap.size, 2, none⟩ = some (.int .i64 (V.W k 2)) := by rw [e5]; simp
        have d3 : w5.cell? ⟨wr.heap.size, 3, none⟩ = some (.int .i64 (V.W k 3)) := by rw [e5]; simp
        have d4 : w5.cell? ⟨wr.heap.size, 4, none⟩ = some (.int .i64 (V.W k 4)) := by rw [e5]; simp
        have n9 : w5.cell? ⟨s, 8, none⟩ = some (.map (some b)) := (hb5.cell (p := ⟨s, 8, none⟩) ls).trans n8
        have hs5 : wr.heap.size < w5.heap.size := by rw [e5]; simp
        have ls5 : s < w5.heap.size := by omega
        rw [← e5]
        clear e5 c0 c1 c2 c3 c4 n8 lbW ls
        have M5 : Wm w5.drew b k (mapW V.W k) := HMk.out.below (Nat.lt_of_lt_of_le HMk.out.lt (Nat.le_refl _)) (hb5.drew)
        obtain ⟨w6, hupd, hM6, hg6⟩ := M5.put (hwf.out k hkn) (V.W k)
        refine wp_region_held_drew (S := fun w' => (∀ g o, g < w5.heap.size → ¬ g = b → w'.cell? ⟨g, o, none⟩ = w5.cell? ⟨g, o, none⟩) ∧ w5.heap.size ≤ w'.heap.size) (by kernel_rfl) ⟨fun _ _ _ _ => rfl, Nat.le_refl _⟩ ?_
        intro hHeld
        refine tkl 0 (.pointer (some ⟨s, 0, none⟩)) rfl ?_ ?_
        · intro wx hSw; go_simp
        try simp only [Act.put, aS]
        refine tkl 1 (.pointer (some ⟨s, 0, none⟩)) rfl ?_ ?_
        · intro wx hSw; have x8 := (hSw.1 s 8 ls5 hsb).trans n9; have xl := Nat.lt_of_lt_of_le ls5 hSw.2; go_simp
        try simp only [Act.put, aS]
        refine tkl 2 (.pointer (some ⟨s, 8, none⟩)) rfl ?_ ?_
        · intro wx hSw; go_simp
        try simp only [Act.put, aS]
        refine tkl 3 (.map (some b)) rfl ?_ ?_
        · intro wx hSw; have x8 := (hSw.1 s 8 ls5 hsb).trans n9; go_simp
        try simp only [Act.put, aS]
        refine tkl 4 (.pointer (some ⟨wr.heap.size, 0, none⟩)) rfl ?_ ?_
        · intro wx hSw; go_simp
        try simp only [Act.put, aS]
        refine tkl 5 (.int .i64 (V.W k 0)) rfl ?_ ?_
        · intro wx hSw; have x0 := (hSw.1 wr.heap.size 0 hs5 (by omega)).trans d0; go_simp
        try simp only [Act.put, aS]
        refine tkl 6 (wv (V.W k)) rfl ?_ ?_
        · intro wx hSw; have x0 := (hSw.1 wr.heap.size 0 hs5 (by omega)).trans d0; have x1 := (hSw.1 wr.heap.size 1 hs5 (by omega)).trans d1; have x2 := (hSw.1 wr.heap.size 2 hs5 (by omega)).trans d2; have x3 := (hSw.1 wr.heap.size 3 hs5 (by omega)).trans d3; have x4 := (hSw.1 wr.heap.size 4 hs5 (by omega)).trans d4; unfold wv; go_simp
        try simp only [Act.put, aS]
        refine rd1 7 rfl fun K hK => ?_
        clear hHeld
        go_simp
        refine hK.out _ _ ⟨fun g o hg hne => (sm_grown hg6 (b := g) hg (by simp; exact hne) o).1, hg6.size⟩ (fun hNew => ?_)
        clear hK K hNew
        try simp only [Act.put, aS]
        refine wpAnyH_done (by kernel_rfl) ?_ _
        have hgn : Hid (W.grownBy w6 (some b)) := (HG.out.trans (P8.grown_of_below2 hb5)).trans ⟨hg6.os, hg6.tape, hg6.output, hg6.size, hg6.block⟩
        have HM6 : Hid (Wm w6 b (k + 1) (mapW V.W (k + 1))) := hM6
        clear hM6 hg6 hupd M5 d0 d1 d2 d3 d4 n9 ls5 hb5 HG HMk
        go_wp2
        go_roundw
        case rel => exact ⟨k + 1, by omega, by go_num, HM6.out, hgn.out⟩
        case measure => simp [intOf]; omega
      · have hkk : k = V.nW := by omega
        subst hkk
        go_wp2
        go_ret
        have hsm : ∀ x, x < W.heap.size → ¬ x = b → Sm W wr x := fun x h1 h2 => sm_grown HG.out h1 (by simp; exact h2)
        refine ⟨s, b, lc, hc, rfl, ⟨⟨aW, kW, aO, kO, aX, kX, aI, kI, fun i hi => ?_, OwnC.sm OW.out hzr (fun x h1 h2 => hsm x (by omega) (by omega)), Thaw.sm TW.out (fun x h1 h2 => hsm x (by omega) (by omega))⟩, HMk.out, by omega, hsb, hlh, by omega, hbo, hso⟩, by omega, by omega, by omega, ?_⟩
        · have h1 := hsm s hsW hsb i; rw [h1.1, h1.2]; exact NW.out i hi
        · exact BW.out.grown HG.out BW.out.size (fun kk e => by cases e; omega)
end Go.Proofs.YthbkjfkkdaheoaaGreatDoor
