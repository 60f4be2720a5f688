/- The walk of l20BadWalker: a walker is spoilt; conditions: the reader lies open. -/
import Derived.Test.YtkobiniogigloaaWkr
namespace Go.Proofs.Ytkobiniogigloaa
open Go.RowKit
set_option linter.unusedVariables false

theorem Wr5.five {w : World} {b : Nat} {z0 z1 z2 z3 z4 : Int} (h : Five w b z0 z1 z2 z3 z4) (hf : ∀ j, j < 5 → w.frozen? ⟨b, j, none⟩ = false) : Wr5 w b := by
  obtain ⟨c0, c1, c2, c3, c4⟩ := h
  intro j hj
  have := hf j hj
  have h5 : j = 0 ∨ j = 1 ∨ j = 2 ∨ j = 3 ∨ j = 4 := by omega
  rcases h5 with rfl | rfl | rfl | rfl | rfl
  · exact ⟨_, c0, this⟩
  · exact ⟨_, c1, this⟩
  · exact ⟨_, c2, this⟩
  · exact ⟨_, c3, this⟩
  · exact ⟨_, c4, this⟩

theorem old_cell {W : World} {b o : Nat} (ob : Obj) (h : b < W.heap.size) : (W.alloc ob).cell? ⟨b, o, none⟩ = W.cell? ⟨b, o, none⟩ := ((Below.refl _ W).alloc (Nat.le_refl _) ob).cell (p := ⟨b, o, none⟩) h
theorem old_frozen {W : World} {b o : Nat} (ob : Obj) (h : b < W.heap.size) : (W.alloc ob).frozen? ⟨b, o, none⟩ = W.frozen? ⟨b, o, none⟩ := ((Below.refl _ W).alloc (Nat.le_refl _) ob).frozen (p := ⟨b, o, none⟩) h

set_option maxRecDepth 20000 in
set_option maxHeartbeats 2000000 in
theorem bad_B {r : Nat} {ad : Option Addr} {len cap : Nat} {m : Int} {z0 z1 z2 z3 z4 : Int} {w : World} (h : RdB w r ad len cap m) (hm : m ≤ 100000) (hs : Small z0 ∧ Small z1 ∧ Small z2 ∧ Small z3 ∧ Small z4) :
    Calls Try.prog 26 #[.pointer (some ⟨r, 0, none⟩), .agg #[.int .i64 z0, .int .i64 z1, .int .i64 z2, .int .i64 z3, .int .i64 z4]] w fun e w' => ∃ y0 y1 y2 y3 y4, e = .returned (.agg #[.int .i64 y0, .int .i64 y1, .int .i64 y2, .int .i64 y3, .int .i64 y4]) ∧ (Small y0 ∧ Small y1 ∧ Small y2 ∧ Small y3 ∧ Small y4) ∧ RdB w' r ad len cap (m + 2) ∧ Kept r w w' := by
  have H : Hid (RdB w r ad len cap m) := h
  have hrl := h.lt
  obtain ⟨s0, s1, s2, s3, s4⟩ := hs
  clear h
  go_enter Try.func26, Try.ntmps26
  go_wp2_with fail
  refine (pick_B ((((H.out.alloc _).alloc _).alloc _)) (by omega)).mono ?_
  rintro e w1 ⟨x, rfl, hx, R1, K1⟩
  have a0 : w1.cell? ⟨w.heap.size, 0, none⟩ = some (.int .i64 z0) := by rw [(kcell K1).1 (w.heap.size) 0 (by simp <;> omega) (by omega), old_cell _ (by simp <;> omega), old_cell _ (by simp <;> omega)]; simp
  have fa0 : w1.frozen? ⟨w.heap.size, 0, none⟩ = false := by rw [(kcell K1).2 (w.heap.size) 0 (by simp <;> omega) (by omega), old_frozen _ (by simp <;> omega), old_frozen _ (by simp <;> omega)]; simp
  have a1 : w1.cell? ⟨w.heap.size, 1, none⟩ = some (.int .i64 z1) := by rw [(kcell K1).1 (w.heap.size) 1 (by simp <;> omega) (by omega), old_cell _ (by simp <;> omega), old_cell _ (by simp <;> omega)]; simp
  have fa1 : w1.frozen? ⟨w.heap.size, 1, none⟩ = false := by rw [(kcell K1).2 (w.heap.size) 1 (by simp <;> omega) (by omega), old_frozen _ (by simp <;> omega), old_frozen _ (by simp <;> omega)]; simp
  have a2 : w1.cell? ⟨w.heap.size, 2, none⟩ = some (.int .i64 z2) := by rw [(kcell K1).1 (w.heap.size) 2 (by simp <;> omega) (by omega), old_cell _ (by simp <;> omega), old_cell _ (by simp <;> omega)]; simp
  have fa2 : w1.frozen? ⟨w.heap.size, 2, none⟩ = false := by rw [(kcell K1).2 (w.heap.size) 2 (by simp <;> omega) (by omega), old_frozen _ (by simp <;> omega), old_frozen _ (by simp <;> omega)]; simp
  have a3 : w1.cell? ⟨w.heap.size, 3, none⟩ = some (.int .i64 z3) := by rw [(kcell K1).1 (w.heap.size) 3 (by simp <;> omega) (by omega), old_cell _ (by simp <;> omega), old_cell _ (by simp <;> omega)]; simp
  have fa3 : w1.frozen? ⟨w.heap.size, 3, none⟩ = false := by rw [(kcell K1).2 (w.heap.size) 3 (by simp <;> omega) (by omega), old_frozen _ (by simp <;> omega), old_frozen _ (by simp <;> omega)]; simp
  have a4 : w1.cell? ⟨w.heap.size, 4, none⟩ = some (.int .i64 z4) := by rw [(kcell K1).1 (w.heap.size) 4 (by simp <;> omega) (by omega), old_cell _ (by simp <;> omega), old_cell _ (by simp <;> omega)]; simp
  have fa4 : w1.frozen? ⟨w.heap.size, 4, none⟩ = false := by rw [(kcell K1).2 (w.heap.size) 4 (by simp <;> omega) (by omega), old_frozen _ (by simp <;> omega), old_frozen _ (by simp <;> omega)]; simp
  have b0 : w1.cell? ⟨w.heap.size + 1, 0, none⟩ = some (.int .i64 0) := by rw [(kcell K1).1 (w.heap.size + 1) 0 (by simp <;> omega) (by omega), old_cell _ (by simp <;> omega)]; simp
  have fb0 : w1.frozen? ⟨w.heap.size + 1, 0, none⟩ = false := by rw [(kcell K1).2 (w.heap.size + 1) 0 (by simp <;> omega) (by omega), old_frozen _ (by simp <;> omega)]; simp
  have b1 : w1.cell? ⟨w.heap.size + 1, 1, none⟩ = some (.int .i64 0) := by rw [(kcell K1).1 (w.heap.size + 1) 1 (by simp <;> omega) (by omega), old_cell _ (by simp <;> omega)]; simp
  have fb1 : w1.frozen? ⟨w.heap.size + 1, 1, none⟩ = false := by rw [(kcell K1).2 (w.heap.size + 1) 1 (by simp <;> omega) (by omega), old_frozen _ (by simp <;> omega)]; simp
  have b2 : w1.cell? ⟨w.heap.size + 1, 2, none⟩ = some (.int .i64 0) := by rw [(kcell K1).1 (w.heap.size + 1) 2 (by simp <;> omega) (by omega), old_cell _ (by simp <;> omega)]; simp
  have fb2 : w1.frozen? ⟨w.heap.size + 1, 2, none⟩ = false := by rw [(kcell K1).2 (w.heap.size + 1) 2 (by simp <;> omega) (by omega), old_frozen _ (by simp <;> omega)]; simp
  have b3 : w1.cell? ⟨w.heap.size + 1, 3, none⟩ = some (.int .i64 0) := by rw [(kcell K1).1 (w.heap.size + 1) 3 (by simp <;> omega) (by omega), old_cell _ (by simp <;> omega)]; simp
  have fb3 : w1.frozen? ⟨w.heap.size + 1, 3, none⟩ = false := by rw [(kcell K1).2 (w.heap.size + 1) 3 (by simp <;> omega) (by omega), old_frozen _ (by simp <;> omega)]; simp
  have b4 : w1.cell? ⟨w.heap.size + 1, 4, none⟩ = some (.int .i64 0) := by rw [(kcell K1).1 (w.heap.size + 1) 4 (by simp <;> omega) (by omega), old_cell _ (by simp <;> omega)]; simp
  have fb4 : w1.frozen? ⟨w.heap.size + 1, 4, none⟩ = false := by rw [(kcell K1).2 (w.heap.size + 1) 4 (by simp <;> omega) (by omega), old_frozen _ (by simp <;> omega)]; simp
  have hz1 : w.heap.size + 2 < w1.heap.size := by have := K1.size; simp at this; omega
  obtain ⟨z, hcz, hsz⟩ : ∃ z, w1.cell? ⟨w.heap.size + 1 + 1, x.toNat, none⟩ = some (.int .i64 z) ∧ Small z := by
    have hl := (Lits.new [-1, 10, 100, 901, 64, 0] ((w.alloc (.cells #[.int .i64 z0, .int .i64 z1, .int .i64 z2, .int .i64 z3, .int .i64 z4] 41)).alloc (.cells #[.int .i64 0, .int .i64 0, .int .i64 0, .int .i64 0, .int .i64 0] 41)) 3).kept K1 (by simp; omega)
    have h2 := hl.2 x hx.1 (hx.2.1 (by decide))
    simp only [World.size_alloc] at h2
    exact ⟨_, h2, lits_small _ (by decide)⟩
  have KA : Hid (Kept r w w1) := ((((Kept.refl r w).alloc _).alloc _).alloc _).trans K1
  have hx0 := hx.1
  have hx1 := hx.2.1 (by decide)
  clear K1 H hx
  go_wp2_with fail
  refine (pick_B R1 (by omega)).mono ?_
  rintro e w2 ⟨y, rfl, hy, R2, K2⟩
  replace a0 : w2.cell? ⟨w.heap.size, 0, none⟩ = some (.int .i64 z0) := ((kcell K2).1 (w.heap.size) 0 (by omega) (by omega)).trans (a0)
  replace fa0 : w2.frozen? ⟨w.heap.size, 0, none⟩ = false := ((kcell K2).2 (w.heap.size) 0 (by omega) (by omega)).trans (fa0)
  replace a1 : w2.cell? ⟨w.heap.size, 1, none⟩ = some (.int .i64 z1) := ((kcell K2).1 (w.heap.size) 1 (by omega) (by omega)).trans (a1)
  replace fa1 : w2.frozen? ⟨w.heap.size, 1, none⟩ = false := ((kcell K2).2 (w.heap.size) 1 (by omega) (by omega)).trans (fa1)
  replace a2 : w2.cell? ⟨w.heap.size, 2, none⟩ = some (.int .i64 z2) := ((kcell K2).1 (w.heap.size) 2 (by omega) (by omega)).trans (a2)
  replace fa2 : w2.frozen? ⟨w.heap.size, 2, none⟩ = false := ((kcell K2).2 (w.heap.size) 2 (by omega) (by omega)).trans (fa2)
  replace a3 : w2.cell? ⟨w.heap.size, 3, none⟩ = some (.int .i64 z3) := ((kcell K2).1 (w.heap.size) 3 (by omega) (by omega)).trans (a3)
  replace fa3 : w2.frozen? ⟨w.heap.size, 3, none⟩ = false := ((kcell K2).2 (w.heap.size) 3 (by omega) (by omega)).trans (fa3)
  replace a4 : w2.cell? ⟨w.heap.size, 4, none⟩ = some (.int .i64 z4) := ((kcell K2).1 (w.heap.size) 4 (by omega) (by omega)).trans (a4)
  replace fa4 : w2.frozen? ⟨w.heap.size, 4, none⟩ = false := ((kcell K2).2 (w.heap.size) 4 (by omega) (by omega)).trans (fa4)
  replace b0 : w2.cell? ⟨w.heap.size + 1, 0, none⟩ = some (.int .i64 0) := ((kcell K2).1 (w.heap.size + 1) 0 (by omega) (by omega)).trans (b0)
  replace fb0 : w2.frozen? ⟨w.heap.size + 1, 0, none⟩ = false := ((kcell K2).2 (w.heap.size + 1) 0 (by omega) (by omega)).trans (fb0)
  replace b1 : w2.cell? ⟨w.heap.size + 1, 1, none⟩ = some (.int .i64 0) := ((kcell K2).1 (w.heap.size + 1) 1 (by omega) (by omega)).trans (b1)
  replace fb1 : w2.frozen? ⟨w.heap.size + 1, 1, none⟩ = false := ((kcell K2).2 (w.heap.size + 1) 1 (by omega) (by omega)).trans (fb1)
  replace b2 : w2.cell? ⟨w.heap.size + 1, 2, none⟩ = some (.int .i64 0) := ((kcell K2).1 (w.heap.size + 1) 2 (by omega) (by omega)).trans (b2)
  replace fb2 : w2.frozen? ⟨w.heap.size + 1, 2, none⟩ = false := ((kcell K2).2 (w.heap.size + 1) 2 (by omega) (by omega)).trans (fb2)
  replace b3 : w2.cell? ⟨w.heap.size + 1, 3, none⟩ = some (.int .i64 0) := ((kcell K2).1 (w.heap.size + 1) 3 (by omega) (by omega)).trans (b3)
  replace fb3 : w2.frozen? ⟨w.heap.size + 1, 3, none⟩ = false := ((kcell K2).2 (w.heap.size + 1) 3 (by omega) (by omega)).trans (fb3)
  replace b4 : w2.cell? ⟨w.heap.size + 1, 4, none⟩ = some (.int .i64 0) := ((kcell K2).1 (w.heap.size + 1) 4 (by omega) (by omega)).trans (b4)
  replace fb4 : w2.frozen? ⟨w.heap.size + 1, 4, none⟩ = false := ((kcell K2).2 (w.heap.size + 1) 4 (by omega) (by omega)).trans (fb4)
  have hz2 : w.heap.size + 2 < w2.heap.size := by have := K2.size; omega
  have KB : Hid (Kept r w w2) := KA.out.trans K2
  have hy0 := hy.1
  have hy1 := hy.2.1 (by decide)
  have RB : Hid (RdB w2 r ad len cap (m + 2)) := R2.more (by omega)
  clear K2 KA R1 R2 hy hcz
  by_cases g0 : y = 0
  · subst g0
    go_wp2
    refine bodyPost_ret (v := .agg #[.int .i64 z, .int .i64 z1, .int .i64 z2, .int .i64 z3, .int .i64 z4]) (by simp [results, Try.results26, go_sem, b0, b1, b2, b3, b4]) rfl ⟨z, z1, z2, z3, z4, rfl, ⟨hsz, s1, s2, s3, s4⟩, ?_, ?_⟩
    · obtain ⟨p, p0, p1, hp⟩ := RB.out
      exact ⟨p, p0, p1, hp.below (((((((Below.refl _ _).setCell (by simp <;> omega) _).setCell (by simp <;> omega) _).setCell (by simp <;> omega) _).setCell (by simp <;> omega) _).setCell (by simp <;> omega) _).setCell (by simp <;> omega) _)⟩
    · exact ((((((KB.out).setCell (.inl (by simp <;> omega)) _).setCell (.inl (by simp <;> omega)) _).setCell (.inl (by simp <;> omega)) _).setCell (.inl (by simp <;> omega)) _).setCell (.inl (by simp <;> omega)) _).setCell (.inl (by simp <;> omega)) _
  · have e0 : (y == 0) = false := by simpa using g0
    by_cases g1 : y = 1
    · subst g1
      go_wp2
      refine bodyPost_ret (v := .agg #[.int .i64 z0, .int .i64 z, .int .i64 z2, .int .i64 z3, .int .i64 z4]) (by simp [results, Try.results26, go_sem, b0, b1, b2, b3, b4]) rfl ⟨z0, z, z2, z3, z4, rfl, ⟨s0, hsz, s2, s3, s4⟩, ?_, ?_⟩
      · obtain ⟨p, p0, p1, hp⟩ := RB.out
        exact ⟨p, p0, p1, hp.below (((((((Below.refl _ _).setCell (by simp <;> omega) _).setCell (by simp <;> omega) _).setCell (by simp <;> omega) _).setCell (by simp <;> omega) _).setCell (by simp <;> omega) _).setCell (by simp <;> omega) _)⟩
      · exact ((((((KB.out).setCell (.inl (by simp <;> omega)) _).setCell (.inl (by simp <;> omega)) _).setCell (.inl (by simp <;> omega)) _).setCell (.inl (by simp <;> omega)) _).setCell (.inl (by simp <;> omega)) _).setCell (.inl (by simp <;> omega)) _
    · have e1 : (y == 1) = false := by simpa using g1
      by_cases g2 : y = 2
      · subst g2
        go_wp2
        refine bodyPost_ret (v := .agg #[.int .i64 z0, .int .i64 z1, .int .i64 z, .int .i64 z3, .int .i64 z4]) (by simp [results, Try.results26, go_sem, b0, b1, b2, b3, b4]) rfl ⟨z0, z1, z, z3, z4, rfl, ⟨s0, s1, hsz, s3, s4⟩, ?_, ?_⟩
        · obtain ⟨p, p0, p1, hp⟩ := RB.out
          exact ⟨p, p0, p1, hp.below (((((((Below.refl _ _).setCell (by simp <;> omega) _).setCell (by simp <;> omega) _).setCell (by simp <;> omega) _).setCell (by simp <;> omega) _).setCell (by simp <;> omega) _).setCell (by simp <;> omega) _)⟩
        · exact ((((((KB.out).setCell (.inl (by simp <;> omega)) _).setCell (.inl (by simp <;> omega)) _).setCell (.inl (by simp <;> omega)) _).setCell (.inl (by simp <;> omega)) _).setCell (.inl (by simp <;> omega)) _).setCell (.inl (by simp <;> omega)) _
      · have e2 : (y == 2) = false := by simpa using g2
        by_cases g3 : y = 3
        · subst g3
          go_wp2
          refine bodyPost_ret (v := .agg #[.int .i64 z0, .int .i64 z1, .int .i64 z2, .int .i64 z, .int .i64 z4]) (by simp [results, Try.results26, go_sem, b0, b1, b2, b3, b4]) rfl ⟨z0, z1, z2, z, z4, rfl, ⟨s0, s1, s2, hsz, s4⟩, ?_, ?_⟩
          · obtain ⟨p, p0, p1, hp⟩ := RB.out
            exact ⟨p, p0, p1, hp.below (((((((Below.refl _ _).setCell (by simp <;> omega) _).setCell (by simp <;> omega) _).setCell (by simp <;> omega) _).setCell (by simp <;> omega) _).setCell (by simp <;> omega) _).setCell (by simp <;> omega) _)⟩
          · exact ((((((KB.out).setCell (.inl (by simp <;> omega)) _).setCell (.inl (by simp <;> omega)) _).setCell (.inl (by simp <;> omega)) _).setCell (.inl (by simp <;> omega)) _).setCell (.inl (by simp <;> omega)) _).setCell (.inl (by simp <;> omega)) _
        · have e3 : (y == 3) = false := by simpa using g3
          go_wp2
          refine bodyPost_ret (v := .agg #[.int .i64 z0, .int .i64 z1, .int .i64 z2, .int .i64 z3, .int .i64 z]) (by simp [results, Try.results26, go_sem, b0, b1, b2, b3, b4]) rfl ⟨z0, z1, z2, z3, z, rfl, ⟨s0, s1, s2, s3, hsz⟩, ?_, ?_⟩
          · obtain ⟨p, p0, p1, hp⟩ := RB.out
            exact ⟨p, p0, p1, hp.below (((((((Below.refl _ _).setCell (by simp <;> omega) _).setCell (by simp <;> omega) _).setCell (by simp <;> omega) _).setCell (by simp <;> omega) _).setCell (by simp <;> omega) _).setCell (by simp <;> omega) _)⟩
          · exact ((((((KB.out).setCell (.inl (by simp <;> omega)) _).setCell (.inl (by simp <;> omega)) _).setCell (.inl (by simp <;> omega)) _).setCell (.inl (by simp <;> omega)) _).setCell (.inl (by simp <;> omega)) _).setCell (.inl (by simp <;> omega)) _
end Go.Proofs.Ytkobiniogigloaa
