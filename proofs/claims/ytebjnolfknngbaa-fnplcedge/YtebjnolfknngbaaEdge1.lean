/- The walk of DrawPlcEdge: a map, a place and a side within bounds; conditions: those typed. -/
import Derived.Test.YtebjnolfknngbaaEdge0
namespace Go.Proofs.Ytebjnolfknngbaa
open Go.RowKit
set_option linter.unusedVariables false

set_option maxHeartbeats 8000000 in
theorem drawEdge_any (a : Option Addr) (len cap : Nat) (zs : List Int) (w : World) (h : IsRow w a len cap zs) :
    Calls Try.prog 4 #[.slice a len cap] w fun e w' => ∃ c d k s, e = .returned (.tuple #[.agg #[.int .i64 c, .int .i64 d], .int .i64 k, .int .i64 s]) ∧ MapOut c d ∧ -100 ≤ k ∧ k ≤ 100 ∧ -1 ≤ s ∧ s ≤ 2 ∧ Below w.heap.size w w' := by
  have H : Hid (IsRow (w.alloc (.cells #[.int .i64 0, .int .i64 0] 24)) a len cap zs) := rowAlloc h _
  clear h
  go_enter Try.func4, Try.ntmps4
  go_wp2_with fail
  refine (open_any a len cap zs _ H.out).mono ?_
  rintro e w1 ⟨rfl, R1, B1, S1⟩
  have R : RdB w1 (w.heap.size + 1) a (min len 2000) cap 0 := ⟨0, by omega, by omega, by simpa using R1⟩
  have T1 : Two w1 w.heap.size (.int .i64 0) (.int .i64 0) := Two.below (W := w.alloc (.cells #[.int .i64 0, .int .i64 0] 24)) (by simp [Two]) B1
  have Q1 : KK (w.heap.size + 1) w w1 := ((Kept.refl _ w).alloc _).trans (Kept.ofBelow B1)
  have hz1 : w1.heap.size = w.heap.size + 2 := by simpa using S1
  clear R1 S1 B1
  go_wp2_with fail
  refine (map_B R (by omega)).mono ?_
  rintro e w2 ⟨c, d, rfl, hm, R2, K2⟩
  have T2 := Two.kept K2 T1 (by omega)
  have Q2 : KK (w.heap.size + 1) w w2 := KK.kept K2 Q1
  have hz2 : w.heap.size + 2 ≤ w2.heap.size := by have := K2.size; omega
  clear R K2 T1 Q1 hz1
  obtain ⟨t0, t1, t2, t3⟩ := T2
  go_wp2
  -- region
  have hS0 : Two (w2.alloc (.cells #[.int .i64 c, .int .i64 d] 24)) w2.heap.size (.int .i64 c) (.int .i64 d) := by simp [Two]
  have R0 := R2.alloc (.cells #[.int .i64 c, .int .i64 d] 24)
  have T0 : Two (w2.alloc (.cells #[.int .i64 c, .int .i64 d] 24)) w.heap.size (.int .i64 0) (.int .i64 0) := Two.alloc ⟨t0, t1, t2, t3⟩ _
  have Q0 := Q2.alloc (.cells #[.int .i64 c, .int .i64 d] 24)
  clear R2 t0 t1 t2 t3 Q2
  generalize (w2.alloc (.cells #[.int .i64 c, .int .i64 d] 24)) = w3 at *
  have hd0 := hm.2.2.1
  have hd1 := hm.2.2.2
  have hcd := mulOut hm
  have wd1 : IntKind.i64.wrap (d - 1) = d - 1 := wrap_id (by omega) (by omega)
  have wd2 : IntKind.i64.wrap (2 * d) = 2 * d := wrap_id (by omega) (by omega)
  have wd3 : IntKind.i64.wrap (2 * d - 1) = 2 * d - 1 := wrap_id (by omega) (by omega)
  have wd4 : IntKind.i64.wrap (c * d) = c * d := wrap_id (by omega) (by omega)
  have wd5 : IntKind.i64.wrap (c * d - 1) = c * d - 1 := wrap_id (by omega) (by omega)
  clear hd0 hd1 hcd
  refine wp_region_held_drew (S := fun W => Two W (w2.heap.size) (.int .i64 c) (.int .i64 d)) (by kernel_rfl) hS0 ?_
  intro hHeld
  replace R0 := R0.drew
  replace T0 := T0.drew
  replace Q0 := Q0.drew
  clear hS0
  generalize w3.drew = w4 at *
  refine wpAnyH_take (i := 0) (v := .agg #[.int .i64 c, .int .i64 d]) rfl (by kernel_rfl) (by kernel_rfl) (by kernel_rfl) (fun _ _ _ h => h) (Or.inl ⟨by rfl, ?_⟩) (by assumption) ?_
  · intro wx hSw; obtain ⟨s0, s1, _, _⟩ := hSw; go_simp
  try simp only [Act.put, List.setIfInBounds_toArray, List.set_cons_zero, List.set_cons_succ, List.getElem_toArray, List.getElem_cons_zero]
  refine wpAnyH_take (i := 1) (v := .pointer (some ⟨w2.heap.size, 1, none⟩)) rfl (by kernel_rfl) (by kernel_rfl) (by kernel_rfl) (fun _ _ _ h => h) (Or.inl ⟨by rfl, ?_⟩) (by assumption) ?_
  · intro wx hSw; obtain ⟨s0, s1, _, _⟩ := hSw; go_simp
  try simp only [Act.put, List.setIfInBounds_toArray, List.set_cons_zero, List.set_cons_succ, List.getElem_toArray, List.getElem_cons_zero, List.getElem_cons_succ]
  refine wpAnyH_take (i := 2) (v := .int .i64 d) rfl (by kernel_rfl) (by kernel_rfl) (by kernel_rfl) (fun _ _ _ h => h) (Or.inl ⟨by rfl, ?_⟩) (by assumption) ?_
  · intro wx hSw; obtain ⟨s0, s1, _, _⟩ := hSw; go_simp
  try simp only [Act.put, List.setIfInBounds_toArray, List.set_cons_zero, List.set_cons_succ, List.getElem_toArray, List.getElem_cons_zero, List.getElem_cons_succ]
  refine wpAnyH_take (i := 3) (v := .int .i64 (d - 1)) rfl (by kernel_rfl) (by kernel_rfl) (by kernel_rfl) (fun _ _ _ h => h) (Or.inl ⟨by rfl, ?_⟩) (by assumption) ?_
  · intro wx hSw; obtain ⟨s0, s1, _, _⟩ := hSw; go_simp
  try simp only [Act.put, List.setIfInBounds_toArray, List.set_cons_zero, List.set_cons_succ, List.getElem_toArray, List.getElem_cons_zero, List.getElem_cons_succ]
  refine wpAnyH_take (i := 4) (v := .pointer (some ⟨w2.heap.size, 1, none⟩)) rfl (by kernel_rfl) (by kernel_rfl) (by kernel_rfl) (fun _ _ _ h => h) (Or.inl ⟨by rfl, ?_⟩) (by assumption) ?_
  · intro wx hSw; obtain ⟨s0, s1, _, _⟩ := hSw; go_simp
  try simp only [Act.put, List.setIfInBounds_toArray, List.set_cons_zero, List.set_cons_succ, List.getElem_toArray, List.getElem_cons_zero, List.getElem_cons_succ]
  refine wpAnyH_take (i := 5) (v := .int .i64 d) rfl (by kernel_rfl) (by kernel_rfl) (by kernel_rfl) (fun _ _ _ h => h) (Or.inl ⟨by rfl, ?_⟩) (by assumption) ?_
  · intro wx hSw; obtain ⟨s0, s1, _, _⟩ := hSw; go_simp
  try simp only [Act.put, List.setIfInBounds_toArray, List.set_cons_zero, List.set_cons_succ, List.getElem_toArray, List.getElem_cons_zero, List.getElem_cons_succ]
  refine wpAnyH_take (i := 6) (v := .pointer (some ⟨w2.heap.size, 1, none⟩)) rfl (by kernel_rfl) (by kernel_rfl) (by kernel_rfl) (fun _ _ _ h => h) (Or.inl ⟨by rfl, ?_⟩) (by assumption) ?_
  · intro wx hSw; obtain ⟨s0, s1, _, _⟩ := hSw; go_simp
  try simp only [Act.put, List.setIfInBounds_toArray, List.set_cons_zero, List.set_cons_succ, List.getElem_toArray, List.getElem_cons_zero, List.getElem_cons_succ]
  refine wpAnyH_take (i := 7) (v := .int .i64 d) rfl (by kernel_rfl) (by kernel_rfl) (by kernel_rfl) (fun _ _ _ h => h) (Or.inl ⟨by rfl, ?_⟩) (by assumption) ?_
  · intro wx hSw; obtain ⟨s0, s1, _, _⟩ := hSw; go_simp
  try simp only [Act.put, List.setIfInBounds_toArray, List.set_cons_zero, List.set_cons_succ, List.getElem_toArray, List.getElem_cons_zero, List.getElem_cons_succ]
  refine wpAnyH_take (i := 8) (v := .int .i64 (2 * d)) rfl (by kernel_rfl) (by kernel_rfl) (by kernel_rfl) (fun _ _ _ h => h) (Or.inl ⟨by rfl, ?_⟩) (by assumption) ?_
  · intro wx hSw; obtain ⟨s0, s1, _, _⟩ := hSw; go_simp
  try simp only [Act.put, List.setIfInBounds_toArray, List.set_cons_zero, List.set_cons_succ, List.getElem_toArray, List.getElem_cons_zero, List.getElem_cons_succ]
  refine wpAnyH_take (i := 9) (v := .int .i64 (2 * d - 1)) rfl (by kernel_rfl) (by kernel_rfl) (by kernel_rfl) (fun _ _ _ h => h) (Or.inl ⟨by rfl, ?_⟩) (by assumption) ?_
  · intro wx hSw; obtain ⟨s0, s1, _, _⟩ := hSw; go_simp
  try simp only [Act.put, List.setIfInBounds_toArray, List.set_cons_zero, List.set_cons_succ, List.getElem_toArray, List.getElem_cons_zero, List.getElem_cons_succ]
  refine wpAnyH_take (i := 10) (v := .pointer (some ⟨w2.heap.size, 0, none⟩)) rfl (by kernel_rfl) (by kernel_rfl) (by kernel_rfl) (fun _ _ _ h => h) (Or.inl ⟨by rfl, ?_⟩) (by assumption) ?_
  · intro wx hSw; obtain ⟨s0, s1, _, _⟩ := hSw; go_simp
  try simp only [Act.put, List.setIfInBounds_toArray, List.set_cons_zero, List.set_cons_succ, List.getElem_toArray, List.getElem_cons_zero, List.getElem_cons_succ]
  refine wpAnyH_take (i := 11) (v := .int .i64 c) rfl (by kernel_rfl) (by kernel_rfl) (by kernel_rfl) (fun _ _ _ h => h) (Or.inl ⟨by rfl, ?_⟩) (by assumption) ?_
  · intro wx hSw; obtain ⟨s0, s1, _, _⟩ := hSw; go_simp
  try simp only [Act.put, List.setIfInBounds_toArray, List.set_cons_zero, List.set_cons_succ, List.getElem_toArray, List.getElem_cons_zero, List.getElem_cons_succ]
  refine wpAnyH_take (i := 12) (v := .pointer (some ⟨w2.heap.size, 1, none⟩)) rfl (by kernel_rfl) (by kernel_rfl) (by kernel_rfl) (fun _ _ _ h => h) (Or.inl ⟨by rfl, ?_⟩) (by assumption) ?_
  · intro wx hSw; obtain ⟨s0, s1, _, _⟩ := hSw; go_simp
  try simp only [Act.put, List.setIfInBounds_toArray, List.set_cons_zero, List.set_cons_succ, List.getElem_toArray, List.getElem_cons_zero, List.getElem_cons_succ]
  refine wpAnyH_take (i := 13) (v := .int .i64 d) rfl (by kernel_rfl) (by kernel_rfl) (by kernel_rfl) (fun _ _ _ h => h) (Or.inl ⟨by rfl, ?_⟩) (by assumption) ?_
  · intro wx hSw; obtain ⟨s0, s1, _, _⟩ := hSw; go_simp
  try simp only [Act.put, List.setIfInBounds_toArray, List.set_cons_zero, List.set_cons_succ, List.getElem_toArray, List.getElem_cons_zero, List.getElem_cons_succ]
  refine wpAnyH_take (i := 14) (v := .int .i64 (c * d)) rfl (by kernel_rfl) (by kernel_rfl) (by kernel_rfl) (fun _ _ _ h => h) (Or.inl ⟨by rfl, ?_⟩) (by assumption) ?_
  · intro wx hSw; obtain ⟨s0, s1, _, _⟩ := hSw; go_simp
  try simp only [Act.put, List.setIfInBounds_toArray, List.set_cons_zero, List.set_cons_succ, List.getElem_toArray, List.getElem_cons_zero, List.getElem_cons_succ]
  refine wpAnyH_take (i := 15) (v := .int .i64 (c * d - 1)) rfl (by kernel_rfl) (by kernel_rfl) (by kernel_rfl) (fun _ _ _ h => h) (Or.inl ⟨by rfl, ?_⟩) (by assumption) ?_
  · intro wx hSw; obtain ⟨s0, s1, _, _⟩ := hSw; go_simp
  try simp only [Act.put, List.setIfInBounds_toArray, List.set_cons_zero, List.set_cons_succ, List.getElem_toArray, List.getElem_cons_zero, List.getElem_cons_succ]
  refine wpAnyH_take (i := 16) (v := .pointer (some ⟨w.heap.size + 1, 0, none⟩)) rfl (by kernel_rfl) (by kernel_rfl) (by kernel_rfl) (fun _ _ _ h => h) (Or.inl ⟨by rfl, ?_⟩) (by assumption) ?_
  · intro wx hSw; obtain ⟨s0, s1, _, _⟩ := hSw; go_simp
  try simp only [Act.put, List.setIfInBounds_toArray, List.set_cons_zero, List.set_cons_succ, List.getElem_toArray, List.getElem_cons_zero, List.getElem_cons_succ]
  refine wpAnyH_take (i := 19) (v := .pointer (some ⟨w.heap.size + 1, 0, none⟩)) rfl (by kernel_rfl) (by kernel_rfl) (by kernel_rfl) (fun _ _ _ h => h) (Or.inl ⟨by rfl, ?_⟩) (by assumption) ?_
  · intro wx hSw; obtain ⟨s0, s1, _, _⟩ := hSw; go_simp
  try simp only [Act.put, List.setIfInBounds_toArray, List.set_cons_zero, List.set_cons_succ, List.getElem_toArray, List.getElem_cons_zero, List.getElem_cons_succ]
  refine wpAnyH_take (i := 24) (v := .pointer (some ⟨w.heap.size + 1, 0, none⟩)) rfl (by kernel_rfl) (by kernel_rfl) (by kernel_rfl) (fun _ _ _ h => h) (Or.inl ⟨by rfl, ?_⟩) (by assumption) ?_
  · intro wx hSw; obtain ⟨s0, s1, _, _⟩ := hSw; go_simp
  try simp only [Act.put, List.setIfInBounds_toArray, List.set_cons_zero, List.set_cons_succ, List.getElem_toArray, List.getElem_cons_zero, List.getElem_cons_succ]
  have hHeld0 := hHeld
  refine wpAnyH_ready (rs := [17, 23]) (by kernel_rfl) (by simp) ?_
  refine AllReadyH.cons rfl (fun K hK => ?_) (AllReadyH.cons rfl (fun K hK => ?_) AllReadyH.nil)
  · go_simp
    go_wp2_with (go_at_call 12; refine (pick_B R0 (by omega)).mono ?_; rintro e w1 ⟨u2, rfl, ⟨u2a, u2b, _⟩, R3, K4⟩)
    replace u2b := u2b (by decide)
    have T5 := Two.kept K4 T0 (by omega)
    have Q6 := KK.kept K4 Q0
    refine hK.out _ _ (Two.kept K4 hHeld0 (by omega)) (fun hHeld => ?_)
    clear hK K4 R0 T0 Q0 hHeld0
    try simp only [Act.put, List.setIfInBounds_toArray, List.set_cons_zero, List.set_cons_succ, List.getElem_toArray, List.getElem_cons_zero, List.getElem_cons_succ]
    have hs7 := hHeld
    refine wpAnyH_ready (rs := [18, 20, 23]) (by kernel_rfl) (by simp) ?_
    refine AllReadyH.cons rfl (fun K hK => ?_) (AllReadyH.cons rfl (fun K hK => ?_) (AllReadyH.cons rfl (fun K hK => ?_) AllReadyH.nil))
    · go_simp
      have R9 := R3.alloc (.cells #[Value.int .i64 0, Value.int .i64 (d - 1), Value.int .i64 d, Value.int .i64 (2 * d - 1), Value.int .i64 (c * d - 1), Value.int .i64 (-1), Value.int .i64 u2] 3)
      have T10 := T5.alloc (.cells #[Value.int .i64 0, Value.int .i64 (d - 1), Value.int .i64 d, Value.int .i64 (2 * d - 1), Value.int .i64 (c * d - 1), Value.int .i64 (-1), Value.int .i64 u2] 3)
      have Q11 := Q6.alloc (.cells #[Value.int .i64 0, Value.int .i64 (d - 1), Value.int .i64 d, Value.int .i64 (2 * d - 1), Value.int .i64 (c * d - 1), Value.int .i64 (-1), Value.int .i64 u2] 3)
      have G12 : Lits (w1.alloc (.cells #[Value.int .i64 0, Value.int .i64 (d - 1), Value.int .i64 d, Value.int .i64 (2 * d - 1), Value.int .i64 (c * d - 1), Value.int .i64 (-1), Value.int .i64 u2] 3)) w1.heap.size (lit7 c d u2) := Lits.new (lit7 c d u2) _ _
      have ng13 : w.heap.size + 1 < w1.heap.size := R3.lt
      refine hK.out _ _ (hs7.alloc _) (fun hHeld => ?_)
      refine wpAnyH_more (S' := fun W => Two W (w2.heap.size) (.int .i64 c) (.int .i64 d) ∧ Lits W (w1.heap.size) (lit7 c d u2)) (fun W ⟨x0, x1⟩ => x0) _ _ _ _ ?_
      have hHeld : (fun W => Two W (w2.heap.size) (.int .i64 c) (.int .i64 d) ∧ Lits W (w1.heap.size) (lit7 c d u2)) (w1.alloc (.cells #[Value.int .i64 0, Value.int .i64 (d - 1), Value.int .i64 d, Value.int .i64 (2 * d - 1), Value.int .i64 (c * d - 1), Value.int .i64 (-1), Value.int .i64 u2] 3)) := ⟨hHeld, G12⟩
      clear hK G12 R3 T5 Q6 hs7
      try simp only [Act.put, List.setIfInBounds_toArray, List.set_cons_zero, List.set_cons_succ, List.getElem_toArray, List.getElem_cons_zero, List.getElem_cons_succ]
      generalize w1.alloc (.cells #[Value.int .i64 0, Value.int .i64 (d - 1), Value.int .i64 d, Value.int .i64 (2 * d - 1), Value.int .i64 (c * d - 1), Value.int .i64 (-1), Value.int .i64 u2] 3) = w8 at *
      obtain ⟨hs14, hs15⟩ := (show Two w8 (w2.heap.size) (.int .i64 c) (.int .i64 d) ∧ Lits w8 (w1.heap.size) (lit7 c d u2) from hHeld)
      refine wpAnyH_ready (rs := [20, 23]) (by kernel_rfl) (by simp) ?_
      refine AllReadyH.cons rfl (fun K hK => ?_) (AllReadyH.cons rfl (fun K hK => ?_) AllReadyH.nil)
      · go_simp
        go_wp2_with (go_at_call 12; refine (pick_B R9 (by omega)).mono ?_; rintro e w16 ⟨u17, rfl, ⟨u17a, u17b, _⟩, R18, K19⟩)
        replace u17b := u17b (by decide)
        have T20 := Two.kept K19 T10 (by omega)
        have Q21 := KK.kept K19 Q11
        refine hK.out _ _ ⟨Two.kept K19 hs14 (by omega), Lits.kept K19 hs15 (by omega)⟩ (fun hHeld => ?_)
        clear hK K19 R9 T10 Q11 hs14 hs15
        try simp only [Act.put, List.setIfInBounds_toArray, List.set_cons_zero, List.set_cons_succ, List.getElem_toArray, List.getElem_cons_zero, List.getElem_cons_succ]
        obtain ⟨hs22, hs23⟩ := (show Two w16 (w2.heap.size) (.int .i64 c) (.int .i64 d) ∧ Lits w16 (w1.heap.size) (lit7 c d u2) from hHeld)
        refine wpAnyH_take (i := 21) (v := .pointer (some ⟨w1.heap.size, u17.toNat, none⟩)) rfl (by kernel_rfl) (by kernel_rfl) (by kernel_rfl) (fun _ _ _ h => h) (Or.inl ⟨by rfl, ?_⟩) (by assumption) ?_
        · intro wx hSw; go_simp
        try simp only [Act.put, List.setIfInBounds_toArray, List.set_cons_zero, List.set_cons_succ, List.getElem_toArray, List.getElem_cons_zero, List.getElem_cons_succ]
        refine wpAnyH_take (i := 22) (v := .int .i64 ((lit7 c d u2).getD u17.toNat 0)) rfl (by kernel_rfl) (by kernel_rfl) (by kernel_rfl) (fun _ _ _ h => h) (Or.inl ⟨by rfl, ?_⟩) (by assumption) ?_
        · intro wx hSw; have hl := hSw.2.2 u17 u17a (by simp [lit7]; omega); clear hSw; go_simp
        try simp only [Act.put, List.setIfInBounds_toArray, List.set_cons_zero, List.set_cons_succ, List.getElem_toArray, List.getElem_cons_zero, List.getElem_cons_succ]
        refine wpAnyH_ready (rs := [23, 25]) (by kernel_rfl) (by simp) ?_
        refine AllReadyH.cons rfl (fun K hK => ?_) (AllReadyH.cons rfl (fun K hK => ?_) AllReadyH.nil)
        · go_simp
          have R25 := R18.alloc (.cells #[Value.int .i64 0, Value.int .i64 1, Value.int .i64 0, Value.int .i64 1, Value.int .i64 2, Value.int .i64 (-1)] 3)
          have T26 := T20.alloc (.cells #[Value.int .i64 0, Value.int .i64 1, Value.int .i64 0, Value.int .i64 1, Value.int .i64 2, Value.int .i64 (-1)] 3)
          have Q27 := Q21.alloc (.cells #[Value.int .i64 0, Value.int .i64 1, Value.int .i64 0, Value.int .i64 1, Value.int .i64 2, Value.int .i64 (-1)] 3)
          have G28 : Lits (w16.alloc (.cells #[Value.int .i64 0, Value.int .i64 1, Value.int .i64 0, Value.int .i64 1, Value.int .i64 2, Value.int .i64 (-1)] 3)) w16.heap.size [0, 1, 0, 1, 2, -1] := Lits.new [0, 1, 0, 1, 2, -1] _ _
          have ng29 : w.heap.size + 1 < w16.heap.size := R18.lt
          refine hK.out _ _ ⟨hs22.alloc _, hs23.alloc _⟩ (fun hHeld => ?_)
          refine wpAnyH_more (S' := fun W => Two W (w2.heap.size) (.int .i64 c) (.int .i64 d) ∧ Lits W (w1.heap.size) (lit7 c d u2) ∧ Lits W (w16.heap.size) [0, 1, 0, 1, 2, -1]) (fun W ⟨x0, x1, x2⟩ => ⟨x0, x1⟩) _ _ _ _ ?_
          obtain ⟨y0, y1⟩ := hHeld
          have hHeld : (fun W => Two W (w2.heap.size) (.int .i64 c) (.int .i64 d) ∧ Lits W (w1.heap.size) (lit7 c d u2) ∧ Lits W (w16.heap.size) [0, 1, 0, 1, 2, -1]) (w16.alloc (.cells #[Value.int .i64 0, Value.int .i64 1, Value.int .i64 0, Value.int .i64 1, Value.int .i64 2, Value.int .i64 (-1)] 3)) := ⟨y0, y1, G28⟩
          clear hK G28 R18 T20 Q21 hs22 hs23 y0 y1
          try simp only [Act.put, List.setIfInBounds_toArray, List.set_cons_zero, List.set_cons_succ, List.getElem_toArray, List.getElem_cons_zero, List.getElem_cons_succ]
          generalize w16.alloc (.cells #[Value.int .i64 0, Value.int .i64 1, Value.int .i64 0, Value.int .i64 1, Value.int .i64 2, Value.int .i64 (-1)] 3) = w24 at *
          obtain ⟨hs30, hs31, hs32⟩ := (show Two w24 (w2.heap.size) (.int .i64 c) (.int .i64 d) ∧ Lits w24 (w1.heap.size) (lit7 c d u2) ∧ Lits w24 (w16.heap.size) [0, 1, 0, 1, 2, -1] from hHeld)
          refine wpAnyH_ready (rs := [25]) (by kernel_rfl) (by simp) ?_
          refine AllReadyH.cons rfl (fun K hK => ?_) AllReadyH.nil
          · go_simp
            go_wp2_with (go_at_call 12; refine (pick_B R25 (by omega)).mono ?_; rintro e w33 ⟨u34, rfl, ⟨u34a, u34b, _⟩, R35, K36⟩)
            replace u34b := u34b (by decide)
            have T37 := Two.kept K36 T26 (by omega)
            have Q38 := KK.kept K36 Q27
            refine hK.out _ _ ⟨Two.kept K36 hs30 (by omega), Lits.kept K36 hs31 (by omega), Lits.kept K36 hs32 (by omega)⟩ (fun hHeld => ?_)
            clear hK K36 R25 T26 Q27 hs30 hs31 hs32
            try simp only [Act.put, List.setIfInBounds_toArray, List.set_cons_zero, List.set_cons_succ, List.getElem_toArray, List.getElem_cons_zero, List.getElem_cons_succ]
            obtain ⟨hs39, hs40, hs41⟩ := (show Two w33 (w2.heap.size) (.int .i64 c) (.int .i64 d) ∧ Lits w33 (w1.heap.size) (lit7 c d u2) ∧ Lits w33 (w16.heap.size) [0, 1, 0, 1, 2, -1] from hHeld)
            refine wpAnyH_take (i := 26) (v := .pointer (some ⟨w16.heap.size, u34.toNat, none⟩)) rfl (by kernel_rfl) (by kernel_rfl) (by kernel_rfl) (fun _ _ _ h => h) (Or.inl ⟨by rfl, ?_⟩) (by assumption) ?_
            · intro wx hSw; go_simp
            try simp only [Act.put, List.setIfInBounds_toArray, List.set_cons_zero, List.set_cons_succ, List.getElem_toArray, List.getElem_cons_zero, List.getElem_cons_succ]
            refine wpAnyH_take (i := 27) (v := .int .i64 (lit6 u34)) rfl (by kernel_rfl) (by kernel_rfl) (by kernel_rfl) (fun _ _ _ h => h) (Or.inl ⟨by rfl, ?_⟩) (by assumption) ?_
            · intro wx hSw; have hl := lit6_of hSw.2.2 u34 u34a u34b; clear hSw; go_simp
            try simp only [Act.put, List.setIfInBounds_toArray, List.set_cons_zero, List.set_cons_succ, List.getElem_toArray, List.getElem_cons_zero, List.getElem_cons_succ]
            refine wpAnyH_ready (rs := [28]) (by kernel_rfl) (by simp) ?_
            refine AllReadyH.cons rfl (fun K hK => ?_) AllReadyH.nil
            · obtain ⟨t0, t1, t2, t3⟩ := T37
              go_simp
              go_wp2
              have T44 : Two ((w33.setCell ⟨w.heap.size, 0, none⟩ (.int .i64 c)).setCell ⟨w.heap.size, 1, none⟩ (.int .i64 d)) w.heap.size (.int .i64 c) (.int .i64 d) := two_put t0 t1 t2 t3
              have Q45 : KK (w.heap.size + 1) w ((w33.setCell ⟨w.heap.size, 0, none⟩ (.int .i64 c)).setCell ⟨w.heap.size, 1, none⟩ (.int .i64 d)) := kk_put Q38
              refine hK.out _ _ ⟨Two.put hs39 (by omega), Lits.put hs40 (by omega), Lits.put hs41 (by omega)⟩ (fun hHeld => ?_)
              clear hK t0 t1 t2 t3 R35 Q38 hs39 hs40 hs41
              try simp only [Act.put, List.setIfInBounds_toArray, List.set_cons_zero, List.set_cons_succ, List.getElem_toArray, List.getElem_cons_zero, List.getElem_cons_succ]
              generalize ((w33.setCell ⟨w.heap.size, 0, none⟩ (.int .i64 c)).setCell ⟨w.heap.size, 1, none⟩ (.int .i64 d)) = w42 at *
              obtain ⟨hs46, hs47, hs48⟩ := (show Two w42 (w2.heap.size) (.int .i64 c) (.int .i64 d) ∧ Lits w42 (w1.heap.size) (lit7 c d u2) ∧ Lits w42 (w16.heap.size) [0, 1, 0, 1, 2, -1] from hHeld)
              refine wpAnyH_take (i := 29) (v := .int .i64 ((lit7 c d u2).getD u17.toNat 0)) rfl (by kernel_rfl) (by kernel_rfl) (by kernel_rfl) (fun _ _ _ h => h) (Or.inl ⟨by rfl, ?_⟩) (by assumption) ?_
              · intro wx hSw; go_simp
              try simp only [Act.put, List.setIfInBounds_toArray, List.set_cons_zero, List.set_cons_succ, List.getElem_toArray, List.getElem_cons_zero, List.getElem_cons_succ]
              refine wpAnyH_take (i := 30) (v := .int .i64 (lit6 u34)) rfl (by kernel_rfl) (by kernel_rfl) (by kernel_rfl) (fun _ _ _ h => h) (Or.inl ⟨by rfl, ?_⟩) (by assumption) ?_
              · intro wx hSw; go_simp
              try simp only [Act.put, List.setIfInBounds_toArray, List.set_cons_zero, List.set_cons_succ, List.getElem_toArray, List.getElem_cons_zero, List.getElem_cons_succ]
              refine wpAnyH_done (by kernel_rfl) ?_ _
              obtain ⟨e0, e1, _, _⟩ := T44
              clear hs46 hs47 hs48 hHeld
              go_wp2
              exact bodyPost_ret (v := .tuple #[.agg #[.int .i64 c, .int .i64 d], .int .i64 ((lit7 c d u2).getD u17.toNat 0), .int .i64 (lit6 u34)]) (by simp [results, Try.results4, go_sem, e0, e1]) rfl ⟨_, _, _, _, rfl, hm, (lit7_bd hm u2a u2b _).1, (lit7_bd hm u2a u2b _).2, (lit6_bd _).1, (lit6_bd _).2, finB Q45⟩
        · go_simp
          go_wp2_with (go_at_call 12; refine (pick_B R18 (by omega)).mono ?_; rintro e w49 ⟨u50, rfl, ⟨u50a, u50b, _⟩, R51, K52⟩)
          replace u50b := u50b (by decide)
          have T53 := Two.kept K52 T20 (by omega)
          have Q54 := KK.kept K52 Q21
          refine hK.out _ _ ⟨Two.kept K52 hs22 (by omega), Lits.kept K52 hs23 (by omega)⟩ (fun hHeld => ?_)
          clear hK K52 R18 T20 Q21 hs22 hs23
          try simp only [Act.put, List.setIfInBounds_toArray, List.set_cons_zero, List.set_cons_succ, List.getElem_toArray, List.getElem_cons_zero, List.getElem_cons_succ]
          obtain ⟨hs55, hs56⟩ := (show Two w49 (w2.heap.size) (.int .i64 c) (.int .i64 d) ∧ Lits w49 (w1.heap.size) (lit7 c d u2) from hHeld)
          refine wpAnyH_ready (rs := [23, 28]) (by kernel_rfl) (by simp) ?_
          refine AllReadyH.cons rfl (fun K hK => ?_) (AllReadyH.cons rfl (fun K hK => ?_) AllReadyH.nil)
          · go_simp
            have R58 := R51.alloc (.cells #[Value.int .i64 0, Value.int .i64 1, Value.int .i64 0, Value.int .i64 1, Value.int .i64 2, Value.int .i64 (-1)] 3)
            have T59 := T53.alloc (.cells #[Value.int .i64 0, Value.int .i64 1, Value.int .i64 0, Value.int .i64 1, Value.int .i64 2, Value.int .i64 (-1)] 3)
            have Q60 := Q54.alloc (.cells #[Value.int .i64 0, Value.int .i64 1, Value.int .i64 0, Value.int .i64 1, Value.int .i64 2, Value.int .i64 (-1)] 3)
            have G61 : Lits (w49.alloc (.cells #[Value.int .i64 0, Value.int .i64 1, Value.int .i64 0, Value.int .i64 1, Value.int .i64 2, Value.int .i64 (-1)] 3)) w49.heap.size [0, 1, 0, 1, 2, -1] := Lits.new [0, 1, 0, 1, 2, -1] _ _
            have ng62 : w.heap.size + 1 < w49.heap.size := R51.lt
            refine hK.out _ _ ⟨hs55.alloc _, hs56.alloc _⟩ (fun hHeld => ?_)
            refine wpAnyH_more (S' := fun W => Two W (w2.heap.size) (.int .i64 c) (.int .i64 d) ∧ Lits W (w1.heap.size) (lit7 c d u2) ∧ Lits W (w49.heap.size) [0, 1, 0, 1, 2, -1]) (fun W ⟨x0, x1, x2⟩ => ⟨x0, x1⟩) _ _ _ _ ?_
            obtain ⟨y0, y1⟩ := hHeld
            have hHeld : (fun W => Two W (w2.heap.size) (.int .i64 c) (.int .i64 d) ∧ Lits W (w1.heap.size) (lit7 c d u2) ∧ Lits W (w49.heap.size) [0, 1, 0, 1, 2, -1]) (w49.alloc (.cells #[Value.int .i64 0, Value.int .i64 1, Value.int .i64 0, Value.int .i64 1, Value.int .i64 2, Value.int .i64 (-1)] 3)) := ⟨y0, y1, G61⟩
            clear hK G61 R51 T53 Q54 hs55 hs56 y0 y1
            try simp only [Act.put, List.setIfInBounds_toArray, List.set_cons_zero, List.set_cons_succ, List.getElem_toArray, List.getElem_cons_zero, List.getElem_cons_succ]
            generalize w49.alloc (.cells #[Value.int .i64 0, Value.int .i64 1, Value.int .i64 0, Value.int .i64 1, Value.int .i64 2, Value.int .i64 (-1)] 3) = w57 at *
            obtain ⟨hs63, hs64, hs65⟩ := (show Two w57 (w2.heap.size) (.int .i64 c) (.int .i64 d) ∧ Lits w57 (w1.heap.size) (lit7 c d u2) ∧ Lits w57 (w49.heap.size) [0, 1, 0, 1, 2, -1] from hHeld)
            refine wpAnyH_take (i := 26) (v := .pointer (some ⟨w49.heap.size, u50.toNat, none⟩)) rfl (by kernel_rfl) (by kernel_rfl) (by kernel_rfl) (fun _ _ _ h => h) (Or.inl ⟨by rfl, ?_⟩) (by assumption) ?_
            · intro wx hSw; go_simp
            try simp only [Act.put, List.setIfInBounds_toArray, List.set_cons_zero, List.set_cons_succ, List.getElem_toArray, List.getElem_cons_zero, List.getElem_cons_succ]
            refine wpAnyH_take (i := 27) (v := .int .i64 (lit6 u50)) rfl (by kernel_rfl) (by kernel_rfl) (by kernel_rfl) (fun _ _ _ h => h) (Or.inl ⟨by rfl, ?_⟩) (by assumption) ?_
            · intro wx hSw; have hl := lit6_of hSw.2.2 u50 u50a u50b; clear hSw; go_simp
            try simp only [Act.put, List.setIfInBounds_toArray, List.set_cons_zero, List.set_cons_succ, List.getElem_toArray, List.getElem_cons_zero, List.getElem_cons_succ]
            refine wpAnyH_ready (rs := [28]) (by kernel_rfl) (by simp) ?_
            refine AllReadyH.cons rfl (fun K hK => ?_) AllReadyH.nil
            · obtain ⟨t0, t1, t2, t3⟩ := T59
              go_simp
              go_wp2
              have T68 : Two ((w57.setCell ⟨w.heap.size, 0, none⟩ (.int .i64 c)).setCell ⟨w.heap.size, 1, none⟩ (.int .i64 d)) w.heap.size (.int .i64 c) (.int .i64 d) := two_put t0 t1 t2 t3
              have Q69 : KK (w.heap.size + 1) w ((w57.setCell ⟨w.heap.size, 0, none⟩ (.int .i64 c)).setCell ⟨w.heap.size, 1, none⟩ (.int .i64 d)) := kk_put Q60
              refine hK.out _ _ ⟨Two.put hs63 (by omega), Lits.put hs64 (by omega), Lits.put hs65 (by omega)⟩ (fun hHeld => ?_)
              clear hK t0 t1 t2 t3 R58 Q60 hs63 hs64 hs65
              try simp only [Act.put, List.setIfInBounds_toArray, List.set_cons_zero, List.set_cons_succ, List.getElem_toArray, List.getElem_cons_zero, List.getElem_cons_succ]
              generalize ((w57.setCell ⟨w.heap.size, 0, none⟩ (.int .i64 c)).setCell ⟨w.heap.size, 1, none⟩ (.int .i64 d)) = w66 at *
              obtain ⟨hs70, hs71, hs72⟩ := (show Two w66 (w2.heap.size) (.int .i64 c) (.int .i64 d) ∧ Lits w66 (w1.heap.size) (lit7 c d u2) ∧ Lits w66 (w49.heap.size) [0, 1, 0, 1, 2, -1] from hHeld)
              refine wpAnyH_take (i := 29) (v := .int .i64 ((lit7 c d u2).getD u17.toNat 0)) rfl (by kernel_rfl) (by kernel_rfl) (by kernel_rfl) (fun _ _ _ h => h) (Or.inl ⟨by rfl, ?_⟩) (by assumption) ?_
              · intro wx hSw; go_simp
              try simp only [Act.put, List.setIfInBounds_toArray, List.set_cons_zero, List.set_cons_succ, List.getElem_toArray, List.getElem_cons_zero, List.getElem_cons_succ]
              refine wpAnyH_take (i := 30) (v := .int .i64 (lit6 u50)) rfl (by kernel_rfl) (by kernel_rfl) (by kernel_rfl) (fun _ _ _ h => h) (Or.inl ⟨by rfl, ?_⟩) (by assumption) ?_
              · intro wx hSw; go_simp
              try simp only [Act.put, List.setIfInBounds_toArray, List.set_cons_zero, List.set_cons_succ, List.getElem_toArray, List.getElem_cons_zero, List.getElem_cons_succ]
              refine wpAnyH_done (by kernel_rfl) ?_ _
              obtain ⟨e0, e1, _, _⟩ := T68
              clear hs70 hs71 hs72 hHeld
              go_wp2
              exact bodyPost_ret (v := .tuple #[.agg #[.int .i64 c, .int .i64 d], .int .i64 ((lit7 c d u2).getD u17.toNat 0), .int .i64 (lit6 u50)]) (by simp [results, Try.results4, go_sem, e0, e1]) rfl ⟨_, _, _, _, rfl, hm, (lit7_bd hm u2a u2b _).1, (lit7_bd hm u2a u2b _).2, (lit6_bd _).1, (lit6_bd _).2, finB Q69⟩
          · obtain ⟨t0, t1, t2, t3⟩ := T53
            go_simp
            go_wp2
            have T75 : Two ((w49.setCell ⟨w.heap.size, 0, none⟩ (.int .i64 c)).setCell ⟨w.heap.size, 1, none⟩ (.int .i64 d)) w.heap.size (.int .i64 c) (.int .i64 d) := two_put t0 t1 t2 t3
            have Q76 : KK (w.heap.size + 1) w ((w49.setCell ⟨w.heap.size, 0, none⟩ (.int .i64 c)).setCell ⟨w.heap.size, 1, none⟩ (.int .i64 d)) := kk_put Q54
            refine hK.out _ _ ⟨Two.put hs55 (by omega), Lits.put hs56 (by omega)⟩ (fun hHeld => ?_)
            clear hK t0 t1 t2 t3 R51 Q54 hs55 hs56
            try simp only [Act.put, List.setIfInBounds_toArray, List.set_cons_zero, List.set_cons_succ, List.getElem_toArray, List.getElem_cons_zero, List.getElem_cons_succ]
            generalize ((w49.setCell ⟨w.heap.size, 0, none⟩ (.int .i64 c)).setCell ⟨w.heap.size, 1, none⟩ (.int .i64 d)) = w73 at *
            obtain ⟨hs77, hs78⟩ := (show Two w73 (w2.heap.size) (.int .i64 c) (.int .i64 d) ∧ Lits w73 (w1.heap.size) (lit7 c d u2) from hHeld)
            refine wpAnyH_take (i := 29) (v := .int .i64 ((lit7 c d u2).getD u17.toNat 0)) rfl (by kernel_rfl) (by kernel_rfl) (by kernel_rfl) (fun _ _ _ h => h) (Or.inl ⟨by rfl, ?_⟩) (by assumption) ?_
            · intro wx hSw; go_simp
            try simp only [Act.put, List.setIfInBounds_toArray, List.set_cons_zero, List.set_cons_succ, List.getElem_toArray, List.getElem_cons_zero, List.getElem_cons_succ]
            refine wpAnyH_ready (rs := [23]) (by kernel_rfl) (by simp) ?_
            refine AllReadyH.cons rfl (fun K hK => ?_) AllReadyH.nil
            · go_simp
              have T81 := T75.alloc (.cells #[Value.int .i64 0, Value.int .i64 1, Value.int .i64 0, Value.int .i64 1, Value.int .i64 2, Value.int .i64 (-1)] 3)
              have Q82 := Q76.alloc (.cells #[Value.int .i64 0, Value.int .i64 1, Value.int .i64 0, Value.int .i64 1, Value.int .i64 2, Value.int .i64 (-1)] 3)
              have G83 : Lits (w73.alloc (.cells #[Value.int .i64 0, Value.int .i64 1, Value.int .i64 0, Value.int .i64 1, Value.int .i64 2, Value.int .i64 (-1)] 3)) w73.heap.size [0, 1, 0, 1, 2, -1] := Lits.new [0, 1, 0, 1, 2, -1] _ _
              refine hK.out _ _ ⟨hs77.alloc _, hs78.alloc _⟩ (fun hHeld => ?_)
              refine wpAnyH_more (S' := fun W => Two W (w2.heap.size) (.int .i64 c) (.int .i64 d) ∧ Lits W (w1.heap.size) (lit7 c d u2) ∧ Lits W (w73.heap.size) [0, 1, 0, 1, 2, -1]) (fun W ⟨x0, x1, x2⟩ => ⟨x0, x1⟩) _ _ _ _ ?_
              obtain ⟨y0, y1⟩ := hHeld
              have hHeld : (fun W => Two W (w2.heap.size) (.int .i64 c) (.int .i64 d) ∧ Lits W (w1.heap.size) (lit7 c d u2) ∧ Lits W (w73.heap.size) [0, 1, 0, 1, 2, -1]) (w73.alloc (.cells #[Value.int .i64 0, Value.int .i64 1, Value.int .i64 0, Value.int .i64 1, Value.int .i64 2, Value.int .i64 (-1)] 3)) := ⟨y0, y1, G83⟩
              clear hK G83 T75 Q76 hs77 hs78 y0 y1
              try simp only [Act.put, List.setIfInBounds_toArray, List.set_cons_zero, List.set_cons_succ, List.getElem_toArray, List.getElem_cons_zero, List.getElem_cons_succ]
              generalize w73.alloc (.cells #[Value.int .i64 0, Value.int .i64 1, Value.int .i64 0, Value.int .i64 1, Value.int .i64 2, Value.int .i64 (-1)] 3) = w79 at *
              obtain ⟨hs85, hs86, hs87⟩ := (show Two w79 (w2.heap.size) (.int .i64 c) (.int .i64 d) ∧ Lits w79 (w1.heap.size) (lit7 c d u2) ∧ Lits w79 (w73.heap.size) [0, 1, 0, 1, 2, -1] from hHeld)
              refine wpAnyH_take (i := 26) (v := .pointer (some ⟨w73.heap.size, u50.toNat, none⟩)) rfl (by kernel_rfl) (by kernel_rfl) (by kernel_rfl) (fun _ _ _ h => h) (Or.inl ⟨by rfl, ?_⟩) (by assumption) ?_
              · intro wx hSw; go_simp
              try simp only [Act.put, List.setIfInBounds_toArray, List.set_cons_zero, List.set_cons_succ, List.getElem_toArray, List.getElem_cons_zero, List.getElem_cons_succ]
              refine wpAnyH_take (i := 27) (v := .int .i64 (lit6 u50)) rfl (by kernel_rfl) (by kernel_rfl) (by kernel_rfl) (fun _ _ _ h => h) (Or.inl ⟨by rfl, ?_⟩) (by assumption) ?_
              · intro wx hSw; have hl := lit6_of hSw.2.2 u50 u50a u50b; clear hSw; go_simp
              try simp only [Act.put, List.setIfInBounds_toArray, List.set_cons_zero, List.set_cons_succ, List.getElem_toArray, List.getElem_cons_zero, List.getElem_cons_succ]
              refine wpAnyH_take (i := 30) (v := .int .i64 (lit6 u50)) rfl (by kernel_rfl) (by kernel_rfl) (by kernel_rfl) (fun _ _ _ h => h) (Or.inl ⟨by rfl, ?_⟩) (by assumption) ?_
              · intro wx hSw; go_simp
              try simp only [Act.put, List.setIfInBounds_toArray, List.set_cons_zero, List.set_cons_succ, List.getElem_toArray, List.getElem_cons_zero, List.getElem_cons_succ]
              refine wpAnyH_done (by kernel_rfl) ?_ _
              obtain ⟨e0, e1, _, _⟩ := T81
              clear hs85 hs86 hs87 hHeld
              go_wp2
              exact bodyPost_ret (v := .tuple #[.agg #[.int .i64 c, .int .i64 d], .int .i64 ((lit7 c d u2).getD u17.toNat 0), .int .i64 (lit6 u50)]) (by simp [results, Try.results4, go_sem, e0, e1]) rfl ⟨_, _, _, _, rfl, hm, (lit7_bd hm u2a u2b _).1, (lit7_bd hm u2a u2b _).2, (lit6_bd _).1, (lit6_bd _).2, finB Q82⟩
      · go_simp
        have R89 := R9.alloc (.cells #[Value.int .i64 0, Value.int .i64 1, Value.int .i64 0, Value.int .i64 1, Value.int .i64 2, Value.int .i64 (-1)] 3)
        have T90 := T10.alloc (.cells #[Value.int .i64 0, Value.int .i64 1, Value.int .i64 0, Value.int .i64 1, Value.int .i64 2, Value.int .i64 (-1)] 3)
        have Q91 := Q11.alloc (.cells #[Value.int .i64 0, Value.int .i64 1, Value.int .i64 0, Value.int .i64 1, Value.int .i64 2, Value.int .i64 (-1)] 3)
        have G92 : Lits (w8.alloc (.cells #[Value.int .i64 0, Value.int .i64 1, Value.int .i64 0, Value.int .i64 1, Value.int .i64 2, Value.int .i64 (-1)] 3)) w8.heap.size [0, 1, 0, 1, 2, -1] := Lits.new [0, 1, 0, 1, 2, -1] _ _
        have ng93 : w.heap.size + 1 < w8.heap.size := R9.lt
        refine hK.out _ _ ⟨hs14.alloc _, hs15.alloc _⟩ (fun hHeld => ?_)
        refine wpAnyH_more (S' := fun W => Two W (w2.heap.size) (.int .i64 c) (.int .i64 d) ∧ Lits W (w1.heap.size) (lit7 c d u2) ∧ Lits W (w8.heap.size) [0, 1, 0, 1, 2, -1]) (fun W ⟨x0, x1, x2⟩ => ⟨x0, x1⟩) _ _ _ _ ?_
        obtain ⟨y0, y1⟩ := hHeld
        have hHeld : (fun W => Two W (w2.heap.size) (.int .i64 c) (.int .i64 d) ∧ Lits W (w1.heap.size) (lit7 c d u2) ∧ Lits W (w8.heap.size) [0, 1, 0, 1, 2, -1]) (w8.alloc (.cells #[Value.int .i64 0, Value.int .i64 1, Value.int .i64 0, Value.int .i64 1, Value.int .i64 2, Value.int .i64 (-1)] 3)) := ⟨y0, y1, G92⟩
        clear hK G92 R9 T10 Q11 hs14 hs15 y0 y1
        try simp only [Act.put, List.setIfInBounds_toArray, List.set_cons_zero, List.set_cons_succ, List.getElem_toArray, List.getElem_cons_zero, List.getElem_cons_succ]
        generalize w8.alloc (.cells #[Value.int .i64 0, Value.int .i64 1, Value.int .i64 0, Value.int .i64 1, Value.int .i64 2, Value.int .i64 (-1)] 3) = w88 at *
        obtain ⟨hs94, hs95, hs96⟩ := (show Two w88 (w2.heap.size) (.int .i64 c) (.int .i64 d) ∧ Lits w88 (w1.heap.size) (lit7 c d u2) ∧ Lits w88 (w8.heap.size) [0, 1, 0, 1, 2, -1] from hHeld)
        refine wpAnyH_ready (rs := [20]) (by kernel_rfl) (by simp) ?_
        refine AllReadyH.cons rfl (fun K hK => ?_) AllReadyH.nil
        · go_simp
          go_wp2_with (go_at_call 12; refine (pick_B R89 (by omega)).mono ?_; rintro e w97 ⟨u98, rfl, ⟨u98a, u98b, _⟩, R99, K100⟩)
          replace u98b := u98b (by decide)
          have T101 := Two.kept K100 T90 (by omega)
          have Q102 := KK.kept K100 Q91
          refine hK.out _ _ ⟨Two.kept K100 hs94 (by omega), Lits.kept K100 hs95 (by omega), Lits.kept K100 hs96 (by omega)⟩ (fun hHeld => ?_)
          clear hK K100 R89 T90 Q91 hs94 hs95 hs96
          try simp only [Act.put, List.setIfInBounds_toArray, List.set_cons_zero, List.set_cons_succ, List.getElem_toArray, List.getElem_cons_zero, List.getElem_cons_succ]
          obtain ⟨hs103, hs104, hs105⟩ := (show Two w97 (w2.heap.size) (.int .i64 c) (.int .i64 d) ∧ Lits w97 (w1.heap.size) (lit7 c d u2) ∧ Lits w97 (w8.heap.size) [0, 1, 0, 1, 2, -1] from hHeld)
          refine wpAnyH_take (i := 21) (v := .pointer (some ⟨w1.heap.size, u98.toNat, none⟩)) rfl (by kernel_rfl) (by kernel_rfl) (by kernel_rfl) (fun _ _ _ h => h) (Or.inl ⟨by rfl, ?_⟩) (by assumption) ?_
          · intro wx hSw; go_simp
          try simp only [Act.put, List.setIfInBounds_toArray, List.set_cons_zero, List.set_cons_succ, List.getElem_toArray, List.getElem_cons_zero, List.getElem_cons_succ]
          refine wpAnyH_take (i := 22) (v := .int .i64 ((lit7 c d u2).getD u98.toNat 0)) rfl (by kernel_rfl) (by kernel_rfl) (by kernel_rfl) (fun _ _ _ h => h) (Or.inl ⟨by rfl, ?_⟩) (by assumption) ?_
          · intro wx hSw; have hl := hSw.2.1.2 u98 u98a (by simp [lit7]; omega); clear hSw; go_simp
          try simp only [Act.put, List.setIfInBounds_toArray, List.set_cons_zero, List.set_cons_succ, List.getElem_toArray, List.getElem_cons_zero, List.getElem_cons_succ]
          refine wpAnyH_ready (rs := [25]) (by kernel_rfl) (by simp) ?_
          refine AllReadyH.cons rfl (fun K hK => ?_) AllReadyH.nil
          · go_simp
            go_wp2_with (go_at_call 12; refine (pick_B R99 (by omega)).mono ?_; rintro e w106 ⟨u107, rfl, ⟨u107a, u107b, _⟩, R108, K109⟩)
            replace u107b := u107b (by decide)
            have T110 := Two.kept K109 T101 (by omega)
            have Q111 := KK.kept K109 Q102
            refine hK.out _ _ ⟨Two.kept K109 hs103 (by omega), Lits.kept K109 hs104 (by omega), Lits.kept K109 hs105 (by omega)⟩ (fun hHeld => ?_)
            clear hK K109 R99 T101 Q102 hs103 hs104 hs105
            try simp only [Act.put, List.setIfInBounds_toArray, List.set_cons_zero, List.set_cons_succ, List.getElem_toArray, List.getElem_cons_zero, List.getElem_cons_succ]
            obtain ⟨hs112, hs113, hs114⟩ := (show Two w106 (w2.heap.size) (.int .i64 c) (.int .i64 d) ∧ Lits w106 (w1.heap.size) (lit7 c d u2) ∧ Lits w106 (w8.heap.size) [0, 1, 0, 1, 2, -1] from hHeld)
            refine wpAnyH_take (i := 26) (v := .pointer (some ⟨w8.heap.size, u107.toNat, none⟩)) rfl (by kernel_rfl) (by kernel_rfl) (by kernel_rfl) (fun _ _ _ h => h) (Or.inl ⟨by rfl, ?_⟩) (by assumption) ?_
            · intro wx hSw; go_simp
            try simp only [Act.put, List.setIfInBounds_toArray, List.set_cons_zero, List.set_cons_succ, List.getElem_toArray, List.getElem_cons_zero, List.getElem_cons_succ]
            refine wpAnyH_take (i := 27) (v := .int .i64 (lit6 u107)) rfl (by kernel_rfl) (by kernel_rfl) (by kernel_rfl) (fun _ _ _ h => h) (Or.inl ⟨by rfl, ?_⟩) (by assumption) ?_
            · intro wx hSw; have hl := lit6_of hSw.2.2 u107 u107a u107b; clear hSw; go_simp
            try simp only [Act.put, List.setIfInBounds_toArray, List.set_cons_zero, List.set_cons_succ, List.getElem_toArray, List.getElem_cons_zero, List.getElem_cons_succ]
            refine wpAnyH_ready (rs := [28]) (by kernel_rfl) (by simp) ?_
            refine AllReadyH.cons rfl (fun K hK => ?_) AllReadyH.nil
            · obtain ⟨t0, t1, t2, t3⟩ := T110
              go_simp
              go_wp2
              have T117 : Two ((w106.setCell ⟨w.heap.size, 0, none⟩ (.int .i64 c)).setCell ⟨w.heap.size, 1, none⟩ (.int .i64 d)) w.heap.size (.int .i64 c) (.int .i64 d) := two_put t0 t1 t2 t3
              have Q118 : KK (w.heap.size + 1) w ((w106.setCell ⟨w.heap.size, 0, none⟩ (.int .i64 c)).setCell ⟨w.heap.size, 1, none⟩ (.int .i64 d)) := kk_put Q111
              refine hK.out _ _ ⟨Two.put hs112 (by omega), Lits.put hs113 (by omega), Lits.put hs114 (by omega)⟩ (fun hHeld => ?_)
              clear hK t0 t1 t2 t3 R108 Q111 hs112 hs113 hs114
              try simp only [Act.put, List.setIfInBounds_toArray, List.set_cons_zero, List.set_cons_succ, List.getElem_toArray, List.getElem_cons_zero, List.getElem_cons_succ]
              generalize ((w106.setCell ⟨w.heap.size, 0, none⟩ (.int .i64 c)).setCell ⟨w.heap.size, 1, none⟩ (.int .i64 d)) = w115 at *
              obtain ⟨hs119, hs120, hs121⟩ := (show Two w115 (w2.heap.size) (.int .i64 c) (.int .i64 d) ∧ Lits w115 (w1.heap.size) (lit7 c d u2) ∧ Lits w115 (w8.heap.size) [0, 1, 0, 1, 2, -1] from hHeld)
              refine wpAnyH_take (i := 29) (v := .int .i64 ((lit7 c d u2).getD u98.toNat 0)) rfl (by kernel_rfl) (by kernel_rfl) (by kernel_rfl) (fun _ _ _ h => h) (Or.inl ⟨by rfl, ?_⟩) (by assumption) ?_
              · intro wx hSw; go_simp
              try simp only [Act.put, List.setIfInBounds_toArray, List.set_cons_zero, List.set_cons_succ, List.getElem_toArray, List.getElem_cons_zero, List.getElem_cons_succ]
              refine wpAnyH_take (i := 30) (v := .int .i64 (lit6 u107)) rfl (by kernel_rfl) (by kernel_rfl) (by kernel_rfl) (fun _ _ _ h => h) (Or.inl ⟨by rfl, ?_⟩) (by assumption) ?_
              · intro wx hSw; go_simp
              try simp only [Act.put, List.setIfInBounds_toArray, List.set_cons_zero, List.set_cons_succ, List.getElem_toArray, List.getElem_cons_zero, List.getElem_cons_succ]
              refine wpAnyH_done (by kernel_rfl) ?_ _
              obtain ⟨e0, e1, _, _⟩ := T117
              clear hs119 hs120 hs121 hHeld
              go_wp2
              exact bodyPost_ret (v := .tuple #[.agg #[.int .i64 c, .int .i64 d], .int .i64 ((lit7 c d u2).getD u98.toNat 0), .int .i64 (lit6 u107)]) (by simp [results, Try.results4, go_sem, e0, e1]) rfl ⟨_, _, _, _, rfl, hm, (lit7_bd hm u2a u2b _).1, (lit7_bd hm u2a u2b _).2, (lit6_bd _).1, (lit6_bd _).2, finB Q118⟩
    · go_simp
      go_wp2_with (go_at_call 12; refine (pick_B R3 (by omega)).mono ?_; rintro e w122 ⟨u123, rfl, ⟨u123a, u123b, _⟩, R124, K125⟩)
      replace u123b := u123b (by decide)
      have T126 := Two.kept K125 T5 (by omega)
      have Q127 := KK.kept K125 Q6
      refine hK.out _ _ (Two.kept K125 hs7 (by omega)) (fun hHeld => ?_)
      clear hK K125 R3 T5 Q6 hs7
      try simp only [Act.put, List.setIfInBounds_toArray, List.set_cons_zero, List.set_cons_succ, List.getElem_toArray, List.getElem_cons_zero, List.getElem_cons_succ]
      have hs128 := hHeld
      refine wpAnyH_ready (rs := [18, 23, 25]) (by kernel_rfl) (by simp) ?_
      refine AllReadyH.cons rfl (fun K hK => ?_) (AllReadyH.cons rfl (fun K hK => ?_) (AllReadyH.cons rfl (fun K hK => ?_) AllReadyH.nil))
      · go_simp
        have R130 := R124.alloc (.cells #[Value.int .i64 0, Value.int .i64 (d - 1), Value.int .i64 d, Value.int .i64 (2 * d - 1), Value.int .i64 (c * d - 1), Value.int .i64 (-1), Value.int .i64 u2] 3)
        have T131 := T126.alloc (.cells #[Value.int .i64 0, Value.int .i64 (d - 1), Value.int .i64 d, Value.int .i64 (2 * d - 1), Value.int .i64 (c * d - 1), Value.int .i64 (-1), Value.int .i64 u2] 3)
        have Q132 := Q127.alloc (.cells #[Value.int .i64 0, Value.int .i64 (d - 1), Value.int .i64 d, Value.int .i64 (2 * d - 1), Value.int .i64 (c * d - 1), Value.int .i64 (-1), Value.int .i64 u2] 3)
        have G133 : Lits (w122.alloc (.cells #[Value.int .i64 0, Value.int .i64 (d - 1), Value.int .i64 d, Value.int .i64 (2 * d - 1), Value.int .i64 (c * d - 1), Value.int .i64 (-1), Value.int .i64 u2] 3)) w122.heap.size (lit7 c d u2) := Lits.new (lit7 c d u2) _ _
        have ng134 : w.heap.size + 1 < w122.heap.size := R124.lt
        refine hK.out _ _ (hs128.alloc _) (fun hHeld => ?_)
        refine wpAnyH_more (S' := fun W => Two W (w2.heap.size) (.int .i64 c) (.int .i64 d) ∧ Lits W (w122.heap.size) (lit7 c d u2)) (fun W ⟨x0, x1⟩ => x0) _ _ _ _ ?_
        have hHeld : (fun W => Two W (w2.heap.size) (.int .i64 c) (.int .i64 d) ∧ Lits W (w122.heap.size) (lit7 c d u2)) (w122.alloc (.cells #[Value.int .i64 0, Value.int .i64 (d - 1), Value.int .i64 d, Value.int .i64 (2 * d - 1), Value.int .i64 (c * d - 1), Value.int .i64 (-1), Value.int .i64 u2] 3)) := ⟨hHeld, G133⟩
        clear hK G133 R124 T126 Q127 hs128
        try simp only [Act.put, List.setIfInBounds_toArray, List.set_cons_zero, List.set_cons_succ, List.getElem_toArray, List.getElem_cons_zero, List.getElem_cons_succ]
        generalize w122.alloc (.cells #[Value.int .i64 0, Value.int .i64 (d - 1), Value.int .i64 d, Value.int .i64 (2 * d - 1), Value.int .i64 (c * d - 1), Value.int .i64 (-1), Value.int .i64 u2] 3) = w129 at *
        obtain ⟨hs135, hs136⟩ := (show Two w129 (w2.heap.size) (.int .i64 c) (.int .i64 d) ∧ Lits w129 (w122.heap.size) (lit7 c d u2) from hHeld)
        refine wpAnyH_take (i := 21) (v := .pointer (some ⟨w122.heap.size, u123.toNat, none⟩)) rfl (by kernel_rfl) (by kernel_rfl) (by kernel_rfl) (fun _ _ _ h => h) (Or.inl ⟨by rfl, ?_⟩) (by assumption) ?_
        · intro wx hSw; go_simp
        try simp only [Act.put, List.setIfInBounds_toArray, List.set_cons_zero, List.set_cons_succ, List.getElem_toArray, List.getElem_cons_zero, List.getElem_cons_succ]
        refine wpAnyH_take (i := 22) (v := .int .i64 ((lit7 c d u2).getD u123.toNat 0)) rfl (by kernel_rfl) (by kernel_rfl) (by kernel_rfl) (fun _ _ _ h => h) (Or.inl ⟨by rfl, ?_⟩) (by assumption) ?_
        · intro wx hSw; have hl := hSw.2.2 u123 u123a (by simp [lit7]; omega); clear hSw; go_simp
        try simp only [Act.put, List.setIfInBounds_toArray, List.set_cons_zero, List.set_cons_succ, List.getElem_toArray, List.getElem_cons_zero, List.getElem_cons_succ]
        refine wpAnyH_ready (rs := [23, 25]) (by kernel_rfl) (by simp) ?_
        refine AllReadyH.cons rfl (fun K hK => ?_) (AllReadyH.cons rfl (fun K hK => ?_) AllReadyH.nil)
        · go_simp
          have R138 := R130.alloc (.cells #[Value.int .i64 0, Value.int .i64 1, Value.int .i64 0, Value.int .i64 1, Value.int .i64 2, Value.int .i64 (-1)] 3)
          have T139 := T131.alloc (.cells #[Value.int .i64 0, Value.int .i64 1, Value.int .i64 0, Value.int .i64 1, Value.int .i64 2, Value.int .i64 (-1)] 3)
          have Q140 := Q132.alloc (.cells #[Value.int .i64 0, Value.int .i64 1, Value.int .i64 0, Value.int .i64 1, Value.int .i64 2, Value.int .i64 (-1)] 3)
          have G141 : Lits (w129.alloc (.cells #[Value.int .i64 0, Value.int .i64 1, Value.int .i64 0, Value.int .i64 1, Value.int .i64 2, Value.int .i64 (-1)] 3)) w129.heap.size [0, 1, 0, 1, 2, -1] := Lits.new [0, 1, 0, 1, 2, -1] _ _
          have ng142 : w.heap.size + 1 < w129.heap.size := R130.lt
          refine hK.out _ _ ⟨hs135.alloc _, hs136.alloc _⟩ (fun hHeld => ?_)
          refine wpAnyH_more (S' := fun W => Two W (w2.heap.size) (.int .i64 c) (.int .i64 d) ∧ Lits W (w122.heap.size) (lit7 c d u2) ∧ Lits W (w129.heap.size) [0, 1, 0, 1, 2, -1]) (fun W ⟨x0, x1, x2⟩ => ⟨x0, x1⟩) _ _ _ _ ?_
          obtain ⟨y0, y1⟩ := hHeld
          have hHeld : (fun W => Two W (w2.heap.size) (.int .i64 c) (.int .i64 d) ∧ Lits W (w122.heap.size) (lit7 c d u2) ∧ Lits W (w129.heap.size) [0, 1, 0, 1, 2, -1]) (w129.alloc (.cells #[Value.int .i64 0, Value.int .i64 1, Value.int .i64 0, Value.int .i64 1, Value.int .i64 2, Value.int .i64 (-1)] 3)) := ⟨y0, y1, G141⟩
          clear hK G141 R130 T131 Q132 hs135 hs136 y0 y1
          try simp only [Act.put, List.setIfInBounds_toArray, List.set_cons_zero, List.set_cons_succ, List.getElem_toArray, List.getElem_cons_zero, List.getElem_cons_succ]
          generalize w129.alloc (.cells #[Value.int .i64 0, Value.int .i64 1, Value.int .i64 0, Value.int .i64 1, Value.int .i64 2, Value.int .i64 (-1)] 3) = w137 at *
          obtain ⟨hs143, hs144, hs145⟩ := (show Two w137 (w2.heap.size) (.int .i64 c) (.int .i64 d) ∧ Lits w137 (w122.heap.size) (lit7 c d u2) ∧ Lits w137 (w129.heap.size) [0, 1, 0, 1, 2, -1] from hHeld)
          refine wpAnyH_ready (rs := [25]) (by kernel_rfl) (by simp) ?_
          refine AllReadyH.cons rfl (fun K hK => ?_) AllReadyH.nil
          · go_simp
            go_wp2_with (go_at_call 12; refine (pick_B R138 (by omega)).mono ?_; rintro e w146 ⟨u147, rfl, ⟨u147a, u147b, _⟩, R148, K149⟩)
            replace u147b := u147b (by decide)
            have T150 := Two.kept K149 T139 (by omega)
            have Q151 := KK.kept K149 Q140
            refine hK.out _ _ ⟨Two.kept K149 hs143 (by omega), Lits.kept K149 hs144 (by omega), Lits.kept K149 hs145 (by omega)⟩ (fun hHeld => ?_)
            clear hK K149 R138 T139 Q140 hs143 hs144 hs145
            try simp only [Act.put, List.setIfInBounds_toArray, List.set_cons_zero, List.set_cons_succ, List.getElem_toArray, List.getElem_cons_zero, List.getElem_cons_succ]
            obtain ⟨hs152, hs153, hs154⟩ := (show Two w146 (w2.heap.size) (.int .i64 c) (.int .i64 d) ∧ Lits w146 (w122.heap.size) (lit7 c d u2) ∧ Lits w146 (w129.heap.size) [0, 1, 0, 1, 2, -1] from hHeld)
            refine wpAnyH_take (i := 26) (v := .pointer (some ⟨w129.heap.size, u147.toNat, none⟩)) rfl (by kernel_rfl) (by kernel_rfl) (by kernel_rfl) (fun _ _ _ h => h) (Or.inl ⟨by rfl, ?_⟩) (by assumption) ?_
            · intro wx hSw; go_simp
            try simp only [Act.put, List.setIfInBounds_toArray, List.set_cons_zero, List.set_cons_succ, List.getElem_toArray, List.getElem_cons_zero, List.getElem_cons_succ]
            refine wpAnyH_take (i := 27) (v := .int .i64 (lit6 u147)) rfl (by kernel_rfl) (by kernel_rfl) (by kernel_rfl) (fun _ _ _ h => h) (Or.inl ⟨by rfl, ?_⟩) (by assumption) ?_
            · intro wx hSw; have hl := lit6_of hSw.2.2 u147 u147a u147b; clear hSw; go_simp
            try simp only [Act.put, List.setIfInBounds_toArray, List.set_cons_zero, List.set_cons_succ, List.getElem_toArray, List.getElem_cons_zero, List.getElem_cons_succ]
            refine wpAnyH_ready (rs := [28]) (by kernel_rfl) (by simp) ?_
            refine AllReadyH.cons rfl (fun K hK => ?_) AllReadyH.nil
            · obtain ⟨t0, t1, t2, t3⟩ := T150
              go_simp
              go_wp2
              have T157 : Two ((w146.setCell ⟨w.heap.size, 0, none⟩ (.int .i64 c)).setCell ⟨w.heap.size, 1, none⟩ (.int .i64 d)) w.heap.size (.int .i64 c) (.int .i64 d) := two_put t0 t1 t2 t3
              have Q158 : KK (w.heap.size + 1) w ((w146.setCell ⟨w.heap.size, 0, none⟩ (.int .i64 c)).setCell ⟨w.heap.size, 1, none⟩ (.int .i64 d)) := kk_put Q151
              refine hK.out _ _ ⟨Two.put hs152 (by omega), Lits.put hs153 (by omega), Lits.put hs154 (by omega)⟩ (fun hHeld => ?_)
              clear hK t0 t1 t2 t3 R148 Q151 hs152 hs153 hs154
              try simp only [Act.put, List.setIfInBounds_toArray, List.set_cons_zero, List.set_cons_succ, List.getElem_toArray, List.getElem_cons_zero, List.getElem_cons_succ]
              generalize ((w146.setCell ⟨w.heap.size, 0, none⟩ (.int .i64 c)).setCell ⟨w.heap.size, 1, none⟩ (.int .i64 d)) = w155 at *
              obtain ⟨hs159, hs160, hs161⟩ := (show Two w155 (w2.heap.size) (.int .i64 c) (.int .i64 d) ∧ Lits w155 (w122.heap.size) (lit7 c d u2) ∧ Lits w155 (w129.heap.size) [0, 1, 0, 1, 2, -1] from hHeld)
              refine wpAnyH_take (i := 29) (v := .int .i64 ((lit7 c d u2).getD u123.toNat 0)) rfl (by kernel_rfl) (by kernel_rfl) (by kernel_rfl) (fun _ _ _ h => h) (Or.inl ⟨by rfl, ?_⟩) (by assumption) ?_
              · intro wx hSw; go_simp
              try simp only [Act.put, List.setIfInBounds_toArray, List.set_cons_zero, List.set_cons_succ, List.getElem_toArray, List.getElem_cons_zero, List.getElem_cons_succ]
              refine wpAnyH_take (i := 30) (v := .int .i64 (lit6 u147)) rfl (by kernel_rfl) (by kernel_rfl) (by kernel_rfl) (fun _ _ _ h => h) (Or.inl ⟨by rfl, ?_⟩) (by assumption) ?_
              · intro wx hSw; go_simp
              try simp only [Act.put, List.setIfInBounds_toArray, List.set_cons_zero, List.set_cons_succ, List.getElem_toArray, List.getElem_cons_zero, List.getElem_cons_succ]
              refine wpAnyH_done (by kernel_rfl) ?_ _
              obtain ⟨e0, e1, _, _⟩ := T157
              clear hs159 hs160 hs161 hHeld
              go_wp2
              exact bodyPost_ret (v := .tuple #[.agg #[.int .i64 c, .int .i64 d], .int .i64 ((lit7 c d u2).getD u123.toNat 0), .int .i64 (lit6 u147)]) (by simp [results, Try.results4, go_sem, e0, e1]) rfl ⟨_, _, _, _, rfl, hm, (lit7_bd hm u2a u2b _).1, (lit7_bd hm u2a u2b _).2, (lit6_bd _).1, (lit6_bd _).2, finB Q158⟩
        · go_simp
          go_wp2_with (go_at_call 12; refine (pick_B R130 (by omega)).mono ?_; rintro e w162 ⟨u163, rfl, ⟨u163a, u163b, _⟩, R164, K165⟩)
          replace u163b := u163b (by decide)
          have T166 := Two.kept K165 T131 (by omega)
          have Q167 := KK.kept K165 Q132
          refine hK.out _ _ ⟨Two.kept K165 hs135 (by omega), Lits.kept K165 hs136 (by omega)⟩ (fun hHeld => ?_)
          clear hK K165 R130 T131 Q132 hs135 hs136
          try simp only [Act.put, List.setIfInBounds_toArray, List.set_cons_zero, List.set_cons_succ, List.getElem_toArray, List.getElem_cons_zero, List.getElem_cons_succ]
          obtain ⟨hs168, hs169⟩ := (show Two w162 (w2.heap.size) (.int .i64 c) (.int .i64 d) ∧ Lits w162 (w122.heap.size) (lit7 c d u2) from hHeld)
          refine wpAnyH_ready (rs := [23, 28]) (by kernel_rfl) (by simp) ?_
          refine AllReadyH.cons rfl (fun K hK => ?_) (AllReadyH.cons rfl (fun K hK => ?_) AllReadyH.nil)
          · go_simp
            have R171 := R164.alloc (.cells #[Value.int .i64 0, Value.int .i64 1, Value.int .i64 0, Value.int .i64 1, Value.int .i64 2, Value.int .i64 (-1)] 3)
            have T172 := T166.alloc (.cells #[Value.int .i64 0, Value.int .i64 1, Value.int .i64 0, Value.int .i64 1, Value.int .i64 2, Value.int .i64 (-1)] 3)
            have Q173 := Q167.alloc (.cells #[Value.int .i64 0, Value.int .i64 1, Value.int .i64 0, Value.int .i64 1, Value.int .i64 2, Value.int .i64 (-1)] 3)
            have G174 : Lits (w162.alloc (.cells #[Value.int .i64 0, Value.int .i64 1, Value.int .i64 0, Value.int .i64 1, Value.int .i64 2, Value.int .i64 (-1)] 3)) w162.heap.size [0, 1, 0, 1, 2, -1] := Lits.new [0, 1, 0, 1, 2, -1] _ _
            have ng175 : w.heap.size + 1 < w162.heap.size := R164.lt
            refine hK.out _ _ ⟨hs168.alloc _, hs169.alloc _⟩ (fun hHeld => ?_)
            refine wpAnyH_more (S' := fun W => Two W (w2.heap.size) (.int .i64 c) (.int .i64 d) ∧ Lits W (w122.heap.size) (lit7 c d u2) ∧ Lits W (w162.heap.size) [0, 1, 0, 1, 2, -1]) (fun W ⟨x0, x1, x2⟩ => ⟨x0, x1⟩) _ _ _ _ ?_
            obtain ⟨y0, y1⟩ := hHeld
            have hHeld : (fun W => Two W (w2.heap.size) (.int .i64 c) (.int .i64 d) ∧ Lits W (w122.heap.size) (lit7 c d u2) ∧ Lits W (w162.heap.size) [0, 1, 0, 1, 2, -1]) (w162.alloc (.cells #[Value.int .i64 0, Value.int .i64 1, Value.int .i64 0, Value.int .i64 1, Value.int .i64 2, Value.int .i64 (-1)] 3)) := ⟨y0, y1, G174⟩
            clear hK G174 R164 T166 Q167 hs168 hs169 y0 y1
            try simp only [Act.put, List.setIfInBounds_toArray, List.set_cons_zero, List.set_cons_succ, List.getElem_toArray, List.getElem_cons_zero, List.getElem_cons_succ]
            generalize w162.alloc (.cells #[Value.int .i64 0, Value.int .i64 1, Value.int .i64 0, Value.int .i64 1, Value.int .i64 2, Value.int .i64 (-1)] 3) = w170 at *
            obtain ⟨hs176, hs177, hs178⟩ := (show Two w170 (w2.heap.size) (.int .i64 c) (.int .i64 d) ∧ Lits w170 (w122.heap.size) (lit7 c d u2) ∧ Lits w170 (w162.heap.size) [0, 1, 0, 1, 2, -1] from hHeld)
            refine wpAnyH_take (i := 26) (v := .pointer (some ⟨w162.heap.size, u163.toNat, none⟩)) rfl (by kernel_rfl) (by kernel_rfl) (by kernel_rfl) (fun _ _ _ h => h) (Or.inl ⟨by rfl, ?_⟩) (by assumption) ?_
            · intro wx hSw; go_simp
            try simp only [Act.put, List.setIfInBounds_toArray, List.set_cons_zero, List.set_cons_succ, List.getElem_toArray, List.getElem_cons_zero, List.getElem_cons_succ]
            refine wpAnyH_take (i := 27) (v := .int .i64 (lit6 u163)) rfl (by kernel_rfl) (by kernel_rfl) (by kernel_rfl) (fun _ _ _ h => h) (Or.inl ⟨by rfl, ?_⟩) (by assumption) ?_
            · intro wx hSw; have hl := lit6_of hSw.2.2 u163 u163a u163b; clear hSw; go_simp
            try simp only [Act.put, List.setIfInBounds_toArray, List.set_cons_zero, List.set_cons_succ, List.getElem_toArray, List.getElem_cons_zero, List.getElem_cons_succ]
            refine wpAnyH_ready (rs := [28]) (by kernel_rfl) (by simp) ?_
            refine AllReadyH.cons rfl (fun K hK => ?_) AllReadyH.nil
            · obtain ⟨t0, t1, t2, t3⟩ := T172
              go_simp
              go_wp2
              have T181 : Two ((w170.setCell ⟨w.heap.size, 0, none⟩ (.int .i64 c)).setCell ⟨w.heap.size, 1, none⟩ (.int .i64 d)) w.heap.size (.int .i64 c) (.int .i64 d) := two_put t0 t1 t2 t3
              have Q182 : KK (w.heap.size + 1) w ((w170.setCell ⟨w.heap.size, 0, none⟩ (.int .i64 c)).setCell ⟨w.heap.size, 1, none⟩ (.int .i64 d)) := kk_put Q173
              refine hK.out _ _ ⟨Two.put hs176 (by omega), Lits.put hs177 (by omega), Lits.put hs178 (by omega)⟩ (fun hHeld => ?_)
              clear hK t0 t1 t2 t3 R171 Q173 hs176 hs177 hs178
              try simp only [Act.put, List.setIfInBounds_toArray, List.set_cons_zero, List.set_cons_succ, List.getElem_toArray, List.getElem_cons_zero, List.getElem_cons_succ]
              generalize ((w170.setCell ⟨w.heap.size, 0, none⟩ (.int .i64 c)).setCell ⟨w.heap.size, 1, none⟩ (.int .i64 d)) = w179 at *
              obtain ⟨hs183, hs184, hs185⟩ := (show Two w179 (w2.heap.size) (.int .i64 c) (.int .i64 d) ∧ Lits w179 (w122.heap.size) (lit7 c d u2) ∧ Lits w179 (w162.heap.size) [0, 1, 0, 1, 2, -1] from hHeld)
              refine wpAnyH_take (i := 29) (v := .int .i64 ((lit7 c d u2).getD u123.toNat 0)) rfl (by kernel_rfl) (by kernel_rfl) (by kernel_rfl) (fun _ _ _ h => h) (Or.inl ⟨by rfl, ?_⟩) (by assumption) ?_
              · intro wx hSw; go_simp
              try simp only [Act.put, List.setIfInBounds_toArray, List.set_cons_zero, List.set_cons_succ, List.getElem_toArray, List.getElem_cons_zero, List.getElem_cons_succ]
              refine wpAnyH_take (i := 30) (v := .int .i64 (lit6 u163)) rfl (by kernel_rfl) (by kernel_rfl) (by kernel_rfl) (fun _ _ _ h => h) (Or.inl ⟨by rfl, ?_⟩) (by assumption) ?_
              · intro wx hSw; go_simp
              try simp only [Act.put, List.setIfInBounds_toArray, List.set_cons_zero, List.set_cons_succ, List.getElem_toArray, List.getElem_cons_zero, List.getElem_cons_succ]
              refine wpAnyH_done (by kernel_rfl) ?_ _
              obtain ⟨e0, e1, _, _⟩ := T181
              clear hs183 hs184 hs185 hHeld
              go_wp2
              exact bodyPost_ret (v := .tuple #[.agg #[.int .i64 c, .int .i64 d], .int .i64 ((lit7 c d u2).getD u123.toNat 0), .int .i64 (lit6 u163)]) (by simp [results, Try.results4, go_sem, e0, e1]) rfl ⟨_, _, _, _, rfl, hm, (lit7_bd hm u2a u2b _).1, (lit7_bd hm u2a u2b _).2, (lit6_bd _).1, (lit6_bd _).2, finB Q182⟩
          · obtain ⟨t0, t1, t2, t3⟩ := T166
            go_simp
            go_wp2
            have T188 : Two ((w162.setCell ⟨w.heap.size, 0, none⟩ (.int .i64 c)).setCell ⟨w.heap.size, 1, none⟩ (.int .i64 d)) w.heap.size (.int .i64 c) (.int .i64 d) := two_put t0 t1 t2 t3
            have Q189 : KK (w.heap.size + 1) w ((w162.setCell ⟨w.heap.size, 0, none⟩ (.int .i64 c)).setCell ⟨w.heap.size, 1, none⟩ (.int .i64 d)) := kk_put Q167
            refine hK.out _ _ ⟨Two.put hs168 (by omega), Lits.put hs169 (by omega)⟩ (fun hHeld => ?_)
            clear hK t0 t1 t2 t3 R164 Q167 hs168 hs169
            try simp only [Act.put, List.setIfInBounds_toArray, List.set_cons_zero, List.set_cons_succ, List.getElem_toArray, List.getElem_cons_zero, List.getElem_cons_succ]
            generalize ((w162.setCell ⟨w.heap.size, 0, none⟩ (.int .i64 c)).setCell ⟨w.heap.size, 1, none⟩ (.int .i64 d)) = w186 at *
            obtain ⟨hs190, hs191⟩ := (show Two w186 (w2.heap.size) (.int .i64 c) (.int .i64 d) ∧ Lits w186 (w122.heap.size) (lit7 c d u2) from hHeld)
            refine wpAnyH_take (i := 29) (v := .int .i64 ((lit7 c d u2).getD u123.toNat 0)) rfl (by kernel_rfl) (by kernel_rfl) (by kernel_rfl) (fun _ _ _ h => h) (Or.inl ⟨by rfl, ?_⟩) (by assumption) ?_
            · intro wx hSw; go_simp
            try simp only [Act.put, List.setIfInBounds_toArray, List.set_cons_zero, List.set_cons_succ, List.getElem_toArray, List.getElem_cons_zero, List.getElem_cons_succ]
            refine wpAnyH_ready (rs := [23]) (by kernel_rfl) (by simp) ?_
            refine AllReadyH.cons rfl (fun K hK => ?_) AllReadyH.nil
            · go_simp
              have T194 := T188.alloc (.cells #[Value.int .i64 0, Value.int .i64 1, Value.int .i64 0, Value.int .i64 1, Value.int .i64 2, Value.int .i64 (-1)] 3)
              have Q195 := Q189.alloc (.cells #[Value.int .i64 0, Value.int .i64 1, Value.int .i64 0, Value.int .i64 1, Value.int .i64 2, Value.int .i64 (-1)] 3)
              have G196 : Lits (w186.alloc (.cells #[Value.int .i64 0, Value.int .i64 1, Value.int .i64 0, Value.int .i64 1, Value.int .i64 2, Value.int .i64 (-1)] 3)) w186.heap.size [0, 1, 0, 1, 2, -1] := Lits.new [0, 1, 0, 1, 2, -1] _ _
              refine hK.out _ _ ⟨hs190.alloc _, hs191.alloc _⟩ (fun hHeld => ?_)
              refine wpAnyH_more (S' := fun W => Two W (w2.heap.size) (.int .i64 c) (.int .i64 d) ∧ Lits W (w122.heap.size) (lit7 c d u2) ∧ Lits W (w186.heap.size) [0, 1, 0, 1, 2, -1]) (fun W ⟨x0, x1, x2⟩ => ⟨x0, x1⟩) _ _ _ _ ?_
              obtain ⟨y0, y1⟩ := hHeld
              have hHeld : (fun W => Two W (w2.heap.size) (.int .i64 c) (.int .i64 d) ∧ Lits W (w122.heap.size) (lit7 c d u2) ∧ Lits W (w186.heap.size) [0, 1, 0, 1, 2, -1]) (w186.alloc (.cells #[Value.int .i64 0, Value.int .i64 1, Value.int .i64 0, Value.int .i64 1, Value.int .i64 2, Value.int .i64 (-1)] 3)) := ⟨y0, y1, G196⟩
              clear hK G196 T188 Q189 hs190 hs191 y0 y1
              try simp only [Act.put, List.setIfInBounds_toArray, List.set_cons_zero, List.set_cons_succ, List.getElem_toArray, List.getElem_cons_zero, List.getElem_cons_succ]
              generalize w186.alloc (.cells #[Value.int .i64 0, Value.int .i64 1, Value.int .i64 0, Value.int .i64 1, Value.int .i64 2, Value.int .i64 (-1)] 3) = w192 at *
              obtain ⟨hs198, hs199, hs200⟩ := (show Two w192 (w2.heap.size) (.int .i64 c) (.int .i64 d) ∧ Lits w192 (w122.heap.size) (lit7 c d u2) ∧ Lits w192 (w186.heap.size) [0, 1, 0, 1, 2, -1] from hHeld)
              refine wpAnyH_take (i := 26) (v := .pointer (some ⟨w186.heap.size, u163.toNat, none⟩)) rfl (by kernel_rfl) (by kernel_rfl) (by kernel_rfl) (fun _ _ _ h => h) (Or.inl ⟨by rfl, ?_⟩) (by assumption) ?_
              · intro wx hSw; go_simp
              try simp only [Act.put, List.setIfInBounds_toArray, List.set_cons_zero, List.set_cons_succ, List.getElem_toArray, List.getElem_cons_zero, List.getElem_cons_succ]
              refine wpAnyH_take (i := 27) (v := .int .i64 (lit6 u163)) rfl (by kernel_rfl) (by kernel_rfl) (by kernel_rfl) (fun _ _ _ h => h) (Or.inl ⟨by rfl, ?_⟩) (by assumption) ?_
              · intro wx hSw; have hl := lit6_of hSw.2.2 u163 u163a u163b; clear hSw; go_simp
              try simp only [Act.put, List.setIfInBounds_toArray, List.set_cons_zero, List.set_cons_succ, List.getElem_toArray, List.getElem_cons_zero, List.getElem_cons_succ]
              refine wpAnyH_take (i := 30) (v := .int .i64 (lit6 u163)) rfl (by kernel_rfl) (by kernel_rfl) (by kernel_rfl) (fun _ _ _ h => h) (Or.inl ⟨by rfl, ?_⟩) (by assumption) ?_
              · intro wx hSw; go_simp
              try simp only [Act.put, List.setIfInBounds_toArray, List.set_cons_zero, List.set_cons_succ, List.getElem_toArray, List.getElem_cons_zero, List.getElem_cons_succ]
              refine wpAnyH_done (by kernel_rfl) ?_ _
              obtain ⟨e0, e1, _, _⟩ := T194
              clear hs198 hs199 hs200 hHeld
              go_wp2
              exact bodyPost_ret (v := .tuple #[.agg #[.int .i64 c, .int .i64 d], .int .i64 ((lit7 c d u2).getD u123.toNat 0), .int .i64 (lit6 u163)]) (by simp [results, Try.results4, go_sem, e0, e1]) rfl ⟨_, _, _, _, rfl, hm, (lit7_bd hm u2a u2b _).1, (lit7_bd hm u2a u2b _).2, (lit6_bd _).1, (lit6_bd _).2, finB Q195⟩
      · go_simp
        have R202 := R124.alloc (.cells #[Value.int .i64 0, Value.int .i64 1, Value.int .i64 0, Value.int .i64 1, Value.int .i64 2, Value.int .i64 (-1)] 3)
        have T203 := T126.alloc (.cells #[Value.int .i64 0, Value.int .i64 1, Value.int .i64 0, Value.int .i64 1, Value.int .i64 2, Value.int .i64 (-1)] 3)
        have Q204 := Q127.alloc (.cells #[Value.int .i64 0, Value.int .i64 1, Value.int .i64 0, Value.int .i64 1, Value.int .i64 2, Value.int .i64 (-1)] 3)
        have G205 : Lits (w122.alloc (.cells #[Value.int .i64 0, Value.int .i64 1, Value.int .i64 0, Value.int .i64 1, Value.int .i64 2, Value.int .i64 (-1)] 3)) w122.heap.size [0, 1, 0, 1, 2, -1] := Lits.new [0, 1, 0, 1, 2, -1] _ _
        have ng206 : w.heap.size + 1 < w122.heap.size := R124.lt
        refine hK.out _ _ (hs128.alloc _) (fun hHeld => ?_)
        refine wpAnyH_more (S' := fun W => Two W (w2.heap.size) (.int .i64 c) (.int .i64 d) ∧ Lits W (w122.heap.size) [0, 1, 0, 1, 2, -1]) (fun W ⟨x0, x1⟩ => x0) _ _ _ _ ?_
        have hHeld : (fun W => Two W (w2.heap.size) (.int .i64 c) (.int .i64 d) ∧ Lits W (w122.heap.size) [0, 1, 0, 1, 2, -1]) (w122.alloc (.cells #[Value.int .i64 0, Value.int .i64 1, Value.int .i64 0, Value.int .i64 1, Value.int .i64 2, Value.int .i64 (-1)] 3)) := ⟨hHeld, G205⟩
        clear hK G205 R124 T126 Q127 hs128
        try simp only [Act.put, List.setIfInBounds_toArray, List.set_cons_zero, List.set_cons_succ, List.getElem_toArray, List.getElem_cons_zero, List.getElem_cons_succ]
        generalize w122.alloc (.cells #[Value.int .i64 0, Value.int .i64 1, Value.int .i64 0, Value.int .i64 1, Value.int .i64 2, Value.int .i64 (-1)] 3) = w201 at *
        obtain ⟨hs207, hs208⟩ := (show Two w201 (w2.heap.size) (.int .i64 c) (.int .i64 d) ∧ Lits w201 (w122.heap.size) [0, 1, 0, 1, 2, -1] from hHeld)
        refine wpAnyH_ready (rs := [18, 25]) (by kernel_rfl) (by simp) ?_
        refine AllReadyH.cons rfl (fun K hK => ?_) (AllReadyH.cons rfl (fun K hK => ?_) AllReadyH.nil)
        · go_simp
          have R210 := R202.alloc (.cells #[Value.int .i64 0, Value.int .i64 (d - 1), Value.int .i64 d, Value.int .i64 (2 * d - 1), Value.int .i64 (c * d - 1), Value.int .i64 (-1), Value.int .i64 u2] 3)
          have T211 := T203.alloc (.cells #[Value.int .i64 0, Value.int .i64 (d - 1), Value.int .i64 d, Value.int .i64 (2 * d - 1), Value.int .i64 (c * d - 1), Value.int .i64 (-1), Value.int .i64 u2] 3)
          have Q212 := Q204.alloc (.cells #[Value.int .i64 0, Value.int .i64 (d - 1), Value.int .i64 d, Value.int .i64 (2 * d - 1), Value.int .i64 (c * d - 1), Value.int .i64 (-1), Value.int .i64 u2] 3)
          have G213 : Lits (w201.alloc (.cells #[Value.int .i64 0, Value.int .i64 (d - 1), Value.int .i64 d, Value.int .i64 (2 * d - 1), Value.int .i64 (c * d - 1), Value.int .i64 (-1), Value.int .i64 u2] 3)) w201.heap.size (lit7 c d u2) := Lits.new (lit7 c d u2) _ _
          have ng214 : w.heap.size + 1 < w201.heap.size := R202.lt
          refine hK.out _ _ ⟨hs207.alloc _, hs208.alloc _⟩ (fun hHeld => ?_)
          refine wpAnyH_more (S' := fun W => Two W (w2.heap.size) (.int .i64 c) (.int .i64 d) ∧ Lits W (w122.heap.size) [0, 1, 0, 1, 2, -1] ∧ Lits W (w201.heap.size) (lit7 c d u2)) (fun W ⟨x0, x1, x2⟩ => ⟨x0, x1⟩) _ _ _ _ ?_
          obtain ⟨y0, y1⟩ := hHeld
          have hHeld : (fun W => Two W (w2.heap.size) (.int .i64 c) (.int .i64 d) ∧ Lits W (w122.heap.size) [0, 1, 0, 1, 2, -1] ∧ Lits W (w201.heap.size) (lit7 c d u2)) (w201.alloc (.cells #[Value.int .i64 0, Value.int .i64 (d - 1), Value.int .i64 d, Value.int .i64 (2 * d - 1), Value.int .i64 (c * d - 1), Value.int .i64 (-1), Value.int .i64 u2] 3)) := ⟨y0, y1, G213⟩
          clear hK G213 R202 T203 Q204 hs207 hs208 y0 y1
          try simp only [Act.put, List.setIfInBounds_toArray, List.set_cons_zero, List.set_cons_succ, List.getElem_toArray, List.getElem_cons_zero, List.getElem_cons_succ]
          generalize w201.alloc (.cells #[Value.int .i64 0, Value.int .i64 (d - 1), Value.int .i64 d, Value.int .i64 (2 * d - 1), Value.int .i64 (c * d - 1), Value.int .i64 (-1), Value.int .i64 u2] 3) = w209 at *
          obtain ⟨hs215, hs216, hs217⟩ := (show Two w209 (w2.heap.size) (.int .i64 c) (.int .i64 d) ∧ Lits w209 (w122.heap.size) [0, 1, 0, 1, 2, -1] ∧ Lits w209 (w201.heap.size) (lit7 c d u2) from hHeld)
          refine wpAnyH_take (i := 21) (v := .pointer (some ⟨w201.heap.size, u123.toNat, none⟩)) rfl (by kernel_rfl) (by kernel_rfl) (by kernel_rfl) (fun _ _ _ h => h) (Or.inl ⟨by rfl, ?_⟩) (by assumption) ?_
          · intro wx hSw; go_simp
          try simp only [Act.put, List.setIfInBounds_toArray, List.set_cons_zero, List.set_cons_succ, List.getElem_toArray, List.getElem_cons_zero, List.getElem_cons_succ]
          refine wpAnyH_take (i := 22) (v := .int .i64 ((lit7 c d u2).getD u123.toNat 0)) rfl (by kernel_rfl) (by kernel_rfl) (by kernel_rfl) (fun _ _ _ h => h) (Or.inl ⟨by rfl, ?_⟩) (by assumption) ?_
          · intro wx hSw; have hl := hSw.2.2.2 u123 u123a (by simp [lit7]; omega); clear hSw; go_simp
          try simp only [Act.put, List.setIfInBounds_toArray, List.set_cons_zero, List.set_cons_succ, List.getElem_toArray, List.getElem_cons_zero, List.getElem_cons_succ]
          refine wpAnyH_ready (rs := [25]) (by kernel_rfl) (by simp) ?_
          refine AllReadyH.cons rfl (fun K hK => ?_) AllReadyH.nil
          · go_simp
            go_wp2_with (go_at_call 12; refine (pick_B R210 (by omega)).mono ?_; rintro e w218 ⟨u219, rfl, ⟨u219a, u219b, _⟩, R220, K221⟩)
            replace u219b := u219b (by decide)
            have T222 := Two.kept K221 T211 (by omega)
            have Q223 := KK.kept K221 Q212
            refine hK.out _ _ ⟨Two.kept K221 hs215 (by omega), Lits.kept K221 hs216 (by omega), Lits.kept K221 hs217 (by omega)⟩ (fun hHeld => ?_)
            clear hK K221 R210 T211 Q212 hs215 hs216 hs217
            try simp only [Act.put, List.setIfInBounds_toArray, List.set_cons_zero, List.set_cons_succ, List.getElem_toArray, List.getElem_cons_zero, List.getElem_cons_succ]
            obtain ⟨hs224, hs225, hs226⟩ := (show Two w218 (w2.heap.size) (.int .i64 c) (.int .i64 d) ∧ Lits w218 (w122.heap.size) [0, 1, 0, 1, 2, -1] ∧ Lits w218 (w201.heap.size) (lit7 c d u2) from hHeld)
            refine wpAnyH_take (i := 26) (v := .pointer (some ⟨w122.heap.size, u219.toNat, none⟩)) rfl (by kernel_rfl) (by kernel_rfl) (by kernel_rfl) (fun _ _ _ h => h) (Or.inl ⟨by rfl, ?_⟩) (by assumption) ?_
            · intro wx hSw; go_simp
            try simp only [Act.put, List.setIfInBounds_toArray, List.set_cons_zero, List.set_cons_succ, List.getElem_toArray, List.getElem_cons_zero, List.getElem_cons_succ]
            refine wpAnyH_take (i := 27) (v := .int .i64 (lit6 u219)) rfl (by kernel_rfl) (by kernel_rfl) (by kernel_rfl) (fun _ _ _ h => h) (Or.inl ⟨by rfl, ?_⟩) (by assumption) ?_
            · intro wx hSw; have hl := lit6_of hSw.2.1 u219 u219a u219b; clear hSw; go_simp
            try simp only [Act.put, List.setIfInBounds_toArray, List.set_cons_zero, List.set_cons_succ, List.getElem_toArray, List.getElem_cons_zero, List.getElem_cons_succ]
            refine wpAnyH_ready (rs := [28]) (by kernel_rfl) (by simp) ?_
            refine AllReadyH.cons rfl (fun K hK => ?_) AllReadyH.nil
            · obtain ⟨t0, t1, t2, t3⟩ := T222
              go_simp
              go_wp2
              have T229 : Two ((w218.setCell ⟨w.heap.size, 0, none⟩ (.int .i64 c)).setCell ⟨w.heap.size, 1, none⟩ (.int .i64 d)) w.heap.size (.int .i64 c) (.int .i64 d) := two_put t0 t1 t2 t3
              have Q230 : KK (w.heap.size + 1) w ((w218.setCell ⟨w.heap.size, 0, none⟩ (.int .i64 c)).setCell ⟨w.heap.size, 1, none⟩ (.int .i64 d)) := kk_put Q223
              refine hK.out _ _ ⟨Two.put hs224 (by omega), Lits.put hs225 (by omega), Lits.put hs226 (by omega)⟩ (fun hHeld => ?_)
              clear hK t0 t1 t2 t3 R220 Q223 hs224 hs225 hs226
              try simp only [Act.put, List.setIfInBounds_toArray, List.set_cons_zero, List.set_cons_succ, List.getElem_toArray, List.getElem_cons_zero, List.getElem_cons_succ]
              generalize ((w218.setCell ⟨w.heap.size, 0, none⟩ (.int .i64 c)).setCell ⟨w.heap.size, 1, none⟩ (.int .i64 d)) = w227 at *
              obtain ⟨hs231, hs232, hs233⟩ := (show Two w227 (w2.heap.size) (.int .i64 c) (.int .i64 d) ∧ Lits w227 (w122.heap.size) [0, 1, 0, 1, 2, -1] ∧ Lits w227 (w201.heap.size) (lit7 c d u2) from hHeld)
              refine wpAnyH_take (i := 29) (v := .int .i64 ((lit7 c d u2).getD u123.toNat 0)) rfl (by kernel_rfl) (by kernel_rfl) (by kernel_rfl) (fun _ _ _ h => h) (Or.inl ⟨by rfl, ?_⟩) (by assumption) ?_
              · intro wx hSw; go_simp
              try simp only [Act.put, List.setIfInBounds_toArray, List.set_cons_zero, List.set_cons_succ, List.getElem_toArray, List.getElem_cons_zero, List.getElem_cons_succ]
              refine wpAnyH_take (i := 30) (v := .int .i64 (lit6 u219)) rfl (by kernel_rfl) (by kernel_rfl) (by kernel_rfl) (fun _ _ _ h => h) (Or.inl ⟨by rfl, ?_⟩) (by assumption) ?_
              · intro wx hSw; go_simp
              try simp only [Act.put, List.setIfInBounds_toArray, List.set_cons_zero, List.set_cons_succ, List.getElem_toArray, List.getElem_cons_zero, List.getElem_cons_succ]
              refine wpAnyH_done (by kernel_rfl) ?_ _
              obtain ⟨e0, e1, _, _⟩ := T229
              clear hs231 hs232 hs233 hHeld
              go_wp2
              exact bodyPost_ret (v := .tuple #[.agg #[.int .i64 c, .int .i64 d], .int .i64 ((lit7 c d u2).getD u123.toNat 0), .int .i64 (lit6 u219)]) (by simp [results, Try.results4, go_sem, e0, e1]) rfl ⟨_, _, _, _, rfl, hm, (lit7_bd hm u2a u2b _).1, (lit7_bd hm u2a u2b _).2, (lit6_bd _).1, (lit6_bd _).2, finB Q230⟩
        · go_simp
          go_wp2_with (go_at_call 12; refine (pick_B R202 (by omega)).mono ?_; rintro e w234 ⟨u235, rfl, ⟨u235a, u235b, _⟩, R236, K237⟩)
          replace u235b := u235b (by decide)
          have T238 := Two.kept K237 T203 (by omega)
          have Q239 := KK.kept K237 Q204
          refine hK.out _ _ ⟨Two.kept K237 hs207 (by omega), Lits.kept K237 hs208 (by omega)⟩ (fun hHeld => ?_)
          clear hK K237 R202 T203 Q204 hs207 hs208
          try simp only [Act.put, List.setIfInBounds_toArray, List.set_cons_zero, List.set_cons_succ, List.getElem_toArray, List.getElem_cons_zero, List.getElem_cons_succ]
          obtain ⟨hs240, hs241⟩ := (show Two w234 (w2.heap.size) (.int .i64 c) (.int .i64 d) ∧ Lits w234 (w122.heap.size) [0, 1, 0, 1, 2, -1] from hHeld)
          refine wpAnyH_take (i := 26) (v := .pointer (some ⟨w122.heap.size, u235.toNat, none⟩)) rfl (by kernel_rfl) (by kernel_rfl) (by kernel_rfl) (fun _ _ _ h => h) (Or.inl ⟨by rfl, ?_⟩) (by assumption) ?_
          · intro wx hSw; go_simp
          try simp only [Act.put, List.setIfInBounds_toArray, List.set_cons_zero, List.set_cons_succ, List.getElem_toArray, List.getElem_cons_zero, List.getElem_cons_succ]
          refine wpAnyH_take (i := 27) (v := .int .i64 (lit6 u235)) rfl (by kernel_rfl) (by kernel_rfl) (by kernel_rfl) (fun _ _ _ h => h) (Or.inl ⟨by rfl, ?_⟩) (by assumption) ?_
          · intro wx hSw; have hl := lit6_of hSw.2 u235 u235a u235b; clear hSw; go_simp
          try simp only [Act.put, List.setIfInBounds_toArray, List.set_cons_zero, List.set_cons_succ, List.getElem_toArray, List.getElem_cons_zero, List.getElem_cons_succ]
          refine wpAnyH_ready (rs := [18, 28]) (by kernel_rfl) (by simp) ?_
          refine AllReadyH.cons rfl (fun K hK => ?_) (AllReadyH.cons rfl (fun K hK => ?_) AllReadyH.nil)
          · go_simp
            have R243 := R236.alloc (.cells #[Value.int .i64 0, Value.int .i64 (d - 1), Value.int .i64 d, Value.int .i64 (2 * d - 1), Value.int .i64 (c * d - 1), Value.int .i64 (-1), Value.int .i64 u2] 3)
            have T244 := T238.alloc (.cells #[Value.int .i64 0, Value.int .i64 (d - 1), Value.int .i64 d, Value.int .i64 (2 * d - 1), Value.int .i64 (c * d - 1), Value.int .i64 (-1), Value.int .i64 u2] 3)
            have Q245 := Q239.alloc (.cells #[Value.int .i64 0, Value.int .i64 (d - 1), Value.int .i64 d, Value.int .i64 (2 * d - 1), Value.int .i64 (c * d - 1), Value.int .i64 (-1), Value.int .i64 u2] 3)
            have G246 : Lits (w234.alloc (.cells #[Value.int .i64 0, Value.int .i64 (d - 1), Value.int .i64 d, Value.int .i64 (2 * d - 1), Value.int .i64 (c * d - 1), Value.int .i64 (-1), Value.int .i64 u2] 3)) w234.heap.size (lit7 c d u2) := Lits.new (lit7 c d u2) _ _
            have ng247 : w.heap.size + 1 < w234.heap.size := R236.lt
            refine hK.out _ _ ⟨hs240.alloc _, hs241.alloc _⟩ (fun hHeld => ?_)
            refine wpAnyH_more (S' := fun W => Two W (w2.heap.size) (.int .i64 c) (.int .i64 d) ∧ Lits W (w122.heap.size) [0, 1, 0, 1, 2, -1] ∧ Lits W (w234.heap.size) (lit7 c d u2)) (fun W ⟨x0, x1, x2⟩ => ⟨x0, x1⟩) _ _ _ _ ?_
            obtain ⟨y0, y1⟩ := hHeld
            have hHeld : (fun W => Two W (w2.heap.size) (.int .i64 c) (.int .i64 d) ∧ Lits W (w122.heap.size) [0, 1, 0, 1, 2, -1] ∧ Lits W (w234.heap.size) (lit7 c d u2)) (w234.alloc (.cells #[Value.int .i64 0, Value.int .i64 (d - 1), Value.int .i64 d, Value.int .i64 (2 * d - 1), Value.int .i64 (c * d - 1), Value.int .i64 (-1), Value.int .i64 u2] 3)) := ⟨y0, y1, G246⟩
            clear hK G246 R236 T238 Q239 hs240 hs241 y0 y1
            try simp only [Act.put, List.setIfInBounds_toArray, List.set_cons_zero, List.set_cons_succ, List.getElem_toArray, List.getElem_cons_zero, List.getElem_cons_succ]
            generalize w234.alloc (.cells #[Value.int .i64 0, Value.int .i64 (d - 1), Value.int .i64 d, Value.int .i64 (2 * d - 1), Value.int .i64 (c * d - 1), Value.int .i64 (-1), Value.int .i64 u2] 3) = w242 at *
            obtain ⟨hs248, hs249, hs250⟩ := (show Two w242 (w2.heap.size) (.int .i64 c) (.int .i64 d) ∧ Lits w242 (w122.heap.size) [0, 1, 0, 1, 2, -1] ∧ Lits w242 (w234.heap.size) (lit7 c d u2) from hHeld)
            refine wpAnyH_take (i := 21) (v := .pointer (some ⟨w234.heap.size, u123.toNat, none⟩)) rfl (by kernel_rfl) (by kernel_rfl) (by kernel_rfl) (fun _ _ _ h => h) (Or.inl ⟨by rfl, ?_⟩) (by assumption) ?_
            · intro wx hSw; go_simp
            try simp only [Act.put, List.setIfInBounds_toArray, List.set_cons_zero, List.set_cons_succ, List.getElem_toArray, List.getElem_cons_zero, List.getElem_cons_succ]
            refine wpAnyH_take (i := 22) (v := .int .i64 ((lit7 c d u2).getD u123.toNat 0)) rfl (by kernel_rfl) (by kernel_rfl) (by kernel_rfl) (fun _ _ _ h => h) (Or.inl ⟨by rfl, ?_⟩) (by assumption) ?_
            · intro wx hSw; have hl := hSw.2.2.2 u123 u123a (by simp [lit7]; omega); clear hSw; go_simp
            try simp only [Act.put, List.setIfInBounds_toArray, List.set_cons_zero, List.set_cons_succ, List.getElem_toArray, List.getElem_cons_zero, List.getElem_cons_succ]
            refine wpAnyH_ready (rs := [28]) (by kernel_rfl) (by simp) ?_
            refine AllReadyH.cons rfl (fun K hK => ?_) AllReadyH.nil
            · obtain ⟨t0, t1, t2, t3⟩ := T244
              go_simp
              go_wp2
              have T253 : Two ((w242.setCell ⟨w.heap.size, 0, none⟩ (.int .i64 c)).setCell ⟨w.heap.size, 1, none⟩ (.int .i64 d)) w.heap.size (.int .i64 c) (.int .i64 d) := two_put t0 t1 t2 t3
              have Q254 : KK (w.heap.size + 1) w ((w242.setCell ⟨w.heap.size, 0, none⟩ (.int .i64 c)).setCell ⟨w.heap.size, 1, none⟩ (.int .i64 d)) := kk_put Q245
              refine hK.out _ _ ⟨Two.put hs248 (by omega), Lits.put hs249 (by omega), Lits.put hs250 (by omega)⟩ (fun hHeld => ?_)
              clear hK t0 t1 t2 t3 R243 Q245 hs248 hs249 hs250
              try simp only [Act.put, List.setIfInBounds_toArray, List.set_cons_zero, List.set_cons_succ, List.getElem_toArray, List.getElem_cons_zero, List.getElem_cons_succ]
              generalize ((w242.setCell ⟨w.heap.size, 0, none⟩ (.int .i64 c)).setCell ⟨w.heap.size, 1, none⟩ (.int .i64 d)) = w251 at *
              obtain ⟨hs255, hs256, hs257⟩ := (show Two w251 (w2.heap.size) (.int .i64 c) (.int .i64 d) ∧ Lits w251 (w122.heap.size) [0, 1, 0, 1, 2, -1] ∧ Lits w251 (w234.heap.size) (lit7 c d u2) from hHeld)
              refine wpAnyH_take (i := 29) (v := .int .i64 ((lit7 c d u2).getD u123.toNat 0)) rfl (by kernel_rfl) (by kernel_rfl) (by kernel_rfl) (fun _ _ _ h => h) (Or.inl ⟨by rfl, ?_⟩) (by assumption) ?_
              · intro wx hSw; go_simp
              try simp only [Act.put, List.setIfInBounds_toArray, List.set_cons_zero, List.set_cons_succ, List.getElem_toArray, List.getElem_cons_zero, List.getElem_cons_succ]
              refine wpAnyH_take (i := 30) (v := .int .i64 (lit6 u235)) rfl (by kernel_rfl) (by kernel_rfl) (by kernel_rfl) (fun _ _ _ h => h) (Or.inl ⟨by rfl, ?_⟩) (by assumption) ?_
              · intro wx hSw; go_simp
              try simp only [Act.put, List.setIfInBounds_toArray, List.set_cons_zero, List.set_cons_succ, List.getElem_toArray, List.getElem_cons_zero, List.getElem_cons_succ]
              refine wpAnyH_done (by kernel_rfl) ?_ _
              obtain ⟨e0, e1, _, _⟩ := T253
              clear hs255 hs256 hs257 hHeld
              go_wp2
              exact bodyPost_ret (v := .tuple #[.agg #[.int .i64 c, .int .i64 d], .int .i64 ((lit7 c d u2).getD u123.toNat 0), .int .i64 (lit6 u235)]) (by simp [results, Try.results4, go_sem, e0, e1]) rfl ⟨_, _, _, _, rfl, hm, (lit7_bd hm u2a u2b _).1, (lit7_bd hm u2a u2b _).2, (lit6_bd _).1, (lit6_bd _).2, finB Q254⟩
          · obtain ⟨t0, t1, t2, t3⟩ := T238
            go_simp
            go_wp2
            have T260 : Two ((w234.setCell ⟨w.heap.size, 0, none⟩ (.int .i64 c)).setCell ⟨w.heap.size, 1, none⟩ (.int .i64 d)) w.heap.size (.int .i64 c) (.int .i64 d) := two_put t0 t1 t2 t3
            have Q261 : KK (w.heap.size + 1) w ((w234.setCell ⟨w.heap.size, 0, none⟩ (.int .i64 c)).setCell ⟨w.heap.size, 1, none⟩ (.int .i64 d)) := kk_put Q239
            refine hK.out _ _ ⟨Two.put hs240 (by omega), Lits.put hs241 (by omega)⟩ (fun hHeld => ?_)
            clear hK t0 t1 t2 t3 R236 Q239 hs240 hs241
            try simp only [Act.put, List.setIfInBounds_toArray, List.set_cons_zero, List.set_cons_succ, List.getElem_toArray, List.getElem_cons_zero, List.getElem_cons_succ]
            generalize ((w234.setCell ⟨w.heap.size, 0, none⟩ (.int .i64 c)).setCell ⟨w.heap.size, 1, none⟩ (.int .i64 d)) = w258 at *
            obtain ⟨hs262, hs263⟩ := (show Two w258 (w2.heap.size) (.int .i64 c) (.int .i64 d) ∧ Lits w258 (w122.heap.size) [0, 1, 0, 1, 2, -1] from hHeld)
            refine wpAnyH_ready (rs := [18]) (by kernel_rfl) (by simp) ?_
            refine AllReadyH.cons rfl (fun K hK => ?_) AllReadyH.nil
            · go_simp
              have T266 := T260.alloc (.cells #[Value.int .i64 0, Value.int .i64 (d - 1), Value.int .i64 d, Value.int .i64 (2 * d - 1), Value.int .i64 (c * d - 1), Value.int .i64 (-1), Value.int .i64 u2] 3)
              have Q267 := Q261.alloc (.cells #[Value.int .i64 0, Value.int .i64 (d - 1), Value.int .i64 d, Value.int .i64 (2 * d - 1), Value.int .i64 (c * d - 1), Value.int .i64 (-1), Value.int .i64 u2] 3)
              have G268 : Lits (w258.alloc (.cells #[Value.int .i64 0, Value.int .i64 (d - 1), Value.int .i64 d, Value.int .i64 (2 * d - 1), Value.int .i64 (c * d - 1), Value.int .i64 (-1), Value.int .i64 u2] 3)) w258.heap.size (lit7 c d u2) := Lits.new (lit7 c d u2) _ _
              refine hK.out _ _ ⟨hs262.alloc _, hs263.alloc _⟩ (fun hHeld => ?_)
              refine wpAnyH_more (S' := fun W => Two W (w2.heap.size) (.int .i64 c) (.int .i64 d) ∧ Lits W (w122.heap.size) [0, 1, 0, 1, 2, -1] ∧ Lits W (w258.heap.size) (lit7 c d u2)) (fun W ⟨x0, x1, x2⟩ => ⟨x0, x1⟩) _ _ _ _ ?_
              obtain ⟨y0, y1⟩ := hHeld
              have hHeld : (fun W => Two W (w2.heap.size) (.int .i64 c) (.int .i64 d) ∧ Lits W (w122.heap.size) [0, 1, 0, 1, 2, -1] ∧ Lits W (w258.heap.size) (lit7 c d u2)) (w258.alloc (.cells #[Value.int .i64 0, Value.int .i64 (d - 1), Value.int .i64 d, Value.int .i64 (2 * d - 1), Value.int .i64 (c * d - 1), Value.int .i64 (-1), Value.int .i64 u2] 3)) := ⟨y0, y1, G268⟩
              clear hK G268 T260 Q261 hs262 hs263 y0 y1
              try simp only [Act.put, List.setIfInBounds_toArray, List.set_cons_zero, List.set_cons_succ, List.getElem_toArray, List.getElem_cons_zero, List.getElem_cons_succ]
              generalize w258.alloc (.cells #[Value.int .i64 0, Value.int .i64 (d - 1), Value.int .i64 d, Value.int .i64 (2 * d - 1), Value.int .i64 (c * d - 1), Value.int .i64 (-1), Value.int .i64 u2] 3) = w264 at *
              obtain ⟨hs270, hs271, hs272⟩ := (show Two w264 (w2.heap.size) (.int .i64 c) (.int .i64 d) ∧ Lits w264 (w122.heap.size) [0, 1, 0, 1, 2, -1] ∧ Lits w264 (w258.heap.size) (lit7 c d u2) from hHeld)
              refine wpAnyH_take (i := 21) (v := .pointer (some ⟨w258.heap.size, u123.toNat, none⟩)) rfl (by kernel_rfl) (by kernel_rfl) (by kernel_rfl) (fun _ _ _ h => h) (Or.inl ⟨by rfl, ?_⟩) (by assumption) ?_
              · intro wx hSw; go_simp
              try simp only [Act.put, List.setIfInBounds_toArray, List.set_cons_zero, List.set_cons_succ, List.getElem_toArray, List.getElem_cons_zero, List.getElem_cons_succ]
              refine wpAnyH_take (i := 22) (v := .int .i64 ((lit7 c d u2).getD u123.toNat 0)) rfl (by kernel_rfl) (by kernel_rfl) (by kernel_rfl) (fun _ _ _ h => h) (Or.inl ⟨by rfl, ?_⟩) (by assumption) ?_
              · intro wx hSw; have hl := hSw.2.2.2 u123 u123a (by simp [lit7]; omega); clear hSw; go_simp
              try simp only [Act.put, List.setIfInBounds_toArray, List.set_cons_zero, List.set_cons_succ, List.getElem_toArray, List.getElem_cons_zero, List.getElem_cons_succ]
              refine wpAnyH_take (i := 29) (v := .int .i64 ((lit7 c d u2).getD u123.toNat 0)) rfl (by kernel_rfl) (by kernel_rfl) (by kernel_rfl) (fun _ _ _ h => h) (Or.inl ⟨by rfl, ?_⟩) (by assumption) ?_
              · intro wx hSw; go_simp
              try simp only [Act.put, List.setIfInBounds_toArray, List.set_cons_zero, List.set_cons_succ, List.getElem_toArray, List.getElem_cons_zero, List.getElem_cons_succ]
              refine wpAnyH_take (i := 30) (v := .int .i64 (lit6 u235)) rfl (by kernel_rfl) (by kernel_rfl) (by kernel_rfl) (fun _ _ _ h => h) (Or.inl ⟨by rfl, ?_⟩) (by assumption) ?_
              · intro wx hSw; go_simp
              try simp only [Act.put, List.setIfInBounds_toArray, List.set_cons_zero, List.set_cons_succ, List.getElem_toArray, List.getElem_cons_zero, List.getElem_cons_succ]
              refine wpAnyH_done (by kernel_rfl) ?_ _
              obtain ⟨e0, e1, _, _⟩ := T266
              clear hs270 hs271 hs272 hHeld
              go_wp2
              exact bodyPost_ret (v := .tuple #[.agg #[.int .i64 c, .int .i64 d], .int .i64 ((lit7 c d u2).getD u123.toNat 0), .int .i64 (lit6 u235)]) (by simp [results, Try.results4, go_sem, e0, e1]) rfl ⟨_, _, _, _, rfl, hm, (lit7_bd hm u2a u2b _).1, (lit7_bd hm u2a u2b _).2, (lit6_bd _).1, (lit6_bd _).2, finB Q267⟩
      · go_simp
        go_wp2_with (go_at_call 12; refine (pick_B R124 (by omega)).mono ?_; rintro e w273 ⟨u274, rfl, ⟨u274a, u274b, _⟩, R275, K276⟩)
        replace u274b := u274b (by decide)
        have T277 := Two.kept K276 T126 (by omega)
        have Q278 := KK.kept K276 Q127
        refine hK.out _ _ (Two.kept K276 hs128 (by omega)) (fun hHeld => ?_)
        clear hK K276 R124 T126 Q127 hs128
        try simp only [Act.put, List.setIfInBounds_toArray, List.set_cons_zero, List.set_cons_succ, List.getElem_toArray, List.getElem_cons_zero, List.getElem_cons_succ]
        have hs279 := hHeld
        refine wpAnyH_ready (rs := [18, 23, 28]) (by kernel_rfl) (by simp) ?_
        refine AllReadyH.cons rfl (fun K hK => ?_) (AllReadyH.cons rfl (fun K hK => ?_) (AllReadyH.cons rfl (fun K hK => ?_) AllReadyH.nil))
        · go_simp
          have R281 := R275.alloc (.cells #[Value.int .i64 0, Value.int .i64 (d - 1), Value.int .i64 d, Value.int .i64 (2 * d - 1), Value.int .i64 (c * d - 1), Value.int .i64 (-1), Value.int .i64 u2] 3)
          have T282 := T277.alloc (.cells #[Value.int .i64 0, Value.int .i64 (d - 1), Value.int .i64 d, Value.int .i64 (2 * d - 1), Value.int .i64 (c * d - 1), Value.int .i64 (-1), Value.int .i64 u2] 3)
          have Q283 := Q278.alloc (.cells #[Value.int .i64 0, Value.int .i64 (d - 1), Value.int .i64 d, Value.int .i64 (2 * d - 1), Value.int .i64 (c * d - 1), Value.int .i64 (-1), Value.int .i64 u2] 3)
          have G284 : Lits (w273.alloc (.cells #[Value.int .i64 0, Value.int .i64 (d - 1), Value.int .i64 d, Value.int .i64 (2 * d - 1), Value.int .i64 (c * d - 1), Value.int .i64 (-1), Value.int .i64 u2] 3)) w273.heap.size (lit7 c d u2) := Lits.new (lit7 c d u2) _ _
          have ng285 : w.heap.size + 1 < w273.heap.size := R275.lt
          refine hK.out _ _ (hs279.alloc _) (fun hHeld => ?_)
          refine wpAnyH_more (S' := fun W => Two W (w2.heap.size) (.int .i64 c) (.int .i64 d) ∧ Lits W (w273.heap.size) (lit7 c d u2)) (fun W ⟨x0, x1⟩ => x0) _ _ _ _ ?_
          have hHeld : (fun W => Two W (w2.heap.size) (.int .i64 c) (.int .i64 d) ∧ Lits W (w273.heap.size) (lit7 c d u2)) (w273.alloc (.cells #[Value.int .i64 0, Value.int .i64 (d - 1), Value.int .i64 d, Value.int .i64 (2 * d - 1), Value.int .i64 (c * d - 1), Value.int .i64 (-1), Value.int .i64 u2] 3)) := ⟨hHeld, G284⟩
          clear hK G284 R275 T277 Q278 hs279
          try simp only [Act.put, List.setIfInBounds_toArray, List.set_cons_zero, List.set_cons_succ, List.getElem_toArray, List.getElem_cons_zero, List.getElem_cons_succ]
          generalize w273.alloc (.cells #[Value.int .i64 0, Value.int .i64 (d - 1), Value.int .i64 d, Value.int .i64 (2 * d - 1), Value.int .i64 (c * d - 1), Value.int .i64 (-1), Value.int .i64 u2] 3) = w280 at *
          obtain ⟨hs286, hs287⟩ := (show Two w280 (w2.heap.size) (.int .i64 c) (.int .i64 d) ∧ Lits w280 (w273.heap.size) (lit7 c d u2) from hHeld)
          refine wpAnyH_take (i := 21) (v := .pointer (some ⟨w273.heap.size, u123.toNat, none⟩)) rfl (by kernel_rfl) (by kernel_rfl) (by kernel_rfl) (fun _ _ _ h => h) (Or.inl ⟨by rfl, ?_⟩) (by assumption) ?_
          · intro wx hSw; go_simp
          try simp only [Act.put, List.setIfInBounds_toArray, List.set_cons_zero, List.set_cons_succ, List.getElem_toArray, List.getElem_cons_zero, List.getElem_cons_succ]
          refine wpAnyH_take (i := 22) (v := .int .i64 ((lit7 c d u2).getD u123.toNat 0)) rfl (by kernel_rfl) (by kernel_rfl) (by kernel_rfl) (fun _ _ _ h => h) (Or.inl ⟨by rfl, ?_⟩) (by assumption) ?_
          · intro wx hSw; have hl := hSw.2.2 u123 u123a (by simp [lit7]; omega); clear hSw; go_simp
          try simp only [Act.put, List.setIfInBounds_toArray, List.set_cons_zero, List.set_cons_succ, List.getElem_toArray, List.getElem_cons_zero, List.getElem_cons_succ]
          refine wpAnyH_ready (rs := [23, 28]) (by kernel_rfl) (by simp) ?_
          refine AllReadyH.cons rfl (fun K hK => ?_) (AllReadyH.cons rfl (fun K hK => ?_) AllReadyH.nil)
          · go_simp
            have R289 := R281.alloc (.cells #[Value.int .i64 0, Value.int .i64 1, Value.int .i64 0, Value.int .i64 1, Value.int .i64 2, Value.int .i64 (-1)] 3)
            have T290 := T282.alloc (.cells #[Value.int .i64 0, Value.int .i64 1, Value.int .i64 0, Value.int .i64 1, Value.int .i64 2, Value.int .i64 (-1)] 3)
            have Q291 := Q283.alloc (.cells #[Value.int .i64 0, Value.int .i64 1, Value.int .i64 0, Value.int .i64 1, Value.int .i64 2, Value.int .i64 (-1)] 3)
            have G292 : Lits (w280.alloc (.cells #[Value.int .i64 0, Value.int .i64 1, Value.int .i64 0, Value.int .i64 1, Value.int .i64 2, Value.int .i64 (-1)] 3)) w280.heap.size [0, 1, 0, 1, 2, -1] := Lits.new [0, 1, 0, 1, 2, -1] _ _
            have ng293 : w.heap.size + 1 < w280.heap.size := R281.lt
            refine hK.out _ _ ⟨hs286.alloc _, hs287.alloc _⟩ (fun hHeld => ?_)
            refine wpAnyH_more (S' := fun W => Two W (w2.heap.size) (.int .i64 c) (.int .i64 d) ∧ Lits W (w273.heap.size) (lit7 c d u2) ∧ Lits W (w280.heap.size) [0, 1, 0, 1, 2, -1]) (fun W ⟨x0, x1, x2⟩ => ⟨x0, x1⟩) _ _ _ _ ?_
            obtain ⟨y0, y1⟩ := hHeld
            have hHeld : (fun W => Two W (w2.heap.size) (.int .i64 c) (.int .i64 d) ∧ Lits W (w273.heap.size) (lit7 c d u2) ∧ Lits W (w280.heap.size) [0, 1, 0, 1, 2, -1]) (w280.alloc (.cells #[Value.int .i64 0, Value.int .i64 1, Value.int .i64 0, Value.int .i64 1, Value.int .i64 2, Value.int .i64 (-1)] 3)) := ⟨y0, y1, G292⟩
            clear hK G292 R281 T282 Q283 hs286 hs287 y0 y1
            try simp only [Act.put, List.setIfInBounds_toArray, List.set_cons_zero, List.set_cons_succ, List.getElem_toArray, List.getElem_cons_zero, List.getElem_cons_succ]
            generalize w280.alloc (.cells #[Value.int .i64 0, Value.int .i64 1, Value.int .i64 0, Value.int .i64 1, Value.int .i64 2, Value.int .i64 (-1)] 3) = w288 at *
            obtain ⟨hs294, hs295, hs296⟩ := (show Two w288 (w2.heap.size) (.int .i64 c) (.int .i64 d) ∧ Lits w288 (w273.heap.size) (lit7 c d u2) ∧ Lits w288 (w280.heap.size) [0, 1, 0, 1, 2, -1] from hHeld)
            refine wpAnyH_take (i := 26) (v := .pointer (some ⟨w280.heap.size, u274.toNat, none⟩)) rfl (by kernel_rfl) (by kernel_rfl) (by kernel_rfl) (fun _ _ _ h => h) (Or.inl ⟨by rfl, ?_⟩) (by assumption) ?_
            · intro wx hSw; go_simp
            try simp only [Act.put, List.setIfInBounds_toArray, List.set_cons_zero, List.set_cons_succ, List.getElem_toArray, List.getElem_cons_zero, List.getElem_cons_succ]
            refine wpAnyH_take (i := 27) (v := .int .i64 (lit6 u274)) rfl (by kernel_rfl) (by kernel_rfl) (by kernel_rfl) (fun _ _ _ h => h) (Or.inl ⟨by rfl, ?_⟩) (by assumption) ?_
            · intro wx hSw; have hl := lit6_of hSw.2.2 u274 u274a u274b; clear hSw; go_simp
            try simp only [Act.put, List.setIfInBounds_toArray, List.set_cons_zero, List.set_cons_succ, List.getElem_toArray, List.getElem_cons_zero, List.getElem_cons_succ]
            refine wpAnyH_ready (rs := [28]) (by kernel_rfl) (by simp) ?_
            refine AllReadyH.cons rfl (fun K hK => ?_) AllReadyH.nil
            · obtain ⟨t0, t1, t2, t3⟩ := T290
              go_simp
              go_wp2
              have T299 : Two ((w288.setCell ⟨w.heap.size, 0, none⟩ (.int .i64 c)).setCell ⟨w.heap.size, 1, none⟩ (.int .i64 d)) w.heap.size (.int .i64 c) (.int .i64 d) := two_put t0 t1 t2 t3
              have Q300 : KK (w.heap.size + 1) w ((w288.setCell ⟨w.heap.size, 0, none⟩ (.int .i64 c)).setCell ⟨w.heap.size, 1, none⟩ (.int .i64 d)) := kk_put Q291
              refine hK.out _ _ ⟨Two.put hs294 (by omega), Lits.put hs295 (by omega), Lits.put hs296 (by omega)⟩ (fun hHeld => ?_)
              clear hK t0 t1 t2 t3 R289 Q291 hs294 hs295 hs296
              try simp only [Act.put, List.setIfInBounds_toArray, List.set_cons_zero, List.set_cons_succ, List.getElem_toArray, List.getElem_cons_zero, List.getElem_cons_succ]
              generalize ((w288.setCell ⟨w.heap.size, 0, none⟩ (.int .i64 c)).setCell ⟨w.heap.size, 1, none⟩ (.int .i64 d)) = w297 at *
              obtain ⟨hs301, hs302, hs303⟩ := (show Two w297 (w2.heap.size) (.int .i64 c) (.int .i64 d) ∧ Lits w297 (w273.heap.size) (lit7 c d u2) ∧ Lits w297 (w280.heap.size) [0, 1, 0, 1, 2, -1] from hHeld)
              refine wpAnyH_take (i := 29) (v := .int .i64 ((lit7 c d u2).getD u123.toNat 0)) rfl (by kernel_rfl) (by kernel_rfl) (by kernel_rfl) (fun _ _ _ h => h) (Or.inl ⟨by rfl, ?_⟩) (by assumption) ?_
              · intro wx hSw; go_simp
              try simp only [Act.put, List.setIfInBounds_toArray, List.set_cons_zero, List.set_cons_succ, List.getElem_toArray, List.getElem_cons_zero, List.getElem_cons_succ]
              refine wpAnyH_take (i := 30) (v := .int .i64 (lit6 u274)) rfl (by kernel_rfl) (by kernel_rfl) (by kernel_rfl) (fun _ _ _ h => h) (Or.inl ⟨by rfl, ?_⟩) (by assumption) ?_
              · intro wx hSw; go_simp
              try simp only [Act.put, List.setIfInBounds_toArray, List.set_cons_zero, List.set_cons_succ, List.getElem_toArray, List.getElem_cons_zero, List.getElem_cons_succ]
              refine wpAnyH_done (by kernel_rfl) ?_ _
              obtain ⟨e0, e1, _, _⟩ := T299
              clear hs301 hs302 hs303 hHeld
              go_wp2
              exact bodyPost_ret (v := .tuple #[.agg #[.int .i64 c, .int .i64 d], .int .i64 ((lit7 c d u2).getD u123.toNat 0), .int .i64 (lit6 u274)]) (by simp [results, Try.results4, go_sem, e0, e1]) rfl ⟨_, _, _, _, rfl, hm, (lit7_bd hm u2a u2b _).1, (lit7_bd hm u2a u2b _).2, (lit6_bd _).1, (lit6_bd _).2, finB Q300⟩
          · obtain ⟨t0, t1, t2, t3⟩ := T282
            go_simp
            go_wp2
            have T306 : Two ((w280.setCell ⟨w.heap.size, 0, none⟩ (.int .i64 c)).setCell ⟨w.heap.size, 1, none⟩ (.int .i64 d)) w.heap.size (.int .i64 c) (.int .i64 d) := two_put t0 t1 t2 t3
            have Q307 : KK (w.heap.size + 1) w ((w280.setCell ⟨w.heap.size, 0, none⟩ (.int .i64 c)).setCell ⟨w.heap.size, 1, none⟩ (.int .i64 d)) := kk_put Q283
            refine hK.out _ _ ⟨Two.put hs286 (by omega), Lits.put hs287 (by omega)⟩ (fun hHeld => ?_)
            clear hK t0 t1 t2 t3 R281 Q283 hs286 hs287
            try simp only [Act.put, List.setIfInBounds_toArray, List.set_cons_zero, List.set_cons_succ, List.getElem_toArray, List.getElem_cons_zero, List.getElem_cons_succ]
            generalize ((w280.setCell ⟨w.heap.size, 0, none⟩ (.int .i64 c)).setCell ⟨w.heap.size, 1, none⟩ (.int .i64 d)) = w304 at *
            obtain ⟨hs308, hs309⟩ := (show Two w304 (w2.heap.size) (.int .i64 c) (.int .i64 d) ∧ Lits w304 (w273.heap.size) (lit7 c d u2) from hHeld)
            refine wpAnyH_take (i := 29) (v := .int .i64 ((lit7 c d u2).getD u123.toNat 0)) rfl (by kernel_rfl) (by kernel_rfl) (by kernel_rfl) (fun _ _ _ h => h) (Or.inl ⟨by rfl, ?_⟩) (by assumption) ?_
            · intro wx hSw; go_simp
            try simp only [Act.put, List.setIfInBounds_toArray, List.set_cons_zero, List.set_cons_succ, List.getElem_toArray, List.getElem_cons_zero, List.getElem_cons_succ]
            refine wpAnyH_ready (rs := [23]) (by kernel_rfl) (by simp) ?_
            refine AllReadyH.cons rfl (fun K hK => ?_) AllReadyH.nil
            · go_simp
              have T312 := T306.alloc (.cells #[Value.int .i64 0, Value.int .i64 1, Value.int .i64 0, Value.int .i64 1, Value.int .i64 2, Value.int .i64 (-1)] 3)
              have Q313 := Q307.alloc (.cells #[Value.int .i64 0, Value.int .i64 1, Value.int .i64 0, Value.int .i64 1, Value.int .i64 2, Value.int .i64 (-1)] 3)
              have G314 : Lits (w304.alloc (.cells #[Value.int .i64 0, Value.int .i64 1, Value.int .i64 0, Value.int .i64 1, Value.int .i64 2, Value.int .i64 (-1)] 3)) w304.heap.size [0, 1, 0, 1, 2, -1] := Lits.new [0, 1, 0, 1, 2, -1] _ _
              refine hK.out _ _ ⟨hs308.alloc _, hs309.alloc _⟩ (fun hHeld => ?_)
              refine wpAnyH_more (S' := fun W => Two W (w2.heap.size) (.int .i64 c) (.int .i64 d) ∧ Lits W (w273.heap.size) (lit7 c d u2) ∧ Lits W (w304.heap.size) [0, 1, 0, 1, 2, -1]) (fun W ⟨x0, x1, x2⟩ => ⟨x0, x1⟩) _ _ _ _ ?_
              obtain ⟨y0, y1⟩ := hHeld
              have hHeld : (fun W => Two W (w2.heap.size) (.int .i64 c) (.int .i64 d) ∧ Lits W (w273.heap.size) (lit7 c d u2) ∧ Lits W (w304.heap.size) [0, 1, 0, 1, 2, -1]) (w304.alloc (.cells #[Value.int .i64 0, Value.int .i64 1, Value.int .i64 0, Value.int .i64 1, Value.int .i64 2, Value.int .i64 (-1)] 3)) := ⟨y0, y1, G314⟩
              clear hK G314 T306 Q307 hs308 hs309 y0 y1
              try simp only [Act.put, List.setIfInBounds_toArray, List.set_cons_zero, List.set_cons_succ, List.getElem_toArray, List.getElem_cons_zero, List.getElem_cons_succ]
              generalize w304.alloc (.cells #[Value.int .i64 0, Value.int .i64 1, Value.int .i64 0, Value.int .i64 1, Value.int .i64 2, Value.int .i64 (-1)] 3) = w310 at *
              obtain ⟨hs316, hs317, hs318⟩ := (show Two w310 (w2.heap.size) (.int .i64 c) (.int .i64 d) ∧ Lits w310 (w273.heap.size) (lit7 c d u2) ∧ Lits w310 (w304.heap.size) [0, 1, 0, 1, 2, -1] from hHeld)
              refine wpAnyH_take (i := 26) (v := .pointer (some ⟨w304.heap.size, u274.toNat, none⟩)) rfl (by kernel_rfl) (by kernel_rfl) (by kernel_rfl) (fun _ _ _ h => h) (Or.inl ⟨by rfl, ?_⟩) (by assumption) ?_
              · intro wx hSw; go_simp
              try simp only [Act.put, List.setIfInBounds_toArray, List.set_cons_zero, List.set_cons_succ, List.getElem_toArray, List.getElem_cons_zero, List.getElem_cons_succ]
              refine wpAnyH_take (i := 27) (v := .int .i64 (lit6 u274)) rfl (by kernel_rfl) (by kernel_rfl) (by kernel_rfl) (fun _ _ _ h => h) (Or.inl ⟨by rfl, ?_⟩) (by assumption) ?_
              · intro wx hSw; have hl := lit6_of hSw.2.2 u274 u274a u274b; clear hSw; go_simp
              try simp only [Act.put, List.setIfInBounds_toArray, List.set_cons_zero, List.set_cons_succ, List.getElem_toArray, List.getElem_cons_zero, List.getElem_cons_succ]
              refine wpAnyH_take (i := 30) (v := .int .i64 (lit6 u274)) rfl (by kernel_rfl) (by kernel_rfl) (by kernel_rfl) (fun _ _ _ h => h) (Or.inl ⟨by rfl, ?_⟩) (by assumption) ?_
              · intro wx hSw; go_simp
              try simp only [Act.put, List.setIfInBounds_toArray, List.set_cons_zero, List.set_cons_succ, List.getElem_toArray, List.getElem_cons_zero, List.getElem_cons_succ]
              refine wpAnyH_done (by kernel_rfl) ?_ _
              obtain ⟨e0, e1, _, _⟩ := T312
              clear hs316 hs317 hs318 hHeld
              go_wp2
              exact bodyPost_ret (v := .tuple #[.agg #[.int .i64 c, .int .i64 d], .int .i64 ((lit7 c d u2).getD u123.toNat 0), .int .i64 (lit6 u274)]) (by simp [results, Try.results4, go_sem, e0, e1]) rfl ⟨_, _, _, _, rfl, hm, (lit7_bd hm u2a u2b _).1, (lit7_bd hm u2a u2b _).2, (lit6_bd _).1, (lit6_bd _).2, finB Q313⟩
        · go_simp
          have R320 := R275.alloc (.cells #[Value.int .i64 0, Value.int .i64 1, Value.int .i64 0, Value.int .i64 1, Value.int .i64 2, Value.int .i64 (-1)] 3)
          have T321 := T277.alloc (.cells #[Value.int .i64 0, Value.int .i64 1, Value.int .i64 0, Value.int .i64 1, Value.int .i64 2, Value.int .i64 (-1)] 3)
          have Q322 := Q278.alloc (.cells #[Value.int .i64 0, Value.int .i64 1, Value.int .i64 0, Value.int .i64 1, Value.int .i64 2, Value.int .i64 (-1)] 3)
          have G323 : Lits (w273.alloc (.cells #[Value.int .i64 0, Value.int .i64 1, Value.int .i64 0, Value.int .i64 1, Value.int .i64 2, Value.int .i64 (-1)] 3)) w273.heap.size [0, 1, 0, 1, 2, -1] := Lits.new [0, 1, 0, 1, 2, -1] _ _
          have ng324 : w.heap.size + 1 < w273.heap.size := R275.lt
          refine hK.out _ _ (hs279.alloc _) (fun hHeld => ?_)
          refine wpAnyH_more (S' := fun W => Two W (w2.heap.size) (.int .i64 c) (.int .i64 d) ∧ Lits W (w273.heap.size) [0, 1, 0, 1, 2, -1]) (fun W ⟨x0, x1⟩ => x0) _ _ _ _ ?_
          have hHeld : (fun W => Two W (w2.heap.size) (.int .i64 c) (.int .i64 d) ∧ Lits W (w273.heap.size) [0, 1, 0, 1, 2, -1]) (w273.alloc (.cells #[Value.int .i64 0, Value.int .i64 1, Value.int .i64 0, Value.int .i64 1, Value.int .i64 2, Value.int .i64 (-1)] 3)) := ⟨hHeld, G323⟩
          clear hK G323 R275 T277 Q278 hs279
          try simp only [Act.put, List.setIfInBounds_toArray, List.set_cons_zero, List.set_cons_succ, List.getElem_toArray, List.getElem_cons_zero, List.getElem_cons_succ]
          generalize w273.alloc (.cells #[Value.int .i64 0, Value.int .i64 1, Value.int .i64 0, Value.int .i64 1, Value.int .i64 2, Value.int .i64 (-1)] 3) = w319 at *
          obtain ⟨hs325, hs326⟩ := (show Two w319 (w2.heap.size) (.int .i64 c) (.int .i64 d) ∧ Lits w319 (w273.heap.size) [0, 1, 0, 1, 2, -1] from hHeld)
          refine wpAnyH_take (i := 26) (v := .pointer (some ⟨w273.heap.size, u274.toNat, none⟩)) rfl (by kernel_rfl) (by kernel_rfl) (by kernel_rfl) (fun _ _ _ h => h) (Or.inl ⟨by rfl, ?_⟩) (by assumption) ?_
          · intro wx hSw; go_simp
          try simp only [Act.put, List.setIfInBounds_toArray, List.set_cons_zero, List.set_cons_succ, List.getElem_toArray, List.getElem_cons_zero, List.getElem_cons_succ]
          refine wpAnyH_take (i := 27) (v := .int .i64 (lit6 u274)) rfl (by kernel_rfl) (by kernel_rfl) (by kernel_rfl) (fun _ _ _ h => h) (Or.inl ⟨by rfl, ?_⟩) (by assumption) ?_
          · intro wx hSw; have hl := lit6_of hSw.2 u274 u274a u274b; clear hSw; go_simp
          try simp only [Act.put, List.setIfInBounds_toArray, List.set_cons_zero, List.set_cons_succ, List.getElem_toArray, List.getElem_cons_zero, List.getElem_cons_succ]
          refine wpAnyH_ready (rs := [18, 28]) (by kernel_rfl) (by simp) ?_
          refine AllReadyH.cons rfl (fun K hK => ?_) (AllReadyH.cons rfl (fun K hK => ?_) AllReadyH.nil)
          · go_simp
            have R328 := R320.alloc (.cells #[Value.int .i64 0, Value.int .i64 (d - 1), Value.int .i64 d, Value.int .i64 (2 * d - 1), Value.int .i64 (c * d - 1), Value.int .i64 (-1), Value.int .i64 u2] 3)
            have T329 := T321.alloc (.cells #[Value.int .i64 0, Value.int .i64 (d - 1), Value.int .i64 d, Value.int .i64 (2 * d - 1), Value.int .i64 (c * d - 1), Value.int .i64 (-1), Value.int .i64 u2] 3)
            have Q330 := Q322.alloc (.cells #[Value.int .i64 0, Value.int .i64 (d - 1), Value.int .i64 d, Value.int .i64 (2 * d - 1), Value.int .i64 (c * d - 1), Value.int .i64 (-1), Value.int .i64 u2] 3)
            have G331 : Lits (w319.alloc (.cells #[Value.int .i64 0, Value.int .i64 (d - 1), Value.int .i64 d, Value.int .i64 (2 * d - 1), Value.int .i64 (c * d - 1), Value.int .i64 (-1), Value.int .i64 u2] 3)) w319.heap.size (lit7 c d u2) := Lits.new (lit7 c d u2) _ _
            have ng332 : w.heap.size + 1 < w319.heap.size := R320.lt
            refine hK.out _ _ ⟨hs325.alloc _, hs326.alloc _⟩ (fun hHeld => ?_)
            refine wpAnyH_more (S' := fun W => Two W (w2.heap.size) (.int .i64 c) (.int .i64 d) ∧ Lits W (w273.heap.size) [0, 1, 0, 1, 2, -1] ∧ Lits W (w319.heap.size) (lit7 c d u2)) (fun W ⟨x0, x1, x2⟩ => ⟨x0, x1⟩) _ _ _ _ ?_
            obtain ⟨y0, y1⟩ := hHeld
            have hHeld : (fun W => Two W (w2.heap.size) (.int .i64 c) (.int .i64 d) ∧ Lits W (w273.heap.size) [0, 1, 0, 1, 2, -1] ∧ Lits W (w319.heap.size) (lit7 c d u2)) (w319.alloc (.cells #[Value.int .i64 0, Value.int .i64 (d - 1), Value.int .i64 d, Value.int .i64 (2 * d - 1), Value.int .i64 (c * d - 1), Value.int .i64 (-1), Value.int .i64 u2] 3)) := ⟨y0, y1, G331⟩
            clear hK G331 R320 T321 Q322 hs325 hs326 y0 y1
            try simp only [Act.put, List.setIfInBounds_toArray, List.set_cons_zero, List.set_cons_succ, List.getElem_toArray, List.getElem_cons_zero, List.getElem_cons_succ]
            generalize w319.alloc (.cells #[Value.int .i64 0, Value.int .i64 (d - 1), Value.int .i64 d, Value.int .i64 (2 * d - 1), Value.int .i64 (c * d - 1), Value.int .i64 (-1), Value.int .i64 u2] 3) = w327 at *
            obtain ⟨hs333, hs334, hs335⟩ := (show Two w327 (w2.heap.size) (.int .i64 c) (.int .i64 d) ∧ Lits w327 (w273.heap.size) [0, 1, 0, 1, 2, -1] ∧ Lits w327 (w319.heap.size) (lit7 c d u2) from hHeld)
            refine wpAnyH_take (i := 21) (v := .pointer (some ⟨w319.heap.size, u123.toNat, none⟩)) rfl (by kernel_rfl) (by kernel_rfl) (by kernel_rfl) (fun _ _ _ h => h) (Or.inl ⟨by rfl, ?_⟩) (by assumption) ?_
            · intro wx hSw; go_simp
            try simp only [Act.put, List.setIfInBounds_toArray, List.set_cons_zero, List.set_cons_succ, List.getElem_toArray, List.getElem_cons_zero, List.getElem_cons_succ]
            refine wpAnyH_take (i := 22) (v := .int .i64 ((lit7 c d u2).getD u123.toNat 0)) rfl (by kernel_rfl) (by kernel_rfl) (by kernel_rfl) (fun _ _ _ h => h) (Or.inl ⟨by rfl, ?_⟩) (by assumption) ?_
            · intro wx hSw; have hl := hSw.2.2.2 u123 u123a (by simp [lit7]; omega); clear hSw; go_simp
            try simp only [Act.put, List.setIfInBounds_toArray, List.set_cons_zero, List.set_cons_succ, List.getElem_toArray, List.getElem_cons_zero, List.getElem_cons_succ]
            refine wpAnyH_ready (rs := [28]) (by kernel_rfl) (by simp) ?_
            refine AllReadyH.cons rfl (fun K hK => ?_) AllReadyH.nil
            · obtain ⟨t0, t1, t2, t3⟩ := T329
              go_simp
              go_wp2
              have T338 : Two ((w327.setCell ⟨w.heap.size, 0, none⟩ (.int .i64 c)).setCell ⟨w.heap.size, 1, none⟩ (.int .i64 d)) w.heap.size (.int .i64 c) (.int .i64 d) := two_put t0 t1 t2 t3
              have Q339 : KK (w.heap.size + 1) w ((w327.setCell ⟨w.heap.size, 0, none⟩ (.int .i64 c)).setCell ⟨w.heap.size, 1, none⟩ (.int .i64 d)) := kk_put Q330
              refine hK.out _ _ ⟨Two.put hs333 (by omega), Lits.put hs334 (by omega), Lits.put hs335 (by omega)⟩ (fun hHeld => ?_)
              clear hK t0 t1 t2 t3 R328 Q330 hs333 hs334 hs335
              try simp only [Act.put, List.setIfInBounds_toArray, List.set_cons_zero, List.set_cons_succ, List.getElem_toArray, List.getElem_cons_zero, List.getElem_cons_succ]
              generalize ((w327.setCell ⟨w.heap.size, 0, none⟩ (.int .i64 c)).setCell ⟨w.heap.size, 1, none⟩ (.int .i64 d)) = w336 at *
              obtain ⟨hs340, hs341, hs342⟩ := (show Two w336 (w2.heap.size) (.int .i64 c) (.int .i64 d) ∧ Lits w336 (w273.heap.size) [0, 1, 0, 1, 2, -1] ∧ Lits w336 (w319.heap.size) (lit7 c d u2) from hHeld)
              refine wpAnyH_take (i := 29) (v := .int .i64 ((lit7 c d u2).getD u123.toNat 0)) rfl (by kernel_rfl) (by kernel_rfl) (by kernel_rfl) (fun _ _ _ h => h) (Or.inl ⟨by rfl, ?_⟩) (by assumption) ?_
              · intro wx hSw; go_simp
              try simp only [Act.put, List.setIfInBounds_toArray, List.set_cons_zero, List.set_cons_succ, List.getElem_toArray, List.getElem_cons_zero, List.getElem_cons_succ]
              refine wpAnyH_take (i := 30) (v := .int .i64 (lit6 u274)) rfl (by kernel_rfl) (by kernel_rfl) (by kernel_rfl) (fun _ _ _ h => h) (Or.inl ⟨by rfl, ?_⟩) (by assumption) ?_
              · intro wx hSw; go_simp
              try simp only [Act.put, List.setIfInBounds_toArray, List.set_cons_zero, List.set_cons_succ, List.getElem_toArray, List.getElem_cons_zero, List.getElem_cons_succ]
              refine wpAnyH_done (by kernel_rfl) ?_ _
              obtain ⟨e0, e1, _, _⟩ := T338
              clear hs340 hs341 hs342 hHeld
              go_wp2
              exact bodyPost_ret (v := .tuple #[.agg #[.int .i64 c, .int .i64 d], .int .i64 ((lit7 c d u2).getD u123.toNat 0), .int .i64 (lit6 u274)]) (by simp [results, Try.results4, go_sem, e0, e1]) rfl ⟨_, _, _, _, rfl, hm, (lit7_bd hm u2a u2b _).1, (lit7_bd hm u2a u2b _).2, (lit6_bd _).1, (lit6_bd _).2, finB Q339⟩
          · obtain ⟨t0, t1, t2, t3⟩ := T321
            go_simp
            go_wp2
            have T345 : Two ((w319.setCell ⟨w.heap.size, 0, none⟩ (.int .i64 c)).setCell ⟨w.heap.size, 1, none⟩ (.int .i64 d)) w.heap.size (.int .i64 c) (.int .i64 d) := two_put t0 t1 t2 t3
            have Q346 : KK (w.heap.size + 1) w ((w319.setCell ⟨w.heap.size, 0, none⟩ (.int .i64 c)).setCell ⟨w.heap.size, 1, none⟩ (.int .i64 d)) := kk_put Q322
            refine hK.out _ _ ⟨Two.put hs325 (by omega), Lits.put hs326 (by omega)⟩ (fun hHeld => ?_)
            clear hK t0 t1 t2 t3 R320 Q322 hs325 hs326
            try simp only [Act.put, List.setIfInBounds_toArray, List.set_cons_zero, List.set_cons_succ, List.getElem_toArray, List.getElem_cons_zero, List.getElem_cons_succ]
            generalize ((w319.setCell ⟨w.heap.size, 0, none⟩ (.int .i64 c)).setCell ⟨w.heap.size, 1, none⟩ (.int .i64 d)) = w343 at *
            obtain ⟨hs347, hs348⟩ := (show Two w343 (w2.heap.size) (.int .i64 c) (.int .i64 d) ∧ Lits w343 (w273.heap.size) [0, 1, 0, 1, 2, -1] from hHeld)
            refine wpAnyH_ready (rs := [18]) (by kernel_rfl) (by simp) ?_
            refine AllReadyH.cons rfl (fun K hK => ?_) AllReadyH.nil
            · go_simp
              have T351 := T345.alloc (.cells #[Value.int .i64 0, Value.int .i64 (d - 1), Value.int .i64 d, Value.int .i64 (2 * d - 1), Value.int .i64 (c * d - 1), Value.int .i64 (-1), Value.int .i64 u2] 3)
              have Q352 := Q346.alloc (.cells #[Value.int .i64 0, Value.int .i64 (d - 1), Value.int .i64 d, Value.int .i64 (2 * d - 1), Value.int .i64 (c * d - 1), Value.int .i64 (-1), Value.int .i64 u2] 3)
              have G353 : Lits (w343.alloc (.cells #[Value.int .i64 0, Value.int .i64 (d - 1), Value.int .i64 d, Value.int .i64 (2 * d - 1), Value.int .i64 (c * d - 1), Value.int .i64 (-1), Value.int .i64 u2] 3)) w343.heap.size (lit7 c d u2) := Lits.new (lit7 c d u2) _ _
              refine hK.out _ _ ⟨hs347.alloc _, hs348.alloc _⟩ (fun hHeld => ?_)
              refine wpAnyH_more (S' := fun W => Two W (w2.heap.size) (.int .i64 c) (.int .i64 d) ∧ Lits W (w273.heap.size) [0, 1, 0, 1, 2, -1] ∧ Lits W (w343.heap.size) (lit7 c d u2)) (fun W ⟨x0, x1, x2⟩ => ⟨x0, x1⟩) _ _ _ _ ?_
              obtain ⟨y0, y1⟩ := hHeld
              have hHeld : (fun W => Two W (w2.heap.size) (.int .i64 c) (.int .i64 d) ∧ Lits W (w273.heap.size) [0, 1, 0, 1, 2, -1] ∧ Lits W (w343.heap.size) (lit7 c d u2)) (w343.alloc (.cells #[Value.int .i64 0, Value.int .i64 (d - 1), Value.int .i64 d, Value.int .i64 (2 * d - 1), Value.int .i64 (c * d - 1), Value.int .i64 (-1), Value.int .i64 u2] 3)) := ⟨y0, y1, G353⟩
              clear hK G353 T345 Q346 hs347 hs348 y0 y1
              try simp only [Act.put, List.setIfInBounds_toArray, List.set_cons_zero, List.set_cons_succ, List.getElem_toArray, List.getElem_cons_zero, List.getElem_cons_succ]
              generalize w343.alloc (.cells #[Value.int .i64 0, Value.int .i64 (d - 1), Value.int .i64 d, Value.int .i64 (2 * d - 1), Value.int .i64 (c * d - 1), Value.int .i64 (-1), Value.int .i64 u2] 3) = w349 at *
              obtain ⟨hs355, hs356, hs357⟩ := (show Two w349 (w2.heap.size) (.int .i64 c) (.int .i64 d) ∧ Lits w349 (w273.heap.size) [0, 1, 0, 1, 2, -1] ∧ Lits w349 (w343.heap.size) (lit7 c d u2) from hHeld)
              refine wpAnyH_take (i := 21) (v := .pointer (some ⟨w343.heap.size, u123.toNat, none⟩)) rfl (by kernel_rfl) (by kernel_rfl) (by kernel_rfl) (fun _ _ _ h => h) (Or.inl ⟨by rfl, ?_⟩) (by assumption) ?_
              · intro wx hSw; go_simp
              try simp only [Act.put, List.setIfInBounds_toArray, List.set_cons_zero, List.set_cons_succ, List.getElem_toArray, List.getElem_cons_zero, List.getElem_cons_succ]
              refine wpAnyH_take (i := 22) (v := .int .i64 ((lit7 c d u2).getD u123.toNat 0)) rfl (by kernel_rfl) (by kernel_rfl) (by kernel_rfl) (fun _ _ _ h => h) (Or.inl ⟨by rfl, ?_⟩) (by assumption) ?_
              · intro wx hSw; have hl := hSw.2.2.2 u123 u123a (by simp [lit7]; omega); clear hSw; go_simp
              try simp only [Act.put, List.setIfInBounds_toArray, List.set_cons_zero, List.set_cons_succ, List.getElem_toArray, List.getElem_cons_zero, List.getElem_cons_succ]
              refine wpAnyH_take (i := 29) (v := .int .i64 ((lit7 c d u2).getD u123.toNat 0)) rfl (by kernel_rfl) (by kernel_rfl) (by kernel_rfl) (fun _ _ _ h => h) (Or.inl ⟨by rfl, ?_⟩) (by assumption) ?_
              · intro wx hSw; go_simp
              try simp only [Act.put, List.setIfInBounds_toArray, List.set_cons_zero, List.set_cons_succ, List.getElem_toArray, List.getElem_cons_zero, List.getElem_cons_succ]
              refine wpAnyH_take (i := 30) (v := .int .i64 (lit6 u274)) rfl (by kernel_rfl) (by kernel_rfl) (by kernel_rfl) (fun _ _ _ h => h) (Or.inl ⟨by rfl, ?_⟩) (by assumption) ?_
              · intro wx hSw; go_simp
              try simp only [Act.put, List.setIfInBounds_toArray, List.set_cons_zero, List.set_cons_succ, List.getElem_toArray, List.getElem_cons_zero, List.getElem_cons_succ]
              refine wpAnyH_done (by kernel_rfl) ?_ _
              obtain ⟨e0, e1, _, _⟩ := T351
              clear hs355 hs356 hs357 hHeld
              go_wp2
              exact bodyPost_ret (v := .tuple #[.agg #[.int .i64 c, .int .i64 d], .int .i64 ((lit7 c d u2).getD u123.toNat 0), .int .i64 (lit6 u274)]) (by simp [results, Try.results4, go_sem, e0, e1]) rfl ⟨_, _, _, _, rfl, hm, (lit7_bd hm u2a u2b _).1, (lit7_bd hm u2a u2b _).2, (lit6_bd _).1, (lit6_bd _).2, finB Q352⟩
        · obtain ⟨t0, t1, t2, t3⟩ := T277
          go_simp
          go_wp2
          have T360 : Two ((w273.setCell ⟨w.heap.size, 0, none⟩ (.int .i64 c)).setCell ⟨w.heap.size, 1, none⟩ (.int .i64 d)) w.heap.size (.int .i64 c) (.int .i64 d) := two_put t0 t1 t2 t3
          have Q361 : KK (w.heap.size + 1) w ((w273.setCell ⟨w.heap.size, 0, none⟩ (.int .i64 c)).setCell ⟨w.heap.size, 1, none⟩ (.int .i64 d)) := kk_put Q278
          refine hK.out _ _ (Two.put hs279 (by omega)) (fun hHeld => ?_)
          clear hK t0 t1 t2 t3 R275 Q278 hs279
          try simp only [Act.put, List.setIfInBounds_toArray, List.set_cons_zero, List.set_cons_succ, List.getElem_toArray, List.getElem_cons_zero, List.getElem_cons_succ]
          generalize ((w273.setCell ⟨w.heap.size, 0, none⟩ (.int .i64 c)).setCell ⟨w.heap.size, 1, none⟩ (.int .i64 d)) = w358 at *
          have hs362 := hHeld
          refine wpAnyH_ready (rs := [18, 23]) (by kernel_rfl) (by simp) ?_
          refine AllReadyH.cons rfl (fun K hK => ?_) (AllReadyH.cons rfl (fun K hK => ?_) AllReadyH.nil)
          · go_simp
            have T365 := T360.alloc (.cells #[Value.int .i64 0, Value.int .i64 (d - 1), Value.int .i64 d, Value.int .i64 (2 * d - 1), Value.int .i64 (c * d - 1), Value.int .i64 (-1), Value.int .i64 u2] 3)
            have Q366 := Q361.alloc (.cells #[Value.int .i64 0, Value.int .i64 (d - 1), Value.int .i64 d, Value.int .i64 (2 * d - 1), Value.int .i64 (c * d - 1), Value.int .i64 (-1), Value.int .i64 u2] 3)
            have G367 : Lits (w358.alloc (.cells #[Value.int .i64 0, Value.int .i64 (d - 1), Value.int .i64 d, Value.int .i64 (2 * d - 1), Value.int .i64 (c * d - 1), Value.int .i64 (-1), Value.int .i64 u2] 3)) w358.heap.size (lit7 c d u2) := Lits.new (lit7 c d u2) _ _
            refine hK.out _ _ (hs362.alloc _) (fun hHeld => ?_)
            refine wpAnyH_more (S' := fun W => Two W (w2.heap.size) (.int .i64 c) (.int .i64 d) ∧ Lits W (w358.heap.size) (lit7 c d u2)) (fun W ⟨x0, x1⟩ => x0) _ _ _ _ ?_
            have hHeld : (fun W => Two W (w2.heap.size) (.int .i64 c) (.int .i64 d) ∧ Lits W (w358.heap.size) (lit7 c d u2)) (w358.alloc (.cells #[Value.int .i64 0, Value.int .i64 (d - 1), Value.int .i64 d, Value.int .i64 (2 * d - 1), Value.int .i64 (c * d - 1), Value.int .i64 (-1), Value.int .i64 u2] 3)) := ⟨hHeld, G367⟩
            clear hK G367 T360 Q361 hs362
            try simp only [Act.put, List.setIfInBounds_toArray, List.set_cons_zero, List.set_cons_succ, List.getElem_toArray, List.getElem_cons_zero, List.getElem_cons_succ]
            generalize w358.alloc (.cells #[Value.int .i64 0, Value.int .i64 (d - 1), Value.int .i64 d, Value.int .i64 (2 * d - 1), Value.int .i64 (c * d - 1), Value.int .i64 (-1), Value.int .i64 u2] 3) = w363 at *
            obtain ⟨hs369, hs370⟩ := (show Two w363 (w2.heap.size) (.int .i64 c) (.int .i64 d) ∧ Lits w363 (w358.heap.size) (lit7 c d u2) from hHeld)
            refine wpAnyH_take (i := 21) (v := .pointer (some ⟨w358.heap.size, u123.toNat, none⟩)) rfl (by kernel_rfl) (by kernel_rfl) (by kernel_rfl) (fun _ _ _ h => h) (Or.inl ⟨by rfl, ?_⟩) (by assumption) ?_
            · intro wx hSw; go_simp
            try simp only [Act.put, List.setIfInBounds_toArray, List.set_cons_zero, List.set_cons_succ, List.getElem_toArray, List.getElem_cons_zero, List.getElem_cons_succ]
            refine wpAnyH_take (i := 22) (v := .int .i64 ((lit7 c d u2).getD u123.toNat 0)) rfl (by kernel_rfl) (by kernel_rfl) (by kernel_rfl) (fun _ _ _ h => h) (Or.inl ⟨by rfl, ?_⟩) (by assumption) ?_
            · intro wx hSw; have hl := hSw.2.2 u123 u123a (by simp [lit7]; omega); clear hSw; go_simp
            try simp only [Act.put, List.setIfInBounds_toArray, List.set_cons_zero, List.set_cons_succ, List.getElem_toArray, List.getElem_cons_zero, List.getElem_cons_succ]
            refine wpAnyH_take (i := 29) (v := .int .i64 ((lit7 c d u2).getD u123.toNat 0)) rfl (by kernel_rfl) (by kernel_rfl) (by kernel_rfl) (fun _ _ _ h => h) (Or.inl ⟨by rfl, ?_⟩) (by assumption) ?_
            · intro wx hSw; go_simp
            try simp only [Act.put, List.setIfInBounds_toArray, List.set_cons_zero, List.set_cons_succ, List.getElem_toArray, List.getElem_cons_zero, List.getElem_cons_succ]
            refine wpAnyH_ready (rs := [23]) (by kernel_rfl) (by simp) ?_
            refine AllReadyH.cons rfl (fun K hK => ?_) AllReadyH.nil
            · go_simp
              have T373 := T365.alloc (.cells #[Value.int .i64 0, Value.int .i64 1, Value.int .i64 0, Value.int .i64 1, Value.int .i64 2, Value.int .i64 (-1)] 3)
              have Q374 := Q366.alloc (.cells #[Value.int .i64 0, Value.int .i64 1, Value.int .i64 0, Value.int .i64 1, Value.int .i64 2, Value.int .i64 (-1)] 3)
              have G375 : Lits (w363.alloc (.cells #[Value.int .i64 0, Value.int .i64 1, Value.int .i64 0, Value.int .i64 1, Value.int .i64 2, Value.int .i64 (-1)] 3)) w363.heap.size [0, 1, 0, 1, 2, -1] := Lits.new [0, 1, 0, 1, 2, -1] _ _
              refine hK.out _ _ ⟨hs369.alloc _, hs370.alloc _⟩ (fun hHeld => ?_)
              refine wpAnyH_more (S' := fun W => Two W (w2.heap.size) (.int .i64 c) (.int .i64 d) ∧ Lits W (w358.heap.size) (lit7 c d u2) ∧ Lits W (w363.heap.size) [0, 1, 0, 1, 2, -1]) (fun W ⟨x0, x1, x2⟩ => ⟨x0, x1⟩) _ _ _ _ ?_
              obtain ⟨y0, y1⟩ := hHeld
              have hHeld : (fun W => Two W (w2.heap.size) (.int .i64 c) (.int .i64 d) ∧ Lits W (w358.heap.size) (lit7 c d u2) ∧ Lits W (w363.heap.size) [0, 1, 0, 1, 2, -1]) (w363.alloc (.cells #[Value.int .i64 0, Value.int .i64 1, Value.int .i64 0, Value.int .i64 1, Value.int .i64 2, Value.int .i64 (-1)] 3)) := ⟨y0, y1, G375⟩
              clear hK G375 T365 Q366 hs369 hs370 y0 y1
              try simp only [Act.put, List.setIfInBounds_toArray, List.set_cons_zero, List.set_cons_succ, List.getElem_toArray, List.getElem_cons_zero, List.getElem_cons_succ]
              generalize w363.alloc (.cells #[Value.int .i64 0, Value.int .i64 1, Value.int .i64 0, Value.int .i64 1, Value.int .i64 2, Value.int .i64 (-1)] 3) = w371 at *
              obtain ⟨hs377, hs378, hs379⟩ := (show Two w371 (w2.heap.size) (.int .i64 c) (.int .i64 d) ∧ Lits w371 (w358.heap.size) (lit7 c d u2) ∧ Lits w371 (w363.heap.size) [0, 1, 0, 1, 2, -1] from hHeld)
              refine wpAnyH_take (i := 26) (v := .pointer (some ⟨w363.heap.size, u274.toNat, none⟩)) rfl (by kernel_rfl) (by kernel_rfl) (by kernel_rfl) (fun _ _ _ h => h) (Or.inl ⟨by rfl, ?_⟩) (by assumption) ?_
              · intro wx hSw; go_simp
              try simp only [Act.put, List.setIfInBounds_toArray, List.set_cons_zero, List.set_cons_succ, List.getElem_toArray, List.getElem_cons_zero, List.getElem_cons_succ]
              refine wpAnyH_take (i := 27) (v := .int .i64 (lit6 u274)) rfl (by kernel_rfl) (by kernel_rfl) (by kernel_rfl) (fun _ _ _ h => h) (Or.inl ⟨by rfl, ?_⟩) (by assumption) ?_
              · intro wx hSw; have hl := lit6_of hSw.2.2 u274 u274a u274b; clear hSw; go_simp
              try simp only [Act.put, List.setIfInBounds_toArray, List.set_cons_zero, List.set_cons_succ, List.getElem_toArray, List.getElem_cons_zero, List.getElem_cons_succ]
              refine wpAnyH_take (i := 30) (v := .int .i64 (lit6 u274)) rfl (by kernel_rfl) (by kernel_rfl) (by kernel_rfl) (fun _ _ _ h => h) (Or.inl ⟨by rfl, ?_⟩) (by assumption) ?_
              · intro wx hSw; go_simp
              try simp only [Act.put, List.setIfInBounds_toArray, List.set_cons_zero, List.set_cons_succ, List.getElem_toArray, List.getElem_cons_zero, List.getElem_cons_succ]
              refine wpAnyH_done (by kernel_rfl) ?_ _
              obtain ⟨e0, e1, _, _⟩ := T373
              clear hs377 hs378 hs379 hHeld
              go_wp2
              exact bodyPost_ret (v := .tuple #[.agg #[.int .i64 c, .int .i64 d], .int .i64 ((lit7 c d u2).getD u123.toNat 0), .int .i64 (lit6 u274)]) (by simp [results, Try.results4, go_sem, e0, e1]) rfl ⟨_, _, _, _, rfl, hm, (lit7_bd hm u2a u2b _).1, (lit7_bd hm u2a u2b _).2, (lit6_bd _).1, (lit6_bd _).2, finB Q374⟩
          · go_simp
            have T382 := T360.alloc (.cells #[Value.int .i64 0, Value.int .i64 1, Value.int .i64 0, Value.int .i64 1, Value.int .i64 2, Value.int .i64 (-1)] 3)
            have Q383 := Q361.alloc (.cells #[Value.int .i64 0, Value.int .i64 1, Value.int .i64 0, Value.int .i64 1, Value.int .i64 2, Value.int .i64 (-1)] 3)
            have G384 : Lits (w358.alloc (.cells #[Value.int .i64 0, Value.int .i64 1, Value.int .i64 0, Value.int .i64 1, Value.int .i64 2, Value.int .i64 (-1)] 3)) w358.heap.size [0, 1, 0, 1, 2, -1] := Lits.new [0, 1, 0, 1, 2, -1] _ _
            refine hK.out _ _ (hs362.alloc _) (fun hHeld => ?_)
            refine wpAnyH_more (S' := fun W => Two W (w2.heap.size) (.int .i64 c) (.int .i64 d) ∧ Lits W (w358.heap.size) [0, 1, 0, 1, 2, -1]) (fun W ⟨x0, x1⟩ => x0) _ _ _ _ ?_
            have hHeld : (fun W => Two W (w2.heap.size) (.int .i64 c) (.int .i64 d) ∧ Lits W (w358.heap.size) [0, 1, 0, 1, 2, -1]) (w358.alloc (.cells #[Value.int .i64 0, Value.int .i64 1, Value.int .i64 0, Value.int .i64 1, Value.int .i64 2, Value.int .i64 (-1)] 3)) := ⟨hHeld, G384⟩
            clear hK G384 T360 Q361 hs362
            try simp only [Act.put, List.setIfInBounds_toArray, List.set_cons_zero, List.set_cons_succ, List.getElem_toArray, List.getElem_cons_zero, List.getElem_cons_succ]
            generalize w358.alloc (.cells #[Value.int .i64 0, Value.int .i64 1, Value.int .i64 0, Value.int .i64 1, Value.int .i64 2, Value.int .i64 (-1)] 3) = w380 at *
            obtain ⟨hs386, hs387⟩ := (show Two w380 (w2.heap.size) (.int .i64 c) (.int .i64 d) ∧ Lits w380 (w358.heap.size) [0, 1, 0, 1, 2, -1] from hHeld)
            refine wpAnyH_take (i := 26) (v := .pointer (some ⟨w358.heap.size, u274.toNat, none⟩)) rfl (by kernel_rfl) (by kernel_rfl) (by kernel_rfl) (fun _ _ _ h => h) (Or.inl ⟨by rfl, ?_⟩) (by assumption) ?_
            · intro wx hSw; go_simp
            try simp only [Act.put, List.setIfInBounds_toArray, List.set_cons_zero, List.set_cons_succ, List.getElem_toArray, List.getElem_cons_zero, List.getElem_cons_succ]
            refine wpAnyH_take (i := 27) (v := .int .i64 (lit6 u274)) rfl (by kernel_rfl) (by kernel_rfl) (by kernel_rfl) (fun _ _ _ h => h) (Or.inl ⟨by rfl, ?_⟩) (by assumption) ?_
            · intro wx hSw; have hl := lit6_of hSw.2 u274 u274a u274b; clear hSw; go_simp
            try simp only [Act.put, List.setIfInBounds_toArray, List.set_cons_zero, List.set_cons_succ, List.getElem_toArray, List.getElem_cons_zero, List.getElem_cons_succ]
            refine wpAnyH_ready (rs := [18]) (by kernel_rfl) (by simp) ?_
            refine AllReadyH.cons rfl (fun K hK => ?_) AllReadyH.nil
            · go_simp
              have T390 := T382.alloc (.cells #[Value.int .i64 0, Value.int .i64 (d - 1), Value.int .i64 d, Value.int .i64 (2 * d - 1), Value.int .i64 (c * d - 1), Value.int .i64 (-1), Value.int .i64 u2] 3)
              have Q391 := Q383.alloc (.cells #[Value.int .i64 0, Value.int .i64 (d - 1), Value.int .i64 d, Value.int .i64 (2 * d - 1), Value.int .i64 (c * d - 1), Value.int .i64 (-1), Value.int .i64 u2] 3)
              have G392 : Lits (w380.alloc (.cells #[Value.int .i64 0, Value.int .i64 (d - 1), Value.int .i64 d, Value.int .i64 (2 * d - 1), Value.int .i64 (c * d - 1), Value.int .i64 (-1), Value.int .i64 u2] 3)) w380.heap.size (lit7 c d u2) := Lits.new (lit7 c d u2) _ _
              refine hK.out _ _ ⟨hs386.alloc _, hs387.alloc _⟩ (fun hHeld => ?_)
              refine wpAnyH_more (S' := fun W => Two W (w2.heap.size) (.int .i64 c) (.int .i64 d) ∧ Lits W (w358.heap.size) [0, 1, 0, 1, 2, -1] ∧ Lits W (w380.heap.size) (lit7 c d u2)) (fun W ⟨x0, x1, x2⟩ => ⟨x0, x1⟩) _ _ _ _ ?_
              obtain ⟨y0, y1⟩ := hHeld
              have hHeld : (fun W => Two W (w2.heap.size) (.int .i64 c) (.int .i64 d) ∧ Lits W (w358.heap.size) [0, 1, 0, 1, 2, -1] ∧ Lits W (w380.heap.size) (lit7 c d u2)) (w380.alloc (.cells #[Value.int .i64 0, Value.int .i64 (d - 1), Value.int .i64 d, Value.int .i64 (2 * d - 1), Value.int .i64 (c * d - 1), Value.int .i64 (-1), Value.int .i64 u2] 3)) := ⟨y0, y1, G392⟩
              clear hK G392 T382 Q383 hs386 hs387 y0 y1
              try simp only [Act.put, List.setIfInBounds_toArray, List.set_cons_zero, List.set_cons_succ, List.getElem_toArray, List.getElem_cons_zero, List.getElem_cons_succ]
              generalize w380.alloc (.cells #[Value.int .i64 0, Value.int .i64 (d - 1), Value.int .i64 d, Value.int .i64 (2 * d - 1), Value.int .i64 (c * d - 1), Value.int .i64 (-1), Value.int .i64 u2] 3) = w388 at *
              obtain ⟨hs394, hs395, hs396⟩ := (show Two w388 (w2.heap.size) (.int .i64 c) (.int .i64 d) ∧ Lits w388 (w358.heap.size) [0, 1, 0, 1, 2, -1] ∧ Lits w388 (w380.heap.size) (lit7 c d u2) from hHeld)
              refine wpAnyH_take (i := 21) (v := .pointer (some ⟨w380.heap.size, u123.toNat, none⟩)) rfl (by kernel_rfl) (by kernel_rfl) (by kernel_rfl) (fun _ _ _ h => h) (Or.inl ⟨by rfl, ?_⟩) (by assumption) ?_
              · intro wx hSw; go_simp
              try simp only [Act.put, List.setIfInBounds_toArray, List.set_cons_zero, List.set_cons_succ, List.getElem_toArray, List.getElem_cons_zero, List.getElem_cons_succ]
              refine wpAnyH_take (i := 22) (v := .int .i64 ((lit7 c d u2).getD u123.toNat 0)) rfl (by kernel_rfl) (by kernel_rfl) (by kernel_rfl) (fun _ _ _ h => h) (Or.inl ⟨by rfl, ?_⟩) (by assumption) ?_
              · intro wx hSw; have hl := hSw.2.2.2 u123 u123a (by simp [lit7]; omega); clear hSw; go_simp
              try simp only [Act.put, List.setIfInBounds_toArray, List.set_cons_zero, List.set_cons_succ, List.getElem_toArray, List.getElem_cons_zero, List.getElem_cons_succ]
              refine wpAnyH_take (i := 29) (v := .int .i64 ((lit7 c d u2).getD u123.toNat 0)) rfl (by kernel_rfl) (by kernel_rfl) (by kernel_rfl) (fun _ _ _ h => h) (Or.inl ⟨by rfl, ?_⟩) (by assumption) ?_
              · intro wx hSw; go_simp
              try simp only [Act.put, List.setIfInBounds_toArray, List.set_cons_zero, List.set_cons_succ, List.getElem_toArray, List.getElem_cons_zero, List.getElem_cons_succ]
              refine wpAnyH_take (i := 30) (v := .int .i64 (lit6 u274)) rfl (by kernel_rfl) (by kernel_rfl) (by kernel_rfl) (fun _ _ _ h => h) (Or.inl ⟨by rfl, ?_⟩) (by assumption) ?_
              · intro wx hSw; go_simp
              try simp only [Act.put, List.setIfInBounds_toArray, List.set_cons_zero, List.set_cons_succ, List.getElem_toArray, List.getElem_cons_zero, List.getElem_cons_succ]
              refine wpAnyH_done (by kernel_rfl) ?_ _
              obtain ⟨e0, e1, _, _⟩ := T390
              clear hs394 hs395 hs396 hHeld
              go_wp2
              exact bodyPost_ret (v := .tuple #[.agg #[.int .i64 c, .int .i64 d], .int .i64 ((lit7 c d u2).getD u123.toNat 0), .int .i64 (lit6 u274)]) (by simp [results, Try.results4, go_sem, e0, e1]) rfl ⟨_, _, _, _, rfl, hm, (lit7_bd hm u2a u2b _).1, (lit7_bd hm u2a u2b _).2, (lit6_bd _).1, (lit6_bd _).2, finB Q391⟩
    · go_simp
      have R398 := R3.alloc (.cells #[Value.int .i64 0, Value.int .i64 1, Value.int .i64 0, Value.int .i64 1, Value.int .i64 2, Value.int .i64 (-1)] 3)
      have T399 := T5.alloc (.cells #[Value.int .i64 0, Value.int .i64 1, Value.int .i64 0, Value.int .i64 1, Value.int .i64 2, Value.int .i64 (-1)] 3)
      have Q400 := Q6.alloc (.cells #[Value.int .i64 0, Value.int .i64 1, Value.int .i64 0, Value.int .i64 1, Value.int .i64 2, Value.int .i64 (-1)] 3)
      have G401 : Lits (w1.alloc (.cells #[Value.int .i64 0, Value.int .i64 1, Value.int .i64 0, Value.int .i64 1, Value.int .i64 2, Value.int .i64 (-1)] 3)) w1.heap.size [0, 1, 0, 1, 2, -1] := Lits.new [0, 1, 0, 1, 2, -1] _ _
      have ng402 : w.heap.size + 1 < w1.heap.size := R3.lt
      refine hK.out _ _ (hs7.alloc _) (fun hHeld => ?_)
      refine wpAnyH_more (S' := fun W => Two W (w2.heap.size) (.int .i64 c) (.int .i64 d) ∧ Lits W (w1.heap.size) [0, 1, 0, 1, 2, -1]) (fun W ⟨x0, x1⟩ => x0) _ _ _ _ ?_
      have hHeld : (fun W => Two W (w2.heap.size) (.int .i64 c) (.int .i64 d) ∧ Lits W (w1.heap.size) [0, 1, 0, 1, 2, -1]) (w1.alloc (.cells #[Value.int .i64 0, Value.int .i64 1, Value.int .i64 0, Value.int .i64 1, Value.int .i64 2, Value.int .i64 (-1)] 3)) := ⟨hHeld, G401⟩
      clear hK G401 R3 T5 Q6 hs7
      try simp only [Act.put, List.setIfInBounds_toArray, List.set_cons_zero, List.set_cons_succ, List.getElem_toArray, List.getElem_cons_zero, List.getElem_cons_succ]
      generalize w1.alloc (.cells #[Value.int .i64 0, Value.int .i64 1, Value.int .i64 0, Value.int .i64 1, Value.int .i64 2, Value.int .i64 (-1)] 3) = w397 at *
      obtain ⟨hs403, hs404⟩ := (show Two w397 (w2.heap.size) (.int .i64 c) (.int .i64 d) ∧ Lits w397 (w1.heap.size) [0, 1, 0, 1, 2, -1] from hHeld)
      refine wpAnyH_ready (rs := [18, 20]) (by kernel_rfl) (by simp) ?_
      refine AllReadyH.cons rfl (fun K hK => ?_) (AllReadyH.cons rfl (fun K hK => ?_) AllReadyH.nil)
      · go_simp
        have R406 := R398.alloc (.cells #[Value.int .i64 0, Value.int .i64 (d - 1), Value.int .i64 d, Value.int .i64 (2 * d - 1), Value.int .i64 (c * d - 1), Value.int .i64 (-1), Value.int .i64 u2] 3)
        have T407 := T399.alloc (.cells #[Value.int .i64 0, Value.int .i64 (d - 1), Value.int .i64 d, Value.int .i64 (2 * d - 1), Value.int .i64 (c * d - 1), Value.int .i64 (-1), Value.int .i64 u2] 3)
        have Q408 := Q400.alloc (.cells #[Value.int .i64 0, Value.int .i64 (d - 1), Value.int .i64 d, Value.int .i64 (2 * d - 1), Value.int .i64 (c * d - 1), Value.int .i64 (-1), Value.int .i64 u2] 3)
        have G409 : Lits (w397.alloc (.cells #[Value.int .i64 0, Value.int .i64 (d - 1), Value.int .i64 d, Value.int .i64 (2 * d - 1), Value.int .i64 (c * d - 1), Value.int .i64 (-1), Value.int .i64 u2] 3)) w397.heap.size (lit7 c d u2) := Lits.new (lit7 c d u2) _ _
        have ng410 : w.heap.size + 1 < w397.heap.size := R398.lt
        refine hK.out _ _ ⟨hs403.alloc _, hs404.alloc _⟩ (fun hHeld => ?_)
        refine wpAnyH_more (S' := fun W => Two W (w2.heap.size) (.int .i64 c) (.int .i64 d) ∧ Lits W (w1.heap.size) [0, 1, 0, 1, 2, -1] ∧ Lits W (w397.heap.size) (lit7 c d u2)) (fun W ⟨x0, x1, x2⟩ => ⟨x0, x1⟩) _ _ _ _ ?_
        obtain ⟨y0, y1⟩ := hHeld
        have hHeld : (fun W => Two W (w2.heap.size) (.int .i64 c) (.int .i64 d) ∧ Lits W (w1.heap.size) [0, 1, 0, 1, 2, -1] ∧ Lits W (w397.heap.size) (lit7 c d u2)) (w397.alloc (.cells #[Value.int .i64 0, Value.int .i64 (d - 1), Value.int .i64 d, Value.int .i64 (2 * d - 1), Value.int .i64 (c * d - 1), Value.int .i64 (-1), Value.int .i64 u2] 3)) := ⟨y0, y1, G409⟩
        clear hK G409 R398 T399 Q400 hs403 hs404 y0 y1
        try simp only [Act.put, List.setIfInBounds_toArray, List.set_cons_zero, List.set_cons_succ, List.getElem_toArray, List.getElem_cons_zero, List.getElem_cons_succ]
        generalize w397.alloc (.cells #[Value.int .i64 0, Value.int .i64 (d - 1), Value.int .i64 d, Value.int .i64 (2 * d - 1), Value.int .i64 (c * d - 1), Value.int .i64 (-1), Value.int .i64 u2] 3) = w405 at *
        obtain ⟨hs411, hs412, hs413⟩ := (show Two w405 (w2.heap.size) (.int .i64 c) (.int .i64 d) ∧ Lits w405 (w1.heap.size) [0, 1, 0, 1, 2, -1] ∧ Lits w405 (w397.heap.size) (lit7 c d u2) from hHeld)
        refine wpAnyH_ready (rs := [20]) (by kernel_rfl) (by simp) ?_
        refine AllReadyH.cons rfl (fun K hK => ?_) AllReadyH.nil
        · go_simp
          go_wp2_with (go_at_call 12; refine (pick_B R406 (by omega)).mono ?_; rintro e w414 ⟨u415, rfl, ⟨u415a, u415b, _⟩, R416, K417⟩)
          replace u415b := u415b (by decide)
          have T418 := Two.kept K417 T407 (by omega)
          have Q419 := KK.kept K417 Q408
          refine hK.out _ _ ⟨Two.kept K417 hs411 (by omega), Lits.kept K417 hs412 (by omega), Lits.kept K417 hs413 (by omega)⟩ (fun hHeld => ?_)
          clear hK K417 R406 T407 Q408 hs411 hs412 hs413
          try simp only [Act.put, List.setIfInBounds_toArray, List.set_cons_zero, List.set_cons_succ, List.getElem_toArray, List.getElem_cons_zero, List.getElem_cons_succ]
          obtain ⟨hs420, hs421, hs422⟩ := (show Two w414 (w2.heap.size) (.int .i64 c) (.int .i64 d) ∧ Lits w414 (w1.heap.size) [0, 1, 0, 1, 2, -1] ∧ Lits w414 (w397.heap.size) (lit7 c d u2) from hHeld)
          refine wpAnyH_take (i := 21) (v := .pointer (some ⟨w397.heap.size, u415.toNat, none⟩)) rfl (by kernel_rfl) (by kernel_rfl) (by kernel_rfl) (fun _ _ _ h => h) (Or.inl ⟨by rfl, ?_⟩) (by assumption) ?_
          · intro wx hSw; go_simp
          try simp only [Act.put, List.setIfInBounds_toArray, List.set_cons_zero, List.set_cons_succ, List.getElem_toArray, List.getElem_cons_zero, List.getElem_cons_succ]
          refine wpAnyH_take (i := 22) (v := .int .i64 ((lit7 c d u2).getD u415.toNat 0)) rfl (by kernel_rfl) (by kernel_rfl) (by kernel_rfl) (fun _ _ _ h => h) (Or.inl ⟨by rfl, ?_⟩) (by assumption) ?_
          · intro wx hSw; have hl := hSw.2.2.2 u415 u415a (by simp [lit7]; omega); clear hSw; go_simp
          try simp only [Act.put, List.setIfInBounds_toArray, List.set_cons_zero, List.set_cons_succ, List.getElem_toArray, List.getElem_cons_zero, List.getElem_cons_succ]
          refine wpAnyH_ready (rs := [25]) (by kernel_rfl) (by simp) ?_
          refine AllReadyH.cons rfl (fun K hK => ?_) AllReadyH.nil
          · go_simp
            go_wp2_with (go_at_call 12; refine (pick_B R416 (by omega)).mono ?_; rintro e w423 ⟨u424, rfl, ⟨u424a, u424b, _⟩, R425, K426⟩)
            replace u424b := u424b (by decide)
            have T427 := Two.kept K426 T418 (by omega)
            have Q428 := KK.kept K426 Q419
            refine hK.out _ _ ⟨Two.kept K426 hs420 (by omega), Lits.kept K426 hs421 (by omega), Lits.kept K426 hs422 (by omega)⟩ (fun hHeld => ?_)
            clear hK K426 R416 T418 Q419 hs420 hs421 hs422
            try simp only [Act.put, List.setIfInBounds_toArray, List.set_cons_zero, List.set_cons_succ, List.getElem_toArray, List.getElem_cons_zero, List.getElem_cons_succ]
            obtain ⟨hs429, hs430, hs431⟩ := (show Two w423 (w2.heap.size) (.int .i64 c) (.int .i64 d) ∧ Lits w423 (w1.heap.size) [0, 1, 0, 1, 2, -1] ∧ Lits w423 (w397.heap.size) (lit7 c d u2) from hHeld)
            refine wpAnyH_take (i := 26) (v := .pointer (some ⟨w1.heap.size, u424.toNat, none⟩)) rfl (by kernel_rfl) (by kernel_rfl) (by kernel_rfl) (fun _ _ _ h => h) (Or.inl ⟨by rfl, ?_⟩) (by assumption) ?_
            · intro wx hSw; go_simp
            try simp only [Act.put, List.setIfInBounds_toArray, List.set_cons_zero, List.set_cons_succ, List.getElem_toArray, List.getElem_cons_zero, List.getElem_cons_succ]
            refine wpAnyH_take (i := 27) (v := .int .i64 (lit6 u424)) rfl (by kernel_rfl) (by kernel_rfl) (by kernel_rfl) (fun _ _ _ h => h) (Or.inl ⟨by rfl, ?_⟩) (by assumption) ?_
            · intro wx hSw; have hl := lit6_of hSw.2.1 u424 u424a u424b; clear hSw; go_simp
            try simp only [Act.put, List.setIfInBounds_toArray, List.set_cons_zero, List.set_cons_succ, List.getElem_toArray, List.getElem_cons_zero, List.getElem_cons_succ]
            refine wpAnyH_ready (rs := [28]) (by kernel_rfl) (by simp) ?_
            refine AllReadyH.cons rfl (fun K hK => ?_) AllReadyH.nil
            · obtain ⟨t0, t1, t2, t3⟩ := T427
              go_simp
              go_wp2
              have T434 : Two ((w423.setCell ⟨w.heap.size, 0, none⟩ (.int .i64 c)).setCell ⟨w.heap.size, 1, none⟩ (.int .i64 d)) w.heap.size (.int .i64 c) (.int .i64 d) := two_put t0 t1 t2 t3
              have Q435 : KK (w.heap.size + 1) w ((w423.setCell ⟨w.heap.size, 0, none⟩ (.int .i64 c)).setCell ⟨w.heap.size, 1, none⟩ (.int .i64 d)) := kk_put Q428
              refine hK.out _ _ ⟨Two.put hs429 (by omega), Lits.put hs430 (by omega), Lits.put hs431 (by omega)⟩ (fun hHeld => ?_)
              clear hK t0 t1 t2 t3 R425 Q428 hs429 hs430 hs431
              try simp only [Act.put, List.setIfInBounds_toArray, List.set_cons_zero, List.set_cons_succ, List.getElem_toArray, List.getElem_cons_zero, List.getElem_cons_succ]
              generalize ((w423.setCell ⟨w.heap.size, 0, none⟩ (.int .i64 c)).setCell ⟨w.heap.size, 1, none⟩ (.int .i64 d)) = w432 at *
              obtain ⟨hs436, hs437, hs438⟩ := (show Two w432 (w2.heap.size) (.int .i64 c) (.int .i64 d) ∧ Lits w432 (w1.heap.size) [0, 1, 0, 1, 2, -1] ∧ Lits w432 (w397.heap.size) (lit7 c d u2) from hHeld)
              refine wpAnyH_take (i := 29) (v := .int .i64 ((lit7 c d u2).getD u415.toNat 0)) rfl (by kernel_rfl) (by kernel_rfl) (by kernel_rfl) (fun _ _ _ h => h) (Or.inl ⟨by rfl, ?_⟩) (by assumption) ?_
              · intro wx hSw; go_simp
              try simp only [Act.put, List.setIfInBounds_toArray, List.set_cons_zero, List.set_cons_succ, List.getElem_toArray, List.getElem_cons_zero, List.getElem_cons_succ]
              refine wpAnyH_take (i := 30) (v := .int .i64 (lit6 u424)) rfl (by kernel_rfl) (by kernel_rfl) (by kernel_rfl) (fun _ _ _ h => h) (Or.inl ⟨by rfl, ?_⟩) (by assumption) ?_
              · intro wx hSw; go_simp
              try simp only [Act.put, List.setIfInBounds_toArray, List.set_cons_zero, List.set_cons_succ, List.getElem_toArray, List.getElem_cons_zero, List.getElem_cons_succ]
              refine wpAnyH_done (by kernel_rfl) ?_ _
              obtain ⟨e0, e1, _, _⟩ := T434
              clear hs436 hs437 hs438 hHeld
              go_wp2
              exact bodyPost_ret (v := .tuple #[.agg #[.int .i64 c, .int .i64 d], .int .i64 ((lit7 c d u2).getD u415.toNat 0), .int .i64 (lit6 u424)]) (by simp [results, Try.results4, go_sem, e0, e1]) rfl ⟨_, _, _, _, rfl, hm, (lit7_bd hm u2a u2b _).1, (lit7_bd hm u2a u2b _).2, (lit6_bd _).1, (lit6_bd _).2, finB Q435⟩
      · go_simp
        go_wp2_with (go_at_call 12; refine (pick_B R398 (by omega)).mono ?_; rintro e w439 ⟨u440, rfl, ⟨u440a, u440b, _⟩, R441, K442⟩)
        replace u440b := u440b (by decide)
        have T443 := Two.kept K442 T399 (by omega)
        have Q444 := KK.kept K442 Q400
        refine hK.out _ _ ⟨Two.kept K442 hs403 (by omega), Lits.kept K442 hs404 (by omega)⟩ (fun hHeld => ?_)
        clear hK K442 R398 T399 Q400 hs403 hs404
        try simp only [Act.put, List.setIfInBounds_toArray, List.set_cons_zero, List.set_cons_succ, List.getElem_toArray, List.getElem_cons_zero, List.getElem_cons_succ]
        obtain ⟨hs445, hs446⟩ := (show Two w439 (w2.heap.size) (.int .i64 c) (.int .i64 d) ∧ Lits w439 (w1.heap.size) [0, 1, 0, 1, 2, -1] from hHeld)
        refine wpAnyH_ready (rs := [18, 25]) (by kernel_rfl) (by simp) ?_
        refine AllReadyH.cons rfl (fun K hK => ?_) (AllReadyH.cons rfl (fun K hK => ?_) AllReadyH.nil)
        · go_simp
          have R448 := R441.alloc (.cells #[Value.int .i64 0, Value.int .i64 (d - 1), Value.int .i64 d, Value.int .i64 (2 * d - 1), Value.int .i64 (c * d - 1), Value.int .i64 (-1), Value.int .i64 u2] 3)
          have T449 := T443.alloc (.cells #[Value.int .i64 0, Value.int .i64 (d - 1), Value.int .i64 d, Value.int .i64 (2 * d - 1), Value.int .i64 (c * d - 1), Value.int .i64 (-1), Value.int .i64 u2] 3)
          have Q450 := Q444.alloc (.cells #[Value.int .i64 0, Value.int .i64 (d - 1), Value.int .i64 d, Value.int .i64 (2 * d - 1), Value.int .i64 (c * d - 1), Value.int .i64 (-1), Value.int .i64 u2] 3)
          have G451 : Lits (w439.alloc (.cells #[Value.int .i64 0, Value.int .i64 (d - 1), Value.int .i64 d, Value.int .i64 (2 * d - 1), Value.int .i64 (c * d - 1), Value.int .i64 (-1), Value.int .i64 u2] 3)) w439.heap.size (lit7 c d u2) := Lits.new (lit7 c d u2) _ _
          have ng452 : w.heap.size + 1 < w439.heap.size := R441.lt
          refine hK.out _ _ ⟨hs445.alloc _, hs446.alloc _⟩ (fun hHeld => ?_)
          refine wpAnyH_more (S' := fun W => Two W (w2.heap.size) (.int .i64 c) (.int .i64 d) ∧ Lits W (w1.heap.size) [0, 1, 0, 1, 2, -1] ∧ Lits W (w439.heap.size) (lit7 c d u2)) (fun W ⟨x0, x1, x2⟩ => ⟨x0, x1⟩) _ _ _ _ ?_
          obtain ⟨y0, y1⟩ := hHeld
          have hHeld : (fun W => Two W (w2.heap.size) (.int .i64 c) (.int .i64 d) ∧ Lits W (w1.heap.size) [0, 1, 0, 1, 2, -1] ∧ Lits W (w439.heap.size) (lit7 c d u2)) (w439.alloc (.cells #[Value.int .i64 0, Value.int .i64 (d - 1), Value.int .i64 d, Value.int .i64 (2 * d - 1), Value.int .i64 (c * d - 1), Value.int .i64 (-1), Value.int .i64 u2] 3)) := ⟨y0, y1, G451⟩
          clear hK G451 R441 T443 Q444 hs445 hs446 y0 y1
          try simp only [Act.put, List.setIfInBounds_toArray, List.set_cons_zero, List.set_cons_succ, List.getElem_toArray, List.getElem_cons_zero, List.getElem_cons_succ]
          generalize w439.alloc (.cells #[Value.int .i64 0, Value.int .i64 (d - 1), Value.int .i64 d, Value.int .i64 (2 * d - 1), Value.int .i64 (c * d - 1), Value.int .i64 (-1), Value.int .i64 u2] 3) = w447 at *
          obtain ⟨hs453, hs454, hs455⟩ := (show Two w447 (w2.heap.size) (.int .i64 c) (.int .i64 d) ∧ Lits w447 (w1.heap.size) [0, 1, 0, 1, 2, -1] ∧ Lits w447 (w439.heap.size) (lit7 c d u2) from hHeld)
          refine wpAnyH_take (i := 21) (v := .pointer (some ⟨w439.heap.size, u440.toNat, none⟩)) rfl (by kernel_rfl) (by kernel_rfl) (by kernel_rfl) (fun _ _ _ h => h) (Or.inl ⟨by rfl, ?_⟩) (by assumption) ?_
          · intro wx hSw; go_simp
          try simp only [Act.put, List.setIfInBounds_toArray, List.set_cons_zero, List.set_cons_succ, List.getElem_toArray, List.getElem_cons_zero, List.getElem_cons_succ]
          refine wpAnyH_take (i := 22) (v := .int .i64 ((lit7 c d u2).getD u440.toNat 0)) rfl (by kernel_rfl) (by kernel_rfl) (by kernel_rfl) (fun _ _ _ h => h) (Or.inl ⟨by rfl, ?_⟩) (by assumption) ?_
          · intro wx hSw; have hl := hSw.2.2.2 u440 u440a (by simp [lit7]; omega); clear hSw; go_simp
          try simp only [Act.put, List.setIfInBounds_toArray, List.set_cons_zero, List.set_cons_succ, List.getElem_toArray, List.getElem_cons_zero, List.getElem_cons_succ]
          refine wpAnyH_ready (rs := [25]) (by kernel_rfl) (by simp) ?_
          refine AllReadyH.cons rfl (fun K hK => ?_) AllReadyH.nil
          · go_simp
            go_wp2_with (go_at_call 12; refine (pick_B R448 (by omega)).mono ?_; rintro e w456 ⟨u457, rfl, ⟨u457a, u457b, _⟩, R458, K459⟩)
            replace u457b := u457b (by decide)
            have T460 := Two.kept K459 T449 (by omega)
            have Q461 := KK.kept K459 Q450
            refine hK.out _ _ ⟨Two.kept K459 hs453 (by omega), Lits.kept K459 hs454 (by omega), Lits.kept K459 hs455 (by omega)⟩ (fun hHeld => ?_)
            clear hK K459 R448 T449 Q450 hs453 hs454 hs455
            try simp only [Act.put, List.setIfInBounds_toArray, List.set_cons_zero, List.set_cons_succ, List.getElem_toArray, List.getElem_cons_zero, List.getElem_cons_succ]
            obtain ⟨hs462, hs463, hs464⟩ := (show Two w456 (w2.heap.size) (.int .i64 c) (.int .i64 d) ∧ Lits w456 (w1.heap.size) [0, 1, 0, 1, 2, -1] ∧ Lits w456 (w439.heap.size) (lit7 c d u2) from hHeld)
            refine wpAnyH_take (i := 26) (v := .pointer (some ⟨w1.heap.size, u457.toNat, none⟩)) rfl (by kernel_rfl) (by kernel_rfl) (by kernel_rfl) (fun _ _ _ h => h) (Or.inl ⟨by rfl, ?_⟩) (by assumption) ?_
            · intro wx hSw; go_simp
            try simp only [Act.put, List.setIfInBounds_toArray, List.set_cons_zero, List.set_cons_succ, List.getElem_toArray, List.getElem_cons_zero, List.getElem_cons_succ]
            refine wpAnyH_take (i := 27) (v := .int .i64 (lit6 u457)) rfl (by kernel_rfl) (by kernel_rfl) (by kernel_rfl) (fun _ _ _ h => h) (Or.inl ⟨by rfl, ?_⟩) (by assumption) ?_
            · intro wx hSw; have hl := lit6_of hSw.2.1 u457 u457a u457b; clear hSw; go_simp
            try simp only [Act.put, List.setIfInBounds_toArray, List.set_cons_zero, List.set_cons_succ, List.getElem_toArray, List.getElem_cons_zero, List.getElem_cons_succ]
            refine wpAnyH_ready (rs := [28]) (by kernel_rfl) (by simp) ?_
            refine AllReadyH.cons rfl (fun K hK => ?_) AllReadyH.nil
            · obtain ⟨t0, t1, t2, t3⟩ := T460
              go_simp
              go_wp2
              have T467 : Two ((w456.setCell ⟨w.heap.size, 0, none⟩ (.int .i64 c)).setCell ⟨w.heap.size, 1, none⟩ (.int .i64 d)) w.heap.size (.int .i64 c) (.int .i64 d) := two_put t0 t1 t2 t3
              have Q468 : KK (w.heap.size + 1) w ((w456.setCell ⟨w.heap.size, 0, none⟩ (.int .i64 c)).setCell ⟨w.heap.size, 1, none⟩ (.int .i64 d)) := kk_put Q461
              refine hK.out _ _ ⟨Two.put hs462 (by omega), Lits.put hs463 (by omega), Lits.put hs464 (by omega)⟩ (fun hHeld => ?_)
              clear hK t0 t1 t2 t3 R458 Q461 hs462 hs463 hs464
              try simp only [Act.put, List.setIfInBounds_toArray, List.set_cons_zero, List.set_cons_succ, List.getElem_toArray, List.getElem_cons_zero, List.getElem_cons_succ]
              generalize ((w456.setCell ⟨w.heap.size, 0, none⟩ (.int .i64 c)).setCell ⟨w.heap.size, 1, none⟩ (.int .i64 d)) = w465 at *
              obtain ⟨hs469, hs470, hs471⟩ := (show Two w465 (w2.heap.size) (.int .i64 c) (.int .i64 d) ∧ Lits w465 (w1.heap.size) [0, 1, 0, 1, 2, -1] ∧ Lits w465 (w439.heap.size) (lit7 c d u2) from hHeld)
              refine wpAnyH_take (i := 29) (v := .int .i64 ((lit7 c d u2).getD u440.toNat 0)) rfl (by kernel_rfl) (by kernel_rfl) (by kernel_rfl) (fun _ _ _ h => h) (Or.inl ⟨by rfl, ?_⟩) (by assumption) ?_
              · intro wx hSw; go_simp
              try simp only [Act.put, List.setIfInBounds_toArray, List.set_cons_zero, List.set_cons_succ, List.getElem_toArray, List.getElem_cons_zero, List.getElem_cons_succ]
              refine wpAnyH_take (i := 30) (v := .int .i64 (lit6 u457)) rfl (by kernel_rfl) (by kernel_rfl) (by kernel_rfl) (fun _ _ _ h => h) (Or.inl ⟨by rfl, ?_⟩) (by assumption) ?_
              · intro wx hSw; go_simp
              try simp only [Act.put, List.setIfInBounds_toArray, List.set_cons_zero, List.set_cons_succ, List.getElem_toArray, List.getElem_cons_zero, List.getElem_cons_succ]
              refine wpAnyH_done (by kernel_rfl) ?_ _
              obtain ⟨e0, e1, _, _⟩ := T467
              clear hs469 hs470 hs471 hHeld
              go_wp2
              exact bodyPost_ret (v := .tuple #[.agg #[.int .i64 c, .int .i64 d], .int .i64 ((lit7 c d u2).getD u440.toNat 0), .int .i64 (lit6 u457)]) (by simp [results, Try.results4, go_sem, e0, e1]) rfl ⟨_, _, _, _, rfl, hm, (lit7_bd hm u2a u2b _).1, (lit7_bd hm u2a u2b _).2, (lit6_bd _).1, (lit6_bd _).2, finB Q468⟩
        · go_simp
          go_wp2_with (go_at_call 12; refine (pick_B R441 (by omega)).mono ?_; rintro e w472 ⟨u473, rfl, ⟨u473a, u473b, _⟩, R474, K475⟩)
          replace u473b := u473b (by decide)
          have T476 := Two.kept K475 T443 (by omega)
          have Q477 := KK.kept K475 Q444
          refine hK.out _ _ ⟨Two.kept K475 hs445 (by omega), Lits.kept K475 hs446 (by omega)⟩ (fun hHeld => ?_)
          clear hK K475 R441 T443 Q444 hs445 hs446
          try simp only [Act.put, List.setIfInBounds_toArray, List.set_cons_zero, List.set_cons_succ, List.getElem_toArray, List.getElem_cons_zero, List.getElem_cons_succ]
          obtain ⟨hs478, hs479⟩ := (show Two w472 (w2.heap.size) (.int .i64 c) (.int .i64 d) ∧ Lits w472 (w1.heap.size) [0, 1, 0, 1, 2, -1] from hHeld)
          refine wpAnyH_take (i := 26) (v := .pointer (some ⟨w1.heap.size, u473.toNat, none⟩)) rfl (by kernel_rfl) (by kernel_rfl) (by kernel_rfl) (fun _ _ _ h => h) (Or.inl ⟨by rfl, ?_⟩) (by assumption) ?_
          · intro wx hSw; go_simp
          try simp only [Act.put, List.setIfInBounds_toArray, List.set_cons_zero, List.set_cons_succ, List.getElem_toArray, List.getElem_cons_zero, List.getElem_cons_succ]
          refine wpAnyH_take (i := 27) (v := .int .i64 (lit6 u473)) rfl (by kernel_rfl) (by kernel_rfl) (by kernel_rfl) (fun _ _ _ h => h) (Or.inl ⟨by rfl, ?_⟩) (by assumption) ?_
          · intro wx hSw; have hl := lit6_of hSw.2 u473 u473a u473b; clear hSw; go_simp
          try simp only [Act.put, List.setIfInBounds_toArray, List.set_cons_zero, List.set_cons_succ, List.getElem_toArray, List.getElem_cons_zero, List.getElem_cons_succ]
          refine wpAnyH_ready (rs := [18, 28]) (by kernel_rfl) (by simp) ?_
          refine AllReadyH.cons rfl (fun K hK => ?_) (AllReadyH.cons rfl (fun K hK => ?_) AllReadyH.nil)
          · go_simp
            have R481 := R474.alloc (.cells #[Value.int .i64 0, Value.int .i64 (d - 1), Value.int .i64 d, Value.int .i64 (2 * d - 1), Value.int .i64 (c * d - 1), Value.int .i64 (-1), Value.int .i64 u2] 3)
            have T482 := T476.alloc (.cells #[Value.int .i64 0, Value.int .i64 (d - 1), Value.int .i64 d, Value.int .i64 (2 * d - 1), Value.int .i64 (c * d - 1), Value.int .i64 (-1), Value.int .i64 u2] 3)
            have Q483 := Q477.alloc (.cells #[Value.int .i64 0, Value.int .i64 (d - 1), Value.int .i64 d, Value.int .i64 (2 * d - 1), Value.int .i64 (c * d - 1), Value.int .i64 (-1), Value.int .i64 u2] 3)
            have G484 : Lits (w472.alloc (.cells #[Value.int .i64 0, Value.int .i64 (d - 1), Value.int .i64 d, Value.int .i64 (2 * d - 1), Value.int .i64 (c * d - 1), Value.int .i64 (-1), Value.int .i64 u2] 3)) w472.heap.size (lit7 c d u2) := Lits.new (lit7 c d u2) _ _
            have ng485 : w.heap.size + 1 < w472.heap.size := R474.lt
            refine hK.out _ _ ⟨hs478.alloc _, hs479.alloc _⟩ (fun hHeld => ?_)
            refine wpAnyH_more (S' := fun W => Two W (w2.heap.size) (.int .i64 c) (.int .i64 d) ∧ Lits W (w1.heap.size) [0, 1, 0, 1, 2, -1] ∧ Lits W (w472.heap.size) (lit7 c d u2)) (fun W ⟨x0, x1, x2⟩ => ⟨x0, x1⟩) _ _ _ _ ?_
            obtain ⟨y0, y1⟩ := hHeld
            have hHeld : (fun W => Two W (w2.heap.size) (.int .i64 c) (.int .i64 d) ∧ Lits W (w1.heap.size) [0, 1, 0, 1, 2, -1] ∧ Lits W (w472.heap.size) (lit7 c d u2)) (w472.alloc (.cells #[Value.int .i64 0, Value.int .i64 (d - 1), Value.int .i64 d, Value.int .i64 (2 * d - 1), Value.int .i64 (c * d - 1), Value.int .i64 (-1), Value.int .i64 u2] 3)) := ⟨y0, y1, G484⟩
            clear hK G484 R474 T476 Q477 hs478 hs479 y0 y1
            try simp only [Act.put, List.setIfInBounds_toArray, List.set_cons_zero, List.set_cons_succ, List.getElem_toArray, List.getElem_cons_zero, List.getElem_cons_succ]
            generalize w472.alloc (.cells #[Value.int .i64 0, Value.int .i64 (d - 1), Value.int .i64 d, Value.int .i64 (2 * d - 1), Value.int .i64 (c * d - 1), Value.int .i64 (-1), Value.int .i64 u2] 3) = w480 at *
            obtain ⟨hs486, hs487, hs488⟩ := (show Two w480 (w2.heap.size) (.int .i64 c) (.int .i64 d) ∧ Lits w480 (w1.heap.size) [0, 1, 0, 1, 2, -1] ∧ Lits w480 (w472.heap.size) (lit7 c d u2) from hHeld)
            refine wpAnyH_take (i := 21) (v := .pointer (some ⟨w472.heap.size, u440.toNat, none⟩)) rfl (by kernel_rfl) (by kernel_rfl) (by kernel_rfl) (fun _ _ _ h => h) (Or.inl ⟨by rfl, ?_⟩) (by assumption) ?_
            · intro wx hSw; go_simp
            try simp only [Act.put, List.setIfInBounds_toArray, List.set_cons_zero, List.set_cons_succ, List.getElem_toArray, List.getElem_cons_zero, List.getElem_cons_succ]
            refine wpAnyH_take (i := 22) (v := .int .i64 ((lit7 c d u2).getD u440.toNat 0)) rfl (by kernel_rfl) (by kernel_rfl) (by kernel_rfl) (fun _ _ _ h => h) (Or.inl ⟨by rfl, ?_⟩) (by assumption) ?_
            · intro wx hSw; have hl := hSw.2.2.2 u440 u440a (by simp [lit7]; omega); clear hSw; go_simp
            try simp only [Act.put, List.setIfInBounds_toArray, List.set_cons_zero, List.set_cons_succ, List.getElem_toArray, List.getElem_cons_zero, List.getElem_cons_succ]
            refine wpAnyH_ready (rs := [28]) (by kernel_rfl) (by simp) ?_
            refine AllReadyH.cons rfl (fun K hK => ?_) AllReadyH.nil
            · obtain ⟨t0, t1, t2, t3⟩ := T482
              go_simp
              go_wp2
              have T491 : Two ((w480.setCell ⟨w.heap.size, 0, none⟩ (.int .i64 c)).setCell ⟨w.heap.size, 1, none⟩ (.int .i64 d)) w.heap.size (.int .i64 c) (.int .i64 d) := two_put t0 t1 t2 t3
              have Q492 : KK (w.heap.size + 1) w ((w480.setCell ⟨w.heap.size, 0, none⟩ (.int .i64 c)).setCell ⟨w.heap.size, 1, none⟩ (.int .i64 d)) := kk_put Q483
              refine hK.out _ _ ⟨Two.put hs486 (by omega), Lits.put hs487 (by omega), Lits.put hs488 (by omega)⟩ (fun hHeld => ?_)
              clear hK t0 t1 t2 t3 R481 Q483 hs486 hs487 hs488
              try simp only [Act.put, List.setIfInBounds_toArray, List.set_cons_zero, List.set_cons_succ, List.getElem_toArray, List.getElem_cons_zero, List.getElem_cons_succ]
              generalize ((w480.setCell ⟨w.heap.size, 0, none⟩ (.int .i64 c)).setCell ⟨w.heap.size, 1, none⟩ (.int .i64 d)) = w489 at *
              obtain ⟨hs493, hs494, hs495⟩ := (show Two w489 (w2.heap.size) (.int .i64 c) (.int .i64 d) ∧ Lits w489 (w1.heap.size) [0, 1, 0, 1, 2, -1] ∧ Lits w489 (w472.heap.size) (lit7 c d u2) from hHeld)
              refine wpAnyH_take (i := 29) (v := .int .i64 ((lit7 c d u2).getD u440.toNat 0)) rfl (by kernel_rfl) (by kernel_rfl) (by kernel_rfl) (fun _ _ _ h => h) (Or.inl ⟨by rfl, ?_⟩) (by assumption) ?_
              · intro wx hSw; go_simp
              try simp only [Act.put, List.setIfInBounds_toArray, List.set_cons_zero, List.set_cons_succ, List.getElem_toArray, List.getElem_cons_zero, List.getElem_cons_succ]
              refine wpAnyH_take (i := 30) (v := .int .i64 (lit6 u473)) rfl (by kernel_rfl) (by kernel_rfl) (by kernel_rfl) (fun _ _ _ h => h) (Or.inl ⟨by rfl, ?_⟩) (by assumption) ?_
              · intro wx hSw; go_simp
              try simp only [Act.put, List.setIfInBounds_toArray, List.set_cons_zero, List.set_cons_succ, List.getElem_toArray, List.getElem_cons_zero, List.getElem_cons_succ]
              refine wpAnyH_done (by kernel_rfl) ?_ _
              obtain ⟨e0, e1, _, _⟩ := T491
              clear hs493 hs494 hs495 hHeld
              go_wp2
              exact bodyPost_ret (v := .tuple #[.agg #[.int .i64 c, .int .i64 d], .int .i64 ((lit7 c d u2).getD u440.toNat 0), .int .i64 (lit6 u473)]) (by simp [results, Try.results4, go_sem, e0, e1]) rfl ⟨_, _, _, _, rfl, hm, (lit7_bd hm u2a u2b _).1, (lit7_bd hm u2a u2b _).2, (lit6_bd _).1, (lit6_bd _).2, finB Q492⟩
          · obtain ⟨t0, t1, t2, t3⟩ := T476
            go_simp
            go_wp2
            have T498 : Two ((w472.setCell ⟨w.heap.size, 0, none⟩ (.int .i64 c)).setCell ⟨w.heap.size, 1, none⟩ (.int .i64 d)) w.heap.size (.int .i64 c) (.int .i64 d) := two_put t0 t1 t2 t3
            have Q499 : KK (w.heap.size + 1) w ((w472.setCell ⟨w.heap.size, 0, none⟩ (.int .i64 c)).setCell ⟨w.heap.size, 1, none⟩ (.int .i64 d)) := kk_put Q477
            refine hK.out _ _ ⟨Two.put hs478 (by omega), Lits.put hs479 (by omega)⟩ (fun hHeld => ?_)
            clear hK t0 t1 t2 t3 R474 Q477 hs478 hs479
            try simp only [Act.put, List.setIfInBounds_toArray, List.set_cons_zero, List.set_cons_succ, List.getElem_toArray, List.getElem_cons_zero, List.getElem_cons_succ]
            generalize ((w472.setCell ⟨w.heap.size, 0, none⟩ (.int .i64 c)).setCell ⟨w.heap.size, 1, none⟩ (.int .i64 d)) = w496 at *
            obtain ⟨hs500, hs501⟩ := (show Two w496 (w2.heap.size) (.int .i64 c) (.int .i64 d) ∧ Lits w496 (w1.heap.size) [0, 1, 0, 1, 2, -1] from hHeld)
            refine wpAnyH_ready (rs := [18]) (by kernel_rfl) (by simp) ?_
            refine AllReadyH.cons rfl (fun K hK => ?_) AllReadyH.nil
            · go_simp
              have T504 := T498.alloc (.cells #[Value.int .i64 0, Value.int .i64 (d - 1), Value.int .i64 d, Value.int .i64 (2 * d - 1), Value.int .i64 (c * d - 1), Value.int .i64 (-1), Value.int .i64 u2] 3)
              have Q505 := Q499.alloc (.cells #[Value.int .i64 0, Value.int .i64 (d - 1), Value.int .i64 d, Value.int .i64 (2 * d - 1), Value.int .i64 (c * d - 1), Value.int .i64 (-1), Value.int .i64 u2] 3)
              have G506 : Lits (w496.alloc (.cells #[Value.int .i64 0, Value.int .i64 (d - 1), Value.int .i64 d, Value.int .i64 (2 * d - 1), Value.int .i64 (c * d - 1), Value.int .i64 (-1), Value.int .i64 u2] 3)) w496.heap.size (lit7 c d u2) := Lits.new (lit7 c d u2) _ _
              refine hK.out _ _ ⟨hs500.alloc _, hs501.alloc _⟩ (fun hHeld => ?_)
              refine wpAnyH_more (S' := fun W => Two W (w2.heap.size) (.int .i64 c) (.int .i64 d) ∧ Lits W (w1.heap.size) [0, 1, 0, 1, 2, -1] ∧ Lits W (w496.heap.size) (lit7 c d u2)) (fun W ⟨x0, x1, x2⟩ => ⟨x0, x1⟩) _ _ _ _ ?_
              obtain ⟨y0, y1⟩ := hHeld
              have hHeld : (fun W => Two W (w2.heap.size) (.int .i64 c) (.int .i64 d) ∧ Lits W (w1.heap.size) [0, 1, 0, 1, 2, -1] ∧ Lits W (w496.heap.size) (lit7 c d u2)) (w496.alloc (.cells #[Value.int .i64 0, Value.int .i64 (d - 1), Value.int .i64 d, Value.int .i64 (2 * d - 1), Value.int .i64 (c * d - 1), Value.int .i64 (-1), Value.int .i64 u2] 3)) := ⟨y0, y1, G506⟩
              clear hK G506 T498 Q499 hs500 hs501 y0 y1
              try simp only [Act.put, List.setIfInBounds_toArray, List.set_cons_zero, List.set_cons_succ, List.getElem_toArray, List.getElem_cons_zero, List.getElem_cons_succ]
              generalize w496.alloc (.cells #[Value.int .i64 0, Value.int .i64 (d - 1), Value.int .i64 d, Value.int .i64 (2 * d - 1), Value.int .i64 (c * d - 1), Value.int .i64 (-1), Value.int .i64 u2] 3) = w502 at *
              obtain ⟨hs508, hs509, hs510⟩ := (show Two w502 (w2.heap.size) (.int .i64 c) (.int .i64 d) ∧ Lits w502 (w1.heap.size) [0, 1, 0, 1, 2, -1] ∧ Lits w502 (w496.heap.size) (lit7 c d u2) from hHeld)
              refine wpAnyH_take (i := 21) (v := .pointer (some ⟨w496.heap.size, u440.toNat, none⟩)) rfl (by kernel_rfl) (by kernel_rfl) (by kernel_rfl) (fun _ _ _ h => h) (Or.inl ⟨by rfl, ?_⟩) (by assumption) ?_
              · intro wx hSw; go_simp
              try simp only [Act.put, List.setIfInBounds_toArray, List.set_cons_zero, List.set_cons_succ, List.getElem_toArray, List.getElem_cons_zero, List.getElem_cons_succ]
              refine wpAnyH_take (i := 22) (v := .int .i64 ((lit7 c d u2).getD u440.toNat 0)) rfl (by kernel_rfl) (by kernel_rfl) (by kernel_rfl) (fun _ _ _ h => h) (Or.inl ⟨by rfl, ?_⟩) (by assumption) ?_
              · intro wx hSw; have hl := hSw.2.2.2 u440 u440a (by simp [lit7]; omega); clear hSw; go_simp
              try simp only [Act.put, List.setIfInBounds_toArray, List.set_cons_zero, List.set_cons_succ, List.getElem_toArray, List.getElem_cons_zero, List.getElem_cons_succ]
              refine wpAnyH_take (i := 29) (v := .int .i64 ((lit7 c d u2).getD u440.toNat 0)) rfl (by kernel_rfl) (by kernel_rfl) (by kernel_rfl) (fun _ _ _ h => h) (Or.inl ⟨by rfl, ?_⟩) (by assumption) ?_
              · intro wx hSw; go_simp
              try simp only [Act.put, List.setIfInBounds_toArray, List.set_cons_zero, List.set_cons_succ, List.getElem_toArray, List.getElem_cons_zero, List.getElem_cons_succ]
              refine wpAnyH_take (i := 30) (v := .int .i64 (lit6 u473)) rfl (by kernel_rfl) (by kernel_rfl) (by kernel_rfl) (fun _ _ _ h => h) (Or.inl ⟨by rfl, ?_⟩) (by assumption) ?_
              · intro wx hSw; go_simp
              try simp only [Act.put, List.setIfInBounds_toArray, List.set_cons_zero, List.set_cons_succ, List.getElem_toArray, List.getElem_cons_zero, List.getElem_cons_succ]
              refine wpAnyH_done (by kernel_rfl) ?_ _
              obtain ⟨e0, e1, _, _⟩ := T504
              clear hs508 hs509 hs510 hHeld
              go_wp2
              exact bodyPost_ret (v := .tuple #[.agg #[.int .i64 c, .int .i64 d], .int .i64 ((lit7 c d u2).getD u440.toNat 0), .int .i64 (lit6 u473)]) (by simp [results, Try.results4, go_sem, e0, e1]) rfl ⟨_, _, _, _, rfl, hm, (lit7_bd hm u2a u2b _).1, (lit7_bd hm u2a u2b _).2, (lit6_bd _).1, (lit6_bd _).2, finB Q505⟩
  · go_simp
    have R512 := R0.alloc (.cells #[Value.int .i64 0, Value.int .i64 1, Value.int .i64 0, Value.int .i64 1, Value.int .i64 2, Value.int .i64 (-1)] 3)
    have T513 := T0.alloc (.cells #[Value.int .i64 0, Value.int .i64 1, Value.int .i64 0, Value.int .i64 1, Value.int .i64 2, Value.int .i64 (-1)] 3)
    have Q514 := Q0.alloc (.cells #[Value.int .i64 0, Value.int .i64 1, Value.int .i64 0, Value.int .i64 1, Value.int .i64 2, Value.int .i64 (-1)] 3)
    have G515 : Lits (w4.alloc (.cells #[Value.int .i64 0, Value.int .i64 1, Value.int .i64 0, Value.int .i64 1, Value.int .i64 2, Value.int .i64 (-1)] 3)) w4.heap.size [0, 1, 0, 1, 2, -1] := Lits.new [0, 1, 0, 1, 2, -1] _ _
    have ng516 : w.heap.size + 1 < w4.heap.size := R0.lt
    refine hK.out _ _ (hHeld0.alloc _) (fun hHeld => ?_)
    refine wpAnyH_more (S' := fun W => Two W (w2.heap.size) (.int .i64 c) (.int .i64 d) ∧ Lits W (w4.heap.size) [0, 1, 0, 1, 2, -1]) (fun W ⟨x0, x1⟩ => x0) _ _ _ _ ?_
    have hHeld : (fun W => Two W (w2.heap.size) (.int .i64 c) (.int .i64 d) ∧ Lits W (w4.heap.size) [0, 1, 0, 1, 2, -1]) (w4.alloc (.cells #[Value.int .i64 0, Value.int .i64 1, Value.int .i64 0, Value.int .i64 1, Value.int .i64 2, Value.int .i64 (-1)] 3)) := ⟨hHeld, G515⟩
    clear hK G515 R0 T0 Q0 hHeld0
    try simp only [Act.put, List.setIfInBounds_toArray, List.set_cons_zero, List.set_cons_succ, List.getElem_toArray, List.getElem_cons_zero, List.getElem_cons_succ]
    generalize w4.alloc (.cells #[Value.int .i64 0, Value.int .i64 1, Value.int .i64 0, Value.int .i64 1, Value.int .i64 2, Value.int .i64 (-1)] 3) = w511 at *
    obtain ⟨hs517, hs518⟩ := (show Two w511 (w2.heap.size) (.int .i64 c) (.int .i64 d) ∧ Lits w511 (w4.heap.size) [0, 1, 0, 1, 2, -1] from hHeld)
    refine wpAnyH_ready (rs := [17]) (by kernel_rfl) (by simp) ?_
    refine AllReadyH.cons rfl (fun K hK => ?_) AllReadyH.nil
    · go_simp
      go_wp2_with (go_at_call 12; refine (pick_B R512 (by omega)).mono ?_; rintro e w519 ⟨u520, rfl, ⟨u520a, u520b, _⟩, R521, K522⟩)
      replace u520b := u520b (by decide)
      have T523 := Two.kept K522 T513 (by omega)
      have Q524 := KK.kept K522 Q514
      refine hK.out _ _ ⟨Two.kept K522 hs517 (by omega), Lits.kept K522 hs518 (by omega)⟩ (fun hHeld => ?_)
      clear hK K522 R512 T513 Q514 hs517 hs518
      try simp only [Act.put, List.setIfInBounds_toArray, List.set_cons_zero, List.set_cons_succ, List.getElem_toArray, List.getElem_cons_zero, List.getElem_cons_succ]
      obtain ⟨hs525, hs526⟩ := (show Two w519 (w2.heap.size) (.int .i64 c) (.int .i64 d) ∧ Lits w519 (w4.heap.size) [0, 1, 0, 1, 2, -1] from hHeld)
      refine wpAnyH_ready (rs := [18, 20]) (by kernel_rfl) (by simp) ?_
      refine AllReadyH.cons rfl (fun K hK => ?_) (AllReadyH.cons rfl (fun K hK => ?_) AllReadyH.nil)
      · go_simp
        have R528 := R521.alloc (.cells #[Value.int .i64 0, Value.int .i64 (d - 1), Value.int .i64 d, Value.int .i64 (2 * d - 1), Value.int .i64 (c * d - 1), Value.int .i64 (-1), Value.int .i64 u520] 3)
        have T529 := T523.alloc (.cells #[Value.int .i64 0, Value.int .i64 (d - 1), Value.int .i64 d, Value.int .i64 (2 * d - 1), Value.int .i64 (c * d - 1), Value.int .i64 (-1), Value.int .i64 u520] 3)
        have Q530 := Q524.alloc (.cells #[Value.int .i64 0, Value.int .i64 (d - 1), Value.int .i64 d, Value.int .i64 (2 * d - 1), Value.int .i64 (c * d - 1), Value.int .i64 (-1), Value.int .i64 u520] 3)
        have G531 : Lits (w519.alloc (.cells #[Value.int .i64 0, Value.int .i64 (d - 1), Value.int .i64 d, Value.int .i64 (2 * d - 1), Value.int .i64 (c * d - 1), Value.int .i64 (-1), Value.int .i64 u520] 3)) w519.heap.size (lit7 c d u520) := Lits.new (lit7 c d u520) _ _
        have ng532 : w.heap.size + 1 < w519.heap.size := R521.lt
        refine hK.out _ _ ⟨hs525.alloc _, hs526.alloc _⟩ (fun hHeld => ?_)
        refine wpAnyH_more (S' := fun W => Two W (w2.heap.size) (.int .i64 c) (.int .i64 d) ∧ Lits W (w4.heap.size) [0, 1, 0, 1, 2, -1] ∧ Lits W (w519.heap.size) (lit7 c d u520)) (fun W ⟨x0, x1, x2⟩ => ⟨x0, x1⟩) _ _ _ _ ?_
        obtain ⟨y0, y1⟩ := hHeld
        have hHeld : (fun W => Two W (w2.heap.size) (.int .i64 c) (.int .i64 d) ∧ Lits W (w4.heap.size) [0, 1, 0, 1, 2, -1] ∧ Lits W (w519.heap.size) (lit7 c d u520)) (w519.alloc (.cells #[Value.int .i64 0, Value.int .i64 (d - 1), Value.int .i64 d, Value.int .i64 (2 * d - 1), Value.int .i64 (c * d - 1), Value.int .i64 (-1), Value.int .i64 u520] 3)) := ⟨y0, y1, G531⟩
        clear hK G531 R521 T523 Q524 hs525 hs526 y0 y1
        try simp only [Act.put, List.setIfInBounds_toArray, List.set_cons_zero, List.set_cons_succ, List.getElem_toArray, List.getElem_cons_zero, List.getElem_cons_succ]
        generalize w519.alloc (.cells #[Value.int .i64 0, Value.int .i64 (d - 1), Value.int .i64 d, Value.int .i64 (2 * d - 1), Value.int .i64 (c * d - 1), Value.int .i64 (-1), Value.int .i64 u520] 3) = w527 at *
        obtain ⟨hs533, hs534, hs535⟩ := (show Two w527 (w2.heap.size) (.int .i64 c) (.int .i64 d) ∧ Lits w527 (w4.heap.size) [0, 1, 0, 1, 2, -1] ∧ Lits w527 (w519.heap.size) (lit7 c d u520) from hHeld)
        refine wpAnyH_ready (rs := [20]) (by kernel_rfl) (by simp) ?_
        refine AllReadyH.cons rfl (fun K hK => ?_) AllReadyH.nil
        · go_simp
          go_wp2_with (go_at_call 12; refine (pick_B R528 (by omega)).mono ?_; rintro e w536 ⟨u537, rfl, ⟨u537a, u537b, _⟩, R538, K539⟩)
          replace u537b := u537b (by decide)
          have T540 := Two.kept K539 T529 (by omega)
          have Q541 := KK.kept K539 Q530
          refine hK.out _ _ ⟨Two.kept K539 hs533 (by omega), Lits.kept K539 hs534 (by omega), Lits.kept K539 hs535 (by omega)⟩ (fun hHeld => ?_)
          clear hK K539 R528 T529 Q530 hs533 hs534 hs535
          try simp only [Act.put, List.setIfInBounds_toArray, List.set_cons_zero, List.set_cons_succ, List.getElem_toArray, List.getElem_cons_zero, List.getElem_cons_succ]
          obtain ⟨hs542, hs543, hs544⟩ := (show Two w536 (w2.heap.size) (.int .i64 c) (.int .i64 d) ∧ Lits w536 (w4.heap.size) [0, 1, 0, 1, 2, -1] ∧ Lits w536 (w519.heap.size) (lit7 c d u520) from hHeld)
          refine wpAnyH_take (i := 21) (v := .pointer (some ⟨w519.heap.size, u537.toNat, none⟩)) rfl (by kernel_rfl) (by kernel_rfl) (by kernel_rfl) (fun _ _ _ h => h) (Or.inl ⟨by rfl, ?_⟩) (by assumption) ?_
          · intro wx hSw; go_simp
          try simp only [Act.put, List.setIfInBounds_toArray, List.set_cons_zero, List.set_cons_succ, List.getElem_toArray, List.getElem_cons_zero, List.getElem_cons_succ]
          refine wpAnyH_take (i := 22) (v := .int .i64 ((lit7 c d u520).getD u537.toNat 0)) rfl (by kernel_rfl) (by kernel_rfl) (by kernel_rfl) (fun _ _ _ h => h) (Or.inl ⟨by rfl, ?_⟩) (by assumption) ?_
          · intro wx hSw; have hl := hSw.2.2.2 u537 u537a (by simp [lit7]; omega); clear hSw; go_simp
          try simp only [Act.put, List.setIfInBounds_toArray, List.set_cons_zero, List.set_cons_succ, List.getElem_toArray, List.getElem_cons_zero, List.getElem_cons_succ]
          refine wpAnyH_ready (rs := [25]) (by kernel_rfl) (by simp) ?_
          refine AllReadyH.cons rfl (fun K hK => ?_) AllReadyH.nil
          · go_simp
            go_wp2_with (go_at_call 12; refine (pick_B R538 (by omega)).mono ?_; rintro e w545 ⟨u546, rfl, ⟨u546a, u546b, _⟩, R547, K548⟩)
            replace u546b := u546b (by decide)
            have T549 := Two.kept K548 T540 (by omega)
            have Q550 := KK.kept K548 Q541
            refine hK.out _ _ ⟨Two.kept K548 hs542 (by omega), Lits.kept K548 hs543 (by omega), Lits.kept K548 hs544 (by omega)⟩ (fun hHeld => ?_)
            clear hK K548 R538 T540 Q541 hs542 hs543 hs544
            try simp only [Act.put, List.setIfInBounds_toArray, List.set_cons_zero, List.set_cons_succ, List.getElem_toArray, List.getElem_cons_zero, List.getElem_cons_succ]
            obtain ⟨hs551, hs552, hs553⟩ := (show Two w545 (w2.heap.size) (.int .i64 c) (.int .i64 d) ∧ Lits w545 (w4.heap.size) [0, 1, 0, 1, 2, -1] ∧ Lits w545 (w519.heap.size) (lit7 c d u520) from hHeld)
            refine wpAnyH_take (i := 26) (v := .pointer (some ⟨w4.heap.size, u546.toNat, none⟩)) rfl (by kernel_rfl) (by kernel_rfl) (by kernel_rfl) (fun _ _ _ h => h) (Or.inl ⟨by rfl, ?_⟩) (by assumption) ?_
            · intro wx hSw; go_simp
            try simp only [Act.put, List.setIfInBounds_toArray, List.set_cons_zero, List.set_cons_succ, List.getElem_toArray, List.getElem_cons_zero, List.getElem_cons_succ]
            refine wpAnyH_take (i := 27) (v := .int .i64 (lit6 u546)) rfl (by kernel_rfl) (by kernel_rfl) (by kernel_rfl) (fun _ _ _ h => h) (Or.inl ⟨by rfl, ?_⟩) (by assumption) ?_
            · intro wx hSw; have hl := lit6_of hSw.2.1 u546 u546a u546b; clear hSw; go_simp
            try simp only [Act.put, List.setIfInBounds_toArray, List.set_cons_zero, List.set_cons_succ, List.getElem_toArray, List.getElem_cons_zero, List.getElem_cons_succ]
            refine wpAnyH_ready (rs := [28]) (by kernel_rfl) (by simp) ?_
            refine AllReadyH.cons rfl (fun K hK => ?_) AllReadyH.nil
            · obtain ⟨t0, t1, t2, t3⟩ := T549
              go_simp
              go_wp2
              have T556 : Two ((w545.setCell ⟨w.heap.size, 0, none⟩ (.int .i64 c)).setCell ⟨w.heap.size, 1, none⟩ (.int .i64 d)) w.heap.size (.int .i64 c) (.int .i64 d) := two_put t0 t1 t2 t3
              have Q557 : KK (w.heap.size + 1) w ((w545.setCell ⟨w.heap.size, 0, none⟩ (.int .i64 c)).setCell ⟨w.heap.size, 1, none⟩ (.int .i64 d)) := kk_put Q550
              refine hK.out _ _ ⟨Two.put hs551 (by omega), Lits.put hs552 (by omega), Lits.put hs553 (by omega)⟩ (fun hHeld => ?_)
              clear hK t0 t1 t2 t3 R547 Q550 hs551 hs552 hs553
              try simp only [Act.put, List.setIfInBounds_toArray, List.set_cons_zero, List.set_cons_succ, List.getElem_toArray, List.getElem_cons_zero, List.getElem_cons_succ]
              generalize ((w545.setCell ⟨w.heap.size, 0, none⟩ (.int .i64 c)).setCell ⟨w.heap.size, 1, none⟩ (.int .i64 d)) = w554 at *
              obtain ⟨hs558, hs559, hs560⟩ := (show Two w554 (w2.heap.size) (.int .i64 c) (.int .i64 d) ∧ Lits w554 (w4.heap.size) [0, 1, 0, 1, 2, -1] ∧ Lits w554 (w519.heap.size) (lit7 c d u520) from hHeld)
              refine wpAnyH_take (i := 29) (v := .int .i64 ((lit7 c d u520).getD u537.toNat 0)) rfl (by kernel_rfl) (by kernel_rfl) (by kernel_rfl) (fun _ _ _ h => h) (Or.inl ⟨by rfl, ?_⟩) (by assumption) ?_
              · intro wx hSw; go_simp
              try simp only [Act.put, List.setIfInBounds_toArray, List.set_cons_zero, List.set_cons_succ, List.getElem_toArray, List.getElem_cons_zero, List.getElem_cons_succ]
              refine wpAnyH_take (i := 30) (v := .int .i64 (lit6 u546)) rfl (by kernel_rfl) (by kernel_rfl) (by kernel_rfl) (fun _ _ _ h => h) (Or.inl ⟨by rfl, ?_⟩) (by assumption) ?_
              · intro wx hSw; go_simp
              try simp only [Act.put, List.setIfInBounds_toArray, List.set_cons_zero, List.set_cons_succ, List.getElem_toArray, List.getElem_cons_zero, List.getElem_cons_succ]
              refine wpAnyH_done (by kernel_rfl) ?_ _
              obtain ⟨e0, e1, _, _⟩ := T556
              clear hs558 hs559 hs560 hHeld
              go_wp2
              exact bodyPost_ret (v := .tuple #[.agg #[.int .i64 c, .int .i64 d], .int .i64 ((lit7 c d u520).getD u537.toNat 0), .int .i64 (lit6 u546)]) (by simp [results, Try.results4, go_sem, e0, e1]) rfl ⟨_, _, _, _, rfl, hm, (lit7_bd hm u520a u520b _).1, (lit7_bd hm u520a u520b _).2, (lit6_bd _).1, (lit6_bd _).2, finB Q557⟩
      · go_simp
        go_wp2_with (go_at_call 12; refine (pick_B R521 (by omega)).mono ?_; rintro e w561 ⟨u562, rfl, ⟨u562a, u562b, _⟩, R563, K564⟩)
        replace u562b := u562b (by decide)
        have T565 := Two.kept K564 T523 (by omega)
        have Q566 := KK.kept K564 Q524
        refine hK.out _ _ ⟨Two.kept K564 hs525 (by omega), Lits.kept K564 hs526 (by omega)⟩ (fun hHeld => ?_)
        clear hK K564 R521 T523 Q524 hs525 hs526
        try simp only [Act.put, List.setIfInBounds_toArray, List.set_cons_zero, List.set_cons_succ, List.getElem_toArray, List.getElem_cons_zero, List.getElem_cons_succ]
        obtain ⟨hs567, hs568⟩ := (show Two w561 (w2.heap.size) (.int .i64 c) (.int .i64 d) ∧ Lits w561 (w4.heap.size) [0, 1, 0, 1, 2, -1] from hHeld)
        refine wpAnyH_ready (rs := [18, 25]) (by kernel_rfl) (by simp) ?_
        refine AllReadyH.cons rfl (fun K hK => ?_) (AllReadyH.cons rfl (fun K hK => ?_) AllReadyH.nil)
        · go_simp
          have R570 := R563.alloc (.cells #[Value.int .i64 0, Value.int .i64 (d - 1), Value.int .i64 d, Value.int .i64 (2 * d - 1), Value.int .i64 (c * d - 1), Value.int .i64 (-1), Value.int .i64 u520] 3)
          have T571 := T565.alloc (.cells #[Value.int .i64 0, Value.int .i64 (d - 1), Value.int .i64 d, Value.int .i64 (2 * d - 1), Value.int .i64 (c * d - 1), Value.int .i64 (-1), Value.int .i64 u520] 3)
          have Q572 := Q566.alloc (.cells #[Value.int .i64 0, Value.int .i64 (d - 1), Value.int .i64 d, Value.int .i64 (2 * d - 1), Value.int .i64 (c * d - 1), Value.int .i64 (-1), Value.int .i64 u520] 3)
          have G573 : Lits (w561.alloc (.cells #[Value.int .i64 0, Value.int .i64 (d - 1), Value.int .i64 d, Value.int .i64 (2 * d - 1), Value.int .i64 (c * d - 1), Value.int .i64 (-1), Value.int .i64 u520] 3)) w561.heap.size (lit7 c d u520) := Lits.new (lit7 c d u520) _ _
          have ng574 : w.heap.size + 1 < w561.heap.size := R563.lt
          refine hK.out _ _ ⟨hs567.alloc _, hs568.alloc _⟩ (fun hHeld => ?_)
          refine wpAnyH_more (S' := fun W => Two W (w2.heap.size) (.int .i64 c) (.int .i64 d) ∧ Lits W (w4.heap.size) [0, 1, 0, 1, 2, -1] ∧ Lits W (w561.heap.size) (lit7 c d u520)) (fun W ⟨x0, x1, x2⟩ => ⟨x0, x1⟩) _ _ _ _ ?_
          obtain ⟨y0, y1⟩ := hHeld
          have hHeld : (fun W => Two W (w2.heap.size) (.int .i64 c) (.int .i64 d) ∧ Lits W (w4.heap.size) [0, 1, 0, 1, 2, -1] ∧ Lits W (w561.heap.size) (lit7 c d u520)) (w561.alloc (.cells #[Value.int .i64 0, Value.int .i64 (d - 1), Value.int .i64 d, Value.int .i64 (2 * d - 1), Value.int .i64 (c * d - 1), Value.int .i64 (-1), Value.int .i64 u520] 3)) := ⟨y0, y1, G573⟩
          clear hK G573 R563 T565 Q566 hs567 hs568 y0 y1
          try simp only [Act.put, List.setIfInBounds_toArray, List.set_cons_zero, List.set_cons_succ, List.getElem_toArray, List.getElem_cons_zero, List.getElem_cons_succ]
          generalize w561.alloc (.cells #[Value.int .i64 0, Value.int .i64 (d - 1), Value.int .i64 d, Value.int .i64 (2 * d - 1), Value.int .i64 (c * d - 1), Value.int .i64 (-1), Value.int .i64 u520] 3) = w569 at *
          obtain ⟨hs575, hs576, hs577⟩ := (show Two w569 (w2.heap.size) (.int .i64 c) (.int .i64 d) ∧ Lits w569 (w4.heap.size) [0, 1, 0, 1, 2, -1] ∧ Lits w569 (w561.heap.size) (lit7 c d u520) from hHeld)
          refine wpAnyH_take (i := 21) (v := .pointer (some ⟨w561.heap.size, u562.toNat, none⟩)) rfl (by kernel_rfl) (by kernel_rfl) (by kernel_rfl) (fun _ _ _ h => h) (Or.inl ⟨by rfl, ?_⟩) (by assumption) ?_
          · intro wx hSw; go_simp
          try simp only [Act.put, List.setIfInBounds_toArray, List.set_cons_zero, List.set_cons_succ, List.getElem_toArray, List.getElem_cons_zero, List.getElem_cons_succ]
          refine wpAnyH_take (i := 22) (v := .int .i64 ((lit7 c d u520).getD u562.toNat 0)) rfl (by kernel_rfl) (by kernel_rfl) (by kernel_rfl) (fun _ _ _ h => h) (Or.inl ⟨by rfl, ?_⟩) (by assumption) ?_
          · intro wx hSw; have hl := hSw.2.2.2 u562 u562a (by simp [lit7]; omega); clear hSw; go_simp
          try simp only [Act.put, List.setIfInBounds_toArray, List.set_cons_zero, List.set_cons_succ, List.getElem_toArray, List.getElem_cons_zero, List.getElem_cons_succ]
          refine wpAnyH_ready (rs := [25]) (by kernel_rfl) (by simp) ?_
          refine AllReadyH.cons rfl (fun K hK => ?_) AllReadyH.nil
          · go_simp
            go_wp2_with (go_at_call 12; refine (pick_B R570 (by omega)).mono ?_; rintro e w578 ⟨u579, rfl, ⟨u579a, u579b, _⟩, R580, K581⟩)
            replace u579b := u579b (by decide)
            have T582 := Two.kept K581 T571 (by omega)
            have Q583 := KK.kept K581 Q572
            refine hK.out _ _ ⟨Two.kept K581 hs575 (by omega), Lits.kept K581 hs576 (by omega), Lits.kept K581 hs577 (by omega)⟩ (fun hHeld => ?_)
            clear hK K581 R570 T571 Q572 hs575 hs576 hs577
            try simp only [Act.put, List.setIfInBounds_toArray, List.set_cons_zero, List.set_cons_succ, List.getElem_toArray, List.getElem_cons_zero, List.getElem_cons_succ]
            obtain ⟨hs584, hs585, hs586⟩ := (show Two w578 (w2.heap.size) (.int .i64 c) (.int .i64 d) ∧ Lits w578 (w4.heap.size) [0, 1, 0, 1, 2, -1] ∧ Lits w578 (w561.heap.size) (lit7 c d u520) from hHeld)
            refine wpAnyH_take (i := 26) (v := .pointer (some ⟨w4.heap.size, u579.toNat, none⟩)) rfl (by kernel_rfl) (by kernel_rfl) (by kernel_rfl) (fun _ _ _ h => h) (Or.inl ⟨by rfl, ?_⟩) (by assumption) ?_
            · intro wx hSw; go_simp
            try simp only [Act.put, List.setIfInBounds_toArray, List.set_cons_zero, List.set_cons_succ, List.getElem_toArray, List.getElem_cons_zero, List.getElem_cons_succ]
            refine wpAnyH_take (i := 27) (v := .int .i64 (lit6 u579)) rfl (by kernel_rfl) (by kernel_rfl) (by kernel_rfl) (fun _ _ _ h => h) (Or.inl ⟨by rfl, ?_⟩) (by assumption) ?_
            · intro wx hSw; have hl := lit6_of hSw.2.1 u579 u579a u579b; clear hSw; go_simp
            try simp only [Act.put, List.setIfInBounds_toArray, List.set_cons_zero, List.set_cons_succ, List.getElem_toArray, List.getElem_cons_zero, List.getElem_cons_succ]
            refine wpAnyH_ready (rs := [28]) (by kernel_rfl) (by simp) ?_
            refine AllReadyH.cons rfl (fun K hK => ?_) AllReadyH.nil
            · obtain ⟨t0, t1, t2, t3⟩ := T582
              go_simp
              go_wp2
              have T589 : Two ((w578.setCell ⟨w.heap.size, 0, none⟩ (.int .i64 c)).setCell ⟨w.heap.size, 1, none⟩ (.int .i64 d)) w.heap.size (.int .i64 c) (.int .i64 d) := two_put t0 t1 t2 t3
              have Q590 : KK (w.heap.size + 1) w ((w578.setCell ⟨w.heap.size, 0, none⟩ (.int .i64 c)).setCell ⟨w.heap.size, 1, none⟩ (.int .i64 d)) := kk_put Q583
              refine hK.out _ _ ⟨Two.put hs584 (by omega), Lits.put hs585 (by omega), Lits.put hs586 (by omega)⟩ (fun hHeld => ?_)
              clear hK t0 t1 t2 t3 R580 Q583 hs584 hs585 hs586
              try simp only [Act.put, List.setIfInBounds_toArray, List.set_cons_zero, List.set_cons_succ, List.getElem_toArray, List.getElem_cons_zero, List.getElem_cons_succ]
              generalize ((w578.setCell ⟨w.heap.size, 0, none⟩ (.int .i64 c)).setCell ⟨w.heap.size, 1, none⟩ (.int .i64 d)) = w587 at *
              obtain ⟨hs591, hs592, hs593⟩ := (show Two w587 (w2.heap.size) (.int .i64 c) (.int .i64 d) ∧ Lits w587 (w4.heap.size) [0, 1, 0, 1, 2, -1] ∧ Lits w587 (w561.heap.size) (lit7 c d u520) from hHeld)
              refine wpAnyH_take (i := 29) (v := .int .i64 ((lit7 c d u520).getD u562.toNat 0)) rfl (by kernel_rfl) (by kernel_rfl) (by kernel_rfl) (fun _ _ _ h => h) (Or.inl ⟨by rfl, ?_⟩) (by assumption) ?_
              · intro wx hSw; go_simp
              try simp only [Act.put, List.setIfInBounds_toArray, List.set_cons_zero, List.set_cons_succ, List.getElem_toArray, List.getElem_cons_zero, List.getElem_cons_succ]
              refine wpAnyH_take (i := 30) (v := .int .i64 (lit6 u579)) rfl (by kernel_rfl) (by kernel_rfl) (by kernel_rfl) (fun _ _ _ h => h) (Or.inl ⟨by rfl, ?_⟩) (by assumption) ?_
              · intro wx hSw; go_simp
              try simp only [Act.put, List.setIfInBounds_toArray, List.set_cons_zero, List.set_cons_succ, List.getElem_toArray, List.getElem_cons_zero, List.getElem_cons_succ]
              refine wpAnyH_done (by kernel_rfl) ?_ _
              obtain ⟨e0, e1, _, _⟩ := T589
              clear hs591 hs592 hs593 hHeld
              go_wp2
              exact bodyPost_ret (v := .tuple #[.agg #[.int .i64 c, .int .i64 d], .int .i64 ((lit7 c d u520).getD u562.toNat 0), .int .i64 (lit6 u579)]) (by simp [results, Try.results4, go_sem, e0, e1]) rfl ⟨_, _, _, _, rfl, hm, (lit7_bd hm u520a u520b _).1, (lit7_bd hm u520a u520b _).2, (lit6_bd _).1, (lit6_bd _).2, finB Q590⟩
        · go_simp
          go_wp2_with (go_at_call 12; refine (pick_B R563 (by omega)).mono ?_; rintro e w594 ⟨u595, rfl, ⟨u595a, u595b, _⟩, R596, K597⟩)
          replace u595b := u595b (by decide)
          have T598 := Two.kept K597 T565 (by omega)
          have Q599 := KK.kept K597 Q566
          refine hK.out _ _ ⟨Two.kept K597 hs567 (by omega), Lits.kept K597 hs568 (by omega)⟩ (fun hHeld => ?_)
          clear hK K597 R563 T565 Q566 hs567 hs568
          try simp only [Act.put, List.setIfInBounds_toArray, List.set_cons_zero, List.set_cons_succ, List.getElem_toArray, List.getElem_cons_zero, List.getElem_cons_succ]
          obtain ⟨hs600, hs601⟩ := (show Two w594 (w2.heap.size) (.int .i64 c) (.int .i64 d) ∧ Lits w594 (w4.heap.size) [0, 1, 0, 1, 2, -1] from hHeld)
          refine wpAnyH_take (i := 26) (v := .pointer (some ⟨w4.heap.size, u595.toNat, none⟩)) rfl (by kernel_rfl) (by kernel_rfl) (by kernel_rfl) (fun _ _ _ h => h) (Or.inl ⟨by rfl, ?_⟩) (by assumption) ?_
          · intro wx hSw; go_simp
          try simp only [Act.put, List.setIfInBounds_toArray, List.set_cons_zero, List.set_cons_succ, List.getElem_toArray, List.getElem_cons_zero, List.getElem_cons_succ]
          refine wpAnyH_take (i := 27) (v := .int .i64 (lit6 u595)) rfl (by kernel_rfl) (by kernel_rfl) (by kernel_rfl) (fun _ _ _ h => h) (Or.inl ⟨by rfl, ?_⟩) (by assumption) ?_
          · intro wx hSw; have hl := lit6_of hSw.2 u595 u595a u595b; clear hSw; go_simp
          try simp only [Act.put, List.setIfInBounds_toArray, List.set_cons_zero, List.set_cons_succ, List.getElem_toArray, List.getElem_cons_zero, List.getElem_cons_succ]
          refine wpAnyH_ready (rs := [18, 28]) (by kernel_rfl) (by simp) ?_
          refine AllReadyH.cons rfl (fun K hK => ?_) (AllReadyH.cons rfl (fun K hK => ?_) AllReadyH.nil)
          · go_simp
            have R603 := R596.alloc (.cells #[Value.int .i64 0, Value.int .i64 (d - 1), Value.int .i64 d, Value.int .i64 (2 * d - 1), Value.int .i64 (c * d - 1), Value.int .i64 (-1), Value.int .i64 u520] 3)
            have T604 := T598.alloc (.cells #[Value.int .i64 0, Value.int .i64 (d - 1), Value.int .i64 d, Value.int .i64 (2 * d - 1), Value.int .i64 (c * d - 1), Value.int .i64 (-1), Value.int .i64 u520] 3)
            have Q605 := Q599.alloc (.cells #[Value.int .i64 0, Value.int .i64 (d - 1), Value.int .i64 d, Value.int .i64 (2 * d - 1), Value.int .i64 (c * d - 1), Value.int .i64 (-1), Value.int .i64 u520] 3)
            have G606 : Lits (w594.alloc (.cells #[Value.int .i64 0, Value.int .i64 (d - 1), Value.int .i64 d, Value.int .i64 (2 * d - 1), Value.int .i64 (c * d - 1), Value.int .i64 (-1), Value.int .i64 u520] 3)) w594.heap.size (lit7 c d u520) := Lits.new (lit7 c d u520) _ _
            have ng607 : w.heap.size + 1 < w594.heap.size := R596.lt
            refine hK.out _ _ ⟨hs600.alloc _, hs601.alloc _⟩ (fun hHeld => ?_)
            refine wpAnyH_more (S' := fun W => Two W (w2.heap.size) (.int .i64 c) (.int .i64 d) ∧ Lits W (w4.heap.size) [0, 1, 0, 1, 2, -1] ∧ Lits W (w594.heap.size) (lit7 c d u520)) (fun W ⟨x0, x1, x2⟩ => ⟨x0, x1⟩) _ _ _ _ ?_
            obtain ⟨y0, y1⟩ := hHeld
            have hHeld : (fun W => Two W (w2.heap.size) (.int .i64 c) (.int .i64 d) ∧ Lits W (w4.heap.size) [0, 1, 0, 1, 2, -1] ∧ Lits W (w594.heap.size) (lit7 c d u520)) (w594.alloc (.cells #[Value.int .i64 0, Value.int .i64 (d - 1), Value.int .i64 d, Value.int .i64 (2 * d - 1), Value.int .i64 (c * d - 1), Value.int .i64 (-1), Value.int .i64 u520] 3)) := ⟨y0, y1, G606⟩
            clear hK G606 R596 T598 Q599 hs600 hs601 y0 y1
            try simp only [Act.put, List.setIfInBounds_toArray, List.set_cons_zero, List.set_cons_succ, List.getElem_toArray, List.getElem_cons_zero, List.getElem_cons_succ]
            generalize w594.alloc (.cells #[Value.int .i64 0, Value.int .i64 (d - 1), Value.int .i64 d, Value.int .i64 (2 * d - 1), Value.int .i64 (c * d - 1), Value.int .i64 (-1), Value.int .i64 u520] 3) = w602 at *
            obtain ⟨hs608, hs609, hs610⟩ := (show Two w602 (w2.heap.size) (.int .i64 c) (.int .i64 d) ∧ Lits w602 (w4.heap.size) [0, 1, 0, 1, 2, -1] ∧ Lits w602 (w594.heap.size) (lit7 c d u520) from hHeld)
            refine wpAnyH_take (i := 21) (v := .pointer (some ⟨w594.heap.size, u562.toNat, none⟩)) rfl (by kernel_rfl) (by kernel_rfl) (by kernel_rfl) (fun _ _ _ h => h) (Or.inl ⟨by rfl, ?_⟩) (by assumption) ?_
            · intro wx hSw; go_simp
            try simp only [Act.put, List.setIfInBounds_toArray, List.set_cons_zero, List.set_cons_succ, List.getElem_toArray, List.getElem_cons_zero, List.getElem_cons_succ]
            refine wpAnyH_take (i := 22) (v := .int .i64 ((lit7 c d u520).getD u562.toNat 0)) rfl (by kernel_rfl) (by kernel_rfl) (by kernel_rfl) (fun _ _ _ h => h) (Or.inl ⟨by rfl, ?_⟩) (by assumption) ?_
            · intro wx hSw; have hl := hSw.2.2.2 u562 u562a (by simp [lit7]; omega); clear hSw; go_simp
            try simp only [Act.put, List.setIfInBounds_toArray, List.set_cons_zero, List.set_cons_succ, List.getElem_toArray, List.getElem_cons_zero, List.getElem_cons_succ]
            refine wpAnyH_ready (rs := [28]) (by kernel_rfl) (by simp) ?_
            refine AllReadyH.cons rfl (fun K hK => ?_) AllReadyH.nil
            · obtain ⟨t0, t1, t2, t3⟩ := T604
              go_simp
              go_wp2
              have T613 : Two ((w602.setCell ⟨w.heap.size, 0, none⟩ (.int .i64 c)).setCell ⟨w.heap.size, 1, none⟩ (.int .i64 d)) w.heap.size (.int .i64 c) (.int .i64 d) := two_put t0 t1 t2 t3
              have Q614 : KK (w.heap.size + 1) w ((w602.setCell ⟨w.heap.size, 0, none⟩ (.int .i64 c)).setCell ⟨w.heap.size, 1, none⟩ (.int .i64 d)) := kk_put Q605
              refine hK.out _ _ ⟨Two.put hs608 (by omega), Lits.put hs609 (by omega), Lits.put hs610 (by omega)⟩ (fun hHeld => ?_)
              clear hK t0 t1 t2 t3 R603 Q605 hs608 hs609 hs610
              try simp only [Act.put, List.setIfInBounds_toArray, List.set_cons_zero, List.set_cons_succ, List.getElem_toArray, List.getElem_cons_zero, List.getElem_cons_succ]
              generalize ((w602.setCell ⟨w.heap.size, 0, none⟩ (.int .i64 c)).setCell ⟨w.heap.size, 1, none⟩ (.int .i64 d)) = w611 at *
              obtain ⟨hs615, hs616, hs617⟩ := (show Two w611 (w2.heap.size) (.int .i64 c) (.int .i64 d) ∧ Lits w611 (w4.heap.size) [0, 1, 0, 1, 2, -1] ∧ Lits w611 (w594.heap.size) (lit7 c d u520) from hHeld)
              refine wpAnyH_take (i := 29) (v := .int .i64 ((lit7 c d u520).getD u562.toNat 0)) rfl (by kernel_rfl) (by kernel_rfl) (by kernel_rfl) (fun _ _ _ h => h) (Or.inl ⟨by rfl, ?_⟩) (by assumption) ?_
              · intro wx hSw; go_simp
              try simp only [Act.put, List.setIfInBounds_toArray, List.set_cons_zero, List.set_cons_succ, List.getElem_toArray, List.getElem_cons_zero, List.getElem_cons_succ]
              refine wpAnyH_take (i := 30) (v := .int .i64 (lit6 u595)) rfl (by kernel_rfl) (by kernel_rfl) (by kernel_rfl) (fun _ _ _ h => h) (Or.inl ⟨by rfl, ?_⟩) (by assumption) ?_
              · intro wx hSw; go_simp
              try simp only [Act.put, List.setIfInBounds_toArray, List.set_cons_zero, List.set_cons_succ, List.getElem_toArray, List.getElem_cons_zero, List.getElem_cons_succ]
              refine wpAnyH_done (by kernel_rfl) ?_ _
              obtain ⟨e0, e1, _, _⟩ := T613
              clear hs615 hs616 hs617 hHeld
              go_wp2
              exact bodyPost_ret (v := .tuple #[.agg #[.int .i64 c, .int .i64 d], .int .i64 ((lit7 c d u520).getD u562.toNat 0), .int .i64 (lit6 u595)]) (by simp [results, Try.results4, go_sem, e0, e1]) rfl ⟨_, _, _, _, rfl, hm, (lit7_bd hm u520a u520b _).1, (lit7_bd hm u520a u520b _).2, (lit6_bd _).1, (lit6_bd _).2, finB Q614⟩
          · obtain ⟨t0, t1, t2, t3⟩ := T598
            go_simp
            go_wp2
            have T620 : Two ((w594.setCell ⟨w.heap.size, 0, none⟩ (.int .i64 c)).setCell ⟨w.heap.size, 1, none⟩ (.int .i64 d)) w.heap.size (.int .i64 c) (.int .i64 d) := two_put t0 t1 t2 t3
            have Q621 : KK (w.heap.size + 1) w ((w594.setCell ⟨w.heap.size, 0, none⟩ (.int .i64 c)).setCell ⟨w.heap.size, 1, none⟩ (.int .i64 d)) := kk_put Q599
            refine hK.out _ _ ⟨Two.put hs600 (by omega), Lits.put hs601 (by omega)⟩ (fun hHeld => ?_)
            clear hK t0 t1 t2 t3 R596 Q599 hs600 hs601
            try simp only [Act.put, List.setIfInBounds_toArray, List.set_cons_zero, List.set_cons_succ, List.getElem_toArray, List.getElem_cons_zero, List.getElem_cons_succ]
            generalize ((w594.setCell ⟨w.heap.size, 0, none⟩ (.int .i64 c)).setCell ⟨w.heap.size, 1, none⟩ (.int .i64 d)) = w618 at *
            obtain ⟨hs622, hs623⟩ := (show Two w618 (w2.heap.size) (.int .i64 c) (.int .i64 d) ∧ Lits w618 (w4.heap.size) [0, 1, 0, 1, 2, -1] from hHeld)
            refine wpAnyH_ready (rs := [18]) (by kernel_rfl) (by simp) ?_
            refine AllReadyH.cons rfl (fun K hK => ?_) AllReadyH.nil
            · go_simp
              have T626 := T620.alloc (.cells #[Value.int .i64 0, Value.int .i64 (d - 1), Value.int .i64 d, Value.int .i64 (2 * d - 1), Value.int .i64 (c * d - 1), Value.int .i64 (-1), Value.int .i64 u520] 3)
              have Q627 := Q621.alloc (.cells #[Value.int .i64 0, Value.int .i64 (d - 1), Value.int .i64 d, Value.int .i64 (2 * d - 1), Value.int .i64 (c * d - 1), Value.int .i64 (-1), Value.int .i64 u520] 3)
              have G628 : Lits (w618.alloc (.cells #[Value.int .i64 0, Value.int .i64 (d - 1), Value.int .i64 d, Value.int .i64 (2 * d - 1), Value.int .i64 (c * d - 1), Value.int .i64 (-1), Value.int .i64 u520] 3)) w618.heap.size (lit7 c d u520) := Lits.new (lit7 c d u520) _ _
              refine hK.out _ _ ⟨hs622.alloc _, hs623.alloc _⟩ (fun hHeld => ?_)
              refine wpAnyH_more (S' := fun W => Two W (w2.heap.size) (.int .i64 c) (.int .i64 d) ∧ Lits W (w4.heap.size) [0, 1, 0, 1, 2, -1] ∧ Lits W (w618.heap.size) (lit7 c d u520)) (fun W ⟨x0, x1, x2⟩ => ⟨x0, x1⟩) _ _ _ _ ?_
              obtain ⟨y0, y1⟩ := hHeld
              have hHeld : (fun W => Two W (w2.heap.size) (.int .i64 c) (.int .i64 d) ∧ Lits W (w4.heap.size) [0, 1, 0, 1, 2, -1] ∧ Lits W (w618.heap.size) (lit7 c d u520)) (w618.alloc (.cells #[Value.int .i64 0, Value.int .i64 (d - 1), Value.int .i64 d, Value.int .i64 (2 * d - 1), Value.int .i64 (c * d - 1), Value.int .i64 (-1), Value.int .i64 u520] 3)) := ⟨y0, y1, G628⟩
              clear hK G628 T620 Q621 hs622 hs623 y0 y1
              try simp only [Act.put, List.setIfInBounds_toArray, List.set_cons_zero, List.set_cons_succ, List.getElem_toArray, List.getElem_cons_zero, List.getElem_cons_succ]
              generalize w618.alloc (.cells #[Value.int .i64 0, Value.int .i64 (d - 1), Value.int .i64 d, Value.int .i64 (2 * d - 1), Value.int .i64 (c * d - 1), Value.int .i64 (-1), Value.int .i64 u520] 3) = w624 at *
              obtain ⟨hs630, hs631, hs632⟩ := (show Two w624 (w2.heap.size) (.int .i64 c) (.int .i64 d) ∧ Lits w624 (w4.heap.size) [0, 1, 0, 1, 2, -1] ∧ Lits w624 (w618.heap.size) (lit7 c d u520) from hHeld)
              refine wpAnyH_take (i := 21) (v := .pointer (some ⟨w618.heap.size, u562.toNat, none⟩)) rfl (by kernel_rfl) (by kernel_rfl) (by kernel_rfl) (fun _ _ _ h => h) (Or.inl ⟨by rfl, ?_⟩) (by assumption) ?_
              · intro wx hSw; go_simp
              try simp only [Act.put, List.setIfInBounds_toArray, List.set_cons_zero, List.set_cons_succ, List.getElem_toArray, List.getElem_cons_zero, List.getElem_cons_succ]
              refine wpAnyH_take (i := 22) (v := .int .i64 ((lit7 c d u520).getD u562.toNat 0)) rfl (by kernel_rfl) (by kernel_rfl) (by kernel_rfl) (fun _ _ _ h => h) (Or.inl ⟨by rfl, ?_⟩) (by assumption) ?_
              · intro wx hSw; have hl := hSw.2.2.2 u562 u562a (by simp [lit7]; omega); clear hSw; go_simp
              try simp only [Act.put, List.setIfInBounds_toArray, List.set_cons_zero, List.set_cons_succ, List.getElem_toArray, List.getElem_cons_zero, List.getElem_cons_succ]
              refine wpAnyH_take (i := 29) (v := .int .i64 ((lit7 c d u520).getD u562.toNat 0)) rfl (by kernel_rfl) (by kernel_rfl) (by kernel_rfl) (fun _ _ _ h => h) (Or.inl ⟨by rfl, ?_⟩) (by assumption) ?_
              · intro wx hSw; go_simp
              try simp only [Act.put, List.setIfInBounds_toArray, List.set_cons_zero, List.set_cons_succ, List.getElem_toArray, List.getElem_cons_zero, List.getElem_cons_succ]
              refine wpAnyH_take (i := 30) (v := .int .i64 (lit6 u595)) rfl (by kernel_rfl) (by kernel_rfl) (by kernel_rfl) (fun _ _ _ h => h) (Or.inl ⟨by rfl, ?_⟩) (by assumption) ?_
              · intro wx hSw; go_simp
              try simp only [Act.put, List.setIfInBounds_toArray, List.set_cons_zero, List.set_cons_succ, List.getElem_toArray, List.getElem_cons_zero, List.getElem_cons_succ]
              refine wpAnyH_done (by kernel_rfl) ?_ _
              obtain ⟨e0, e1, _, _⟩ := T626
              clear hs630 hs631 hs632 hHeld
              go_wp2
              exact bodyPost_ret (v := .tuple #[.agg #[.int .i64 c, .int .i64 d], .int .i64 ((lit7 c d u520).getD u562.toNat 0), .int .i64 (lit6 u595)]) (by simp [results, Try.results4, go_sem, e0, e1]) rfl ⟨_, _, _, _, rfl, hm, (lit7_bd hm u520a u520b _).1, (lit7_bd hm u520a u520b _).2, (lit6_bd _).1, (lit6_bd _).2, finB Q627⟩

end Go.Proofs.Ytebjnolfknngbaa
