/- The walk of the law FnPlcSides, whole: it answers true; conditions: the bytes that came in are a row of bytes. -/
import Derived.Test.YteapgcaimcjjpaaSides
import Derived.Deep.RegionHeld3
namespace Go.Proofs.Yteapgcaimcjjpaa
open Go.RowKit
set_option linter.unusedVariables false

set_option maxHeartbeats 8000000 in
theorem law_sides (a : Option Addr) (len cap : Nat) (zs : List Int) (w : World) (h : IsRow w a len cap zs) :
    Calls Try.prog 3 #[.slice a len cap] w fun e w' => e = .returned (.bool true) ∧ Below w.heap.size w w' := by
  have H : Hid (IsRow w a len cap zs) := h
  clear h
  by_cases hlen : (1048576 : Int) < (len : Int)
  · go_enter Try.func3, Try.ntmps3
    go_wp2
    go_ret
    exact ⟨rfl, Below.refl _ _⟩
  · go_enter Try.func3, Try.ntmps3
    go_wp2_with fail
    refine (drawSide_any a len cap zs _ H.out).mono ?_
    rintro e w1 ⟨c, d, k, s, rfl, ⟨c0, c1, d0, d1⟩, k0, k1, s0, s1, B1⟩
    clear H hlen
    go_wp2_with fail
    refine (plcSide_impl _ _ _ _ _).mono ?_
    rintro e w2 ⟨rfl, hb2⟩
    have HS : (∀ b o, b < w1.heap.size + 1 → w2.cell? ⟨b, o, none⟩ = (w1.alloc (.cells #[.int .i64 c, .int .i64 d] 24)).cell? ⟨b, o, none⟩) ∧ w1.heap.size + 1 ≤ w2.heap.size := keepS ⟨fun _ _ _ => rfl, by simp⟩ hb2
    have B2 : Below w.heap.size w w2 := bthen (bthen B1 ((Below.refl _ _).alloc (by simp) _)) hb2
    clear hb2 B1
    by_cases hg : sideF c d k s = -1
    · have hg' : (sideF c d k s != -1) = false := by simp [hg]
      have E : Hid (sideF c d k s = -1) := hg
      clear hg
      go_wp2
      refine wp_region_held_drew (S := fun w' => (∀ b o, b < w1.heap.size + 1 → w'.cell? ⟨b, o, none⟩ = (w1.alloc (.cells #[.int .i64 c, .int .i64 d] 24)).cell? ⟨b, o, none⟩) ∧ w1.heap.size + 1 ≤ w'.heap.size) (by kernel_rfl) HS ?_
      intro hHeld
      refine wpAnyH_take (i := 0) (v := .int .i64 (sideF c d k s)) rfl (by kernel_rfl) (by kernel_rfl) (by kernel_rfl) (fun _ _ _ h => h) (Or.inl ⟨by rfl, ?_⟩) (by assumption) ?_
      · intro w hSw; go_simp
      try simp only [Act.put, List.setIfInBounds_toArray, List.set_cons_zero, List.set_cons_succ, List.getElem_toArray, List.getElem_cons_zero]
      refine wpAnyH_take (i := 1) (v := .agg #[.int .i64 c, .int .i64 d]) rfl (by kernel_rfl) (by kernel_rfl) (by kernel_rfl) (fun _ _ _ h => h) (Or.inl ⟨by rfl, ?_⟩) (by assumption) ?_
      · intro w hSw; go_simp
      try simp only [Act.put, List.setIfInBounds_toArray, List.set_cons_zero, List.set_cons_succ, List.getElem_toArray, List.getElem_cons_zero, List.getElem_cons_succ]
      refine wpAnyH_take (i := 2) (v := .int .i64 k) rfl (by kernel_rfl) (by kernel_rfl) (by kernel_rfl) (fun _ _ _ h => h) (Or.inl ⟨by rfl, ?_⟩) (by assumption) ?_
      · intro w hSw; go_simp
      try simp only [Act.put, List.setIfInBounds_toArray, List.set_cons_zero, List.set_cons_succ, List.getElem_toArray, List.getElem_cons_zero, List.getElem_cons_succ]
      refine wpAnyH_take (i := 3) (v := .int .i64 s) rfl (by kernel_rfl) (by kernel_rfl) (by kernel_rfl) (fun _ _ _ h => h) (Or.inl ⟨by rfl, ?_⟩) (by assumption) ?_
      · intro w hSw; go_simp
      try simp only [Act.put, List.setIfInBounds_toArray, List.set_cons_zero, List.set_cons_succ, List.getElem_toArray, List.getElem_cons_zero, List.getElem_cons_succ]
      refine wpAnyH_ready (rs := [4]) (by kernel_rfl) (by simp) ?_
      refine AllReadyH.cons rfl (fun K hK => ?_) AllReadyH.nil
      go_simp
      go_wp2_with (go_at_call 7; refine (plcSide_spec _ _ _ _ _).mono ?_; rintro e w3 ⟨rfl, hbw3⟩)
      refine hK.out _ _ (keepS (by assumption) hbw3) (fun hHeld => ?_)
      clear hK K
      try simp only [Act.put, List.setIfInBounds_toArray, List.set_cons_zero, List.set_cons_succ, List.getElem_toArray, List.getElem_cons_zero, List.getElem_cons_succ]
      refine wpAnyH_take (i := 5) (v := .bool false) rfl (by kernel_rfl) (by kernel_rfl) (by kernel_rfl) (fun _ _ _ h => h) (Or.inl ⟨by rfl, ?_⟩) (by assumption) ?_
      · intro w hSw; go_simp
      try simp only [Act.put, List.setIfInBounds_toArray, List.set_cons_zero, List.set_cons_succ, List.getElem_toArray, List.getElem_cons_zero, List.getElem_cons_succ]
      refine wpAnyH_take (i := 6) (v := .bool false) rfl (by kernel_rfl) (by kernel_rfl) (by kernel_rfl) (fun _ _ _ h => h) (Or.inl ⟨by rfl, ?_⟩) (by assumption) ?_
      · intro w hSw; go_simp
      try simp only [Act.put, List.setIfInBounds_toArray, List.set_cons_zero, List.set_cons_succ, List.getElem_toArray, List.getElem_cons_zero, List.getElem_cons_succ]
      refine wpAnyH_take (i := 7) (v := .agg #[.int .i64 c, .int .i64 d]) rfl (by kernel_rfl) (by kernel_rfl) (by kernel_rfl) (fun _ _ _ h => h) (Or.inl ⟨by rfl, ?_⟩) (by assumption) ?_
      · intro w hSw; go_simp
      try simp only [Act.put, List.setIfInBounds_toArray, List.set_cons_zero, List.set_cons_succ, List.getElem_toArray, List.getElem_cons_zero, List.getElem_cons_succ]
      refine wpAnyH_take (i := 9) (v := .agg #[.int .i64 c, .int .i64 d]) rfl (by kernel_rfl) (by kernel_rfl) (by kernel_rfl) (fun _ _ _ h => h) (Or.inl ⟨by rfl, ?_⟩) (by assumption) ?_
      · intro w hSw; go_simp
      try simp only [Act.put, List.setIfInBounds_toArray, List.set_cons_zero, List.set_cons_succ, List.getElem_toArray, List.getElem_cons_zero, List.getElem_cons_succ]
      refine wpAnyH_ready (rs := [8]) (by kernel_rfl) (by simp) ?_
      refine AllReadyH.cons rfl (fun K hK => ?_) AllReadyH.nil
      go_simp
      go_wp2_with (go_at_call 8; refine (ok_impl _ _ _).mono ?_; rintro e w4 ⟨rfl, hbw4⟩)
      refine hK.out _ _ (keepS (by assumption) hbw4) (fun hHeld => ?_)
      clear hK K
      try simp only [Act.put, List.setIfInBounds_toArray, List.set_cons_zero, List.set_cons_succ, List.getElem_toArray, List.getElem_cons_zero, List.getElem_cons_succ]
      refine wpAnyH_ready (rs := [10]) (by kernel_rfl) (by simp) ?_
      refine AllReadyH.cons rfl (fun K hK => ?_) AllReadyH.nil
      go_simp
      go_wp2_with (go_at_call 9; refine (ok_spec _ _ _).mono ?_; rintro e w5 ⟨rfl, hbw5⟩)
      refine hK.out _ _ (keepS (by assumption) hbw5) (fun hHeld => ?_)
      clear hK K
      try simp only [Act.put, List.setIfInBounds_toArray, List.set_cons_zero, List.set_cons_succ, List.getElem_toArray, List.getElem_cons_zero, List.getElem_cons_succ]
      refine wpAnyH_take (i := 11) (v := .bool false) rfl (by kernel_rfl) (by kernel_rfl) (by kernel_rfl) (fun _ _ _ h => h) (Or.inl ⟨by rfl, ?_⟩) (by assumption) ?_
      · intro w hSw; go_simp
      try simp only [Act.put, List.setIfInBounds_toArray, List.set_cons_zero, List.set_cons_succ, List.getElem_toArray, List.getElem_cons_zero, List.getElem_cons_succ]
      refine wpAnyH_take (i := 12) (v := .bool false) rfl (by kernel_rfl) (by kernel_rfl) (by kernel_rfl) (fun _ _ _ h => h) (Or.inl ⟨by rfl, ?_⟩) (by assumption) ?_
      · intro w hSw; go_simp
      try simp only [Act.put, List.setIfInBounds_toArray, List.set_cons_zero, List.set_cons_succ, List.getElem_toArray, List.getElem_cons_zero, List.getElem_cons_succ]
      refine wpAnyH_take (i := 13) (v := .bool false) rfl (by kernel_rfl) (by kernel_rfl) (by kernel_rfl) (fun _ _ _ h => h) (Or.inl ⟨by rfl, ?_⟩) (by assumption) ?_
      · intro w hSw; go_simp
      try simp only [Act.put, List.setIfInBounds_toArray, List.set_cons_zero, List.set_cons_succ, List.getElem_toArray, List.getElem_cons_zero, List.getElem_cons_succ]
      refine wpAnyH_take (i := 14) (v := .int .i64 (sideF c d k s)) rfl (by kernel_rfl) (by kernel_rfl) (by kernel_rfl) (fun _ _ _ h => h) (Or.inl ⟨by rfl, ?_⟩) (by assumption) ?_
      · intro w hSw; go_simp
      try simp only [Act.put, List.setIfInBounds_toArray, List.set_cons_zero, List.set_cons_succ, List.getElem_toArray, List.getElem_cons_zero, List.getElem_cons_succ]
      refine wpAnyH_take (i := 15) (v := .bool false) rfl (by kernel_rfl) (by kernel_rfl) (by kernel_rfl) (fun _ _ _ h => h) (Or.inl ⟨by rfl, ?_⟩) (by assumption) ?_
      · intro w hSw; go_simp
      try simp only [Act.put, List.setIfInBounds_toArray, List.set_cons_zero, List.set_cons_succ, List.getElem_toArray, List.getElem_cons_zero, List.getElem_cons_succ]
      refine wpAnyH_take (i := 16) (v := .bool false) rfl (by kernel_rfl) (by kernel_rfl) (by kernel_rfl) (fun _ _ _ h => h) (Or.inl ⟨by rfl, ?_⟩) (by assumption) ?_
      · intro w hSw; go_simp
      try simp only [Act.put, List.setIfInBounds_toArray, List.set_cons_zero, List.set_cons_succ, List.getElem_toArray, List.getElem_cons_zero, List.getElem_cons_succ]
      refine wpAnyH_take (i := 17) (v := undef) rfl (by kernel_rfl) (by kernel_rfl) (by kernel_rfl) (fun _ _ _ h => h) (Or.inr ⟨by rfl, rfl⟩) (by assumption) ?_
      try simp only [Act.put, List.setIfInBounds_toArray, List.set_cons_zero, List.set_cons_succ, List.getElem_toArray, List.getElem_cons_zero, List.getElem_cons_succ]
      refine wpAnyH_take (i := 18) (v := undef) rfl (by kernel_rfl) (by kernel_rfl) (by kernel_rfl) (fun _ _ _ h => h) (Or.inr ⟨by rfl, rfl⟩) (by assumption) ?_
      try simp only [Act.put, List.setIfInBounds_toArray, List.set_cons_zero, List.set_cons_succ, List.getElem_toArray, List.getElem_cons_zero, List.getElem_cons_succ]
      refine wpAnyH_take (i := 19) (v := undef) rfl (by kernel_rfl) (by kernel_rfl) (by kernel_rfl) (fun _ _ _ h => h) (Or.inr ⟨by rfl, rfl⟩) (by assumption) ?_
      try simp only [Act.put, List.setIfInBounds_toArray, List.set_cons_zero, List.set_cons_succ, List.getElem_toArray, List.getElem_cons_zero, List.getElem_cons_succ]
      refine wpAnyH_take (i := 20) (v := undef) rfl (by kernel_rfl) (by kernel_rfl) (by kernel_rfl) (fun _ _ _ h => h) (Or.inr ⟨by rfl, rfl⟩) (by assumption) ?_
      try simp only [Act.put, List.setIfInBounds_toArray, List.set_cons_zero, List.set_cons_succ, List.getElem_toArray, List.getElem_cons_zero, List.getElem_cons_succ]
      refine wpAnyH_take (i := 21) (v := undef) rfl (by kernel_rfl) (by kernel_rfl) (by kernel_rfl) (fun _ _ _ h => h) (Or.inr ⟨by rfl, rfl⟩) (by assumption) ?_
      try simp only [Act.put, List.setIfInBounds_toArray, List.set_cons_zero, List.set_cons_succ, List.getElem_toArray, List.getElem_cons_zero, List.getElem_cons_succ]
      refine wpAnyH_take (i := 22) (v := undef) rfl (by kernel_rfl) (by kernel_rfl) (by kernel_rfl) (fun _ _ _ h => h) (Or.inr ⟨by rfl, rfl⟩) (by assumption) ?_
      try simp only [Act.put, List.setIfInBounds_toArray, List.set_cons_zero, List.set_cons_succ, List.getElem_toArray, List.getElem_cons_zero, List.getElem_cons_succ]
      refine wpAnyH_take (i := 23) (v := undef) rfl (by kernel_rfl) (by kernel_rfl) (by kernel_rfl) (fun _ _ _ h => h) (Or.inr ⟨by rfl, rfl⟩) (by assumption) ?_
      try simp only [Act.put, List.setIfInBounds_toArray, List.set_cons_zero, List.set_cons_succ, List.getElem_toArray, List.getElem_cons_zero, List.getElem_cons_succ]
      refine wpAnyH_take (i := 24) (v := .bool false) rfl (by kernel_rfl) (by kernel_rfl) (by kernel_rfl) (fun _ _ _ h => h) (Or.inl ⟨by rfl, ?_⟩) (by assumption) ?_
      · intro w hSw; go_simp
      try simp only [Act.put, List.setIfInBounds_toArray, List.set_cons_zero, List.set_cons_succ, List.getElem_toArray, List.getElem_cons_zero, List.getElem_cons_succ]
      refine wpAnyH_take (i := 25) (v := .bool false) rfl (by kernel_rfl) (by kernel_rfl) (by kernel_rfl) (fun _ _ _ h => h) (Or.inl ⟨by rfl, ?_⟩) (by assumption) ?_
      · intro w hSw; go_simp
      try simp only [Act.put, List.setIfInBounds_toArray, List.set_cons_zero, List.set_cons_succ, List.getElem_toArray, List.getElem_cons_zero, List.getElem_cons_succ]
      refine wpAnyH_done (by kernel_rfl) ?_ _
      go_wp2_with fail
      refine (ok_spec _ _ _).mono ?_
      rintro e w6 ⟨rfl, hb6⟩
      have HS6 : ((∀ b o, b < w1.heap.size + 1 → w6.cell? ⟨b, o, none⟩ = (w1.alloc (.cells #[.int .i64 c, .int .i64 d] 24)).cell? ⟨b, o, none⟩) ∧ w1.heap.size + 1 ≤ w6.heap.size) := keepS (by assumption) hb6
      have B6 : Below w.heap.size w w6 := by repeat (first | exact B2 | refine bthen ?_ (by assumption) | apply Below.drew)
      clear hb6 HS B2
      rcases Bool.eq_false_or_eq_true (okB c d) with ho | ho
      · obtain ⟨a1, a2, a3, a4⟩ := okB_bounds ho
        obtain ⟨m1, m2⟩ := mul_bounds ho
        go_wp2
        go_loopw [7, 8] (fun n i wr => ∃ x : Int, -1 ≤ x ∧ x ≤ c * d + 1 ∧ n = .int .i64 (cnt d x) ∧ i = .int .i64 x ∧ ((∀ b o, b < w1.heap.size + 1 → wr.cell? ⟨b, o, none⟩ = (w1.alloc (.cells #[.int .i64 c, .int .i64 d] 24)).cell? ⟨b, o, none⟩) ∧ w1.heap.size + 1 ≤ wr.heap.size) ∧ Below w.heap.size w wr)
          (fun _ i _ => (c * d + 1 - intOf i).toNat)
        case atStart => exact ⟨-1, by omega, by omega, rfl, rfl, HS6, B6⟩
        case round =>
          obtain ⟨x, x0, x1, rfl, rfl, HR, BR⟩ := hrel
          have n0 := (cnt_bd (x := x) a3).1
          have n1 := (cnt_bd (x := x) a3).2
          clear HS6 B6
          by_cases hx : x ≤ c * d
          · by_cases h0 : cellF c d x = 0
            · have e0 : (cellF c d x == 0) = true := by simp [h0]
              have H0 : Hid (cellF c d x = 0) := h0
              clear h0
              go_wp2_with fail
              refine (plcCell_impl _ _ _ _).mono ?_
              rintro e wa ⟨rfl, ha⟩
              have HA := keepS HR ha
              go_wp2_with fail
              refine (cell_spec _ _ _ _).mono ?_
              rintro e wb ⟨rfl, hbb⟩
              have HB := keepS HA hbb
              clear HA
              go_wp2
              go_roundw
              case rel => exact ⟨x + 1, by omega, by omega, (by rw [cnt_hit ho H0.out]), rfl, HB, bthen (bthen BR ha) hbb⟩
              case measure => simp [intOf]; omega
            · have e0 : (cellF c d x == 0) = false := by simpa using h0
              have H0 : Hid (¬ cellF c d x = 0) := h0
              clear h0
              go_wp2_with fail
              refine (plcCell_impl _ _ _ _).mono ?_
              rintro e wa ⟨rfl, ha⟩
              have HA := keepS HR ha
              go_wp2_with fail
              refine (cell_spec _ _ _ _).mono ?_
              rintro e wb ⟨rfl, hbb⟩
              have HB := keepS HA hbb
              clear HA
              go_wp2
              go_roundw
              case rel => exact ⟨x + 1, by omega, by omega, (by rw [cnt_miss ho (by omega) (by omega) H0.out]), rfl, HB, bthen (bthen BR ha) hbb⟩
              case measure => simp [intOf]; omega
          · have hc : (cnt d x == d) = true := by
              have : x = c * d + 1 := by omega
              rw [this, cnt_end ho]; simp
            go_wp2
            go_ret
            exact ⟨rfl, BR⟩
      · have hq : Hid (sideF c d k s = -1) := by show sideF c d k s = -1; simp [sideF, hasB, ho]
        have hq' : (sideF c d k s == -1) = true := by rw [hq.out]; rfl
        go_wp2_with (go_at_call 10; refine (ma_ok _).mono ?_; rintro e w7 ⟨rfl, hb7⟩)
        go_ret
        exact ⟨rfl, bthen B6 hb7⟩
    · have hg' : (sideF c d k s != -1) = true := by simp [hg]
      have hw : IntKind.i64.wrap (1 - s) = 1 - s := wrap_id (by omega) (by omega)
      have hk : (sideF c d (sideF c d k s) (1 - s) != k) = false := by rw [side_back hg]; simp
      clear hg
      go_wp2
      refine wp_region_held_drew (S := fun w' => (∀ b o, b < w1.heap.size + 1 → w'.cell? ⟨b, o, none⟩ = (w1.alloc (.cells #[.int .i64 c, .int .i64 d] 24)).cell? ⟨b, o, none⟩) ∧ w1.heap.size + 1 ≤ w'.heap.size) (by kernel_rfl) HS ?_
      intro hHeld
      refine wpAnyH_take (i := 0) (v := .int .i64 (sideF c d k s)) rfl (by kernel_rfl) (by kernel_rfl) (by kernel_rfl) (fun _ _ _ h => h) (Or.inl ⟨by rfl, ?_⟩) (by assumption) ?_
      · intro w hSw; go_simp
      try simp only [Act.put, List.setIfInBounds_toArray, List.set_cons_zero, List.set_cons_succ, List.getElem_toArray, List.getElem_cons_zero]
      refine wpAnyH_take (i := 1) (v := .agg #[.int .i64 c, .int .i64 d]) rfl (by kernel_rfl) (by kernel_rfl) (by kernel_rfl) (fun _ _ _ h => h) (Or.inl ⟨by rfl, ?_⟩) (by assumption) ?_
      · intro w hSw; go_simp
      try simp only [Act.put, List.setIfInBounds_toArray, List.set_cons_zero, List.set_cons_succ, List.getElem_toArray, List.getElem_cons_zero, List.getElem_cons_succ]
      refine wpAnyH_take (i := 2) (v := .int .i64 k) rfl (by kernel_rfl) (by kernel_rfl) (by kernel_rfl) (fun _ _ _ h => h) (Or.inl ⟨by rfl, ?_⟩) (by assumption) ?_
      · intro w hSw; go_simp
      try simp only [Act.put, List.setIfInBounds_toArray, List.set_cons_zero, List.set_cons_succ, List.getElem_toArray, List.getElem_cons_zero, List.getElem_cons_succ]
      refine wpAnyH_take (i := 3) (v := .int .i64 s) rfl (by kernel_rfl) (by kernel_rfl) (by kernel_rfl) (fun _ _ _ h => h) (Or.inl ⟨by rfl, ?_⟩) (by assumption) ?_
      · intro w hSw; go_simp
      try simp only [Act.put, List.setIfInBounds_toArray, List.set_cons_zero, List.set_cons_succ, List.getElem_toArray, List.getElem_cons_zero, List.getElem_cons_succ]
      refine wpAnyH_ready (rs := [4]) (by kernel_rfl) (by simp) ?_
      refine AllReadyH.cons rfl (fun K hK => ?_) AllReadyH.nil
      go_simp
      go_wp2_with (go_at_call 7; refine (plcSide_spec _ _ _ _ _).mono ?_; rintro e w3 ⟨rfl, hbw3⟩)
      refine hK.out _ _ (keepS (by assumption) hbw3) (fun hHeld => ?_)
      clear hK K
      try simp only [Act.put, List.setIfInBounds_toArray, List.set_cons_zero, List.set_cons_succ, List.getElem_toArray, List.getElem_cons_zero, List.getElem_cons_succ]
      refine wpAnyH_take (i := 5) (v := .bool false) rfl (by kernel_rfl) (by kernel_rfl) (by kernel_rfl) (fun _ _ _ h => h) (Or.inl ⟨by rfl, ?_⟩) (by assumption) ?_
      · intro w hSw; go_simp
      try simp only [Act.put, List.setIfInBounds_toArray, List.set_cons_zero, List.set_cons_succ, List.getElem_toArray, List.getElem_cons_zero, List.getElem_cons_succ]
      refine wpAnyH_take (i := 6) (v := .bool false) rfl (by kernel_rfl) (by kernel_rfl) (by kernel_rfl) (fun _ _ _ h => h) (Or.inl ⟨by rfl, ?_⟩) (by assumption) ?_
      · intro w hSw; go_simp
      try simp only [Act.put, List.setIfInBounds_toArray, List.set_cons_zero, List.set_cons_succ, List.getElem_toArray, List.getElem_cons_zero, List.getElem_cons_succ]
      refine wpAnyH_take (i := 7) (v := .agg #[.int .i64 c, .int .i64 d]) rfl (by kernel_rfl) (by kernel_rfl) (by kernel_rfl) (fun _ _ _ h => h) (Or.inl ⟨by rfl, ?_⟩) (by assumption) ?_
      · intro w hSw; go_simp
      try simp only [Act.put, List.setIfInBounds_toArray, List.set_cons_zero, List.set_cons_succ, List.getElem_toArray, List.getElem_cons_zero, List.getElem_cons_succ]
      refine wpAnyH_take (i := 9) (v := .agg #[.int .i64 c, .int .i64 d]) rfl (by kernel_rfl) (by kernel_rfl) (by kernel_rfl) (fun _ _ _ h => h) (Or.inl ⟨by rfl, ?_⟩) (by assumption) ?_
      · intro w hSw; go_simp
      try simp only [Act.put, List.setIfInBounds_toArray, List.set_cons_zero, List.set_cons_succ, List.getElem_toArray, List.getElem_cons_zero, List.getElem_cons_succ]
      refine wpAnyH_ready (rs := [8]) (by kernel_rfl) (by simp) ?_
      refine AllReadyH.cons rfl (fun K hK => ?_) AllReadyH.nil
      go_simp
      go_wp2_with (go_at_call 8; refine (ok_impl _ _ _).mono ?_; rintro e w4 ⟨rfl, hbw4⟩)
      refine hK.out _ _ (keepS (by assumption) hbw4) (fun hHeld => ?_)
      clear hK K
      try simp only [Act.put, List.setIfInBounds_toArray, List.set_cons_zero, List.set_cons_succ, List.getElem_toArray, List.getElem_cons_zero, List.getElem_cons_succ]
      refine wpAnyH_ready (rs := [10]) (by kernel_rfl) (by simp) ?_
      refine AllReadyH.cons rfl (fun K hK => ?_) AllReadyH.nil
      go_simp
      go_wp2_with (go_at_call 9; refine (ok_spec _ _ _).mono ?_; rintro e w5 ⟨rfl, hbw5⟩)
      refine hK.out _ _ (keepS (by assumption) hbw5) (fun hHeld => ?_)
      clear hK K
      try simp only [Act.put, List.setIfInBounds_toArray, List.set_cons_zero, List.set_cons_succ, List.getElem_toArray, List.getElem_cons_zero, List.getElem_cons_succ]
      refine wpAnyH_take (i := 11) (v := .bool false) rfl (by kernel_rfl) (by kernel_rfl) (by kernel_rfl) (fun _ _ _ h => h) (Or.inl ⟨by rfl, ?_⟩) (by assumption) ?_
      · intro w hSw; go_simp
      try simp only [Act.put, List.setIfInBounds_toArray, List.set_cons_zero, List.set_cons_succ, List.getElem_toArray, List.getElem_cons_zero, List.getElem_cons_succ]
      refine wpAnyH_take (i := 12) (v := .bool false) rfl (by kernel_rfl) (by kernel_rfl) (by kernel_rfl) (fun _ _ _ h => h) (Or.inl ⟨by rfl, ?_⟩) (by assumption) ?_
      · intro w hSw; go_simp
      try simp only [Act.put, List.setIfInBounds_toArray, List.set_cons_zero, List.set_cons_succ, List.getElem_toArray, List.getElem_cons_zero, List.getElem_cons_succ]
      refine wpAnyH_take (i := 13) (v := .bool false) rfl (by kernel_rfl) (by kernel_rfl) (by kernel_rfl) (fun _ _ _ h => h) (Or.inl ⟨by rfl, ?_⟩) (by assumption) ?_
      · intro w hSw; go_simp
      try simp only [Act.put, List.setIfInBounds_toArray, List.set_cons_zero, List.set_cons_succ, List.getElem_toArray, List.getElem_cons_zero, List.getElem_cons_succ]
      refine wpAnyH_take (i := 14) (v := .int .i64 (sideF c d k s)) rfl (by kernel_rfl) (by kernel_rfl) (by kernel_rfl) (fun _ _ _ h => h) (Or.inl ⟨by rfl, ?_⟩) (by assumption) ?_
      · intro w hSw; go_simp
      try simp only [Act.put, List.setIfInBounds_toArray, List.set_cons_zero, List.set_cons_succ, List.getElem_toArray, List.getElem_cons_zero, List.getElem_cons_succ]
      refine wpAnyH_take (i := 15) (v := .bool true) rfl (by kernel_rfl) (by kernel_rfl) (by kernel_rfl) (fun _ _ _ h => h) (Or.inl ⟨by rfl, ?_⟩) (by assumption) ?_
      · intro w hSw; go_simp
      try simp only [Act.put, List.setIfInBounds_toArray, List.set_cons_zero, List.set_cons_succ, List.getElem_toArray, List.getElem_cons_zero, List.getElem_cons_succ]
      refine wpAnyH_take (i := 16) (v := .bool true) rfl (by kernel_rfl) (by kernel_rfl) (by kernel_rfl) (fun _ _ _ h => h) (Or.inl ⟨by rfl, ?_⟩) (by assumption) ?_
      · intro w hSw; go_simp
      try simp only [Act.put, List.setIfInBounds_toArray, List.set_cons_zero, List.set_cons_succ, List.getElem_toArray, List.getElem_cons_zero, List.getElem_cons_succ]
      refine wpAnyH_take (i := 17) (v := .agg #[.int .i64 c, .int .i64 d]) rfl (by kernel_rfl) (by kernel_rfl) (by kernel_rfl) (fun _ _ _ h => h) (Or.inl ⟨by rfl, ?_⟩) (by assumption) ?_
      · intro w hSw; go_simp
      try simp only [Act.put, List.setIfInBounds_toArray, List.set_cons_zero, List.set_cons_succ, List.getElem_toArray, List.getElem_cons_zero, List.getElem_cons_succ]
      refine wpAnyH_take (i := 18) (v := .int .i64 (sideF c d k s)) rfl (by kernel_rfl) (by kernel_rfl) (by kernel_rfl) (fun _ _ _ h => h) (Or.inl ⟨by rfl, ?_⟩) (by assumption) ?_
      · intro w hSw; go_simp
      try simp only [Act.put, List.setIfInBounds_toArray, List.set_cons_zero, List.set_cons_succ, List.getElem_toArray, List.getElem_cons_zero, List.getElem_cons_succ]
      refine wpAnyH_take (i := 19) (v := .int .i64 s) rfl (by kernel_rfl) (by kernel_rfl) (by kernel_rfl) (fun _ _ _ h => h) (Or.inl ⟨by rfl, ?_⟩) (by assumption) ?_
      · intro w hSw; go_simp
      try simp only [Act.put, List.setIfInBounds_toArray, List.set_cons_zero, List.set_cons_succ, List.getElem_toArray, List.getElem_cons_zero, List.getElem_cons_succ]
      refine wpAnyH_take (i := 20) (v := .int .i64 (1 - s)) rfl (by kernel_rfl) (by kernel_rfl) (by kernel_rfl) (fun _ _ _ h => h) (Or.inl ⟨by rfl, ?_⟩) (by assumption) ?_
      · intro w hSw; go_simp
      try simp only [Act.put, List.setIfInBounds_toArray, List.set_cons_zero, List.set_cons_succ, List.getElem_toArray, List.getElem_cons_zero, List.getElem_cons_succ]
      refine wpAnyH_take (i := 22) (v := .int .i64 k) rfl (by kernel_rfl) (by kernel_rfl) (by kernel_rfl) (fun _ _ _ h => h) (Or.inl ⟨by rfl, ?_⟩) (by assumption) ?_
      · intro w hSw; go_simp
      try simp only [Act.put, List.setIfInBounds_toArray, List.set_cons_zero, List.set_cons_succ, List.getElem_toArray, List.getElem_cons_zero, List.getElem_cons_succ]
      refine wpAnyH_ready (rs := [21]) (by kernel_rfl) (by simp) ?_
      refine AllReadyH.cons rfl (fun K hK => ?_) AllReadyH.nil
      go_simp
      go_wp2_with (go_at_call 6; refine (plcSide_impl _ _ _ _ _).mono ?_; rintro e w5b ⟨rfl, hbw5b⟩)
      refine hK.out _ _ (keepS (by assumption) hbw5b) (fun hHeld => ?_)
      clear hK K
      try simp only [Act.put, List.setIfInBounds_toArray, List.set_cons_zero, List.set_cons_succ, List.getElem_toArray, List.getElem_cons_zero, List.getElem_cons_succ]
      refine wpAnyH_take (i := 23) (v := .bool false) rfl (by kernel_rfl) (by kernel_rfl) (by kernel_rfl) (fun _ _ _ h => h) (Or.inl ⟨by rfl, ?_⟩) (by assumption) ?_
      · intro w hSw; go_simp
      try simp only [Act.put, List.setIfInBounds_toArray, List.set_cons_zero, List.set_cons_succ, List.getElem_toArray, List.getElem_cons_zero, List.getElem_cons_succ]
      refine wpAnyH_take (i := 24) (v := .bool false) rfl (by kernel_rfl) (by kernel_rfl) (by kernel_rfl) (fun _ _ _ h => h) (Or.inl ⟨by rfl, ?_⟩) (by assumption) ?_
      · intro w hSw; go_simp
      try simp only [Act.put, List.setIfInBounds_toArray, List.set_cons_zero, List.set_cons_succ, List.getElem_toArray, List.getElem_cons_zero, List.getElem_cons_succ]
      refine wpAnyH_take (i := 25) (v := .bool false) rfl (by kernel_rfl) (by kernel_rfl) (by kernel_rfl) (fun _ _ _ h => h) (Or.inl ⟨by rfl, ?_⟩) (by assumption) ?_
      · intro w hSw; go_simp
      try simp only [Act.put, List.setIfInBounds_toArray, List.set_cons_zero, List.set_cons_succ, List.getElem_toArray, List.getElem_cons_zero, List.getElem_cons_succ]
      refine wpAnyH_done (by kernel_rfl) ?_ _
      go_wp2_with fail
      refine (ok_spec _ _ _).mono ?_
      rintro e w6 ⟨rfl, hb6⟩
      have HS6 : ((∀ b o, b < w1.heap.size + 1 → w6.cell? ⟨b, o, none⟩ = (w1.alloc (.cells #[.int .i64 c, .int .i64 d] 24)).cell? ⟨b, o, none⟩) ∧ w1.heap.size + 1 ≤ w6.heap.size) := keepS (by assumption) hb6
      have B6 : Below w.heap.size w w6 := by repeat (first | exact B2 | refine bthen ?_ (by assumption) | apply Below.drew)
      clear hb6 HS B2
      rcases Bool.eq_false_or_eq_true (okB c d) with ho | ho
      · obtain ⟨a1, a2, a3, a4⟩ := okB_bounds ho
        obtain ⟨m1, m2⟩ := mul_bounds ho
        go_wp2
        go_loopw [7, 8] (fun n i wr => ∃ x : Int, -1 ≤ x ∧ x ≤ c * d + 1 ∧ n = .int .i64 (cnt d x) ∧ i = .int .i64 x ∧ ((∀ b o, b < w1.heap.size + 1 → wr.cell? ⟨b, o, none⟩ = (w1.alloc (.cells #[.int .i64 c, .int .i64 d] 24)).cell? ⟨b, o, none⟩) ∧ w1.heap.size + 1 ≤ wr.heap.size) ∧ Below w.heap.size w wr)
          (fun _ i _ => (c * d + 1 - intOf i).toNat)
        case atStart => exact ⟨-1, by omega, by omega, rfl, rfl, HS6, B6⟩
        case round =>
          obtain ⟨x, x0, x1, rfl, rfl, HR, BR⟩ := hrel
          have n0 := (cnt_bd (x := x) a3).1
          have n1 := (cnt_bd (x := x) a3).2
          clear HS6 B6
          by_cases hx : x ≤ c * d
          · by_cases h0 : cellF c d x = 0
            · have e0 : (cellF c d x == 0) = true := by simp [h0]
              have H0 : Hid (cellF c d x = 0) := h0
              clear h0
              go_wp2_with fail
              refine (plcCell_impl _ _ _ _).mono ?_
              rintro e wa ⟨rfl, ha⟩
              have HA := keepS HR ha
              go_wp2_with fail
              refine (cell_spec _ _ _ _).mono ?_
              rintro e wb ⟨rfl, hbb⟩
              have HB := keepS HA hbb
              clear HA
              go_wp2
              go_roundw
              case rel => exact ⟨x + 1, by omega, by omega, (by rw [cnt_hit ho H0.out]), rfl, HB, bthen (bthen BR ha) hbb⟩
              case measure => simp [intOf]; omega
            · have e0 : (cellF c d x == 0) = false := by simpa using h0
              have H0 : Hid (¬ cellF c d x = 0) := h0
              clear h0
              go_wp2_with fail
              refine (plcCell_impl _ _ _ _).mono ?_
              rintro e wa ⟨rfl, ha⟩
              have HA := keepS HR ha
              go_wp2_with fail
              refine (cell_spec _ _ _ _).mono ?_
              rintro e wb ⟨rfl, hbb⟩
              have HB := keepS HA hbb
              clear HA
              go_wp2
              go_roundw
              case rel => exact ⟨x + 1, by omega, by omega, (by rw [cnt_miss ho (by omega) (by omega) H0.out]), rfl, HB, bthen (bthen BR ha) hbb⟩
              case measure => simp [intOf]; omega
          · have hc : (cnt d x == d) = true := by
              have : x = c * d + 1 := by omega
              rw [this, cnt_end ho]; simp
            go_wp2
            go_ret
            exact ⟨rfl, BR⟩
      · have hq : Hid (sideF c d k s = -1) := by show sideF c d k s = -1; simp [sideF, hasB, ho]
        have hq' : (sideF c d k s == -1) = true := by rw [hq.out]; rfl
        go_wp2_with (go_at_call 10; refine (ma_ok _).mono ?_; rintro e w7 ⟨rfl, hb7⟩)
        go_ret
        exact ⟨rfl, bthen B6 hb7⟩
end Go.Proofs.Yteapgcaimcjjpaa
