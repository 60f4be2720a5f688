/- Two lists of the same holds are the same; conditions: the holds lie in memory. -/
import Derived.Test.YtlbjgecjonegkaaHL2
namespace Go.Proofs.Ytlbjgecjonegkaa
open Go.RowKit Go.Deep
set_option linter.unusedVariables false
theorem Below.drewB {w : World} : Below w.heap.size w w.drew := (Below.refl _ _).drew
set_option maxHeartbeats 4000000 in
theorem eqHolds (a1 : Option Addr) (cap1 : Nat) (a2 : Option Addr) (cap2 n : Nat) (F : Nat → HV) (hn : n ≤ 2000000) (hS : ∀ k, k < n → (F k).V.short 2000000) (w : World) (h1 : HRow w a1 n F) (h2 : HRow w a2 n F) :
    Calls Try.prog 27 #[.slice a1 n cap1, .slice a2 n cap2] w fun e w' => e = .returned (.bool true) ∧ Below w.heap.size w w' := by
  have H1 : Hid (HRow w a1 n F) := h1
  have H2 : Hid (HRow w a2 n F) := h2
  have HS : Hid (∀ k, k < n → (F k).V.short 2000000) := hS
  clear h1 h2 hS
  go_enter Try.func27, Try.ntmps27
  go_wp2
  go_loopw [5] (fun i wr => ∃ k : Nat, k ≤ n ∧ i = .int .i64 k ∧ Below w.heap.size w wr) (fun i _ => n - (intOf i).toNat)
  case atStart => exact ⟨0, Nat.zero_le _, rfl, Below.refl _ _⟩
  case round =>
    obtain ⟨k, hk, rfl, BR⟩ := hrel
    by_cases hkn : k < n
    · have hkn' : (k : Int) < n := by omega
      obtain ⟨b1, o1, rfl, hb1, hr1⟩ : ∃ b o, a1 = some ⟨b, o, none⟩ ∧ b < w.heap.size ∧ ∀ k, k < n → HSpot w b (o + k * 8) (F k) := by
        rcases H1.out with h | h
        · omega
        · exact h
      obtain ⟨b2, o2, rfl, hb2, hr2⟩ : ∃ b o, a2 = some ⟨b, o, none⟩ ∧ b < w.heap.size ∧ ∀ k, k < n → HSpot w b (o + k * 8) (F k) := by
        rcases H2.out with h | h
        · omega
        · exact h
      obtain ⟨pW, pkW, pO, pkO, pX, pkX, pI, pkI, ⟨c0, c1, c2, c3, c4, c5, c6, c7⟩, r1, r2, r3, r4⟩ := (hr1 k hkn).below hb1 BR
      have HO1 : Hid (HoldAt wr (.agg #[.int .i64 (F k).ag, .int .i64 (F k).ct, .int .i64 (F k).V.c, .slice pW (F k).V.nW pkW, .int .i64 (F k).V.g, .slice pO (F k).V.nO pkO, .slice pX (F k).V.nX pkX, .slice pI (F k).V.nI pkI]) (F k).ag (F k).ct (F k).V) := ⟨pW, pkW, pO, pkO, pX, pkX, pI, pkI, rfl, r1, r2, r3, r4⟩
      clear r1 r2 r3 r4 hr1
      obtain ⟨qW, qkW, qO, qkO, qX, qkX, qI, qkI, ⟨d0, d1, d2, d3, d4, d5, d6, d7⟩, r1, r2, r3, r4⟩ := (hr2 k hkn).below hb2 BR
      have HO2 : Hid (HoldAt wr (.agg #[.int .i64 (F k).ag, .int .i64 (F k).ct, .int .i64 (F k).V.c, .slice qW (F k).V.nW qkW, .int .i64 (F k).V.g, .slice qO (F k).V.nO qkO, .slice qX (F k).V.nX qkX, .slice qI (F k).V.nI qkI]) (F k).ag (F k).ct (F k).V) := ⟨qW, qkW, qO, qkO, qX, qkX, qI, qkI, rfl, r1, r2, r3, r4⟩
      clear r1 r2 r3 r4 hr2
      have l1 : b1 < wr.heap.size := Nat.lt_of_lt_of_le hb1 BR.size
      have l2 : b2 < wr.heap.size := Nat.lt_of_lt_of_le hb2 BR.size
      have B0 : Hid (Below w.heap.size w wr) := BR
      clear BR
      go_wp2
      refine wp_region_held_drew (S := fun w' => (∀ b o, b < wr.heap.size → w'.cell? ⟨b, o, none⟩ = wr.cell? ⟨b, o, none⟩) ∧ wr.heap.size ≤ w'.heap.size) (by kernel_rfl) ⟨fun _ _ _ => rfl, Nat.le_refl _⟩ ?_
      intro hHeld
      refine wpAnyH_take (i := 0) (v := .slice (some ⟨b1, o1, none⟩) n cap1) rfl (by kernel_rfl) (by kernel_rfl) (by kernel_rfl) (fun _ _ _ h => h) (Or.inl ⟨by rfl, ?_⟩) (by assumption) ?_
      · intro wx hSw; go_simp
      try simp only [Act.put, List.setIfInBounds_toArray, List.set_cons_zero, List.set_cons_succ, List.getElem_toArray, List.getElem_cons_zero]
      refine wpAnyH_take (i := 1) (v := .int .i64 k) rfl (by kernel_rfl) (by kernel_rfl) (by kernel_rfl) (fun _ _ _ h => h) (Or.inl ⟨by rfl, ?_⟩) (by assumption) ?_
      · intro wx hSw; go_simp
      try simp only [Act.put, List.setIfInBounds_toArray, List.set_cons_zero, List.set_cons_succ, List.getElem_toArray, List.getElem_cons_zero, List.getElem_cons_succ]
      refine wpAnyH_take (i := 2) (v := .pointer (some ⟨b1, o1 + k * 8, none⟩)) rfl (by kernel_rfl) (by kernel_rfl) (by kernel_rfl) (fun _ _ _ h => h) (Or.inl ⟨by rfl, ?_⟩) (by assumption) ?_
      · intro wx hSw; go_simp
      try simp only [Act.put, List.setIfInBounds_toArray, List.set_cons_zero, List.set_cons_succ, List.getElem_toArray, List.getElem_cons_zero, List.getElem_cons_succ]
      refine wpAnyH_take (i := 3) (v := .agg #[.int .i64 (F k).ag, .int .i64 (F k).ct, .int .i64 (F k).V.c, .slice pW (F k).V.nW pkW, .int .i64 (F k).V.g, .slice pO (F k).V.nO pkO, .slice pX (F k).V.nX pkX, .slice pI (F k).V.nI pkI]) rfl (by kernel_rfl) (by kernel_rfl) (by kernel_rfl) (fun _ _ _ h => h) (Or.inl ⟨by rfl, ?_⟩) (by assumption) ?_
      · intro wx hSw; go_simp
      try simp only [Act.put, List.setIfInBounds_toArray, List.set_cons_zero, List.set_cons_succ, List.getElem_toArray, List.getElem_cons_zero, List.getElem_cons_succ]
      refine wpAnyH_take (i := 4) (v := .slice (some ⟨b2, o2, none⟩) n cap2) rfl (by kernel_rfl) (by kernel_rfl) (by kernel_rfl) (fun _ _ _ h => h) (Or.inl ⟨by rfl, ?_⟩) (by assumption) ?_
      · intro wx hSw; go_simp
      try simp only [Act.put, List.setIfInBounds_toArray, List.set_cons_zero, List.set_cons_succ, List.getElem_toArray, List.getElem_cons_zero, List.getElem_cons_succ]
      refine wpAnyH_take (i := 5) (v := .int .i64 k) rfl (by kernel_rfl) (by kernel_rfl) (by kernel_rfl) (fun _ _ _ h => h) (Or.inl ⟨by rfl, ?_⟩) (by assumption) ?_
      · intro wx hSw; go_simp
      try simp only [Act.put, List.setIfInBounds_toArray, List.set_cons_zero, List.set_cons_succ, List.getElem_toArray, List.getElem_cons_zero, List.getElem_cons_succ]
      refine wpAnyH_take (i := 6) (v := .pointer (some ⟨b2, o2 + k * 8, none⟩)) rfl (by kernel_rfl) (by kernel_rfl) (by kernel_rfl) (fun _ _ _ h => h) (Or.inl ⟨by rfl, ?_⟩) (by assumption) ?_
      · intro wx hSw; go_simp
      try simp only [Act.put, List.setIfInBounds_toArray, List.set_cons_zero, List.set_cons_succ, List.getElem_toArray, List.getElem_cons_zero, List.getElem_cons_succ]
      refine wpAnyH_take (i := 7) (v := .agg #[.int .i64 (F k).ag, .int .i64 (F k).ct, .int .i64 (F k).V.c, .slice qW (F k).V.nW qkW, .int .i64 (F k).V.g, .slice qO (F k).V.nO qkO, .slice qX (F k).V.nX qkX, .slice qI (F k).V.nI qkI]) rfl (by kernel_rfl) (by kernel_rfl) (by kernel_rfl) (fun _ _ _ h => h) (Or.inl ⟨by rfl, ?_⟩) (by assumption) ?_
      · intro wx hSw; go_simp
      try simp only [Act.put, List.setIfInBounds_toArray, List.set_cons_zero, List.set_cons_succ, List.getElem_toArray, List.getElem_cons_zero, List.getElem_cons_succ]
      refine wpAnyH_ready (rs := [8]) (by kernel_rfl) (by simp) ?_
      refine AllReadyH.cons rfl (fun K hK => ?_) AllReadyH.nil
      go_simp
      go_wp2_with fail
      refine (eqHold _ _ (F k).ag (F k).ct (F k).V (HS.out k hkn) _ (HO1.out.below Below.drewB) (HO2.out.below Below.drewB)).mono ?_
      rintro e y1 ⟨rfl, hy1⟩
      refine hK.out _ _ (keepS (by assumption) hy1) (fun hNew => ?_)
      clear hK K hHeld
      have hHeld := hNew
      clear hNew
      try simp only [Act.put, List.setIfInBounds_toArray, List.set_cons_zero, List.set_cons_succ, List.getElem_toArray, List.getElem_cons_zero, List.getElem_cons_succ]
      refine wpAnyH_take (i := 9) (v := .bool false) rfl (by kernel_rfl) (by kernel_rfl) (by kernel_rfl) (fun _ _ _ h => h) (Or.inl ⟨by rfl, ?_⟩) (by assumption) ?_
      · intro wx hSw; go_simp
      try simp only [Act.put, List.setIfInBounds_toArray, List.set_cons_zero, List.set_cons_succ, List.getElem_toArray, List.getElem_cons_zero, List.getElem_cons_succ]
      refine wpAnyH_done (by kernel_rfl) ?_ _
      clear hHeld
      have hbz : Below wr.heap.size wr y1 := bthen Below.drewB hy1
      have B1 : Hid (Below w.heap.size w y1) := bthen B0.out hbz
      clear hbz hy1 B0 c0 c1 c2 c3 c4 c5 c6 c7 d0 d1 d2 d3 d4 d5 d6 d7 l1 l2 HO1 HO2
      go_wp2
      go_roundw
      case rel => exact ⟨k + 1, by omega, by go_num, B1.out⟩
      case measure => simp [intOf]; omega
    · have : k = n := by omega
      subst this
      go_wp2
      go_ret
      exact ⟨rfl, BR⟩
end Go.Proofs.Ytlbjgecjonegkaa
