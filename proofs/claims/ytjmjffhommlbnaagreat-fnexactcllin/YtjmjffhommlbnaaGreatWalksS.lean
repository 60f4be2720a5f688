/- The walks of the sides of a cell, the program's and the model's; conditions: none. -/
import Derived.Test.YtjmjffhommlbnaaGreatCTo
import Derived.Test.YtjmjffhommlbnaaGreatWalksD
namespace Go.Proofs.YtjmjffhommlbnaaGreat.P8
open Go.RowKit Go.Deep
set_option linter.unusedVariables false

def goodP (c d next : Int) (n : Nat) (Z : Nat → Nat → Int) (k : Nat) : Bool := pclB c d (Z k 0) (Z k 1) (Z k 2) (Z k 3) (Z k 4) (Z k 5) (Z k 6) (Z k 7) && (Z k 0 == next - n + k)
def allP (c d next : Int) (n : Nat) (Z : Nat → Nat → Int) : Nat → Bool
  | 0 => true
  | k + 1 => allP c d next n Z k && goodP c d next n Z k
def listP (c d next : Int) (n : Nat) (Z : Nat → Nat → Int) : Bool := okB c d && (inB next 0 5000 && (decide ((n : Int) ≤ next) && allP c d next n Z n))

theorem allP_step {c d next : Int} {n : Nat} {Z : Nat → Nat → Int} {k : Nat} (h : allP c d next n Z k = true) (g : goodP c d next n Z k = true) : allP c d next n Z (k + 1) = true := by simp [allP, h, g]
theorem allP_down {c d next : Int} {m : Nat} {Z : Nat → Nat → Int} {k : Nat} : ∀ n, k ≤ n → allP c d next m Z n = true → allP c d next m Z k = true
  | 0, h, e => by have : k = 0 := by omega
                  subst this; exact e
  | n + 1, h, e => by
    by_cases hk : k = n + 1
    · subst hk; exact e
    · simp only [allP, Bool.and_eq_true] at e
      exact allP_down n (by omega) e.1
theorem allP_stop {c d next : Int} {m : Nat} {Z : Nat → Nat → Int} {k n : Nat} (hk : k < n) (g : goodP c d next m Z k = false) : allP c d next m Z n = false := by
  match e : allP c d next m Z n with
  | false => rfl
  | true =>
    have := allP_down n (show k + 1 ≤ n by omega) e
    simp [allP, g] at this

set_option maxHeartbeats 8000000 in
set_option maxRecDepth 20000 in
theorem plist_spec (c d next : Int) (b o n cap : Nat) (Z : Nat → Nat → Int) (hn : n ≤ 1048576) (w : World) (hb : b < w.heap.size)
    (hr : ∀ k j, k < n → j < 8 → w.cell? ⟨b, o + k * 8 + j, none⟩ = some (.int .i64 (Z k j))) :
    Calls Tryz.prog 63 #[.agg #[.int .i64 c, .int .i64 d], .slice (some ⟨b, o, none⟩) n cap, .int .i64 next] w fun e w' => e = .returned (.bool (listP c d next n Z)) ∧ Below w.heap.size w w' := by
  have HR : Hid (∀ k j, k < n → j < 8 → w.cell? ⟨b, o + k * 8 + j, none⟩ = some (.int .i64 (Z k j))) := hr
  clear hr
  cases h1 : okB c d
  · go_enter Tryz.func63, Tryz.ntmps63
    go_wp2_with (go_at_call 40; refine (ok_spec _ _ _).mono ?_; rintro e w1 ⟨rfl, hb1⟩; rw [h1])
    go_ret
    exact ⟨by simp [listP, h1], bthen ((Below.refl _ _).alloc (by simp) _) hb1⟩
  cases h2 : inB next 0 5000
  · go_enter Tryz.func63, Tryz.ntmps63
    go_wp2_with (first | (go_at_call 40; refine (ok_spec _ _ _).mono ?_; rintro e w1 ⟨rfl, hb1⟩; rw [h1]) | (go_at_call 41; refine (in_spec _ _ _ _).mono ?_; rintro e w1 ⟨rfl, rfl⟩; rw [h2]))
    go_ret
    exact ⟨by simp [listP, h2], bthen ((Below.refl _ _).alloc (by simp) _) hb1⟩
  have hnx : 0 ≤ next ∧ next ≤ 5000 := by simpa [inB] using h2
  by_cases h3 : ¬ (n : Int) ≤ next
  · have h3' : next < (n : Int) := by omega
    have HL : Hid (listP c d next n Z = false) := by show listP c d next n Z = false; simp [listP, h3]
    clear h3
    go_enter Tryz.func63, Tryz.ntmps63
    go_wp2_with (first | (go_at_call 40; refine (ok_spec _ _ _).mono ?_; rintro e w1 ⟨rfl, hb1⟩; rw [h1]) | (go_at_call 41; refine (in_spec _ _ _ _).mono ?_; rintro e w1 ⟨rfl, rfl⟩; rw [h2]))
    go_ret
    exact ⟨by rw [HL.out]; rfl, bthen ((Below.refl _ _).alloc (by simp) _) hb1⟩
  have h3' : (n : Int) ≤ next := by omega
  have m1 : IntKind.wrap .i64 (next - (n : Int)) = next - (n : Int) := by simp [IntKind.wrap, IntKind.bits, IntKind.signed]; omega
  have m2 : ∀ k : Nat, k < n → IntKind.wrap .i64 (next - (n : Int) + (k : Int)) = next - (n : Int) + (k : Int) := by intro k hk; simp [IntKind.wrap, IntKind.bits, IntKind.signed]; omega
  have HL : Hid (listP c d next n Z = allP c d next n Z n) := by show listP c d next n Z = _; simp [listP, h1, h2, h3']
  clear h3
  go_enter Tryz.func63, Tryz.ntmps63
  go_wp2_with (first | (go_at_call 40; refine (ok_spec _ _ _).mono ?_; rintro e w1 ⟨rfl, hb1⟩; rw [h1]) | (go_at_call 41; refine (in_spec _ _ _ _).mono ?_; rintro e w1 ⟨rfl, rfl⟩; rw [h2]))
  have HS1 : (∀ b o, b < w.heap.size + 1 → w1.cell? ⟨b, o, none⟩ = (w.alloc (.cells #[.int .i64 c, .int .i64 d] 40)).cell? ⟨b, o, none⟩) ∧ w.heap.size + 1 ≤ w1.heap.size := keepS ⟨fun _ _ _ => rfl, by simp⟩ hb1
  have B1 : Below w.heap.size w w1 := bthen ((Below.refl _ _).alloc (by simp) _) hb1
  clear hb1
  go_loopw [7] (fun i wr => ∃ k : Nat, k ≤ n ∧ i = .int .i64 k ∧ allP c d next n Z k = true ∧ ((∀ b o, b < w.heap.size + 1 → wr.cell? ⟨b, o, none⟩ = (w.alloc (.cells #[.int .i64 c, .int .i64 d] 40)).cell? ⟨b, o, none⟩) ∧ w.heap.size + 1 ≤ wr.heap.size) ∧ Below w.heap.size w wr) (fun i _ => n - (intOf i).toNat)
  case atStart => exact ⟨0, Nat.zero_le _, rfl, rfl, HS1, B1⟩
  case round =>
    clear HS1 B1
    obtain ⟨k, hk, rfl, hall, HS, BR⟩ := hrel
    by_cases hkn : k < n
    · have hkn' : (k : Int) < (n : Int) := by omega
      have c0 : w.cell? ⟨b, o + k * 8, none⟩ = some (.int .i64 (Z k 0)) := HR.out k 0 hkn (by omega)
      have c1 : w.cell? ⟨b, o + k * 8 + 1, none⟩ = some (.int .i64 (Z k 1)) := HR.out k 1 hkn (by omega)
      have c2 : w.cell? ⟨b, o + k * 8 + 2, none⟩ = some (.int .i64 (Z k 2)) := HR.out k 2 hkn (by omega)
      have c3 : w.cell? ⟨b, o + k * 8 + 3, none⟩ = some (.int .i64 (Z k 3)) := HR.out k 3 hkn (by omega)
      have c4 : w.cell? ⟨b, o + k * 8 + 4, none⟩ = some (.int .i64 (Z k 4)) := HR.out k 4 hkn (by omega)
      have c5 : w.cell? ⟨b, o + k * 8 + 5, none⟩ = some (.int .i64 (Z k 5)) := HR.out k 5 hkn (by omega)
      have c6 : w.cell? ⟨b, o + k * 8 + 6, none⟩ = some (.int .i64 (Z k 6)) := HR.out k 6 hkn (by omega)
      have c7 : w.cell? ⟨b, o + k * 8 + 7, none⟩ = some (.int .i64 (Z k 7)) := HR.out k 7 hkn (by omega)
      have hb1 : b < w.heap.size + 1 := by omega
      have HALL : Hid (allP c d next n Z k = true) := hall
      clear hall
      have m3 := m2 k hkn
      cases hok : pclB c d (Z k 0) (Z k 1) (Z k 2) (Z k 3) (Z k 4) (Z k 5) (Z k 6) (Z k 7)
      · have EG : Hid (goodP c d next n Z k = false) := by show goodP c d next n Z k = _; simp [goodP, hok]
        go_wp2
        refine wp_region_held_drew (S := fun w' => (∀ b o, b < w.heap.size + 1 → w'.cell? ⟨b, o, none⟩ = (w.alloc (.cells #[.int .i64 c, .int .i64 d] 40)).cell? ⟨b, o, none⟩) ∧ w.heap.size + 1 ≤ w'.heap.size) (by kernel_rfl) HS ?_
        intro hHeld
        refine wpAnyH_take (i := 0) (v := .agg #[.int .i64 c, .int .i64 d]) rfl (by kernel_rfl) (by kernel_rfl) (by kernel_rfl) (fun _ _ _ h => h) (Or.inl ⟨by rfl, ?_⟩) (by assumption) ?_
        · intro wx hSw; go_simp
        try simp only [Act.put, List.setIfInBounds_toArray, List.set_cons_zero, List.set_cons_succ, List.getElem_toArray, List.getElem_cons_zero]
        refine wpAnyH_take (i := 1) (v := .slice (some ⟨b, o, none⟩) n cap) rfl (by kernel_rfl) (by kernel_rfl) (by kernel_rfl) (fun _ _ _ h => h) (Or.inl ⟨by rfl, ?_⟩) (by assumption) ?_
        · intro wx hSw; go_simp
        try simp only [Act.put, List.setIfInBounds_toArray, List.set_cons_zero, List.set_cons_succ, List.getElem_toArray, List.getElem_cons_zero, List.getElem_cons_succ]
        refine wpAnyH_take (i := 2) (v := .int .i64 (k : Int)) rfl (by kernel_rfl) (by kernel_rfl) (by kernel_rfl) (fun _ _ _ h => h) (Or.inl ⟨by rfl, ?_⟩) (by assumption) ?_
        · intro wx hSw; go_simp
        try simp only [Act.put, List.setIfInBounds_toArray, List.set_cons_zero, List.set_cons_succ, List.getElem_toArray, List.getElem_cons_zero, List.getElem_cons_succ]
        refine wpAnyH_take (i := 3) (v := .pointer (some ⟨b, o + k * 8, none⟩)) rfl (by kernel_rfl) (by kernel_rfl) (by kernel_rfl) (fun _ _ _ h => h) (Or.inl ⟨by rfl, ?_⟩) (by assumption) ?_
        · intro wx hSw; go_simp
        try simp only [Act.put, List.setIfInBounds_toArray, List.set_cons_zero, List.set_cons_succ, List.getElem_toArray, List.getElem_cons_zero, List.getElem_cons_succ]
        refine wpAnyH_take (i := 4) (v := .agg #[.int .i64 (Z k 0), .int .i64 (Z k 1), .int .i64 (Z k 2), .int .i64 (Z k 3), .int .i64 (Z k 4), .int .i64 (Z k 5), .int .i64 (Z k 6), .int .i64 (Z k 7)]) rfl (by kernel_rfl) (by kernel_rfl) (by kernel_rfl) (fun _ _ _ h => h) (Or.inl ⟨by rfl, ?_⟩) (by assumption) ?_
        · intro wx hSw; go_simp
        try simp only [Act.put, List.setIfInBounds_toArray, List.set_cons_zero, List.set_cons_succ, List.getElem_toArray, List.getElem_cons_zero, List.getElem_cons_succ]
        refine wpAnyH_ready (rs := [5]) (by kernel_rfl) (by simp) ?_
        refine AllReadyH.cons rfl (fun K hK => ?_) AllReadyH.nil
        go_simp
        go_wp2_with (go_at_call 17; refine (pclOk_spec _ _ _ _ _ _ _ _ _ _ _).mono ?_; rintro e w2 ⟨rfl, hbw2⟩)
        refine hK.out _ _ (keepS (by assumption) hbw2) (fun hHeld => ?_)
        clear hK K
        try simp only [Act.put, List.setIfInBounds_toArray, List.set_cons_zero, List.set_cons_succ, List.getElem_toArray, List.getElem_cons_zero, List.getElem_cons_succ]
        refine wpAnyH_take (i := 6) (v := .bool true) rfl (by kernel_rfl) (by kernel_rfl) (by kernel_rfl) (fun _ _ _ h => h) (Or.inl ⟨by rfl, ?_⟩) (by assumption) ?_
        · intro wx hSw; go_simp
        try simp only [Act.put, List.setIfInBounds_toArray, List.set_cons_zero, List.set_cons_succ, List.getElem_toArray, List.getElem_cons_zero, List.getElem_cons_succ]
        refine wpAnyH_take (i := 7) (v := .bool true) rfl (by kernel_rfl) (by kernel_rfl) (by kernel_rfl) (fun _ _ _ h => h) (Or.inl ⟨by rfl, ?_⟩) (by assumption) ?_
        · intro wx hSw; go_simp
        try simp only [Act.put, List.setIfInBounds_toArray, List.set_cons_zero, List.set_cons_succ, List.getElem_toArray, List.getElem_cons_zero, List.getElem_cons_succ]
        refine wpAnyH_take (i := 8) (v := undef) rfl (by kernel_rfl) (by kernel_rfl) (by kernel_rfl) (fun _ _ _ h => h) (Or.inr ⟨by rfl, rfl⟩) (by assumption) ?_
        try simp only [Act.put, List.setIfInBounds_toArray, List.set_cons_zero, List.set_cons_succ, List.getElem_toArray, List.getElem_cons_zero, List.getElem_cons_succ]
        refine wpAnyH_take (i := 9) (v := undef) rfl (by kernel_rfl) (by kernel_rfl) (by kernel_rfl) (fun _ _ _ h => h) (Or.inr ⟨by rfl, rfl⟩) (by assumption) ?_
        try simp only [Act.put, List.setIfInBounds_toArray, List.set_cons_zero, List.set_cons_succ, List.getElem_toArray, List.getElem_cons_zero, List.getElem_cons_succ]
        refine wpAnyH_take (i := 10) (v := undef) rfl (by kernel_rfl) (by kernel_rfl) (by kernel_rfl) (fun _ _ _ h => h) (Or.inr ⟨by rfl, rfl⟩) (by assumption) ?_
        try simp only [Act.put, List.setIfInBounds_toArray, List.set_cons_zero, List.set_cons_succ, List.getElem_toArray, List.getElem_cons_zero, List.getElem_cons_succ]
        refine wpAnyH_take (i := 11) (v := undef) rfl (by kernel_rfl) (by kernel_rfl) (by kernel_rfl) (fun _ _ _ h => h) (Or.inr ⟨by rfl, rfl⟩) (by assumption) ?_
        try simp only [Act.put, List.setIfInBounds_toArray, List.set_cons_zero, List.set_cons_succ, List.getElem_toArray, List.getElem_cons_zero, List.getElem_cons_succ]
        refine wpAnyH_take (i := 12) (v := undef) rfl (by kernel_rfl) (by kernel_rfl) (by kernel_rfl) (fun _ _ _ h => h) (Or.inr ⟨by rfl, rfl⟩) (by assumption) ?_
        try simp only [Act.put, List.setIfInBounds_toArray, List.set_cons_zero, List.set_cons_succ, List.getElem_toArray, List.getElem_cons_zero, List.getElem_cons_succ]
        refine wpAnyH_take (i := 13) (v := undef) rfl (by kernel_rfl) (by kernel_rfl) (by kernel_rfl) (fun _ _ _ h => h) (Or.inr ⟨by rfl, rfl⟩) (by assumption) ?_
        try simp only [Act.put, List.setIfInBounds_toArray, List.set_cons_zero, List.set_cons_succ, List.getElem_toArray, List.getElem_cons_zero, List.getElem_cons_succ]
        refine wpAnyH_take (i := 14) (v := undef) rfl (by kernel_rfl) (by kernel_rfl) (by kernel_rfl) (fun _ _ _ h => h) (Or.inr ⟨by rfl, rfl⟩) (by assumption) ?_
        try simp only [Act.put, List.setIfInBounds_toArray, List.set_cons_zero, List.set_cons_succ, List.getElem_toArray, List.getElem_cons_zero, List.getElem_cons_succ]
        refine wpAnyH_take (i := 15) (v := undef) rfl (by kernel_rfl) (by kernel_rfl) (by kernel_rfl) (fun _ _ _ h => h) (Or.inr ⟨by rfl, rfl⟩) (by assumption) ?_
        try simp only [Act.put, List.setIfInBounds_toArray, List.set_cons_zero, List.set_cons_succ, List.getElem_toArray, List.getElem_cons_zero, List.getElem_cons_succ]
        refine wpAnyH_take (i := 16) (v := undef) rfl (by kernel_rfl) (by kernel_rfl) (by kernel_rfl) (fun _ _ _ h => h) (Or.inr ⟨by rfl, rfl⟩) (by assumption) ?_
        try simp only [Act.put, List.setIfInBounds_toArray, List.set_cons_zero, List.set_cons_succ, List.getElem_toArray, List.getElem_cons_zero, List.getElem_cons_succ]
        refine wpAnyH_take (i := 17) (v := undef) rfl (by kernel_rfl) (by kernel_rfl) (by kernel_rfl) (fun _ _ _ h => h) (Or.inr ⟨by rfl, rfl⟩) (by assumption) ?_
        try simp only [Act.put, List.setIfInBounds_toArray, List.set_cons_zero, List.set_cons_succ, List.getElem_toArray, List.getElem_cons_zero, List.getElem_cons_succ]
        refine wpAnyH_take (i := 18) (v := undef) rfl (by kernel_rfl) (by kernel_rfl) (by kernel_rfl) (fun _ _ _ h => h) (Or.inr ⟨by rfl, rfl⟩) (by assumption) ?_
        try simp only [Act.put, List.setIfInBounds_toArray, List.set_cons_zero, List.set_cons_succ, List.getElem_toArray, List.getElem_cons_zero, List.getElem_cons_succ]
        refine wpAnyH_take (i := 19) (v := undef) rfl (by kernel_rfl) (by kernel_rfl) (by kernel_rfl) (fun _ _ _ h => h) (Or.inr ⟨by rfl, rfl⟩) (by assumption) ?_
        try simp only [Act.put, List.setIfInBounds_toArray, List.set_cons_zero, List.set_cons_succ, List.getElem_toArray, List.getElem_cons_zero, List.getElem_cons_succ]
        refine wpAnyH_take (i := 20) (v := .bool true) rfl (by kernel_rfl) (by kernel_rfl) (by kernel_rfl) (fun _ _ _ h => h) (Or.inl ⟨by rfl, ?_⟩) (by assumption) ?_
        · intro wx hSw; go_simp
        try simp only [Act.put, List.setIfInBounds_toArray, List.set_cons_zero, List.set_cons_succ, List.getElem_toArray, List.getElem_cons_zero, List.getElem_cons_succ]
        refine wpAnyH_done (by kernel_rfl) ?_ _
        go_wp2
        go_ret
        exact ⟨by rw [HL.out, allP_stop hkn EG.out]; rfl, by repeat (first | exact BR | refine bthen ?_ (by assumption) | apply Below.drew)⟩
      · cases hnum : (Z k 0 != next - n + k)
        · have EG : Hid (goodP c d next n Z k = true) := by show goodP c d next n Z k = _; simp [goodP, hok]; simpa using hnum
          go_wp2
          refine wp_region_held_drew (S := fun w' => (∀ b o, b < w.heap.size + 1 → w'.cell? ⟨b, o, none⟩ = (w.alloc (.cells #[.int .i64 c, .int .i64 d] 40)).cell? ⟨b, o, none⟩) ∧ w.heap.size + 1 ≤ w'.heap.size) (by kernel_rfl) HS ?_
          intro hHeld
          refine wpAnyH_take (i := 0) (v := .agg #[.int .i64 c, .int .i64 d]) rfl (by kernel_rfl) (by kernel_rfl) (by kernel_rfl) (fun _ _ _ h => h) (Or.inl ⟨by rfl, ?_⟩) (by assumption) ?_
          · intro wx hSw; go_simp
          try simp only [Act.put, List.setIfInBounds_toArray, List.set_cons_zero, List.set_cons_succ, List.getElem_toArray, List.getElem_cons_zero]
          refine wpAnyH_take (i := 1) (v := .slice (some ⟨b, o, none⟩) n cap) rfl (by kernel_rfl) (by kernel_rfl) (by kernel_rfl) (fun _ _ _ h => h) (Or.inl ⟨by rfl, ?_⟩) (by assumption) ?_
          · intro wx hSw; go_simp
          try simp only [Act.put, List.setIfInBounds_toArray, List.set_cons_zero, List.set_cons_succ, List.getElem_toArray, List.getElem_cons_zero, List.getElem_cons_succ]
          refine wpAnyH_take (i := 2) (v := .int .i64 (k : Int)) rfl (by kernel_rfl) (by kernel_rfl) (by kernel_rfl) (fun _ _ _ h => h) (Or.inl ⟨by rfl, ?_⟩) (by assumption) ?_
          · intro wx hSw; go_simp
          try simp only [Act.put, List.setIfInBounds_toArray, List.set_cons_zero, List.set_cons_succ, List.getElem_toArray, List.getElem_cons_zero, List.getElem_cons_succ]
          refine wpAnyH_take (i := 3) (v := .pointer (some ⟨b, o + k * 8, none⟩)) rfl (by kernel_rfl) (by kernel_rfl) (by kernel_rfl) (fun _ _ _ h => h) (Or.inl ⟨by rfl, ?_⟩) (by assumption) ?_
          · intro wx hSw; go_simp
          try simp only [Act.put, List.setIfInBounds_toArray, List.set_cons_zero, List.set_cons_succ, List.getElem_toArray, List.getElem_cons_zero, List.getElem_cons_succ]
          refine wpAnyH_take (i := 4) (v := .agg #[.int .i64 (Z k 0), .int .i64 (Z k 1), .int .i64 (Z k 2), .int .i64 (Z k 3), .int .i64 (Z k 4), .int .i64 (Z k 5), .int .i64 (Z k 6), .int .i64 (Z k 7)]) rfl (by kernel_rfl) (by kernel_rfl) (by kernel_rfl) (fun _ _ _ h => h) (Or.inl ⟨by rfl, ?_⟩) (by assumption) ?_
          · intro wx hSw; go_simp
          try simp only [Act.put, List.setIfInBounds_toArray, List.set_cons_zero, List.set_cons_succ, List.getElem_toArray, List.getElem_cons_zero, List.getElem_cons_succ]
          refine wpAnyH_ready (rs := [5]) (by kernel_rfl) (by simp) ?_
          refine AllReadyH.cons rfl (fun K hK => ?_) AllReadyH.nil
          go_simp
          go_wp2_with (go_at_call 17; refine (pclOk_spec _ _ _ _ _ _ _ _ _ _ _).mono ?_; rintro e w2 ⟨rfl, hbw2⟩)
          refine hK.out _ _ (keepS (by assumption) hbw2) (fun hHeld => ?_)
          clear hK K
          try simp only [Act.put, List.setIfInBounds_toArray, List.set_cons_zero, List.set_cons_succ, List.getElem_toArray, List.getElem_cons_zero, List.getElem_cons_succ]
          refine wpAnyH_take (i := 6) (v := .bool false) rfl (by kernel_rfl) (by kernel_rfl) (by kernel_rfl) (fun _ _ _ h => h) (Or.inl ⟨by rfl, ?_⟩) (by assumption) ?_
          · intro wx hSw; go_simp
          try simp only [Act.put, List.setIfInBounds_toArray, List.set_cons_zero, List.set_cons_succ, List.getElem_toArray, List.getElem_cons_zero, List.getElem_cons_succ]
          refine wpAnyH_take (i := 7) (v := .bool false) rfl (by kernel_rfl) (by kernel_rfl) (by kernel_rfl) (fun _ _ _ h => h) (Or.inl ⟨by rfl, ?_⟩) (by assumption) ?_
          · intro wx hSw; go_simp
          try simp only [Act.put, List.setIfInBounds_toArray, List.set_cons_zero, List.set_cons_succ, List.getElem_toArray, List.getElem_cons_zero, List.getElem_cons_succ]
          refine wpAnyH_take (i := 8) (v := .slice (some ⟨b, o, none⟩) n cap) rfl (by kernel_rfl) (by kernel_rfl) (by kernel_rfl) (fun _ _ _ h => h) (Or.inl ⟨by rfl, ?_⟩) (by assumption) ?_
          · intro wx hSw; go_simp
          try simp only [Act.put, List.setIfInBounds_toArray, List.set_cons_zero, List.set_cons_succ, List.getElem_toArray, List.getElem_cons_zero, List.getElem_cons_succ]
          refine wpAnyH_take (i := 9) (v := .int .i64 (k : Int)) rfl (by kernel_rfl) (by kernel_rfl) (by kernel_rfl) (fun _ _ _ h => h) (Or.inl ⟨by rfl, ?_⟩) (by assumption) ?_
          · intro wx hSw; go_simp
          try simp only [Act.put, List.setIfInBounds_toArray, List.set_cons_zero, List.set_cons_succ, List.getElem_toArray, List.getElem_cons_zero, List.getElem_cons_succ]
          refine wpAnyH_take (i := 10) (v := .pointer (some ⟨b, o + k * 8, none⟩)) rfl (by kernel_rfl) (by kernel_rfl) (by kernel_rfl) (fun _ _ _ h => h) (Or.inl ⟨by rfl, ?_⟩) (by assumption) ?_
          · intro wx hSw; go_simp
          try simp only [Act.put, List.setIfInBounds_toArray, List.set_cons_zero, List.set_cons_succ, List.getElem_toArray, List.getElem_cons_zero, List.getElem_cons_succ]
          refine wpAnyH_take (i := 11) (v := .pointer (some ⟨b, o + k * 8, none⟩)) rfl (by kernel_rfl) (by kernel_rfl) (by kernel_rfl) (fun _ _ _ h => h) (Or.inl ⟨by rfl, ?_⟩) (by assumption) ?_
          · intro wx hSw; go_simp
          try simp only [Act.put, List.setIfInBounds_toArray, List.set_cons_zero, List.set_cons_succ, List.getElem_toArray, List.getElem_cons_zero, List.getElem_cons_succ]
          refine wpAnyH_take (i := 12) (v := .int .i64 (Z k 0)) rfl (by kernel_rfl) (by kernel_rfl) (by kernel_rfl) (fun _ _ _ h => h) (Or.inl ⟨by rfl, ?_⟩) (by assumption) ?_
          · intro wx hSw; go_simp
          try simp only [Act.put, List.setIfInBounds_toArray, List.set_cons_zero, List.set_cons_succ, List.getElem_toArray, List.getElem_cons_zero, List.getElem_cons_succ]
          refine wpAnyH_take (i := 13) (v := .int .i64 next) rfl (by kernel_rfl) (by kernel_rfl) (by kernel_rfl) (fun _ _ _ h => h) (Or.inl ⟨by rfl, ?_⟩) (by assumption) ?_
          · intro wx hSw; go_simp
          try simp only [Act.put, List.setIfInBounds_toArray, List.set_cons_zero, List.set_cons_succ, List.getElem_toArray, List.getElem_cons_zero, List.getElem_cons_succ]
          refine wpAnyH_take (i := 14) (v := .slice (some ⟨b, o, none⟩) n cap) rfl (by kernel_rfl) (by kernel_rfl) (by kernel_rfl) (fun _ _ _ h => h) (Or.inl ⟨by rfl, ?_⟩) (by assumption) ?_
          · intro wx hSw; go_simp
          try simp only [Act.put, List.setIfInBounds_toArray, List.set_cons_zero, List.set_cons_succ, List.getElem_toArray, List.getElem_cons_zero, List.getElem_cons_succ]
          refine wpAnyH_take (i := 15) (v := .int .i64 (n : Int)) rfl (by kernel_rfl) (by kernel_rfl) (by kernel_rfl) (fun _ _ _ h => h) (Or.inl ⟨by rfl, ?_⟩) (by assumption) ?_
          · intro wx hSw; go_simp
          try simp only [Act.put, List.setIfInBounds_toArray, List.set_cons_zero, List.set_cons_succ, List.getElem_toArray, List.getElem_cons_zero, List.getElem_cons_succ]
          refine wpAnyH_take (i := 16) (v := .int .i64 (next - (n : Int))) rfl (by kernel_rfl) (by kernel_rfl) (by kernel_rfl) (fun _ _ _ h => h) (Or.inl ⟨by rfl, ?_⟩) (by assumption) ?_
          · intro wx hSw; go_simp
          try simp only [Act.put, List.setIfInBounds_toArray, List.set_cons_zero, List.set_cons_succ, List.getElem_toArray, List.getElem_cons_zero, List.getElem_cons_succ]
          refine wpAnyH_take (i := 17) (v := .int .i64 (k : Int)) rfl (by kernel_rfl) (by kernel_rfl) (by kernel_rfl) (fun _ _ _ h => h) (Or.inl ⟨by rfl, ?_⟩) (by assumption) ?_
          · intro wx hSw; go_simp
          try simp only [Act.put, List.setIfInBounds_toArray, List.set_cons_zero, List.set_cons_succ, List.getElem_toArray, List.getElem_cons_zero, List.getElem_cons_succ]
          refine wpAnyH_take (i := 18) (v := .int .i64 (next - (n : Int) + (k : Int))) rfl (by kernel_rfl) (by kernel_rfl) (by kernel_rfl) (fun _ _ _ h => h) (Or.inl ⟨by rfl, ?_⟩) (by assumption) ?_
          · intro wx hSw; go_simp
          try simp only [Act.put, List.setIfInBounds_toArray, List.set_cons_zero, List.set_cons_succ, List.getElem_toArray, List.getElem_cons_zero, List.getElem_cons_succ]
          refine wpAnyH_take (i := 19) (v := .bool false) rfl (by kernel_rfl) (by kernel_rfl) (by kernel_rfl) (fun _ _ _ h => h) (Or.inl ⟨by rfl, ?_⟩) (by assumption) ?_
          · intro wx hSw; go_simp
          try simp only [Act.put, List.setIfInBounds_toArray, List.set_cons_zero, List.set_cons_succ, List.getElem_toArray, List.getElem_cons_zero, List.getElem_cons_succ]
          refine wpAnyH_take (i := 20) (v := .bool false) rfl (by kernel_rfl) (by kernel_rfl) (by kernel_rfl) (fun _ _ _ h => h) (Or.inl ⟨by rfl, ?_⟩) (by assumption) ?_
          · intro wx hSw; go_simp
          try simp only [Act.put, List.setIfInBounds_toArray, List.set_cons_zero, List.set_cons_succ, List.getElem_toArray, List.getElem_cons_zero, List.getElem_cons_succ]
          refine wpAnyH_done (by kernel_rfl) ?_ _
          go_wp2
          go_roundw
          case rel => exact ⟨k + 1, by omega, by go_num, allP_step HALL.out EG.out, by assumption, by repeat (first | exact BR | refine bthen ?_ (by assumption) | apply Below.drew)⟩
          case measure => simp [intOf]; omega
        · have EG : Hid (goodP c d next n Z k = false) := by show goodP c d next n Z k = _; simp [goodP]; simp at hnum; exact fun _ => hnum
          go_wp2
          refine wp_region_held_drew (S := fun w' => (∀ b o, b < w.heap.size + 1 → w'.cell? ⟨b, o, none⟩ = (w.alloc (.cells #[.int .i64 c, .int .i64 d] 40)).cell? ⟨b, o, none⟩) ∧ w.heap.size + 1 ≤ w'.heap.size) (by kernel_rfl) HS ?_
          intro hHeld
          refine wpAnyH_take (i := 0) (v := .agg #[.int .i64 c, .int .i64 d]) rfl (by kernel_rfl) (by kernel_rfl) (by kernel_rfl) (fun _ _ _ h => h) (Or.inl ⟨by rfl, ?_⟩) (by assumption) ?_
          · intro wx hSw; go_simp
          try simp only [Act.put, List.setIfInBounds_toArray, List.set_cons_zero, List.set_cons_succ, List.getElem_toArray, List.getElem_cons_zero]
          refine wpAnyH_take (i := 1) (v := .slice (some ⟨b, o, none⟩) n cap) rfl (by kernel_rfl) (by kernel_rfl) (by kernel_rfl) (fun _ _ _ h => h) (Or.inl ⟨by rfl, ?_⟩) (by assumption) ?_
          · intro wx hSw; go_simp
          try simp only [Act.put, List.setIfInBounds_toArray, List.set_cons_zero, List.set_cons_succ, List.getElem_toArray, List.getElem_cons_zero, List.getElem_cons_succ]
          refine wpAnyH_take (i := 2) (v := .int .i64 (k : Int)) rfl (by kernel_rfl) (by kernel_rfl) (by kernel_rfl) (fun _ _ _ h => h) (Or.inl ⟨by rfl, ?_⟩) (by assumption) ?_
          · intro wx hSw; go_simp
          try simp only [Act.put, List.setIfInBounds_toArray, List.set_cons_zero, List.set_cons_succ, List.getElem_toArray, List.getElem_cons_zero, List.getElem_cons_succ]
          refine wpAnyH_take (i := 3) (v := .pointer (some ⟨b, o + k * 8, none⟩)) rfl (by kernel_rfl) (by kernel_rfl) (by kernel_rfl) (fun _ _ _ h => h) (Or.inl ⟨by rfl, ?_⟩) (by assumption) ?_
          · intro wx hSw; go_simp
          try simp only [Act.put, List.setIfInBounds_toArray, List.set_cons_zero, List.set_cons_succ, List.getElem_toArray, List.getElem_cons_zero, List.getElem_cons_succ]
          refine wpAnyH_take (i := 4) (v := .agg #[.int .i64 (Z k 0), .int .i64 (Z k 1), .int .i64 (Z k 2), .int .i64 (Z k 3), .int .i64 (Z k 4), .int .i64 (Z k 5), .int .i64 (Z k 6), .int .i64 (Z k 7)]) rfl (by kernel_rfl) (by kernel_rfl) (by kernel_rfl) (fun _ _ _ h => h) (Or.inl ⟨by rfl, ?_⟩) (by assumption) ?_
          · intro wx hSw; go_simp
          try simp only [Act.put, List.setIfInBounds_toArray, List.set_cons_zero, List.set_cons_succ, List.getElem_toArray, List.getElem_cons_zero, List.getElem_cons_succ]
          refine wpAnyH_ready (rs := [5]) (by kernel_rfl) (by simp) ?_
          refine AllReadyH.cons rfl (fun K hK => ?_) AllReadyH.nil
          go_simp
          go_wp2_with (go_at_call 17; refine (pclOk_spec _ _ _ _ _ _ _ _ _ _ _).mono ?_; rintro e w2 ⟨rfl, hbw2⟩)
          refine hK.out _ _ (keepS (by assumption) hbw2) (fun hHeld => ?_)
          clear hK K
          try simp only [Act.put, List.setIfInBounds_toArray, List.set_cons_zero, List.set_cons_succ, List.getElem_toArray, List.getElem_cons_zero, List.getElem_cons_succ]
          refine wpAnyH_take (i := 6) (v := .bool false) rfl (by kernel_rfl) (by kernel_rfl) (by kernel_rfl) (fun _ _ _ h => h) (Or.inl ⟨by rfl, ?_⟩) (by assumption) ?_
          · intro wx hSw; go_simp
          try simp only [Act.put, List.setIfInBounds_toArray, List.set_cons_zero, List.set_cons_succ, List.getElem_toArray, List.getElem_cons_zero, List.getElem_cons_succ]
          refine wpAnyH_take (i := 7) (v := .bool false) rfl (by kernel_rfl) (by kernel_rfl) (by kernel_rfl) (fun _ _ _ h => h) (Or.inl ⟨by rfl, ?_⟩) (by assumption) ?_
          · intro wx hSw; go_simp
          try simp only [Act.put, List.setIfInBounds_toArray, List.set_cons_zero, List.set_cons_succ, List.getElem_toArray, List.getElem_cons_zero, List.getElem_cons_succ]
          refine wpAnyH_take (i := 8) (v := .slice (some ⟨b, o, none⟩) n cap) rfl (by kernel_rfl) (by kernel_rfl) (by kernel_rfl) (fun _ _ _ h => h) (Or.inl ⟨by rfl, ?_⟩) (by assumption) ?_
          · intro wx hSw; go_simp
          try simp only [Act.put, List.setIfInBounds_toArray, List.set_cons_zero, List.set_cons_succ, List.getElem_toArray, List.getElem_cons_zero, List.getElem_cons_succ]
          refine wpAnyH_take (i := 9) (v := .int .i64 (k : Int)) rfl (by kernel_rfl) (by kernel_rfl) (by kernel_rfl) (fun _ _ _ h => h) (Or.inl ⟨by rfl, ?_⟩) (by assumption) ?_
          · intro wx hSw; go_simp
          try simp only [Act.put, List.setIfInBounds_toArray, List.set_cons_zero, List.set_cons_succ, List.getElem_toArray, List.getElem_cons_zero, List.getElem_cons_succ]
          refine wpAnyH_take (i := 10) (v := .pointer (some ⟨b, o + k * 8, none⟩)) rfl (by kernel_rfl) (by kernel_rfl) (by kernel_rfl) (fun _ _ _ h => h) (Or.inl ⟨by rfl, ?_⟩) (by assumption) ?_
          · intro wx hSw; go_simp
          try simp only [Act.put, List.setIfInBounds_toArray, List.set_cons_zero, List.set_cons_succ, List.getElem_toArray, List.getElem_cons_zero, List.getElem_cons_succ]
          refine wpAnyH_take (i := 11) (v := .pointer (some ⟨b, o + k * 8, none⟩)) rfl (by kernel_rfl) (by kernel_rfl) (by kernel_rfl) (fun _ _ _ h => h) (Or.inl ⟨by rfl, ?_⟩) (by assumption) ?_
          · intro wx hSw; go_simp
          try simp only [Act.put, List.setIfInBounds_toArray, List.set_cons_zero, List.set_cons_succ, List.getElem_toArray, List.getElem_cons_zero, List.getElem_cons_succ]
          refine wpAnyH_take (i := 12) (v := .int .i64 (Z k 0)) rfl (by kernel_rfl) (by kernel_rfl) (by kernel_rfl) (fun _ _ _ h => h) (Or.inl ⟨by rfl, ?_⟩) (by assumption) ?_
          · intro wx hSw; go_simp
          try simp only [Act.put, List.setIfInBounds_toArray, List.set_cons_zero, List.set_cons_succ, List.getElem_toArray, List.getElem_cons_zero, List.getElem_cons_succ]
          refine wpAnyH_take (i := 13) (v := .int .i64 next) rfl (by kernel_rfl) (by kernel_rfl) (by kernel_rfl) (fun _ _ _ h => h) (Or.inl ⟨by rfl, ?_⟩) (by assumption) ?_
          · intro wx hSw; go_simp
          try simp only [Act.put, List.setIfInBounds_toArray, List.set_cons_zero, List.set_cons_succ, List.getElem_toArray, List.getElem_cons_zero, List.getElem_cons_succ]
          refine wpAnyH_take (i := 14) (v := .slice (some ⟨b, o, none⟩) n cap) rfl (by kernel_rfl) (by kernel_rfl) (by kernel_rfl) (fun _ _ _ h => h) (Or.inl ⟨by rfl, ?_⟩) (by assumption) ?_
          · intro wx hSw; go_simp
          try simp only [Act.put, List.setIfInBounds_toArray, List.set_cons_zero, List.set_cons_succ, List.getElem_toArray, List.getElem_cons_zero, List.getElem_cons_succ]
          refine wpAnyH_take (i := 15) (v := .int .i64 (n : Int)) rfl (by kernel_rfl) (by kernel_rfl) (by kernel_rfl) (fun _ _ _ h => h) (Or.inl ⟨by rfl, ?_⟩) (by assumption) ?_
          · intro wx hSw; go_simp
          try simp only [Act.put, List.setIfInBounds_toArray, List.set_cons_zero, List.set_cons_succ, List.getElem_toArray, List.getElem_cons_zero, List.getElem_cons_succ]
          refine wpAnyH_take (i := 16) (v := .int .i64 (next - (n : Int))) rfl (by kernel_rfl) (by kernel_rfl) (by kernel_rfl) (fun _ _ _ h => h) (Or.inl ⟨by rfl, ?_⟩) (by assumption) ?_
          · intro wx hSw; go_simp
          try simp only [Act.put, List.setIfInBounds_toArray, List.set_cons_zero, List.set_cons_succ, List.getElem_toArray, List.getElem_cons_zero, List.getElem_cons_succ]
          refine wpAnyH_take (i := 17) (v := .int .i64 (k : Int)) rfl (by kernel_rfl) (by kernel_rfl) (by kernel_rfl) (fun _ _ _ h => h) (Or.inl ⟨by rfl, ?_⟩) (by assumption) ?_
          · intro wx hSw; go_simp
          try simp only [Act.put, List.setIfInBounds_toArray, List.set_cons_zero, List.set_cons_succ, List.getElem_toArray, List.getElem_cons_zero, List.getElem_cons_succ]
          refine wpAnyH_take (i := 18) (v := .int .i64 (next - (n : Int) + (k : Int))) rfl (by kernel_rfl) (by kernel_rfl) (by kernel_rfl) (fun _ _ _ h => h) (Or.inl ⟨by rfl, ?_⟩) (by assumption) ?_
          · intro wx hSw; go_simp
          try simp only [Act.put, List.setIfInBounds_toArray, List.set_cons_zero, List.set_cons_succ, List.getElem_toArray, List.getElem_cons_zero, List.getElem_cons_succ]
          refine wpAnyH_take (i := 19) (v := .bool true) rfl (by kernel_rfl) (by kernel_rfl) (by kernel_rfl) (fun _ _ _ h => h) (Or.inl ⟨by rfl, ?_⟩) (by assumption) ?_
          · intro wx hSw; go_simp
          try simp only [Act.put, List.setIfInBounds_toArray, List.set_cons_zero, List.set_cons_succ, List.getElem_toArray, List.getElem_cons_zero, List.getElem_cons_succ]
          refine wpAnyH_take (i := 20) (v := .bool true) rfl (by kernel_rfl) (by kernel_rfl) (by kernel_rfl) (fun _ _ _ h => h) (Or.inl ⟨by rfl, ?_⟩) (by assumption) ?_
          · intro wx hSw; go_simp
          try simp only [Act.put, List.setIfInBounds_toArray, List.set_cons_zero, List.set_cons_succ, List.getElem_toArray, List.getElem_cons_zero, List.getElem_cons_succ]
          refine wpAnyH_done (by kernel_rfl) ?_ _
          go_wp2
          go_ret
          exact ⟨by rw [HL.out, allP_stop hkn EG.out]; rfl, by repeat (first | exact BR | refine bthen ?_ (by assumption) | apply Below.drew)⟩
    · have : k = n := by omega
      subst this
      have HALL : Hid (allP c d next k Z k = true) := hall
      clear hall
      go_wp2
      go_ret
      exact ⟨by rw [HL.out, HALL.out]; rfl, BR⟩
end Go.Proofs.YtjmjffhommlbnaaGreat.P8
namespace Go.Proofs.YtjmjffhommlbnaaGreat.P8
open Go.RowKit Go.Deep
set_option linter.unusedVariables false


set_option maxHeartbeats 8000000 in
set_option maxRecDepth 20000 in
theorem plist_impl (c d next : Int) (b o n cap : Nat) (Z : Nat → Nat → Int) (hn : n ≤ 1048576) (w : World) (hb : b < w.heap.size)
    (hr : ∀ k j, k < n → j < 8 → w.cell? ⟨b, o + k * 8 + j, none⟩ = some (.int .i64 (Z k j))) :
    Calls Tryz.prog 69 #[.agg #[.int .i64 c, .int .i64 d], .slice (some ⟨b, o, none⟩) n cap, .int .i64 next] w fun e w' => e = .returned (.bool (listP c d next n Z)) ∧ Below w.heap.size w w' := by
  have HR : Hid (∀ k j, k < n → j < 8 → w.cell? ⟨b, o + k * 8 + j, none⟩ = some (.int .i64 (Z k j))) := hr
  clear hr
  cases h1 : okB c d
  · go_enter Tryz.func69, Tryz.ntmps69
    go_wp2_with (go_at_call 66; refine (ok_impl _ _ _).mono ?_; rintro e w1 ⟨rfl, hb1⟩; rw [h1])
    go_ret
    exact ⟨by simp [listP, h1], bthen ((Below.refl _ _).alloc (by simp) _) hb1⟩
  cases h2 : inB next 0 5000
  · go_enter Tryz.func69, Tryz.ntmps69
    go_wp2_with (first | (go_at_call 66; refine (ok_impl _ _ _).mono ?_; rintro e w1 ⟨rfl, hb1⟩; rw [h1]) | (go_at_call 52; refine (in_impl _ _ _ _).mono ?_; rintro e w1 ⟨rfl, rfl⟩; rw [h2]))
    go_ret
    exact ⟨by simp [listP, h2], bthen ((Below.refl _ _).alloc (by simp) _) hb1⟩
  have hnx : 0 ≤ next ∧ next ≤ 5000 := by simpa [inB] using h2
  by_cases h3 : ¬ (n : Int) ≤ next
  · have h3' : next < (n : Int) := by omega
    have HL : Hid (listP c d next n Z = false) := by show listP c d next n Z = false; simp [listP, h3]
    clear h3
    go_enter Tryz.func69, Tryz.ntmps69
    go_wp2_with (first | (go_at_call 66; refine (ok_impl _ _ _).mono ?_; rintro e w1 ⟨rfl, hb1⟩; rw [h1]) | (go_at_call 52; refine (in_impl _ _ _ _).mono ?_; rintro e w1 ⟨rfl, rfl⟩; rw [h2]))
    go_ret
    exact ⟨by rw [HL.out]; rfl, bthen ((Below.refl _ _).alloc (by simp) _) hb1⟩
  have h3' : (n : Int) ≤ next := by omega
  have m1 : IntKind.wrap .i64 (next - (n : Int)) = next - (n : Int) := by simp [IntKind.wrap, IntKind.bits, IntKind.signed]; omega
  have m2 : ∀ k : Nat, k < n → IntKind.wrap .i64 (next - (n : Int) + (k : Int)) = next - (n : Int) + (k : Int) := by intro k hk; simp [IntKind.wrap, IntKind.bits, IntKind.signed]; omega
  have HL : Hid (listP c d next n Z = allP c d next n Z n) := by show listP c d next n Z = _; simp [listP, h1, h2, h3']
  clear h3
  go_enter Tryz.func69, Tryz.ntmps69
  go_wp2_with (first | (go_at_call 66; refine (ok_impl _ _ _).mono ?_; rintro e w1 ⟨rfl, hb1⟩; rw [h1]) | (go_at_call 52; refine (in_impl _ _ _ _).mono ?_; rintro e w1 ⟨rfl, rfl⟩; rw [h2]))
  have hfirst : True := trivial
  have HS1 : (∀ b o, b < w.heap.size + 1 → w1.cell? ⟨b, o, none⟩ = (w.alloc (.cells #[.int .i64 c, .int .i64 d] 40)).cell? ⟨b, o, none⟩) ∧ w.heap.size + 1 ≤ w1.heap.size := keepS ⟨fun _ _ _ => rfl, by simp⟩ hb1
  have B1 : Below w.heap.size w w1 := bthen ((Below.refl _ _).alloc (by simp) _) hb1
  clear hb1
  go_loopw [30] (fun i wr => ∃ k : Nat, k ≤ n ∧ i = .int .i64 k ∧ allP c d next n Z k = true ∧ ((∀ b o, b < w.heap.size + 1 → wr.cell? ⟨b, o, none⟩ = (w.alloc (.cells #[.int .i64 c, .int .i64 d] 40)).cell? ⟨b, o, none⟩) ∧ w.heap.size + 1 ≤ wr.heap.size) ∧ Below w.heap.size w wr) (fun i _ => n - (intOf i).toNat)
  case atStart => exact ⟨0, Nat.zero_le _, rfl, rfl, HS1, B1⟩
  case round =>
    clear HS1 B1
    obtain ⟨k, hk, rfl, hall, HS, BR⟩ := hrel
    obtain ⟨HSa, HSb⟩ := HS
    by_cases hkn : k < n
    · have hkn' : (k : Int) < (n : Int) := by omega
      have c0 : w.cell? ⟨b, o + k * 8, none⟩ = some (.int .i64 (Z k 0)) := HR.out k 0 hkn (by omega)
      have c1 : w.cell? ⟨b, o + k * 8 + 1, none⟩ = some (.int .i64 (Z k 1)) := HR.out k 1 hkn (by omega)
      have c2 : w.cell? ⟨b, o + k * 8 + 2, none⟩ = some (.int .i64 (Z k 2)) := HR.out k 2 hkn (by omega)
      have c3 : w.cell? ⟨b, o + k * 8 + 3, none⟩ = some (.int .i64 (Z k 3)) := HR.out k 3 hkn (by omega)
      have c4 : w.cell? ⟨b, o + k * 8 + 4, none⟩ = some (.int .i64 (Z k 4)) := HR.out k 4 hkn (by omega)
      have c5 : w.cell? ⟨b, o + k * 8 + 5, none⟩ = some (.int .i64 (Z k 5)) := HR.out k 5 hkn (by omega)
      have c6 : w.cell? ⟨b, o + k * 8 + 6, none⟩ = some (.int .i64 (Z k 6)) := HR.out k 6 hkn (by omega)
      have c7 : w.cell? ⟨b, o + k * 8 + 7, none⟩ = some (.int .i64 (Z k 7)) := HR.out k 7 hkn (by omega)
      have hb1 : b < w.heap.size + 1 := by omega
      have HALL : Hid (allP c d next n Z k = true) := hall
      clear hall
      have m3 := m2 k hkn
      have hlw : w.heap.size < wr.heap.size := by omega
      have KS : Hid ((∀ b o, b < w.heap.size + 1 → (wr.alloc (.cells #[.int .i64 (Z k 0), .int .i64 (Z k 1), .int .i64 (Z k 2), .int .i64 (Z k 3), .int .i64 (Z k 4), .int .i64 (Z k 5), .int .i64 (Z k 6), .int .i64 (Z k 7)] 45)).cell? ⟨b, o, none⟩ = (w.alloc (.cells #[.int .i64 c, .int .i64 d] 40)).cell? ⟨b, o, none⟩) ∧ w.heap.size + 1 ≤ (wr.alloc (.cells #[.int .i64 (Z k 0), .int .i64 (Z k 1), .int .i64 (Z k 2), .int .i64 (Z k 3), .int .i64 (Z k 4), .int .i64 (Z k 5), .int .i64 (Z k 6), .int .i64 (Z k 7)] 45)).heap.size) := keepS ⟨HSa, HSb⟩ ((Below.refl _ _).alloc (Nat.le_refl _) _)
      have BK : Hid (Below w.heap.size w (wr.alloc (.cells #[.int .i64 (Z k 0), .int .i64 (Z k 1), .int .i64 (Z k 2), .int .i64 (Z k 3), .int .i64 (Z k 4), .int .i64 (Z k 5), .int .i64 (Z k 6), .int .i64 (Z k 7)] 45))) := BR.alloc (by omega) _
      cases hnum : (Z k 0 != next - n + k)
      · cases hok : pclB c d (Z k 0) (Z k 1) (Z k 2) (Z k 3) (Z k 4) (Z k 5) (Z k 6) (Z k 7)
        · have EG : Hid (goodP c d next n Z k = false) := by show goodP c d next n Z k = _; simp [goodP, hok]
          go_wp2_with (go_at_call 25; refine (pclOk_impl _ _ _ _ _ _ _ _ _ _ _).mono ?_; rintro e w2 ⟨rfl, hb2⟩)
          go_ret
          exact ⟨by rw [HL.out, allP_stop hkn EG.out]; rfl, bthen BK.out hb2⟩
        · have EG : Hid (goodP c d next n Z k = true) := by show goodP c d next n Z k = _; simp [goodP, hok]; simpa using hnum
          go_wp2_with (go_at_call 25; refine (pclOk_impl _ _ _ _ _ _ _ _ _ _ _).mono ?_; rintro e w2 ⟨rfl, hb2⟩)
          go_roundw
          case rel => exact ⟨k + 1, by omega, by go_num, allP_step HALL.out EG.out, keepS KS.out hb2, bthen BK.out hb2⟩
          case measure => simp [intOf]; omega
      · have EG : Hid (goodP c d next n Z k = false) := by show goodP c d next n Z k = _; simp [goodP]; simp at hnum; exact fun _ => hnum
        go_wp2
        go_ret
        exact ⟨by rw [HL.out, allP_stop hkn EG.out]; rfl, BK.out⟩
    · have : k = n := by omega
      subst this
      have HALL : Hid (allP c d next k Z k = true) := hall
      clear hall
      go_wp2
      go_ret
      exact ⟨by rw [HL.out, HALL.out]; rfl, BR⟩
end Go.Proofs.YtjmjffhommlbnaaGreat.P8
namespace Go.Proofs.YtjmjffhommlbnaaGreat
open Go.RowKit
set_option linter.unusedVariables false

def stepF (s : Int) : Int := if s = 0 then -1 else if s = 1 then 1 else 0
def hasB (c d k : Int) : Bool := okB c d && inB k 0 (c - 1)
def sideF (c d k s : Int) : Int := if hasB c d k = true ∧ ¬ stepF s = 0 ∧ hasB c d (k + stepF s) = true then k + stepF s else -1

theorem step_impl (s : Int) (w : World) :
    Calls Tryz.prog 70 #[.int .i64 s] w fun e w' => e = .returned (.int .i64 (stepF s)) ∧ w' = w := by
  by_cases h0 : s = 0
  · subst h0
    go_enter Tryz.func70, Tryz.ntmps70
    go_wp2
    go_ret
    exact ⟨rfl, rfl⟩
  · by_cases h1 : s = 1
    · subst h1
      go_enter Tryz.func70, Tryz.ntmps70
      go_wp2
      go_ret
      exact ⟨rfl, rfl⟩
    · have e0 : (s == 0) = false := by simpa using h0
      have e1 : (s == 1) = false := by simpa using h1
      go_enter Tryz.func70, Tryz.ntmps70
      go_wp2
      go_ret
      exact ⟨by simp [stepF, h0, h1], rfl⟩

theorem has_impl (c d k : Int) (w : World) :
    Calls Tryz.prog 50 #[.agg #[.int .i64 c, .int .i64 d], .int .i64 k] w fun e w' => e = .returned (.bool (hasB c d k)) ∧ Below w.heap.size w w' := by
  cases h : okB c d
  · go_enter Tryz.func50, Tryz.ntmps50
    go_wp2_with fail
    refine (ok_impl _ _ _).mono ?_
    rintro e w1 ⟨rfl, hb1⟩
    go_wp2
    go_ret
    exact ⟨by simp [hasB, h], bthen ((Below.refl _ _).alloc (by simp) _) hb1⟩
  · obtain ⟨a1, a2, a3, a4⟩ := okB_bounds h
    go_enter Tryz.func50, Tryz.ntmps50
    go_wp2_with fail
    refine (ok_impl _ _ _).mono ?_
    rintro e w1 ⟨rfl, hb1⟩
    obtain ⟨hc1, hf1⟩ := bcell hb1
    go_wp2_with (go_at_call 52; refine (in_impl _ _ _ _).mono ?_; rintro e w' ⟨rfl, rfl⟩)
    go_ret
    exact ⟨by simp [hasB, h], bthen ((Below.refl _ _).alloc (by simp) _) hb1⟩

theorem hasB_bounds {c d k : Int} (h : hasB c d k = true) : 2 ≤ c ∧ c ≤ 4 ∧ 2 ≤ d ∧ d ≤ 8 ∧ 0 ≤ k ∧ k ≤ c - 1 := by
  simp only [hasB, Bool.and_eq_true, inB_true] at h
  have := okB_bounds h.1; omega
theorem stepF_cases (s : Int) : stepF s = -1 ∨ stepF s = 1 ∨ stepF s = 0 := by
  unfold stepF; split
  · simp
  · split <;> simp

theorem beside_impl (c d k s : Int) (w : World) :
    Calls Tryz.prog 55 #[.int .i64 s, .agg #[.int .i64 c, .int .i64 d], .int .i64 k] w fun e w' => e = .returned (.int .i64 (sideF c d k s)) ∧ Below w.heap.size w w' := by
  by_cases hs : stepF s = 0
  · go_enter Tryz.func55, Tryz.ntmps55
    go_wp2_with fail
    refine (step_impl _ _).mono ?_
    rintro e w1 ⟨rfl, rfl⟩
    go_wp2
    go_ret
    exact ⟨by simp [sideF, hs], (Below.refl _ _).alloc (by simp) _⟩
  · have hs0 : (stepF s == 0) = false := by simpa using hs
    cases h : hasB c d k
    · go_enter Tryz.func55, Tryz.ntmps55
      go_wp2_with fail
      refine (step_impl _ _).mono ?_
      rintro e w1 ⟨rfl, rfl⟩
      go_wp2_with fail
      refine (has_impl _ _ _ _).mono ?_
      rintro e w2 ⟨rfl, hb2⟩
      go_wp2
      go_ret
      exact ⟨by simp [sideF, h], bthen ((Below.refl _ _).alloc (by simp) _) hb2⟩
    · obtain ⟨a1, a2, a3, a4, a5, a6⟩ := hasB_bounds h
      have s1 : -1 ≤ stepF s := by have := stepF_cases s; omega
      have s2 : stepF s ≤ 1 := by have := stepF_cases s; omega
      cases h2 : hasB c d (k + stepF s)
      all_goals
        go_enter Tryz.func55, Tryz.ntmps55
        go_wp2_with fail
        refine (step_impl _ _).mono ?_
        rintro e w1 ⟨rfl, rfl⟩
        go_wp2_with fail
        refine (has_impl _ _ _ _).mono ?_
        rintro e w2 ⟨rfl, hb2⟩
        obtain ⟨hc2, hf2⟩ := bcell hb2
        go_wp2_with fail
        refine (has_impl _ _ _ _).mono ?_
        rintro e w3 ⟨rfl, hb3⟩
        go_wp2
        go_ret
        exact ⟨by simp [sideF, h, h2, hs], bthen (bthen ((Below.refl _ _).alloc (by simp) _) hb2) hb3⟩

theorem plcSide_impl (c d k s : Int) (w : World) :
    Calls Tryz.prog 26 #[.agg #[.int .i64 c, .int .i64 d], .int .i64 k, .int .i64 s] w fun e w' => e = .returned (.int .i64 (sideF c d k s)) ∧ Below w.heap.size w w' := by
  go_enter Tryz.func26, Tryz.ntmps26
  go_wp2_with fail
  refine (beside_impl _ _ _ _ _).mono ?_
  rintro e w1 ⟨rfl, hb1⟩
  go_wp2
  go_ret
  exact ⟨rfl, bthen ((Below.refl _ _).alloc (by simp) _) hb1⟩

theorem hasB_false {c d k : Int} (h : okB c d = true) : hasB c d k = false ↔ (k < 0 ∨ c - 1 < k) := by
  simp [hasB, h, inB_false]
theorem hasB_true {c d k : Int} (h : okB c d = true) : hasB c d k = true ↔ (0 ≤ k ∧ k ≤ c - 1) := by
  simp [hasB, h, inB_true]

theorem side_left {c d k : Int} (h : hasB c d k = true) : sideF c d k 0 = if 0 < k then k - 1 else -1 := by
  obtain ⟨a1, a2, a3, a4, a5, a6⟩ := hasB_bounds h
  have ho : okB c d = true := by simp only [hasB, Bool.and_eq_true] at h; exact h.1
  have e : stepF 0 = -1 := rfl
  unfold sideF
  rw [e]
  by_cases g : 0 < k
  · rw [if_pos g, if_pos ⟨h, by decide, (hasB_true ho).2 (by omega)⟩]; omega
  · rw [if_neg g, if_neg]
    rintro ⟨_, _, h3⟩
    have := (hasB_true ho).1 h3; omega
theorem side_right {c d k : Int} (h : hasB c d k = true) : sideF c d k 1 = if k < c - 1 then k + 1 else -1 := by
  obtain ⟨a1, a2, a3, a4, a5, a6⟩ := hasB_bounds h
  have ho : okB c d = true := by simp only [hasB, Bool.and_eq_true] at h; exact h.1
  have e : stepF 1 = 1 := rfl
  unfold sideF
  rw [e]
  by_cases g : k < c - 1
  · rw [if_pos g, if_pos ⟨h, by decide, (hasB_true ho).2 (by omega)⟩]
  · rw [if_neg g, if_neg]
    rintro ⟨_, _, h3⟩
    have := (hasB_true ho).1 h3; omega
theorem side_else {c d k s : Int} (h0 : ¬ s = 0) (h1 : ¬ s = 1) : sideF c d k s = -1 := by
  have e : stepF s = 0 := by simp [stepF, h0, h1]
  simp [sideF, e]

set_option maxHeartbeats 400000 in
theorem plcSide_spec (c d k s : Int) (w : World) :
    Calls Tryz.prog 18 #[.agg #[.int .i64 c, .int .i64 d], .int .i64 k, .int .i64 s] w fun e w' => e = .returned (.int .i64 (sideF c d k s)) ∧ Below w.heap.size w w' := by
  cases h : okB c d
  · go_enter Tryz.func18, Tryz.ntmps18
    go_wp2_with fail
    refine (ok_spec _ _ _).mono ?_
    rintro e w1 ⟨rfl, hb1⟩
    go_wp2
    go_ret
    exact ⟨by simp [sideF, hasB, h], bthen ((Below.refl _ _).alloc (by simp) _) hb1⟩
  · obtain ⟨a1, a2, a3, a4⟩ := okB_bounds h
    cases hin : inB k 0 (c - 1)
    · go_enter Tryz.func18, Tryz.ntmps18
      go_wp2_with fail
      refine (ok_spec _ _ _).mono ?_
      rintro e w1 ⟨rfl, hb1⟩
      obtain ⟨hc1, hf1⟩ := bcell hb1
      go_wp2_with (go_at_call 41; refine (in_spec _ _ _ _).mono ?_; rintro e w' ⟨rfl, rfl⟩)
      go_ret
      exact ⟨by simp [sideF, hasB, h, hin], bthen ((Below.refl _ _).alloc (by simp) _) hb1⟩
    · obtain ⟨i1, i2⟩ := inB_true.1 hin
      have hh : hasB c d k = true := by simp [hasB, h, hin]
      by_cases h0 : s = 0
      · subst h0
        have E : Hid (sideF c d k 0 = if 0 < k then k - 1 else -1) := side_left hh
        clear hh
        by_cases g : 0 < k
        all_goals
          go_enter Tryz.func18, Tryz.ntmps18
          go_wp2_with fail
          refine (ok_spec _ _ _).mono ?_
          rintro e w1 ⟨rfl, hb1⟩
          obtain ⟨hc1, hf1⟩ := bcell hb1
          go_wp2_with (go_at_call 41; refine (in_spec _ _ _ _).mono ?_; rintro e w' ⟨rfl, rfl⟩)
          go_ret
          exact ⟨by rw [E.out]; simp [g] <;> omega, bthen ((Below.refl _ _).alloc (by simp) _) hb1⟩
      · have e0 : (s == 0) = false := by simpa using h0
        by_cases h1 : s = 1
        · subst h1
          have E : Hid (sideF c d k 1 = if k < c - 1 then k + 1 else -1) := side_right hh
          clear hh h0 e0
          by_cases g : k < c - 1
          all_goals
            go_enter Tryz.func18, Tryz.ntmps18
            go_wp2_with fail
            refine (ok_spec _ _ _).mono ?_
            rintro e w1 ⟨rfl, hb1⟩
            obtain ⟨hc1, hf1⟩ := bcell hb1
            go_wp2_with (go_at_call 41; refine (in_spec _ _ _ _).mono ?_; rintro e w' ⟨rfl, rfl⟩)
            go_ret
            exact ⟨by rw [E.out]; simp [g] <;> omega, bthen ((Below.refl _ _).alloc (by simp) _) hb1⟩
        · have e1 : (s == 1) = false := by simpa using h1
          have E : Hid (sideF c d k s = -1) := side_else h0 h1
          clear hh
          go_enter Tryz.func18, Tryz.ntmps18
          go_wp2_with fail
          refine (ok_spec _ _ _).mono ?_
          rintro e w1 ⟨rfl, hb1⟩
          obtain ⟨hc1, hf1⟩ := bcell hb1
          go_wp2_with (go_at_call 41; refine (in_spec _ _ _ _).mono ?_; rintro e w' ⟨rfl, rfl⟩)
          go_ret
          exact ⟨by rw [E.out]; rfl, bthen ((Below.refl _ _).alloc (by simp) _) hb1⟩

end Go.Proofs.YtjmjffhommlbnaaGreat
