/- The walks of PclListOk, the program's and the model's; conditions: the list lies in memory as a row of parcels. -/
import Derived.Test.YtkobiniogigloaaPList
namespace Go.Proofs.Ytkobiniogigloaa
open Go.RowKit Go.Deep
set_option linter.unusedVariables false


set_option maxHeartbeats 8000000 in
set_option maxRecDepth 20000 in
theorem plist_impl (c d next : Int) (b o n cap : Nat) (Z : Nat → Nat → Int) (hn : n ≤ 1048576) (w : World) (hb : b < w.heap.size)
    (hr : ∀ k j, k < n → j < 8 → w.cell? ⟨b, o + k * 8 + j, none⟩ = some (.int .i64 (Z k j))) :
    Calls Try.prog 5 #[.agg #[.int .i64 c, .int .i64 d], .slice (some ⟨b, o, none⟩) n cap, .int .i64 next] w fun e w' => e = .returned (.bool (listP c d next n Z)) ∧ Below w.heap.size w w' := by
  have HR : Hid (∀ k j, k < n → j < 8 → w.cell? ⟨b, o + k * 8 + j, none⟩ = some (.int .i64 (Z k j))) := hr
  clear hr
  cases h1 : okB c d
  · go_enter Try.func5, Try.ntmps5
    go_wp2_with (go_at_call 14; refine (ok_impl _ _ _).mono ?_; rintro e w1 ⟨rfl, hb1⟩; rw [h1])
    go_ret
    exact ⟨by simp [listP, h1], bthen ((Below.refl _ _).alloc (by simp) _) hb1⟩
  cases h2 : inB next 0 5000
  · go_enter Try.func5, Try.ntmps5
    go_wp2_with (first | (go_at_call 14; refine (ok_impl _ _ _).mono ?_; rintro e w1 ⟨rfl, hb1⟩; rw [h1]) | (go_at_call 15; refine (in_impl _ _ _ _).mono ?_; rintro e w1 ⟨rfl, rfl⟩; rw [h2]))
    go_ret
    exact ⟨by simp [listP, h2], bthen ((Below.refl _ _).alloc (by simp) _) hb1⟩
  have hnx : 0 ≤ next ∧ next ≤ 5000 := by simpa [inB] using h2
  by_cases h3 : ¬ (n : Int) ≤ next
  · have h3' : next < (n : Int) := by omega
    have HL : Hid (listP c d next n Z = false) := by show listP c d next n Z = false; simp [listP, h3]
    clear h3
    go_enter Try.func5, Try.ntmps5
    go_wp2_with (first | (go_at_call 14; refine (ok_impl _ _ _).mono ?_; rintro e w1 ⟨rfl, hb1⟩; rw [h1]) | (go_at_call 15; refine (in_impl _ _ _ _).mono ?_; rintro e w1 ⟨rfl, rfl⟩; rw [h2]))
    go_ret
    exact ⟨by rw [HL.out]; rfl, bthen ((Below.refl _ _).alloc (by simp) _) hb1⟩
  have h3' : (n : Int) ≤ next := by omega
  have m1 : IntKind.wrap .i64 (next - (n : Int)) = next - (n : Int) := by simp [IntKind.wrap, IntKind.bits, IntKind.signed]; omega
  have m2 : ∀ k : Nat, k < n → IntKind.wrap .i64 (next - (n : Int) + (k : Int)) = next - (n : Int) + (k : Int) := by intro k hk; simp [IntKind.wrap, IntKind.bits, IntKind.signed]; omega
  have HL : Hid (listP c d next n Z = allP c d next n Z n) := by show listP c d next n Z = _; simp [listP, h1, h2, h3']
  clear h3
  go_enter Try.func5, Try.ntmps5
  go_wp2_with (first | (go_at_call 14; refine (ok_impl _ _ _).mono ?_; rintro e w1 ⟨rfl, hb1⟩; rw [h1]) | (go_at_call 15; refine (in_impl _ _ _ _).mono ?_; rintro e w1 ⟨rfl, rfl⟩; rw [h2]))
  have hfirst : True := trivial
  have HS1 : (∀ b o, b < w.heap.size + 1 → w1.cell? ⟨b, o, none⟩ = (w.alloc (.cells #[.int .i64 c, .int .i64 d] 24)).cell? ⟨b, o, none⟩) ∧ w.heap.size + 1 ≤ w1.heap.size := keepS ⟨fun _ _ _ => rfl, by simp⟩ hb1
  have B1 : Below w.heap.size w w1 := bthen ((Below.refl _ _).alloc (by simp) _) hb1
  clear hb1
  go_loopw [30] (fun i wr => ∃ k : Nat, k ≤ n ∧ i = .int .i64 k ∧ allP c d next n Z k = true ∧ ((∀ b o, b < w.heap.size + 1 → wr.cell? ⟨b, o, none⟩ = (w.alloc (.cells #[.int .i64 c, .int .i64 d] 24)).cell? ⟨b, o, none⟩) ∧ w.heap.size + 1 ≤ wr.heap.size) ∧ Below w.heap.size w wr) (fun i _ => n - (intOf i).toNat)
  case atStart => exact ⟨0, Nat.zero_le _, rfl, rfl, HS1, B1⟩
  case round =>
    clear HS1 B1
    obtain ⟨k, hk, rfl, hall, HS, BR⟩ := hrel
    obtain ⟨HSa, HSb⟩ := HS
    by_cases hkn : k < n
    · have hkn' : (k : Int) < (n : Int) := by omega
      have c0 : w.cell? ⟨b, o + k * 8, none⟩ = some (.int .i64 (Z k 0)) := HR.out k 0 hkn (by omega)
      have c1 : w.cell? ⟨b, o + k * 8 + 1, none⟩ = some (.int .i64 (Z k 1)) := HR.out k 1 hkn (by omega)
      have c2 : w.cell? ⟨b, o + k * 8 + 2, none⟩ = some (.int .i64 (Z k 2)) := HR.out k 2 hkn (by omega)
      have c3 : w.cell? ⟨b, o + k * 8 + 3, none⟩ = some (.int .i64 (Z k 3)) := HR.out k 3 hkn (by omega)
      have c4 : w.cell? ⟨b, o + k * 8 + 4, none⟩ = some (.int .i64 (Z k 4)) := HR.out k 4 hkn (by omega)
      have c5 : w.cell? ⟨b, o + k * 8 + 5, none⟩ = some (.int .i64 (Z k 5)) := HR.out k 5 hkn (by omega)
      have c6 : w.cell? ⟨b, o + k * 8 + 6, none⟩ = some (.int .i64 (Z k 6)) := HR.out k 6 hkn (by omega)
      have c7 : w.cell? ⟨b, o + k * 8 + 7, none⟩ = some (.int .i64 (Z k 7)) := HR.out k 7 hkn (by omega)
      have hb1 : b < w.heap.size + 1 := by omega
      have HALL : Hid (allP c d next n Z k = true) := hall
      clear hall
      have m3 := m2 k hkn
      have hlw : w.heap.size < wr.heap.size := by omega
      have KS : Hid ((∀ b o, b < w.heap.size + 1 → (wr.alloc (.cells #[.int .i64 (Z k 0), .int .i64 (Z k 1), .int .i64 (Z k 2), .int .i64 (Z k 3), .int .i64 (Z k 4), .int .i64 (Z k 5), .int .i64 (Z k 6), .int .i64 (Z k 7)] 43)).cell? ⟨b, o, none⟩ = (w.alloc (.cells #[.int .i64 c, .int .i64 d] 24)).cell? ⟨b, o, none⟩) ∧ w.heap.size + 1 ≤ (wr.alloc (.cells #[.int .i64 (Z k 0), .int .i64 (Z k 1), .int .i64 (Z k 2), .int .i64 (Z k 3), .int .i64 (Z k 4), .int .i64 (Z k 5), .int .i64 (Z k 6), .int .i64 (Z k 7)] 43)).heap.size) := keepS ⟨HSa, HSb⟩ ((Below.refl _ _).alloc (Nat.le_refl _) _)
      have BK : Hid (Below w.heap.size w (wr.alloc (.cells #[.int .i64 (Z k 0), .int .i64 (Z k 1), .int .i64 (Z k 2), .int .i64 (Z k 3), .int .i64 (Z k 4), .int .i64 (Z k 5), .int .i64 (Z k 6), .int .i64 (Z k 7)] 43))) := BR.alloc (by omega) _
      cases hnum : (Z k 0 != next - n + k)
      · cases hok : pclB c d (Z k 0) (Z k 1) (Z k 2) (Z k 3) (Z k 4) (Z k 5) (Z k 6) (Z k 7)
        · have EG : Hid (goodP c d next n Z k = false) := by show goodP c d next n Z k = _; simp [goodP, hok]
          go_wp2_with (go_at_call 16; refine (pclOk_impl _ _ _ _ _ _ _ _ _ _ _).mono ?_; rintro e w2 ⟨rfl, hb2⟩)
          go_ret
          exact ⟨by rw [HL.out, allP_stop hkn EG.out]; rfl, bthen BK.out hb2⟩
        · have EG : Hid (goodP c d next n Z k = true) := by show goodP c d next n Z k = _; simp [goodP, hok]; simpa using hnum
          go_wp2_with (go_at_call 16; refine (pclOk_impl _ _ _ _ _ _ _ _ _ _ _).mono ?_; rintro e w2 ⟨rfl, hb2⟩)
          go_roundw
          case rel => exact ⟨k + 1, by omega, by go_num, allP_step HALL.out EG.out, keepS KS.out hb2, bthen BK.out hb2⟩
          case measure => simp [intOf]; omega
      · have EG : Hid (goodP c d next n Z k = false) := by show goodP c d next n Z k = _; simp [goodP]; simp at hnum; exact fun _ => hnum
        go_wp2
        go_ret
        exact ⟨by rw [HL.out, allP_stop hkn EG.out]; rfl, BK.out⟩
    · have : k = n := by omega
      subst this
      have HALL : Hid (allP c d next k Z k = true) := hall
      clear hall
      go_wp2
      go_ret
      exact ⟨by rw [HL.out, HALL.out]; rfl, BR⟩
end Go.Proofs.Ytkobiniogigloaa
