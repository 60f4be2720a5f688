/- GwyOk of the program; conditions: those typed. -/
import Derived.Test.YtgjapdjidighlabGreatTk
import Derived.Test.YtgjapdjidighlabGreatGB2
namespace Go.Proofs.YtgjapdjidighlabGreat
open Go.RowKit Go.Deep
set_option linter.unusedVariables false
set_option maxRecDepth 20000 in
set_option maxHeartbeats 4000000 in
theorem book_impl (c d : Int) (a : Option Addr) (n cap : Nat) (Z : Nat → Nat → Int) (hn : n ≤ 1048576) (w : World) (h : P10.RowK w a n Z) :
    Calls Tryz.prog 22 #[.agg #[.int .i64 c, .int .i64 d], .agg #[.slice a n cap]] w fun e w' => e = .returned (.bool (bookB c d n Z)) ∧ Below w.heap.size w w' := by
  have HR : Hid (P10.RowK w a n Z) := h
  clear h
  cases hok : okB c d
  · have hv : bookB c d n Z = false := by simp [bookB, hok]
    rw [hv]
    go_enter Tryz.func22, Tryz.ntmps22
    go_wp2_with fail
    obtain ⟨w0, e0⟩ : ∃ w0, w0 = (w.alloc (.cells #[.int .i64 c, .int .i64 d] 43)).alloc (.cells #[.slice a n cap] 40) := ⟨_, rfl⟩
    have B0 : Hid (Below w.heap.size w w0) := by rw [e0]; exact ((Below.refl _ _).alloc (by simp) _).alloc (by simp) _
    have M0 : Hid (Bk w0 w.heap.size [.int .i64 c, .int .i64 d]) := by rw [e0]; exact (bk_new w 43 [.int .i64 c, .int .i64 d]).below ((Below.refl _ _).alloc (Nat.le_refl _) _)
    have K0 : Hid (Bk w0 (w.heap.size + 1) [.slice a n cap]) := by rw [e0]; have := bk_new (w.alloc (.cells #[.int .i64 c, .int .i64 d] 43)) 40 [.slice a n cap]; rwa [show (w.alloc (.cells #[.int .i64 c, .int .i64 d] 43)).heap.size = w.heap.size + 1 by simp] at this
    rw [← e0]
    clear e0
    refine (ok_impl _ _ _).mono ?_
    rintro e w1 ⟨rfl, hb1⟩
    rw [hok]
    have B1 := hid (bthen B0.out hb1)
    have M1 := hid (M0.out.below hb1)
    have K1 := hid (K0.out.below hb1)
    clear hb1 B0 M0 K0
    go_wp2
    go_ret
    exact ⟨rfl, B1.out⟩
  · have hcc : 2 ≤ c ∧ c ≤ 4 := by simp [okB, inB] at hok; omega
    go_enter Tryz.func22, Tryz.ntmps22
    go_wp2_with fail
    obtain ⟨w0, e0⟩ : ∃ w0, w0 = (w.alloc (.cells #[.int .i64 c, .int .i64 d] 43)).alloc (.cells #[.slice a n cap] 40) := ⟨_, rfl⟩
    have B0 : Hid (Below w.heap.size w w0) := by rw [e0]; exact ((Below.refl _ _).alloc (by simp) _).alloc (by simp) _
    have M0 : Hid (Bk w0 w.heap.size [.int .i64 c, .int .i64 d]) := by rw [e0]; exact (bk_new w 43 [.int .i64 c, .int .i64 d]).below ((Below.refl _ _).alloc (Nat.le_refl _) _)
    have K0 : Hid (Bk w0 (w.heap.size + 1) [.slice a n cap]) := by rw [e0]; have := bk_new (w.alloc (.cells #[.int .i64 c, .int .i64 d] 43)) 40 [.slice a n cap]; rwa [show (w.alloc (.cells #[.int .i64 c, .int .i64 d] 43)).heap.size = w.heap.size + 1 by simp] at this
    rw [← e0]
    clear e0
    refine (ok_impl _ _ _).mono ?_
    rintro e w1 ⟨rfl, hb1⟩
    rw [hok]
    have B1 := hid (bthen B0.out hb1)
    have M1 := hid (M0.out.below hb1)
    have K1 := hid (K0.out.below hb1)
    clear hb1 B0 M0 K0
    have kk0 := K1.out.a1
    have kl : w.heap.size + 1 < w1.heap.size := K1.out.1
    go_wp2_with fail
    clear kk0 kl
    go_loopw [13] (fun i wr => ∃ k : Nat, k ≤ n ∧ i = .int .i64 k ∧ (∀ j, j < k → stepR c Z j = true) ∧ Below w1.heap.size w1 wr) (fun i _ => n - (intOf i).toNat)
    case atStart => exact ⟨0, Nat.zero_le _, rfl, fun _ h => absurd h (by omega), Below.refl _ _⟩
    case round =>
      obtain ⟨k, hk, rfl, hall, hbel⟩ := hrel
      have HL : Hid (∀ j, j < k → stepR c Z j = true) := hall
      have HB : Hid (Below w1.heap.size w1 wr) := hbel
      have BW := hid (bthen B1.out hbel)
      have MW := hid (M1.out.below hbel)
      have KW := hid (K1.out.below hbel)
      clear hall hbel
      by_cases hkn : k < n
      · have hkn' : (k : Int) < n := by omega
        obtain ⟨b, o, rfl, hb, hrow⟩ : ∃ b o, a = some ⟨b, o, none⟩ ∧ b < w.heap.size ∧ ∀ k j, k < n → j < 10 → w.cell? ⟨b, o + k * 10 + j, none⟩ = some (P10.cv j (Z k j)) := by
          rcases HR.out with h | h
          · omega
          · exact h
        have HW : Hid (∀ k j, k < n → j < 10 → w.cell? ⟨b, o + k * 10 + j, none⟩ = some (P10.cv j (Z k j))) := hrow
        have hbw : b < wr.heap.size := Nat.lt_of_lt_of_le hb BW.out.size
        clear hrow
        cases hg : rowB c (Z k)
        · have hst : stepR c Z k = false := by simp [stepR, hg]
          have c0 : wr.cell? ⟨b, o + k * 10, none⟩ = some (.int .i64 (Z k 0)) := (BW.out.cell (p := ⟨b, _, none⟩) hb).trans (HW.out k 0 hkn (by omega))
          have c1 : wr.cell? ⟨b, o + k * 10 + 1, none⟩ = some (.int .i64 (Z k 1)) := (BW.out.cell (p := ⟨b, _, none⟩) hb).trans (HW.out k 1 hkn (by omega))
          have c2 : wr.cell? ⟨b, o + k * 10 + 2, none⟩ = some (.bool (P10.tr (Z k 2))) := (BW.out.cell (p := ⟨b, _, none⟩) hb).trans (HW.out k 2 hkn (by omega))
          have c3 : wr.cell? ⟨b, o + k * 10 + 3, none⟩ = some (.int .i64 (Z k 3)) := (BW.out.cell (p := ⟨b, _, none⟩) hb).trans (HW.out k 3 hkn (by omega))
          have c4 : wr.cell? ⟨b, o + k * 10 + 4, none⟩ = some (.int .i64 (Z k 4)) := (BW.out.cell (p := ⟨b, _, none⟩) hb).trans (HW.out k 4 hkn (by omega))
          have c5 : wr.cell? ⟨b, o + k * 10 + 5, none⟩ = some (.int .i64 (Z k 5)) := (BW.out.cell (p := ⟨b, _, none⟩) hb).trans (HW.out k 5 hkn (by omega))
          have c6 : wr.cell? ⟨b, o + k * 10 + 6, none⟩ = some (.int .i64 (Z k 6)) := (BW.out.cell (p := ⟨b, _, none⟩) hb).trans (HW.out k 6 hkn (by omega))
          have c7 : wr.cell? ⟨b, o + k * 10 + 7, none⟩ = some (.int .i64 (Z k 7)) := (BW.out.cell (p := ⟨b, _, none⟩) hb).trans (HW.out k 7 hkn (by omega))
          have c8 : wr.cell? ⟨b, o + k * 10 + 8, none⟩ = some (.int .i64 (Z k 8)) := (BW.out.cell (p := ⟨b, _, none⟩) hb).trans (HW.out k 8 hkn (by omega))
          have c9 : wr.cell? ⟨b, o + k * 10 + 9, none⟩ = some (.int .i64 (Z k 9)) := (BW.out.cell (p := ⟨b, _, none⟩) hb).trans (HW.out k 9 hkn (by omega))
          obtain ⟨yM0, yM1⟩ := MW.out.a2
          have hlM : w.heap.size < wr.heap.size := MW.out.1
          have yK0 : wr.cell? ⟨(w.heap.size + 1), 0, none⟩ = some (.slice (some ⟨b, o, none⟩) n cap) := (KW.out.2 0 (by simp)).1
          have hlK : (w.heap.size + 1) < wr.heap.size := KW.out.1
          go_wp2
          obtain ⟨u1, e1⟩ : ∃ u1, u1 = wr.alloc (.cells #[.int .i64 (Z k 0), .int .i64 (Z k 1), .bool (P10.tr (Z k 2)), .int .i64 (Z k 3), .int .i64 (Z k 4), .int .i64 (Z k 5), .int .i64 (Z k 6), .int .i64 (Z k 7), .int .i64 (Z k 8), .int .i64 (Z k 9)] 63) := ⟨_, rfl⟩
          rw [← e1]
          have hb1 : Below wr.heap.size wr u1 := by rw [e1]; exact (Below.refl _ _).alloc (Nat.le_refl _) _
          have X1 : Hid (Bk u1 wr.heap.size [.int .i64 (Z k 0), .int .i64 (Z k 1), .bool (P10.tr (Z k 2)), .int .i64 (Z k 3), .int .i64 (Z k 4), .int .i64 (Z k 5), .int .i64 (Z k 6), .int .i64 (Z k 7), .int .i64 (Z k 8), .int .i64 (Z k 9)]) := by rw [e1]; exact bk_new wr 63 [.int .i64 (Z k 0), .int .i64 (Z k 1), .bool (P10.tr (Z k 2)), .int .i64 (Z k 3), .int .i64 (Z k 4), .int .i64 (Z k 5), .int .i64 (Z k 6), .int .i64 (Z k 7), .int .i64 (Z k 8), .int .i64 (Z k 9)]
          clear e1
          clear yM0 yM1 hlM yK0 hlK
          clear c0 c1 c2 c3 c4 c5 c6 c7 c8 c9
          have HB1 := hid (bthen HB.out hb1)
          have BW1 := hid (bthen BW.out hb1)
          have MW1 := hid (MW.out.below hb1)
          have KW1 : Hid (Bk u1 (w.heap.size + 1) [.slice (some ⟨b, o, none⟩) n cap]) := KW.out.below hb1
          have hbw1 : b < u1.heap.size := Nat.lt_of_lt_of_le hbw hb1.size
          generalize wr.heap.size = gg at *
          have c0 : u1.cell? ⟨b, o + k * 10, none⟩ = some (.int .i64 (Z k 0)) := (BW1.out.cell (p := ⟨b, _, none⟩) hb).trans (HW.out k 0 hkn (by omega))
          have c1 : u1.cell? ⟨b, o + k * 10 + 1, none⟩ = some (.int .i64 (Z k 1)) := (BW1.out.cell (p := ⟨b, _, none⟩) hb).trans (HW.out k 1 hkn (by omega))
          have c2 : u1.cell? ⟨b, o + k * 10 + 2, none⟩ = some (.bool (P10.tr (Z k 2))) := (BW1.out.cell (p := ⟨b, _, none⟩) hb).trans (HW.out k 2 hkn (by omega))
          have c3 : u1.cell? ⟨b, o + k * 10 + 3, none⟩ = some (.int .i64 (Z k 3)) := (BW1.out.cell (p := ⟨b, _, none⟩) hb).trans (HW.out k 3 hkn (by omega))
          have c4 : u1.cell? ⟨b, o + k * 10 + 4, none⟩ = some (.int .i64 (Z k 4)) := (BW1.out.cell (p := ⟨b, _, none⟩) hb).trans (HW.out k 4 hkn (by omega))
          have c5 : u1.cell? ⟨b, o + k * 10 + 5, none⟩ = some (.int .i64 (Z k 5)) := (BW1.out.cell (p := ⟨b, _, none⟩) hb).trans (HW.out k 5 hkn (by omega))
          have c6 : u1.cell? ⟨b, o + k * 10 + 6, none⟩ = some (.int .i64 (Z k 6)) := (BW1.out.cell (p := ⟨b, _, none⟩) hb).trans (HW.out k 6 hkn (by omega))
          have c7 : u1.cell? ⟨b, o + k * 10 + 7, none⟩ = some (.int .i64 (Z k 7)) := (BW1.out.cell (p := ⟨b, _, none⟩) hb).trans (HW.out k 7 hkn (by omega))
          have c8 : u1.cell? ⟨b, o + k * 10 + 8, none⟩ = some (.int .i64 (Z k 8)) := (BW1.out.cell (p := ⟨b, _, none⟩) hb).trans (HW.out k 8 hkn (by omega))
          have c9 : u1.cell? ⟨b, o + k * 10 + 9, none⟩ = some (.int .i64 (Z k 9)) := (BW1.out.cell (p := ⟨b, _, none⟩) hb).trans (HW.out k 9 hkn (by omega))
          obtain ⟨yM0, yM1⟩ := MW1.out.a2
          have hlM : w.heap.size < u1.heap.size := MW1.out.1
          have yK0 := KW1.out.a1
          have hlK : (w.heap.size + 1) < u1.heap.size := KW1.out.1
          have yG0 : u1.cell? ⟨gg, 0, none⟩ = some (.int .i64 (Z k 0)) := (X1.out.2 0 (by simp)).1
          have yG1 : u1.cell? ⟨gg, 1, none⟩ = some (.int .i64 (Z k 1)) := (X1.out.2 1 (by simp)).1
          have yG2 : u1.cell? ⟨gg, 2, none⟩ = some (.bool (P10.tr (Z k 2))) := (X1.out.2 2 (by simp)).1
          have yG3 : u1.cell? ⟨gg, 3, none⟩ = some (.int .i64 (Z k 3)) := (X1.out.2 3 (by simp)).1
          have yG4 : u1.cell? ⟨gg, 4, none⟩ = some (.int .i64 (Z k 4)) := (X1.out.2 4 (by simp)).1
          have yG5 : u1.cell? ⟨gg, 5, none⟩ = some (.int .i64 (Z k 5)) := (X1.out.2 5 (by simp)).1
          have yG6 : u1.cell? ⟨gg, 6, none⟩ = some (.int .i64 (Z k 6)) := (X1.out.2 6 (by simp)).1
          have yG7 : u1.cell? ⟨gg, 7, none⟩ = some (.int .i64 (Z k 7)) := (X1.out.2 7 (by simp)).1
          have yG8 : u1.cell? ⟨gg, 8, none⟩ = some (.int .i64 (Z k 8)) := (X1.out.2 8 (by simp)).1
          have yG9 : u1.cell? ⟨gg, 9, none⟩ = some (.int .i64 (Z k 9)) := (X1.out.2 9 (by simp)).1
          have hlG : gg < u1.heap.size := X1.out.1
          refine wp_region_held_drew (S := fun w' => (∀ b o, b < u1.heap.size → w'.cell? ⟨b, o, none⟩ = u1.cell? ⟨b, o, none⟩) ∧ u1.heap.size ≤ w'.heap.size) (by kernel_rfl) ⟨fun _ _ _ => rfl, Nat.le_refl _⟩ ?_
          intro hHeld
          refine tkl 0 (.agg #[.int .i64 (Z k 0), .int .i64 (Z k 1), .bool (P10.tr (Z k 2)), .int .i64 (Z k 3), .int .i64 (Z k 4), .int .i64 (Z k 5), .int .i64 (Z k 6), .int .i64 (Z k 7), .int .i64 (Z k 8), .int .i64 (Z k 9)]) rfl ?_ ?_
          · intro wx hSw; go_simp
          try simp only [Act.put, aS]
          refine tkl 1 (.agg #[.int .i64 c, .int .i64 d]) rfl ?_ ?_
          · intro wx hSw; go_simp
          try simp only [Act.put, aS]
          refine rd1 2 rfl fun K hK => ?_
          go_simp
          go_wp2_with fail
          refine (isOk_impl c d (Z k) hok _).mono ?_
          rintro e x1 ⟨rfl, hx1⟩
          rw [hg]
          refine hK.out _ _ (keepS (by assumption) hx1) (fun hNew => ?_)
          clear hK K hHeld
          have hHeld := hNew
          clear hNew
          try simp only [Act.put, aS]
          refine tkl 3 (.bool true) rfl ?_ ?_
          · intro wx hSw; go_simp
          try simp only [Act.put, aS]
          refine tkl 4 (.bool true) rfl ?_ ?_
          · intro wx hSw; go_simp
          try simp only [Act.put, aS]
          refine tkr 5 rfl ?_
          try simp only [Act.put, aS]
          refine tkr 6 rfl ?_
          try simp only [Act.put, aS]
          refine tkr 7 rfl ?_
          try simp only [Act.put, aS]
          refine tkr 8 rfl ?_
          try simp only [Act.put, aS]
          refine tkr 9 rfl ?_
          try simp only [Act.put, aS]
          refine tkr 10 rfl ?_
          try simp only [Act.put, aS]
          refine tkr 11 rfl ?_
          try simp only [Act.put, aS]
          refine tkr 12 rfl ?_
          try simp only [Act.put, aS]
          refine tkr 13 rfl ?_
          try simp only [Act.put, aS]
          refine tkr 14 rfl ?_
          try simp only [Act.put, aS]
          refine tkr 15 rfl ?_
          try simp only [Act.put, aS]
          refine tkr 16 rfl ?_
          try simp only [Act.put, aS]
          refine tkr 17 rfl ?_
          try simp only [Act.put, aS]
          refine tkr 18 rfl ?_
          try simp only [Act.put, aS]
          refine tkl 19 (.bool true) rfl ?_ ?_
          · intro wx hSw; go_simp
          try simp only [Act.put, aS]
          refine wpAnyH_done (by kernel_rfl) ?_ _
          clear hHeld
          clear yM0 yM1 hlM yK0 hlK yG0 yG1 yG2 yG3 yG4 yG5 yG6 yG7 yG8 yG9 hlG
          clear c0 c1 c2 c3 c4 c5 c6 c7 c8 c9
          go_wp2
          go_ret
          exact ⟨by rw [bookB_false hkn hst] <;> rfl, bthen BW1.out (by repeat (first | exact Below.refl _ _ | refine bthen ?_ (by assumption) | apply Below.drew))⟩
        by_cases hk0 : k = 0
        · have hst : stepR c Z k = true := by unfold stepR; rw [hg]; simp [hk0]
          have hk1 : ¬ (0 : Int) < k := by omega
          clear hk0
          have c0 : wr.cell? ⟨b, o + k * 10, none⟩ = some (.int .i64 (Z k 0)) := (BW.out.cell (p := ⟨b, _, none⟩) hb).trans (HW.out k 0 hkn (by omega))
          have c1 : wr.cell? ⟨b, o + k * 10 + 1, none⟩ = some (.int .i64 (Z k 1)) := (BW.out.cell (p := ⟨b, _, none⟩) hb).trans (HW.out k 1 hkn (by omega))
          have c2 : wr.cell? ⟨b, o + k * 10 + 2, none⟩ = some (.bool (P10.tr (Z k 2))) := (BW.out.cell (p := ⟨b, _, none⟩) hb).trans (HW.out k 2 hkn (by omega))
          have c3 : wr.cell? ⟨b, o + k * 10 + 3, none⟩ = some (.int .i64 (Z k 3)) := (BW.out.cell (p := ⟨b, _, none⟩) hb).trans (HW.out k 3 hkn (by omega))
          have c4 : wr.cell? ⟨b, o + k * 10 + 4, none⟩ = some (.int .i64 (Z k 4)) := (BW.out.cell (p := ⟨b, _, none⟩) hb).trans (HW.out k 4 hkn (by omega))
          have c5 : wr.cell? ⟨b, o + k * 10 + 5, none⟩ = some (.int .i64 (Z k 5)) := (BW.out.cell (p := ⟨b, _, none⟩) hb).trans (HW.out k 5 hkn (by omega))
          have c6 : wr.cell? ⟨b, o + k * 10 + 6, none⟩ = some (.int .i64 (Z k 6)) := (BW.out.cell (p := ⟨b, _, none⟩) hb).trans (HW.out k 6 hkn (by omega))
          have c7 : wr.cell? ⟨b, o + k * 10 + 7, none⟩ = some (.int .i64 (Z k 7)) := (BW.out.cell (p := ⟨b, _, none⟩) hb).trans (HW.out k 7 hkn (by omega))
          have c8 : wr.cell? ⟨b, o + k * 10 + 8, none⟩ = some (.int .i64 (Z k 8)) := (BW.out.cell (p := ⟨b, _, none⟩) hb).trans (HW.out k 8 hkn (by omega))
          have c9 : wr.cell? ⟨b, o + k * 10 + 9, none⟩ = some (.int .i64 (Z k 9)) := (BW.out.cell (p := ⟨b, _, none⟩) hb).trans (HW.out k 9 hkn (by omega))
          obtain ⟨yM0, yM1⟩ := MW.out.a2
          have hlM : w.heap.size < wr.heap.size := MW.out.1
          have yK0 : wr.cell? ⟨(w.heap.size + 1), 0, none⟩ = some (.slice (some ⟨b, o, none⟩) n cap) := (KW.out.2 0 (by simp)).1
          have hlK : (w.heap.size + 1) < wr.heap.size := KW.out.1
          go_wp2
          obtain ⟨u1, e1⟩ : ∃ u1, u1 = wr.alloc (.cells #[.int .i64 (Z k 0), .int .i64 (Z k 1), .bool (P10.tr (Z k 2)), .int .i64 (Z k 3), .int .i64 (Z k 4), .int .i64 (Z k 5), .int .i64 (Z k 6), .int .i64 (Z k 7), .int .i64 (Z k 8), .int .i64 (Z k 9)] 63) := ⟨_, rfl⟩
          rw [← e1]
          have hb1 : Below wr.heap.size wr u1 := by rw [e1]; exact (Below.refl _ _).alloc (Nat.le_refl _) _
          have X1 : Hid (Bk u1 wr.heap.size [.int .i64 (Z k 0), .int .i64 (Z k 1), .bool (P10.tr (Z k 2)), .int .i64 (Z k 3), .int .i64 (Z k 4), .int .i64 (Z k 5), .int .i64 (Z k 6), .int .i64 (Z k 7), .int .i64 (Z k 8), .int .i64 (Z k 9)]) := by rw [e1]; exact bk_new wr 63 [.int .i64 (Z k 0), .int .i64 (Z k 1), .bool (P10.tr (Z k 2)), .int .i64 (Z k 3), .int .i64 (Z k 4), .int .i64 (Z k 5), .int .i64 (Z k 6), .int .i64 (Z k 7), .int .i64 (Z k 8), .int .i64 (Z k 9)]
          clear e1
          clear yM0 yM1 hlM yK0 hlK
          clear c0 c1 c2 c3 c4 c5 c6 c7 c8 c9
          have HB1 := hid (bthen HB.out hb1)
          have BW1 := hid (bthen BW.out hb1)
          have MW1 := hid (MW.out.below hb1)
          have KW1 : Hid (Bk u1 (w.heap.size + 1) [.slice (some ⟨b, o, none⟩) n cap]) := KW.out.below hb1
          have hbw1 : b < u1.heap.size := Nat.lt_of_lt_of_le hbw hb1.size
          generalize wr.heap.size = gg at *
          have c0 : u1.cell? ⟨b, o + k * 10, none⟩ = some (.int .i64 (Z k 0)) := (BW1.out.cell (p := ⟨b, _, none⟩) hb).trans (HW.out k 0 hkn (by omega))
          have c1 : u1.cell? ⟨b, o + k * 10 + 1, none⟩ = some (.int .i64 (Z k 1)) := (BW1.out.cell (p := ⟨b, _, none⟩) hb).trans (HW.out k 1 hkn (by omega))
          have c2 : u1.cell? ⟨b, o + k * 10 + 2, none⟩ = some (.bool (P10.tr (Z k 2))) := (BW1.out.cell (p := ⟨b, _, none⟩) hb).trans (HW.out k 2 hkn (by omega))
          have c3 : u1.cell? ⟨b, o + k * 10 + 3, none⟩ = some (.int .i64 (Z k 3)) := (BW1.out.cell (p := ⟨b, _, none⟩) hb).trans (HW.out k 3 hkn (by omega))
          have c4 : u1.cell? ⟨b, o + k * 10 + 4, none⟩ = some (.int .i64 (Z k 4)) := (BW1.out.cell (p := ⟨b, _, none⟩) hb).trans (HW.out k 4 hkn (by omega))
          have c5 : u1.cell? ⟨b, o + k * 10 + 5, none⟩ = some (.int .i64 (Z k 5)) := (BW1.out.cell (p := ⟨b, _, none⟩) hb).trans (HW.out k 5 hkn (by omega))
          have c6 : u1.cell? ⟨b, o + k * 10 + 6, none⟩ = some (.int .i64 (Z k 6)) := (BW1.out.cell (p := ⟨b, _, none⟩) hb).trans (HW.out k 6 hkn (by omega))
          have c7 : u1.cell? ⟨b, o + k * 10 + 7, none⟩ = some (.int .i64 (Z k 7)) := (BW1.out.cell (p := ⟨b, _, none⟩) hb).trans (HW.out k 7 hkn (by omega))
          have c8 : u1.cell? ⟨b, o + k * 10 + 8, none⟩ = some (.int .i64 (Z k 8)) := (BW1.out.cell (p := ⟨b, _, none⟩) hb).trans (HW.out k 8 hkn (by omega))
          have c9 : u1.cell? ⟨b, o + k * 10 + 9, none⟩ = some (.int .i64 (Z k 9)) := (BW1.out.cell (p := ⟨b, _, none⟩) hb).trans (HW.out k 9 hkn (by omega))
          obtain ⟨yM0, yM1⟩ := MW1.out.a2
          have hlM : w.heap.size < u1.heap.size := MW1.out.1
          have yK0 := KW1.out.a1
          have hlK : (w.heap.size + 1) < u1.heap.size := KW1.out.1
          have yG0 : u1.cell? ⟨gg, 0, none⟩ = some (.int .i64 (Z k 0)) := (X1.out.2 0 (by simp)).1
          have yG1 : u1.cell? ⟨gg, 1, none⟩ = some (.int .i64 (Z k 1)) := (X1.out.2 1 (by simp)).1
          have yG2 : u1.cell? ⟨gg, 2, none⟩ = some (.bool (P10.tr (Z k 2))) := (X1.out.2 2 (by simp)).1
          have yG3 : u1.cell? ⟨gg, 3, none⟩ = some (.int .i64 (Z k 3)) := (X1.out.2 3 (by simp)).1
          have yG4 : u1.cell? ⟨gg, 4, none⟩ = some (.int .i64 (Z k 4)) := (X1.out.2 4 (by simp)).1
          have yG5 : u1.cell? ⟨gg, 5, none⟩ = some (.int .i64 (Z k 5)) := (X1.out.2 5 (by simp)).1
          have yG6 : u1.cell? ⟨gg, 6, none⟩ = some (.int .i64 (Z k 6)) := (X1.out.2 6 (by simp)).1
          have yG7 : u1.cell? ⟨gg, 7, none⟩ = some (.int .i64 (Z k 7)) := (X1.out.2 7 (by simp)).1
          have yG8 : u1.cell? ⟨gg, 8, none⟩ = some (.int .i64 (Z k 8)) := (X1.out.2 8 (by simp)).1
          have yG9 : u1.cell? ⟨gg, 9, none⟩ = some (.int .i64 (Z k 9)) := (X1.out.2 9 (by simp)).1
          have hlG : gg < u1.heap.size := X1.out.1
          refine wp_region_held_drew (S := fun w' => (∀ b o, b < u1.heap.size → w'.cell? ⟨b, o, none⟩ = u1.cell? ⟨b, o, none⟩) ∧ u1.heap.size ≤ w'.heap.size) (by kernel_rfl) ⟨fun _ _ _ => rfl, Nat.le_refl _⟩ ?_
          intro hHeld
          refine tkl 0 (.agg #[.int .i64 (Z k 0), .int .i64 (Z k 1), .bool (P10.tr (Z k 2)), .int .i64 (Z k 3), .int .i64 (Z k 4), .int .i64 (Z k 5), .int .i64 (Z k 6), .int .i64 (Z k 7), .int .i64 (Z k 8), .int .i64 (Z k 9)]) rfl ?_ ?_
          · intro wx hSw; go_simp
          try simp only [Act.put, aS]
          refine tkl 1 (.agg #[.int .i64 c, .int .i64 d]) rfl ?_ ?_
          · intro wx hSw; go_simp
          try simp only [Act.put, aS]
          refine rd1 2 rfl fun K hK => ?_
          go_simp
          go_wp2_with fail
          refine (isOk_impl c d (Z k) hok _).mono ?_
          rintro e x1 ⟨rfl, hx1⟩
          rw [hg]
          refine hK.out _ _ (keepS (by assumption) hx1) (fun hNew => ?_)
          clear hK K hHeld
          have hHeld := hNew
          clear hNew
          try simp only [Act.put, aS]
          refine tkl 3 (.bool false) rfl ?_ ?_
          · intro wx hSw; go_simp
          try simp only [Act.put, aS]
          refine tkl 4 (.bool false) rfl ?_ ?_
          · intro wx hSw; go_simp
          try simp only [Act.put, aS]
          refine tkl 5 (.int .i64 (k : Int)) rfl ?_ ?_
          · intro wx hSw; go_simp
          try simp only [Act.put, aS]
          refine tkl 6 (.bool false) rfl ?_ ?_
          · intro wx hSw; go_simp <;> first | omega | (exact IntWalk.i64_in _ (by omega)) | go_num
          try simp only [Act.put, aS]
          refine tkl 7 (.bool false) rfl ?_ ?_
          · intro wx hSw; go_simp
          try simp only [Act.put, aS]
          refine tkr 8 rfl ?_
          try simp only [Act.put, aS]
          refine tkr 9 rfl ?_
          try simp only [Act.put, aS]
          refine tkr 10 rfl ?_
          try simp only [Act.put, aS]
          refine tkr 11 rfl ?_
          try simp only [Act.put, aS]
          refine tkr 12 rfl ?_
          try simp only [Act.put, aS]
          refine tkr 13 rfl ?_
          try simp only [Act.put, aS]
          refine tkr 14 rfl ?_
          try simp only [Act.put, aS]
          refine tkr 15 rfl ?_
          try simp only [Act.put, aS]
          refine tkr 16 rfl ?_
          try simp only [Act.put, aS]
          refine tkr 17 rfl ?_
          try simp only [Act.put, aS]
          refine tkl 18 (.bool false) rfl ?_ ?_
          · intro wx hSw; go_simp
          try simp only [Act.put, aS]
          refine tkl 19 (.bool false) rfl ?_ ?_
          · intro wx hSw; go_simp
          try simp only [Act.put, aS]
          refine wpAnyH_done (by kernel_rfl) ?_ _
          clear hHeld
          clear yM0 yM1 hlM yK0 hlK yG0 yG1 yG2 yG3 yG4 yG5 yG6 yG7 yG8 yG9 hlG
          clear c0 c1 c2 c3 c4 c5 c6 c7 c8 c9
          go_wp2
          go_roundw
          case rel => exact ⟨k + 1, by omega, by go_num, fun j hj => by
            by_cases hjk : j = k
            · subst hjk; exact hst
            · exact HL.out j (by omega), bthen HB1.out (by repeat (first | exact Below.refl _ _ | refine bthen ?_ (by assumption) | apply Below.drew))⟩
          case measure => simp [intOf]; omega
        obtain ⟨m, hm⟩ : ∃ m, k = m + 1 := ⟨k - 1, by omega⟩
        have hkm : (k : Int) - 1 = (m : Int) := by omega
        have hk1 : (0 : Int) < k := by omega
        have hmn : (m : Int) < n := by omega
        have hmk : k - 1 = m := by omega
        by_cases hl : Z m 0 < Z k 0
        rotate_left
        · have hst : stepR c Z k = false := by simp [stepR, hg, hk0, hmk, hl]
          clear hmk hk0
          have hm1 : m < k := by omega
          clear hm
          have hl2 : Z k 0 ≤ Z m 0 := by omega
          clear hl
          have c0 : wr.cell? ⟨b, o + k * 10, none⟩ = some (.int .i64 (Z k 0)) := (BW.out.cell (p := ⟨b, _, none⟩) hb).trans (HW.out k 0 hkn (by omega))
          have c1 : wr.cell? ⟨b, o + k * 10 + 1, none⟩ = some (.int .i64 (Z k 1)) := (BW.out.cell (p := ⟨b, _, none⟩) hb).trans (HW.out k 1 hkn (by omega))
          have c2 : wr.cell? ⟨b, o + k * 10 + 2, none⟩ = some (.bool (P10.tr (Z k 2))) := (BW.out.cell (p := ⟨b, _, none⟩) hb).trans (HW.out k 2 hkn (by omega))
          have c3 : wr.cell? ⟨b, o + k * 10 + 3, none⟩ = some (.int .i64 (Z k 3)) := (BW.out.cell (p := ⟨b, _, none⟩) hb).trans (HW.out k 3 hkn (by omega))
          have c4 : wr.cell? ⟨b, o + k * 10 + 4, none⟩ = some (.int .i64 (Z k 4)) := (BW.out.cell (p := ⟨b, _, none⟩) hb).trans (HW.out k 4 hkn (by omega))
          have c5 : wr.cell? ⟨b, o + k * 10 + 5, none⟩ = some (.int .i64 (Z k 5)) := (BW.out.cell (p := ⟨b, _, none⟩) hb).trans (HW.out k 5 hkn (by omega))
          have c6 : wr.cell? ⟨b, o + k * 10 + 6, none⟩ = some (.int .i64 (Z k 6)) := (BW.out.cell (p := ⟨b, _, none⟩) hb).trans (HW.out k 6 hkn (by omega))
          have c7 : wr.cell? ⟨b, o + k * 10 + 7, none⟩ = some (.int .i64 (Z k 7)) := (BW.out.cell (p := ⟨b, _, none⟩) hb).trans (HW.out k 7 hkn (by omega))
          have c8 : wr.cell? ⟨b, o + k * 10 + 8, none⟩ = some (.int .i64 (Z k 8)) := (BW.out.cell (p := ⟨b, _, none⟩) hb).trans (HW.out k 8 hkn (by omega))
          have c9 : wr.cell? ⟨b, o + k * 10 + 9, none⟩ = some (.int .i64 (Z k 9)) := (BW.out.cell (p := ⟨b, _, none⟩) hb).trans (HW.out k 9 hkn (by omega))
          have q0 : wr.cell? ⟨b, o + m * 10, none⟩ = some (.int .i64 (Z m 0)) := (BW.out.cell (p := ⟨b, _, none⟩) hb).trans (HW.out m 0 (by omega) (by omega))
          obtain ⟨yM0, yM1⟩ := MW.out.a2
          have hlM : w.heap.size < wr.heap.size := MW.out.1
          have yK0 : wr.cell? ⟨(w.heap.size + 1), 0, none⟩ = some (.slice (some ⟨b, o, none⟩) n cap) := (KW.out.2 0 (by simp)).1
          have hlK : (w.heap.size + 1) < wr.heap.size := KW.out.1
          go_wp2
          obtain ⟨u1, e1⟩ : ∃ u1, u1 = wr.alloc (.cells #[.int .i64 (Z k 0), .int .i64 (Z k 1), .bool (P10.tr (Z k 2)), .int .i64 (Z k 3), .int .i64 (Z k 4), .int .i64 (Z k 5), .int .i64 (Z k 6), .int .i64 (Z k 7), .int .i64 (Z k 8), .int .i64 (Z k 9)] 63) := ⟨_, rfl⟩
          rw [← e1]
          have hb1 : Below wr.heap.size wr u1 := by rw [e1]; exact (Below.refl _ _).alloc (Nat.le_refl _) _
          have X1 : Hid (Bk u1 wr.heap.size [.int .i64 (Z k 0), .int .i64 (Z k 1), .bool (P10.tr (Z k 2)), .int .i64 (Z k 3), .int .i64 (Z k 4), .int .i64 (Z k 5), .int .i64 (Z k 6), .int .i64 (Z k 7), .int .i64 (Z k 8), .int .i64 (Z k 9)]) := by rw [e1]; exact bk_new wr 63 [.int .i64 (Z k 0), .int .i64 (Z k 1), .bool (P10.tr (Z k 2)), .int .i64 (Z k 3), .int .i64 (Z k 4), .int .i64 (Z k 5), .int .i64 (Z k 6), .int .i64 (Z k 7), .int .i64 (Z k 8), .int .i64 (Z k 9)]
          clear e1
          clear yM0 yM1 hlM yK0 hlK
          clear c0 c1 c2 c3 c4 c5 c6 c7 c8 c9 q0
          have HB1 := hid (bthen HB.out hb1)
          have BW1 := hid (bthen BW.out hb1)
          have MW1 := hid (MW.out.below hb1)
          have KW1 : Hid (Bk u1 (w.heap.size + 1) [.slice (some ⟨b, o, none⟩) n cap]) := KW.out.below hb1
          have hbw1 : b < u1.heap.size := Nat.lt_of_lt_of_le hbw hb1.size
          generalize wr.heap.size = gg at *
          have c0 : u1.cell? ⟨b, o + k * 10, none⟩ = some (.int .i64 (Z k 0)) := (BW1.out.cell (p := ⟨b, _, none⟩) hb).trans (HW.out k 0 hkn (by omega))
          have c1 : u1.cell? ⟨b, o + k * 10 + 1, none⟩ = some (.int .i64 (Z k 1)) := (BW1.out.cell (p := ⟨b, _, none⟩) hb).trans (HW.out k 1 hkn (by omega))
          have c2 : u1.cell? ⟨b, o + k * 10 + 2, none⟩ = some (.bool (P10.tr (Z k 2))) := (BW1.out.cell (p := ⟨b, _, none⟩) hb).trans (HW.out k 2 hkn (by omega))
          have c3 : u1.cell? ⟨b, o + k * 10 + 3, none⟩ = some (.int .i64 (Z k 3)) := (BW1.out.cell (p := ⟨b, _, none⟩) hb).trans (HW.out k 3 hkn (by omega))
          have c4 : u1.cell? ⟨b, o + k * 10 + 4, none⟩ = some (.int .i64 (Z k 4)) := (BW1.out.cell (p := ⟨b, _, none⟩) hb).trans (HW.out k 4 hkn (by omega))
          have c5 : u1.cell? ⟨b, o + k * 10 + 5, none⟩ = some (.int .i64 (Z k 5)) := (BW1.out.cell (p := ⟨b, _, none⟩) hb).trans (HW.out k 5 hkn (by omega))
          have c6 : u1.cell? ⟨b, o + k * 10 + 6, none⟩ = some (.int .i64 (Z k 6)) := (BW1.out.cell (p := ⟨b, _, none⟩) hb).trans (HW.out k 6 hkn (by omega))
          have c7 : u1.cell? ⟨b, o + k * 10 + 7, none⟩ = some (.int .i64 (Z k 7)) := (BW1.out.cell (p := ⟨b, _, none⟩) hb).trans (HW.out k 7 hkn (by omega))
          have c8 : u1.cell? ⟨b, o + k * 10 + 8, none⟩ = some (.int .i64 (Z k 8)) := (BW1.out.cell (p := ⟨b, _, none⟩) hb).trans (HW.out k 8 hkn (by omega))
          have c9 : u1.cell? ⟨b, o + k * 10 + 9, none⟩ = some (.int .i64 (Z k 9)) := (BW1.out.cell (p := ⟨b, _, none⟩) hb).trans (HW.out k 9 hkn (by omega))
          have q0 : u1.cell? ⟨b, o + m * 10, none⟩ = some (.int .i64 (Z m 0)) := (BW1.out.cell (p := ⟨b, _, none⟩) hb).trans (HW.out m 0 (by omega) (by omega))
          obtain ⟨yM0, yM1⟩ := MW1.out.a2
          have hlM : w.heap.size < u1.heap.size := MW1.out.1
          have yK0 := KW1.out.a1
          have hlK : (w.heap.size + 1) < u1.heap.size := KW1.out.1
          have yG0 : u1.cell? ⟨gg, 0, none⟩ = some (.int .i64 (Z k 0)) := (X1.out.2 0 (by simp)).1
          have yG1 : u1.cell? ⟨gg, 1, none⟩ = some (.int .i64 (Z k 1)) := (X1.out.2 1 (by simp)).1
          have yG2 : u1.cell? ⟨gg, 2, none⟩ = some (.bool (P10.tr (Z k 2))) := (X1.out.2 2 (by simp)).1
          have yG3 : u1.cell? ⟨gg, 3, none⟩ = some (.int .i64 (Z k 3)) := (X1.out.2 3 (by simp)).1
          have yG4 : u1.cell? ⟨gg, 4, none⟩ = some (.int .i64 (Z k 4)) := (X1.out.2 4 (by simp)).1
          have yG5 : u1.cell? ⟨gg, 5, none⟩ = some (.int .i64 (Z k 5)) := (X1.out.2 5 (by simp)).1
          have yG6 : u1.cell? ⟨gg, 6, none⟩ = some (.int .i64 (Z k 6)) := (X1.out.2 6 (by simp)).1
          have yG7 : u1.cell? ⟨gg, 7, none⟩ = some (.int .i64 (Z k 7)) := (X1.out.2 7 (by simp)).1
          have yG8 : u1.cell? ⟨gg, 8, none⟩ = some (.int .i64 (Z k 8)) := (X1.out.2 8 (by simp)).1
          have yG9 : u1.cell? ⟨gg, 9, none⟩ = some (.int .i64 (Z k 9)) := (X1.out.2 9 (by simp)).1
          have hlG : gg < u1.heap.size := X1.out.1
          refine wp_region_held_drew (S := fun w' => (∀ b o, b < u1.heap.size → w'.cell? ⟨b, o, none⟩ = u1.cell? ⟨b, o, none⟩) ∧ u1.heap.size ≤ w'.heap.size) (by kernel_rfl) ⟨fun _ _ _ => rfl, Nat.le_refl _⟩ ?_
          intro hHeld
          refine tkl 0 (.agg #[.int .i64 (Z k 0), .int .i64 (Z k 1), .bool (P10.tr (Z k 2)), .int .i64 (Z k 3), .int .i64 (Z k 4), .int .i64 (Z k 5), .int .i64 (Z k 6), .int .i64 (Z k 7), .int .i64 (Z k 8), .int .i64 (Z k 9)]) rfl ?_ ?_
          · intro wx hSw; go_simp
          try simp only [Act.put, aS]
          refine tkl 1 (.agg #[.int .i64 c, .int .i64 d]) rfl ?_ ?_
          · intro wx hSw; go_simp
          try simp only [Act.put, aS]
          refine rd1 2 rfl fun K hK => ?_
          go_simp
          go_wp2_with fail
          refine (isOk_impl c d (Z k) hok _).mono ?_
          rintro e x1 ⟨rfl, hx1⟩
          rw [hg]
          refine hK.out _ _ (keepS (by assumption) hx1) (fun hNew => ?_)
          clear hK K hHeld
          have hHeld := hNew
          clear hNew
          try simp only [Act.put, aS]
          refine tkl 3 (.bool false) rfl ?_ ?_
          · intro wx hSw; go_simp
          try simp only [Act.put, aS]
          refine tkl 4 (.bool false) rfl ?_ ?_
          · intro wx hSw; go_simp
          try simp only [Act.put, aS]
          refine tkl 5 (.int .i64 (k : Int)) rfl ?_ ?_
          · intro wx hSw; go_simp
          try simp only [Act.put, aS]
          refine tkl 6 (.bool true) rfl ?_ ?_
          · intro wx hSw; go_simp <;> first | omega | (exact IntWalk.i64_in _ (by omega)) | go_num
          try simp only [Act.put, aS]
          refine tkl 7 (.bool true) rfl ?_ ?_
          · intro wx hSw; go_simp
          try simp only [Act.put, aS]
          refine tkl 8 (.pointer (some ⟨(w.heap.size + 1), 0, none⟩)) rfl ?_ ?_
          · intro wx hSw; go_simp
          try simp only [Act.put, aS]
          refine tkl 9 (.slice (some ⟨b, o, none⟩) n cap) rfl ?_ ?_
          · intro wx hSw; go_simp
          try simp only [Act.put, aS]
          refine tkl 10 (.int .i64 (k : Int)) rfl ?_ ?_
          · intro wx hSw; go_simp
          try simp only [Act.put, aS]
          refine tkl 11 (.int .i64 (m : Int)) rfl ?_ ?_
          · intro wx hSw; go_simp <;> first | omega | (exact IntWalk.i64_in _ (by omega)) | go_num
          try simp only [Act.put, aS]
          refine tkl 12 (.pointer (some ⟨b, o + m * 10, none⟩)) rfl ?_ ?_
          · intro wx hSw; go_simp
          try simp only [Act.put, aS]
          refine tkl 13 (.pointer (some ⟨b, o + m * 10, none⟩)) rfl ?_ ?_
          · intro wx hSw; go_simp
          try simp only [Act.put, aS]
          refine tkl 14 (.int .i64 (Z m 0)) rfl ?_ ?_
          · intro wx hSw; go_simp
          try simp only [Act.put, aS]
          refine tkl 15 (.pointer (some ⟨gg, 0, none⟩)) rfl ?_ ?_
          · intro wx hSw; go_simp
          try simp only [Act.put, aS]
          refine tkl 16 (.int .i64 (Z k 0)) rfl ?_ ?_
          · intro wx hSw; go_simp
          try simp only [Act.put, aS]
          refine tkl 17 (.bool true) rfl ?_ ?_
          · intro wx hSw; go_simp <;> first | omega | (exact IntWalk.i64_in _ (by omega)) | go_num
          try simp only [Act.put, aS]
          refine tkl 18 (.bool true) rfl ?_ ?_
          · intro wx hSw; go_simp
          try simp only [Act.put, aS]
          refine tkl 19 (.bool true) rfl ?_ ?_
          · intro wx hSw; go_simp
          try simp only [Act.put, aS]
          refine wpAnyH_done (by kernel_rfl) ?_ _
          clear hHeld
          clear yM0 yM1 hlM yK0 hlK yG0 yG1 yG2 yG3 yG4 yG5 yG6 yG7 yG8 yG9 hlG
          clear c0 c1 c2 c3 c4 c5 c6 c7 c8 c9 q0
          go_wp2
          go_ret
          exact ⟨by rw [bookB_false hkn hst] <;> rfl, bthen BW1.out (by repeat (first | exact Below.refl _ _ | refine bthen ?_ (by assumption) | apply Below.drew))⟩
        · have hst : stepR c Z k = true := by simp [stepR, hg, hmk, hl]
          clear hmk hk0
          have hm1 : m < k := by omega
          clear hm
          have hl2 : ¬ Z k 0 ≤ Z m 0 := by omega
          clear hl
          have c0 : wr.cell? ⟨b, o + k * 10, none⟩ = some (.int .i64 (Z k 0)) := (BW.out.cell (p := ⟨b, _, none⟩) hb).trans (HW.out k 0 hkn (by omega))
          have c1 : wr.cell? ⟨b, o + k * 10 + 1, none⟩ = some (.int .i64 (Z k 1)) := (BW.out.cell (p := ⟨b, _, none⟩) hb).trans (HW.out k 1 hkn (by omega))
          have c2 : wr.cell? ⟨b, o + k * 10 + 2, none⟩ = some (.bool (P10.tr (Z k 2))) := (BW.out.cell (p := ⟨b, _, none⟩) hb).trans (HW.out k 2 hkn (by omega))
          have c3 : wr.cell? ⟨b, o + k * 10 + 3, none⟩ = some (.int .i64 (Z k 3)) := (BW.out.cell (p := ⟨b, _, none⟩) hb).trans (HW.out k 3 hkn (by omega))
          have c4 : wr.cell? ⟨b, o + k * 10 + 4, none⟩ = some (.int .i64 (Z k 4)) := (BW.out.cell (p := ⟨b, _, none⟩) hb).trans (HW.out k 4 hkn (by omega))
          have c5 : wr.cell? ⟨b, o + k * 10 + 5, none⟩ = some (.int .i64 (Z k 5)) := (BW.out.cell (p := ⟨b, _, none⟩) hb).trans (HW.out k 5 hkn (by omega))
          have c6 : wr.cell? ⟨b, o + k * 10 + 6, none⟩ = some (.int .i64 (Z k 6)) := (BW.out.cell (p := ⟨b, _, none⟩) hb).trans (HW.out k 6 hkn (by omega))
          have c7 : wr.cell? ⟨b, o + k * 10 + 7, none⟩ = some (.int .i64 (Z k 7)) := (BW.out.cell (p := ⟨b, _, none⟩) hb).trans (HW.out k 7 hkn (by omega))
          have c8 : wr.cell? ⟨b, o + k * 10 + 8, none⟩ = some (.int .i64 (Z k 8)) := (BW.out.cell (p := ⟨b, _, none⟩) hb).trans (HW.out k 8 hkn (by omega))
          have c9 : wr.cell? ⟨b, o + k * 10 + 9, none⟩ = some (.int .i64 (Z k 9)) := (BW.out.cell (p := ⟨b, _, none⟩) hb).trans (HW.out k 9 hkn (by omega))
          have q0 : wr.cell? ⟨b, o + m * 10, none⟩ = some (.int .i64 (Z m 0)) := (BW.out.cell (p := ⟨b, _, none⟩) hb).trans (HW.out m 0 (by omega) (by omega))
          obtain ⟨yM0, yM1⟩ := MW.out.a2
          have hlM : w.heap.size < wr.heap.size := MW.out.1
          have yK0 : wr.cell? ⟨(w.heap.size + 1), 0, none⟩ = some (.slice (some ⟨b, o, none⟩) n cap) := (KW.out.2 0 (by simp)).1
          have hlK : (w.heap.size + 1) < wr.heap.size := KW.out.1
          go_wp2
          obtain ⟨u1, e1⟩ : ∃ u1, u1 = wr.alloc (.cells #[.int .i64 (Z k 0), .int .i64 (Z k 1), .bool (P10.tr (Z k 2)), .int .i64 (Z k 3), .int .i64 (Z k 4), .int .i64 (Z k 5), .int .i64 (Z k 6), .int .i64 (Z k 7), .int .i64 (Z k 8), .int .i64 (Z k 9)] 63) := ⟨_, rfl⟩
          rw [← e1]
          have hb1 : Below wr.heap.size wr u1 := by rw [e1]; exact (Below.refl _ _).alloc (Nat.le_refl _) _
          have X1 : Hid (Bk u1 wr.heap.size [.int .i64 (Z k 0), .int .i64 (Z k 1), .bool (P10.tr (Z k 2)), .int .i64 (Z k 3), .int .i64 (Z k 4), .int .i64 (Z k 5), .int .i64 (Z k 6), .int .i64 (Z k 7), .int .i64 (Z k 8), .int .i64 (Z k 9)]) := by rw [e1]; exact bk_new wr 63 [.int .i64 (Z k 0), .int .i64 (Z k 1), .bool (P10.tr (Z k 2)), .int .i64 (Z k 3), .int .i64 (Z k 4), .int .i64 (Z k 5), .int .i64 (Z k 6), .int .i64 (Z k 7), .int .i64 (Z k 8), .int .i64 (Z k 9)]
          clear e1
          clear yM0 yM1 hlM yK0 hlK
          clear c0 c1 c2 c3 c4 c5 c6 c7 c8 c9 q0
          have HB1 := hid (bthen HB.out hb1)
          have BW1 := hid (bthen BW.out hb1)
          have MW1 := hid (MW.out.below hb1)
          have KW1 : Hid (Bk u1 (w.heap.size + 1) [.slice (some ⟨b, o, none⟩) n cap]) := KW.out.below hb1
          have hbw1 : b < u1.heap.size := Nat.lt_of_lt_of_le hbw hb1.size
          generalize wr.heap.size = gg at *
          have c0 : u1.cell? ⟨b, o + k * 10, none⟩ = some (.int .i64 (Z k 0)) := (BW1.out.cell (p := ⟨b, _, none⟩) hb).trans (HW.out k 0 hkn (by omega))
          have c1 : u1.cell? ⟨b, o + k * 10 + 1, none⟩ = some (.int .i64 (Z k 1)) := (BW1.out.cell (p := ⟨b, _, none⟩) hb).trans (HW.out k 1 hkn (by omega))
          have c2 : u1.cell? ⟨b, o + k * 10 + 2, none⟩ = some (.bool (P10.tr (Z k 2))) := (BW1.out.cell (p := ⟨b, _, none⟩) hb).trans (HW.out k 2 hkn (by omega))
          have c3 : u1.cell? ⟨b, o + k * 10 + 3, none⟩ = some (.int .i64 (Z k 3)) := (BW1.out.cell (p := ⟨b, _, none⟩) hb).trans (HW.out k 3 hkn (by omega))
          have c4 : u1.cell? ⟨b, o + k * 10 + 4, none⟩ = some (.int .i64 (Z k 4)) := (BW1.out.cell (p := ⟨b, _, none⟩) hb).trans (HW.out k 4 hkn (by omega))
          have c5 : u1.cell? ⟨b, o + k * 10 + 5, none⟩ = some (.int .i64 (Z k 5)) := (BW1.out.cell (p := ⟨b, _, none⟩) hb).trans (HW.out k 5 hkn (by omega))
          have c6 : u1.cell? ⟨b, o + k * 10 + 6, none⟩ = some (.int .i64 (Z k 6)) := (BW1.out.cell (p := ⟨b, _, none⟩) hb).trans (HW.out k 6 hkn (by omega))
          have c7 : u1.cell? ⟨b, o + k * 10 + 7, none⟩ = some (.int .i64 (Z k 7)) := (BW1.out.cell (p := ⟨b, _, none⟩) hb).trans (HW.out k 7 hkn (by omega))
          have c8 : u1.cell? ⟨b, o + k * 10 + 8, none⟩ = some (.int .i64 (Z k 8)) := (BW1.out.cell (p := ⟨b, _, none⟩) hb).trans (HW.out k 8 hkn (by omega))
          have c9 : u1.cell? ⟨b, o + k * 10 + 9, none⟩ = some (.int .i64 (Z k 9)) := (BW1.out.cell (p := ⟨b, _, none⟩) hb).trans (HW.out k 9 hkn (by omega))
          have q0 : u1.cell? ⟨b, o + m * 10, none⟩ = some (.int .i64 (Z m 0)) := (BW1.out.cell (p := ⟨b, _, none⟩) hb).trans (HW.out m 0 (by omega) (by omega))
          obtain ⟨yM0, yM1⟩ := MW1.out.a2
          have hlM : w.heap.size < u1.heap.size := MW1.out.1
          have yK0 := KW1.out.a1
          have hlK : (w.heap.size + 1) < u1.heap.size := KW1.out.1
          have yG0 : u1.cell? ⟨gg, 0, none⟩ = some (.int .i64 (Z k 0)) := (X1.out.2 0 (by simp)).1
          have yG1 : u1.cell? ⟨gg, 1, none⟩ = some (.int .i64 (Z k 1)) := (X1.out.2 1 (by simp)).1
          have yG2 : u1.cell? ⟨gg, 2, none⟩ = some (.bool (P10.tr (Z k 2))) := (X1.out.2 2 (by simp)).1
          have yG3 : u1.cell? ⟨gg, 3, none⟩ = some (.int .i64 (Z k 3)) := (X1.out.2 3 (by simp)).1
          have yG4 : u1.cell? ⟨gg, 4, none⟩ = some (.int .i64 (Z k 4)) := (X1.out.2 4 (by simp)).1
          have yG5 : u1.cell? ⟨gg, 5, none⟩ = some (.int .i64 (Z k 5)) := (X1.out.2 5 (by simp)).1
          have yG6 : u1.cell? ⟨gg, 6, none⟩ = some (.int .i64 (Z k 6)) := (X1.out.2 6 (by simp)).1
          have yG7 : u1.cell? ⟨gg, 7, none⟩ = some (.int .i64 (Z k 7)) := (X1.out.2 7 (by simp)).1
          have yG8 : u1.cell? ⟨gg, 8, none⟩ = some (.int .i64 (Z k 8)) := (X1.out.2 8 (by simp)).1
          have yG9 : u1.cell? ⟨gg, 9, none⟩ = some (.int .i64 (Z k 9)) := (X1.out.2 9 (by simp)).1
          have hlG : gg < u1.heap.size := X1.out.1
          refine wp_region_held_drew (S := fun w' => (∀ b o, b < u1.heap.size → w'.cell? ⟨b, o, none⟩ = u1.cell? ⟨b, o, none⟩) ∧ u1.heap.size ≤ w'.heap.size) (by kernel_rfl) ⟨fun _ _ _ => rfl, Nat.le_refl _⟩ ?_
          intro hHeld
          refine tkl 0 (.agg #[.int .i64 (Z k 0), .int .i64 (Z k 1), .bool (P10.tr (Z k 2)), .int .i64 (Z k 3), .int .i64 (Z k 4), .int .i64 (Z k 5), .int .i64 (Z k 6), .int .i64 (Z k 7), .int .i64 (Z k 8), .int .i64 (Z k 9)]) rfl ?_ ?_
          · intro wx hSw; go_simp
          try simp only [Act.put, aS]
          refine tkl 1 (.agg #[.int .i64 c, .int .i64 d]) rfl ?_ ?_
          · intro wx hSw; go_simp
          try simp only [Act.put, aS]
          refine rd1 2 rfl fun K hK => ?_
          go_simp
          go_wp2_with fail
          refine (isOk_impl c d (Z k) hok _).mono ?_
          rintro e x1 ⟨rfl, hx1⟩
          rw [hg]
          refine hK.out _ _ (keepS (by assumption) hx1) (fun hNew => ?_)
          clear hK K hHeld
          have hHeld := hNew
          clear hNew
          try simp only [Act.put, aS]
          refine tkl 3 (.bool false) rfl ?_ ?_
          · intro wx hSw; go_simp
          try simp only [Act.put, aS]
          refine tkl 4 (.bool false) rfl ?_ ?_
          · intro wx hSw; go_simp
          try simp only [Act.put, aS]
          refine tkl 5 (.int .i64 (k : Int)) rfl ?_ ?_
          · intro wx hSw; go_simp
          try simp only [Act.put, aS]
          refine tkl 6 (.bool true) rfl ?_ ?_
          · intro wx hSw; go_simp <;> first | omega | (exact IntWalk.i64_in _ (by omega)) | go_num
          try simp only [Act.put, aS]
          refine tkl 7 (.bool true) rfl ?_ ?_
          · intro wx hSw; go_simp
          try simp only [Act.put, aS]
          refine tkl 8 (.pointer (some ⟨(w.heap.size + 1), 0, none⟩)) rfl ?_ ?_
          · intro wx hSw; go_simp
          try simp only [Act.put, aS]
          refine tkl 9 (.slice (some ⟨b, o, none⟩) n cap) rfl ?_ ?_
          · intro wx hSw; go_simp
          try simp only [Act.put, aS]
          refine tkl 10 (.int .i64 (k : Int)) rfl ?_ ?_
          · intro wx hSw; go_simp
          try simp only [Act.put, aS]
          refine tkl 11 (.int .i64 (m : Int)) rfl ?_ ?_
          · intro wx hSw; go_simp <;> first | omega | (exact IntWalk.i64_in _ (by omega)) | go_num
          try simp only [Act.put, aS]
          refine tkl 12 (.pointer (some ⟨b, o + m * 10, none⟩)) rfl ?_ ?_
          · intro wx hSw; go_simp
          try simp only [Act.put, aS]
          refine tkl 13 (.pointer (some ⟨b, o + m * 10, none⟩)) rfl ?_ ?_
          · intro wx hSw; go_simp
          try simp only [Act.put, aS]
          refine tkl 14 (.int .i64 (Z m 0)) rfl ?_ ?_
          · intro wx hSw; go_simp
          try simp only [Act.put, aS]
          refine tkl 15 (.pointer (some ⟨gg, 0, none⟩)) rfl ?_ ?_
          · intro wx hSw; go_simp
          try simp only [Act.put, aS]
          refine tkl 16 (.int .i64 (Z k 0)) rfl ?_ ?_
          · intro wx hSw; go_simp
          try simp only [Act.put, aS]
          refine tkl 17 (.bool false) rfl ?_ ?_
          · intro wx hSw; go_simp <;> first | omega | (exact IntWalk.i64_in _ (by omega)) | go_num
          try simp only [Act.put, aS]
          refine tkl 18 (.bool false) rfl ?_ ?_
          · intro wx hSw; go_simp
          try simp only [Act.put, aS]
          refine tkl 19 (.bool false) rfl ?_ ?_
          · intro wx hSw; go_simp
          try simp only [Act.put, aS]
          refine wpAnyH_done (by kernel_rfl) ?_ _
          clear hHeld
          clear yM0 yM1 hlM yK0 hlK yG0 yG1 yG2 yG3 yG4 yG5 yG6 yG7 yG8 yG9 hlG
          clear c0 c1 c2 c3 c4 c5 c6 c7 c8 c9 q0
          go_wp2
          go_roundw
          case rel => exact ⟨k + 1, by omega, by go_num, fun j hj => by
            by_cases hjk : j = k
            · subst hjk; exact hst
            · exact HL.out j (by omega), bthen HB1.out (by repeat (first | exact Below.refl _ _ | refine bthen ?_ (by assumption) | apply Below.drew))⟩
          case measure => simp [intOf]; omega
      · have hkk : k = n := by omega
        subst hkk
        have kk0 : wr.cell? ⟨w.heap.size + 1, 0, none⟩ = some (.slice a k cap) := (KW.out.2 0 (by simp)).1
        have kl : w.heap.size + 1 < wr.heap.size := KW.out.1
        go_wp2
        go_ret
        exact ⟨by rw [bookB_true hok HL.out] <;> rfl, BW.out⟩
end Go.Proofs.YtgjapdjidighlabGreat
