/- GwyNew of the program; conditions: those typed. -/
import Derived.Test.YtgjapdjidighlaaGN2
namespace Go.Proofs.Ytgjapdjidighlaa
open Go.RowKit Go.Deep
set_option linter.unusedVariables false

set_option maxRecDepth 20000 in
set_option maxHeartbeats 4000000 in
theorem new_impl (c d : Int) (b o n cap : Nat) (W : Nat → Nat → Int) (hn : n ≤ 1048576) (w : World) (hb : b < w.heap.size)
    (hr : ∀ k j, k < n → j < 5 → w.cell? ⟨b, o + k * 5 + j, none⟩ = some (.int .i64 (W k j))) :
    Calls Try.prog 11 #[.agg #[.int .i64 c, .int .i64 d], .slice (some ⟨b, o, none⟩) n cap] w fun e w' => (∃ v, e = .returned (.agg #[v]) ∧ P10.RL w.heap.size w'.heap.size w' v (newN c d n W) (newZ c d W)) ∧ Below w.heap.size w w' := by
  have HR : Hid (∀ k j, k < n → j < 5 → w.cell? ⟨b, o + k * 5 + j, none⟩ = some (.int .i64 (W k j))) := hr
  clear hr
  cases hok : okB c d
  · have hv : newN c d n W = 0 := by simp [newN, hok]
    go_enter Try.func11, Try.ntmps11
    go_wp2_with fail
    obtain ⟨w0, e0⟩ : ∃ w0, w0 = (w.alloc (.cells #[.int .i64 c, .int .i64 d] 30)).alloc (.cells #[.slice none 0 0] 28) := ⟨_, rfl⟩
    have B1 : Hid (Below w.heap.size w w0) := by rw [e0]; exact ((Below.refl _ _).alloc (by simp) _).alloc (by simp) _
    have M2 : Hid (Bk w0 w.heap.size [.int .i64 c, .int .i64 d]) := by rw [e0]; exact (bk_new w 30 [.int .i64 c, .int .i64 d]).below ((Below.refl _ _).alloc (Nat.le_refl _) (.cells #[.slice none 0 0] 28))
    have R3 : Hid (Bk w0 (w.heap.size + 1) [.slice none 0 0]) := by rw [e0]; have := bk_new (w.alloc (.cells #[.int .i64 c, .int .i64 d] 30)) 28 [.slice none 0 0]; rwa [show (w.alloc (.cells #[.int .i64 c, .int .i64 d] 30)).heap.size = w.heap.size + 1 by simp] at this
    rw [← e0]
    clear e0
    refine (ok_impl _ _ _).mono ?_
    rintro e w1 ⟨rfl, hb1⟩
    have B4 : Hid (Below w.heap.size w w1) := bthen B1.out hb1
    have M4 : Hid (Bk w1 w.heap.size [.int .i64 c, .int .i64 d]) := M2.out.below hb1
    have R4 : Hid (Bk w1 (w.heap.size + 1) [.slice none 0 0]) := R3.out.below hb1
    clear B1 M2 R3
    clear hb1
    rw [hok]
    have yM0 : w1.cell? ⟨w.heap.size, 0, none⟩ = some (.int .i64 c) := (M4.out.2 0 (by simp)).1
    have zM0 : w1.frozen? ⟨w.heap.size, 0, none⟩ = false := (M4.out.2 0 (by simp)).2
    have yM1 : w1.cell? ⟨w.heap.size, 1, none⟩ = some (.int .i64 d) := (M4.out.2 1 (by simp)).1
    have zM1 : w1.frozen? ⟨w.heap.size, 1, none⟩ = false := (M4.out.2 1 (by simp)).2
    have hlM : w.heap.size < w1.heap.size := M4.out.1
    have yR0 : w1.cell? ⟨(w.heap.size + 1), 0, none⟩ = some (.slice none 0 0) := (R4.out.2 0 (by simp)).1
    have zR0 : w1.frozen? ⟨(w.heap.size + 1), 0, none⟩ = false := (R4.out.2 0 (by simp)).2
    have hlR : (w.heap.size + 1) < w1.heap.size := R4.out.1
    go_wp2
    refine bodyPost_ret (v := .agg #[.slice none 0 0]) (by simp [results, Try.results11, go_sem, *]) rfl ?_
    exact ⟨⟨_, rfl, by rw [hv]; exact .inl ⟨rfl, none, 0, rfl⟩⟩, (B4.out.setCell (by show w.heap.size ≤ w.heap.size + 1; omega) _)⟩
  cases hal : allB c d W n
  · have hv : newN c d n W = 0 := by simp [newN, hal]
    go_enter Try.func11, Try.ntmps11
    go_wp2_with fail
    obtain ⟨w0, e0⟩ : ∃ w0, w0 = (w.alloc (.cells #[.int .i64 c, .int .i64 d] 30)).alloc (.cells #[.slice none 0 0] 28) := ⟨_, rfl⟩
    have B5 : Hid (Below w.heap.size w w0) := by rw [e0]; exact ((Below.refl _ _).alloc (by simp) _).alloc (by simp) _
    have M6 : Hid (Bk w0 w.heap.size [.int .i64 c, .int .i64 d]) := by rw [e0]; exact (bk_new w 30 [.int .i64 c, .int .i64 d]).below ((Below.refl _ _).alloc (Nat.le_refl _) (.cells #[.slice none 0 0] 28))
    have R7 : Hid (Bk w0 (w.heap.size + 1) [.slice none 0 0]) := by rw [e0]; have := bk_new (w.alloc (.cells #[.int .i64 c, .int .i64 d] 30)) 28 [.slice none 0 0]; rwa [show (w.alloc (.cells #[.int .i64 c, .int .i64 d] 30)).heap.size = w.heap.size + 1 by simp] at this
    rw [← e0]
    clear e0
    refine (ok_impl _ _ _).mono ?_
    rintro e w1 ⟨rfl, hb1⟩
    have B8 : Hid (Below w.heap.size w w1) := bthen B5.out hb1
    have M8 : Hid (Bk w1 w.heap.size [.int .i64 c, .int .i64 d]) := M6.out.below hb1
    have R8 : Hid (Bk w1 (w.heap.size + 1) [.slice none 0 0]) := R7.out.below hb1
    clear B5 M6 R7
    clear hb1
    rw [hok]
    have yM0 : w1.cell? ⟨w.heap.size, 0, none⟩ = some (.int .i64 c) := (M8.out.2 0 (by simp)).1
    have yM1 : w1.cell? ⟨w.heap.size, 1, none⟩ = some (.int .i64 d) := (M8.out.2 1 (by simp)).1
    have hlM : w.heap.size < w1.heap.size := M8.out.1
    have yR0 : w1.cell? ⟨(w.heap.size + 1), 0, none⟩ = some (.slice none 0 0) := (R8.out.2 0 (by simp)).1
    have hlR : (w.heap.size + 1) < w1.heap.size := R8.out.1
    go_wp2_with fail
    refine (listOk_impl c d b o n cap W hn _ (Nat.lt_of_lt_of_le hb B8.out.size) (fun k j h1 h2 => (B8.out.cell (p := ⟨b, _, none⟩) hb).trans (HR.out k j h1 h2))).mono ?_
    rintro e w2 ⟨rfl, hb2⟩
    clear yM0 yM1 hlM yR0 hlR
    have B9 : Hid (Below w.heap.size w w2) := bthen B8.out hb2
    have M9 : Hid (Bk w2 w.heap.size [.int .i64 c, .int .i64 d]) := M8.out.below hb2
    have R9 : Hid (Bk w2 (w.heap.size + 1) [.slice none 0 0]) := R8.out.below hb2
    clear B8 M8 R8
    clear hb2
    rw [hal]
    have yM0 : w2.cell? ⟨w.heap.size, 0, none⟩ = some (.int .i64 c) := (M9.out.2 0 (by simp)).1
    have zM0 : w2.frozen? ⟨w.heap.size, 0, none⟩ = false := (M9.out.2 0 (by simp)).2
    have yM1 : w2.cell? ⟨w.heap.size, 1, none⟩ = some (.int .i64 d) := (M9.out.2 1 (by simp)).1
    have zM1 : w2.frozen? ⟨w.heap.size, 1, none⟩ = false := (M9.out.2 1 (by simp)).2
    have hlM : w.heap.size < w2.heap.size := M9.out.1
    have yR0 : w2.cell? ⟨(w.heap.size + 1), 0, none⟩ = some (.slice none 0 0) := (R9.out.2 0 (by simp)).1
    have zR0 : w2.frozen? ⟨(w.heap.size + 1), 0, none⟩ = false := (R9.out.2 0 (by simp)).2
    have hlR : (w.heap.size + 1) < w2.heap.size := R9.out.1
    go_wp2
    refine bodyPost_ret (v := .agg #[.slice none 0 0]) (by simp [results, Try.results11, go_sem, *]) rfl ?_
    exact ⟨⟨_, rfl, by rw [hv]; exact .inl ⟨rfl, none, 0, rfl⟩⟩, (B9.out.setCell (by show w.heap.size ≤ w.heap.size + 1; omega) _)⟩
  have HV : Hid (newN c d n W = n) := by unfold Hid; simp [newN, hok, hal]
  go_enter Try.func11, Try.ntmps11
  go_wp2_with fail
  obtain ⟨w0, e0⟩ : ∃ w0, w0 = (w.alloc (.cells #[.int .i64 c, .int .i64 d] 30)).alloc (.cells #[.slice none 0 0] 28) := ⟨_, rfl⟩
  have B10 : Hid (Below w.heap.size w w0) := by rw [e0]; exact ((Below.refl _ _).alloc (by simp) _).alloc (by simp) _
  have M11 : Hid (Bk w0 w.heap.size [.int .i64 c, .int .i64 d]) := by rw [e0]; exact (bk_new w 30 [.int .i64 c, .int .i64 d]).below ((Below.refl _ _).alloc (Nat.le_refl _) (.cells #[.slice none 0 0] 28))
  have R12 : Hid (Bk w0 (w.heap.size + 1) [.slice none 0 0]) := by rw [e0]; have := bk_new (w.alloc (.cells #[.int .i64 c, .int .i64 d] 30)) 28 [.slice none 0 0]; rwa [show (w.alloc (.cells #[.int .i64 c, .int .i64 d] 30)).heap.size = w.heap.size + 1 by simp] at this
  rw [← e0]
  clear e0
  refine (ok_impl _ _ _).mono ?_
  rintro e w1 ⟨rfl, hb1⟩
  have B13 : Hid (Below w.heap.size w w1) := bthen B10.out hb1
  have M13 : Hid (Bk w1 w.heap.size [.int .i64 c, .int .i64 d]) := M11.out.below hb1
  have R13 : Hid (Bk w1 (w.heap.size + 1) [.slice none 0 0]) := R12.out.below hb1
  clear B10 M11 R12
  clear hb1
  rw [hok]
  have yM0 : w1.cell? ⟨w.heap.size, 0, none⟩ = some (.int .i64 c) := (M13.out.2 0 (by simp)).1
  have yM1 : w1.cell? ⟨w.heap.size, 1, none⟩ = some (.int .i64 d) := (M13.out.2 1 (by simp)).1
  have hlM : w.heap.size < w1.heap.size := M13.out.1
  have yR0 : w1.cell? ⟨(w.heap.size + 1), 0, none⟩ = some (.slice none 0 0) := (R13.out.2 0 (by simp)).1
  have hlR : (w.heap.size + 1) < w1.heap.size := R13.out.1
  go_wp2_with fail
  refine (listOk_impl c d b o n cap W hn _ (Nat.lt_of_lt_of_le hb B13.out.size) (fun k j h1 h2 => (B13.out.cell (p := ⟨b, _, none⟩) hb).trans (HR.out k j h1 h2))).mono ?_
  rintro e w2 ⟨rfl, hb2⟩
  clear yM0 yM1 hlM yR0 hlR
  have B14 : Hid (Below w.heap.size w w2) := bthen B13.out hb2
  have M14 : Hid (Bk w2 w.heap.size [.int .i64 c, .int .i64 d]) := M13.out.below hb2
  have R14 : Hid (Bk w2 (w.heap.size + 1) [.slice none 0 0]) := R13.out.below hb2
  clear B13 M13 R13
  clear hb2
  rw [hal]
  have yM0 : w2.cell? ⟨w.heap.size, 0, none⟩ = some (.int .i64 c) := (M14.out.2 0 (by simp)).1
  have yM1 : w2.cell? ⟨w.heap.size, 1, none⟩ = some (.int .i64 d) := (M14.out.2 1 (by simp)).1
  have hlM : w.heap.size < w2.heap.size := M14.out.1
  have yR0 : w2.cell? ⟨(w.heap.size + 1), 0, none⟩ = some (.slice none 0 0) := (R14.out.2 0 (by simp)).1
  have hlR : (w.heap.size + 1) < w2.heap.size := R14.out.1
  go_wp2_with fail
  clear yM0 yM1 hlM yR0 hlR
  obtain ⟨gK, eK⟩ : ∃ g, g = w2.heap.size := ⟨_, rfl⟩
  have gk1 : w.heap.size + 1 < gK := by rw [eK]; exact R14.out.1
  obtain ⟨w3, e3⟩ : ∃ y, y = w2.alloc (.cells #[.slice none 0 0] 28) := ⟨_, rfl⟩
  rw [← e3]
  have hb3 : Below w2.heap.size w2 w3 := by rw [e3]; exact (Below.refl _ _).alloc (Nat.le_refl _) _
  have K3 : Bk w3 gK [.slice none 0 0] := by rw [e3, eK]; exact bk_new w2 28 [.slice none 0 0]
  rw [← eK]
  clear e3 eK
  have B15 : Hid (Below w.heap.size w w3) := bthen B14.out hb3
  have M15 : Hid (Bk w3 w.heap.size [.int .i64 c, .int .i64 d]) := M14.out.below hb3
  have R15 : Hid (Bk w3 (w.heap.size + 1) [.slice none 0 0]) := R14.out.below hb3
  clear B14 M14 R14
  clear hb3
  have K16 : Hid (Bk w3 gK [.slice none 0 0]) := K3
  clear K3
  have zK : gK + 1 ≤ w3.heap.size := K16.out.1
  go_loopw [20] (fun i wr => ∃ (k : Nat) (a : Option Addr) (l cp : Nat), k ≤ n ∧ i = .int .i64 k ∧ Bk wr (gK) [.slice a l cp] ∧ Bk wr (w.heap.size) [.int .i64 c, .int .i64 d] ∧ Bk wr (w.heap.size + 1) [.slice none 0 0] ∧ wr.ownsRow (gK + 1) 74 10 (.slice a l cp) k ((List.range k).flatMap (P10.rowK (newZ c d W))) ∧ Below w.heap.size w wr ∧ gK + 1 ≤ wr.heap.size) (fun i _ => n - (intOf i).toNat)
  case atStart => exact ⟨0, none, 0, 0, Nat.zero_le _, rfl, K16.out, M15.out, R15.out, ⟨rfl, .inl ⟨rfl, rfl⟩⟩, B15.out, zK⟩
  case round =>
    obtain ⟨k, a, l, cp, hk, rfl, hKb, hM, hR, hO, hB, hz⟩ := hrel
    by_cases hkn : k < n
    · have hkn' : (k : Int) < n := by omega
      have lb : b < wr.heap.size := Nat.lt_of_lt_of_le hb hB.size
      have c0 : wr.cell? ⟨b, o + k * 5, none⟩ = some (.int .i64 (W k 0)) := (hB.cell (p := ⟨b, _, none⟩) hb).trans (HR.out k 0 hkn (by omega))
      have c1 : wr.cell? ⟨b, o + k * 5 + 1, none⟩ = some (.int .i64 (W k 1)) := (hB.cell (p := ⟨b, _, none⟩) hb).trans (HR.out k 1 hkn (by omega))
      have c2 : wr.cell? ⟨b, o + k * 5 + 2, none⟩ = some (.int .i64 (W k 2)) := (hB.cell (p := ⟨b, _, none⟩) hb).trans (HR.out k 2 hkn (by omega))
      have c3 : wr.cell? ⟨b, o + k * 5 + 3, none⟩ = some (.int .i64 (W k 3)) := (hB.cell (p := ⟨b, _, none⟩) hb).trans (HR.out k 3 hkn (by omega))
      have c4 : wr.cell? ⟨b, o + k * 5 + 4, none⟩ = some (.int .i64 (W k 4)) := (hB.cell (p := ⟨b, _, none⟩) hb).trans (HR.out k 4 hkn (by omega))
      have m0 : wr.cell? ⟨w.heap.size, 0, none⟩ = some (.int .i64 c) := (hM.2 0 (by simp)).1
      have m1 : wr.cell? ⟨w.heap.size, 1, none⟩ = some (.int .i64 d) := (hM.2 1 (by simp)).1
      have ml : w.heap.size < wr.heap.size := hM.1
      have QK : Hid (Bk wr (gK) [.slice a l cp]) := hKb
      have QM : Hid (Bk wr (w.heap.size) [.int .i64 c, .int .i64 d]) := hM
      have QR : Hid (Bk wr (w.heap.size + 1) [.slice none 0 0]) := hR
      have QO : Hid (wr.ownsRow (gK + 1) 74 10 (.slice a l cp) k ((List.range k).flatMap (P10.rowK (newZ c d W)))) := hO
      have QB : Hid (Below w.heap.size w wr) := hB
      clear hKb hM hR hO hB
      go_wp2
      obtain ⟨gW, eW⟩ : ∃ g, g = wr.heap.size := ⟨_, rfl⟩
      obtain ⟨u1, e1⟩ : ∃ u1, u1 = wr.alloc (.cells #[.int .i64 (W k 0), .int .i64 (W k 1), .int .i64 (W k 2), .int .i64 (W k 3), .int .i64 (W k 4)] 56) := ⟨_, rfl⟩
      rw [← e1]
      have hb1 : Below wr.heap.size wr u1 := by rw [e1]; exact (Below.refl _ _).alloc (Nat.le_refl _) _
      have hW : Bk u1 gW [.int .i64 (W k 0), .int .i64 (W k 1), .int .i64 (W k 2), .int .i64 (W k 3), .int .i64 (W k 4)] := by rw [e1, eW]; exact bk_new wr 56 [.int .i64 (W k 0), .int .i64 (W k 1), .int .i64 (W k 2), .int .i64 (W k 3), .int .i64 (W k 4)]
      rw [← eW]
      have gw1 : gK + 1 ≤ gW := by rw [eW]; exact hz
      have hz1 := hb1.size
      have hKb := QK.out
      have hM := QM.out
      have hR := QR.out
      have hO := QO.out
      have hB := QB.out
      clear QK QM QR QO QB
      have hgW : ¬ (Value.slice a l cp).ownBlock = some gW := by intro e; have := (hO.lt gW e).2; omega
      clear e1 eW c0 c1 c2 c3 c4 m0 m1 ml
      replace hKb := hKb.below hb1
      replace hM := hM.below hb1
      replace hR := hR.below hb1
      replace hO := own_keep hO hb1
      replace hB := bthen hB hb1
      clear hb1
      have m0 : u1.cell? ⟨w.heap.size, 0, none⟩ = some (.int .i64 c) := (hM.2 0 (by simp)).1
      have m1 : u1.cell? ⟨w.heap.size, 1, none⟩ = some (.int .i64 d) := (hM.2 1 (by simp)).1
      have ml : w.heap.size < u1.heap.size := hM.1
      have c0 : u1.cell? ⟨gW, 0, none⟩ = some (.int .i64 (W k 0)) := (hW.2 0 (by simp)).1
      have c1 : u1.cell? ⟨gW, 1, none⟩ = some (.int .i64 (W k 1)) := (hW.2 1 (by simp)).1
      have c2 : u1.cell? ⟨gW, 2, none⟩ = some (.int .i64 (W k 2)) := (hW.2 2 (by simp)).1
      have c3 : u1.cell? ⟨gW, 3, none⟩ = some (.int .i64 (W k 3)) := (hW.2 3 (by simp)).1
      have c4 : u1.cell? ⟨gW, 4, none⟩ = some (.int .i64 (W k 4)) := (hW.2 4 (by simp)).1
      have lw : gW < u1.heap.size := hW.1
      refine wp_region_held_drew (S := Rd [(gW, 0, .int .i64 (W k 0)), (gW, 1, .int .i64 (W k 1)), (gW, 3, .int .i64 (W k 3)), (gW, 4, .int .i64 (W k 4)), (w.heap.size, 0, .int .i64 c), (w.heap.size, 1, .int .i64 d)]) (by kernel_rfl) ((by intro p hp; simp only [List.mem_cons, List.not_mem_nil, or_false] at hp; rcases hp with rfl | rfl | rfl | rfl | rfl | rfl <;> first | exact ⟨c0, lw⟩ | exact ⟨c1, lw⟩ | exact ⟨c3, lw⟩ | exact ⟨c4, lw⟩ | exact ⟨m0, ml⟩ | exact ⟨m1, ml⟩)) ?_
      intro hHeld
      obtain ⟨X0, hX0⟩ : ∃ X, X = u1.drew := ⟨_, rfl⟩
      have hb0 : Below u1.heap.size u1 X0 := by rw [hX0]; exact (Below.refl _ _).drew
      rw [← hX0] at hHeld ⊢
      clear hX0
      replace hO := own_keep hO hb0
      replace hB := bthen hB hb0
      replace hKb := hKb.below hb0
      replace hM := hM.below hb0
      replace hR := hR.below hb0
      have hz_X0 := hb0.size
      clear hb0
      refine wpAnyH_take (i := 0) (v := .pointer (some ⟨gK, 0, none⟩)) rfl (by kernel_rfl) (by kernel_rfl) (by kernel_rfl) (fun _ _ _ h => h) (Or.inl ⟨by rfl, ?_⟩) (by assumption) ?_
      · intro wx hSw; have s0 := hSw (gW, 0, .int .i64 (W k 0)) (by simp); have s1 := hSw (gW, 1, .int .i64 (W k 1)) (by simp); have s2 := hSw (gW, 3, .int .i64 (W k 3)) (by simp); have s3 := hSw (gW, 4, .int .i64 (W k 4)) (by simp); have s4 := hSw (w.heap.size, 0, .int .i64 c) (by simp); have s5 := hSw (w.heap.size, 1, .int .i64 d) (by simp); obtain ⟨s0, t0⟩ := s0; obtain ⟨s1, t1⟩ := s1; obtain ⟨s2, t2⟩ := s2; obtain ⟨s3, t3⟩ := s3; obtain ⟨s4, t4⟩ := s4; obtain ⟨s5, t5⟩ := s5; go_simp
      try simp only [Act.put, List.setIfInBounds_toArray, List.set_cons_zero, List.set_cons_succ, List.getElem_toArray, List.getElem_cons_zero]
      refine wpAnyH_take (i := 2) (v := .pointer (some ⟨gW, 0, none⟩)) rfl (by kernel_rfl) (by kernel_rfl) (by kernel_rfl) (fun _ _ _ h => h) (Or.inl ⟨by rfl, ?_⟩) (by assumption) ?_
      · intro wx hSw; have s0 := hSw (gW, 0, .int .i64 (W k 0)) (by simp); have s1 := hSw (gW, 1, .int .i64 (W k 1)) (by simp); have s2 := hSw (gW, 3, .int .i64 (W k 3)) (by simp); have s3 := hSw (gW, 4, .int .i64 (W k 4)) (by simp); have s4 := hSw (w.heap.size, 0, .int .i64 c) (by simp); have s5 := hSw (w.heap.size, 1, .int .i64 d) (by simp); obtain ⟨s0, t0⟩ := s0; obtain ⟨s1, t1⟩ := s1; obtain ⟨s2, t2⟩ := s2; obtain ⟨s3, t3⟩ := s3; obtain ⟨s4, t4⟩ := s4; obtain ⟨s5, t5⟩ := s5; go_simp
      try simp only [Act.put, List.setIfInBounds_toArray, List.set_cons_zero, List.set_cons_succ, List.getElem_toArray, List.getElem_cons_zero, List.getElem_cons_succ]
      refine wpAnyH_take (i := 3) (v := .int .i64 (W k 0)) rfl (by kernel_rfl) (by kernel_rfl) (by kernel_rfl) (fun _ _ _ h => h) (Or.inl ⟨by rfl, ?_⟩) (by assumption) ?_
      · intro wx hSw; have s0 := hSw (gW, 0, .int .i64 (W k 0)) (by simp); have s1 := hSw (gW, 1, .int .i64 (W k 1)) (by simp); have s2 := hSw (gW, 3, .int .i64 (W k 3)) (by simp); have s3 := hSw (gW, 4, .int .i64 (W k 4)) (by simp); have s4 := hSw (w.heap.size, 0, .int .i64 c) (by simp); have s5 := hSw (w.heap.size, 1, .int .i64 d) (by simp); obtain ⟨s0, t0⟩ := s0; obtain ⟨s1, t1⟩ := s1; obtain ⟨s2, t2⟩ := s2; obtain ⟨s3, t3⟩ := s3; obtain ⟨s4, t4⟩ := s4; obtain ⟨s5, t5⟩ := s5; go_simp
      try simp only [Act.put, List.setIfInBounds_toArray, List.set_cons_zero, List.set_cons_succ, List.getElem_toArray, List.getElem_cons_zero, List.getElem_cons_succ]
      refine wpAnyH_take (i := 4) (v := .agg #[.int .i64 c, .int .i64 d]) rfl (by kernel_rfl) (by kernel_rfl) (by kernel_rfl) (fun _ _ _ h => h) (Or.inl ⟨by rfl, ?_⟩) (by assumption) ?_
      · intro wx hSw; have s0 := hSw (gW, 0, .int .i64 (W k 0)) (by simp); have s1 := hSw (gW, 1, .int .i64 (W k 1)) (by simp); have s2 := hSw (gW, 3, .int .i64 (W k 3)) (by simp); have s3 := hSw (gW, 4, .int .i64 (W k 4)) (by simp); have s4 := hSw (w.heap.size, 0, .int .i64 c) (by simp); have s5 := hSw (w.heap.size, 1, .int .i64 d) (by simp); obtain ⟨s0, t0⟩ := s0; obtain ⟨s1, t1⟩ := s1; obtain ⟨s2, t2⟩ := s2; obtain ⟨s3, t3⟩ := s3; obtain ⟨s4, t4⟩ := s4; obtain ⟨s5, t5⟩ := s5; go_simp
      try simp only [Act.put, List.setIfInBounds_toArray, List.set_cons_zero, List.set_cons_succ, List.getElem_toArray, List.getElem_cons_zero, List.getElem_cons_succ]
      refine wpAnyH_take (i := 5) (v := .pointer (some ⟨gW, 1, none⟩)) rfl (by kernel_rfl) (by kernel_rfl) (by kernel_rfl) (fun _ _ _ h => h) (Or.inl ⟨by rfl, ?_⟩) (by assumption) ?_
      · intro wx hSw; have s0 := hSw (gW, 0, .int .i64 (W k 0)) (by simp); have s1 := hSw (gW, 1, .int .i64 (W k 1)) (by simp); have s2 := hSw (gW, 3, .int .i64 (W k 3)) (by simp); have s3 := hSw (gW, 4, .int .i64 (W k 4)) (by simp); have s4 := hSw (w.heap.size, 0, .int .i64 c) (by simp); have s5 := hSw (w.heap.size, 1, .int .i64 d) (by simp); obtain ⟨s0, t0⟩ := s0; obtain ⟨s1, t1⟩ := s1; obtain ⟨s2, t2⟩ := s2; obtain ⟨s3, t3⟩ := s3; obtain ⟨s4, t4⟩ := s4; obtain ⟨s5, t5⟩ := s5; go_simp
      try simp only [Act.put, List.setIfInBounds_toArray, List.set_cons_zero, List.set_cons_succ, List.getElem_toArray, List.getElem_cons_zero, List.getElem_cons_succ]
      refine wpAnyH_take (i := 6) (v := .int .i64 (W k 1)) rfl (by kernel_rfl) (by kernel_rfl) (by kernel_rfl) (fun _ _ _ h => h) (Or.inl ⟨by rfl, ?_⟩) (by assumption) ?_
      · intro wx hSw; have s0 := hSw (gW, 0, .int .i64 (W k 0)) (by simp); have s1 := hSw (gW, 1, .int .i64 (W k 1)) (by simp); have s2 := hSw (gW, 3, .int .i64 (W k 3)) (by simp); have s3 := hSw (gW, 4, .int .i64 (W k 4)) (by simp); have s4 := hSw (w.heap.size, 0, .int .i64 c) (by simp); have s5 := hSw (w.heap.size, 1, .int .i64 d) (by simp); obtain ⟨s0, t0⟩ := s0; obtain ⟨s1, t1⟩ := s1; obtain ⟨s2, t2⟩ := s2; obtain ⟨s3, t3⟩ := s3; obtain ⟨s4, t4⟩ := s4; obtain ⟨s5, t5⟩ := s5; go_simp
      try simp only [Act.put, List.setIfInBounds_toArray, List.set_cons_zero, List.set_cons_succ, List.getElem_toArray, List.getElem_cons_zero, List.getElem_cons_succ]
      refine wpAnyH_take (i := 8) (v := .pointer (some ⟨gW, 3, none⟩)) rfl (by kernel_rfl) (by kernel_rfl) (by kernel_rfl) (fun _ _ _ h => h) (Or.inl ⟨by rfl, ?_⟩) (by assumption) ?_
      · intro wx hSw; have s0 := hSw (gW, 0, .int .i64 (W k 0)) (by simp); have s1 := hSw (gW, 1, .int .i64 (W k 1)) (by simp); have s2 := hSw (gW, 3, .int .i64 (W k 3)) (by simp); have s3 := hSw (gW, 4, .int .i64 (W k 4)) (by simp); have s4 := hSw (w.heap.size, 0, .int .i64 c) (by simp); have s5 := hSw (w.heap.size, 1, .int .i64 d) (by simp); obtain ⟨s0, t0⟩ := s0; obtain ⟨s1, t1⟩ := s1; obtain ⟨s2, t2⟩ := s2; obtain ⟨s3, t3⟩ := s3; obtain ⟨s4, t4⟩ := s4; obtain ⟨s5, t5⟩ := s5; go_simp
      try simp only [Act.put, List.setIfInBounds_toArray, List.set_cons_zero, List.set_cons_succ, List.getElem_toArray, List.getElem_cons_zero, List.getElem_cons_succ]
      refine wpAnyH_take (i := 9) (v := .int .i64 (W k 3)) rfl (by kernel_rfl) (by kernel_rfl) (by kernel_rfl) (fun _ _ _ h => h) (Or.inl ⟨by rfl, ?_⟩) (by assumption) ?_
      · intro wx hSw; have s0 := hSw (gW, 0, .int .i64 (W k 0)) (by simp); have s1 := hSw (gW, 1, .int .i64 (W k 1)) (by simp); have s2 := hSw (gW, 3, .int .i64 (W k 3)) (by simp); have s3 := hSw (gW, 4, .int .i64 (W k 4)) (by simp); have s4 := hSw (w.heap.size, 0, .int .i64 c) (by simp); have s5 := hSw (w.heap.size, 1, .int .i64 d) (by simp); obtain ⟨s0, t0⟩ := s0; obtain ⟨s1, t1⟩ := s1; obtain ⟨s2, t2⟩ := s2; obtain ⟨s3, t3⟩ := s3; obtain ⟨s4, t4⟩ := s4; obtain ⟨s5, t5⟩ := s5; go_simp
      try simp only [Act.put, List.setIfInBounds_toArray, List.set_cons_zero, List.set_cons_succ, List.getElem_toArray, List.getElem_cons_zero, List.getElem_cons_succ]
      refine wpAnyH_take (i := 10) (v := .pointer (some ⟨gW, 4, none⟩)) rfl (by kernel_rfl) (by kernel_rfl) (by kernel_rfl) (fun _ _ _ h => h) (Or.inl ⟨by rfl, ?_⟩) (by assumption) ?_
      · intro wx hSw; have s0 := hSw (gW, 0, .int .i64 (W k 0)) (by simp); have s1 := hSw (gW, 1, .int .i64 (W k 1)) (by simp); have s2 := hSw (gW, 3, .int .i64 (W k 3)) (by simp); have s3 := hSw (gW, 4, .int .i64 (W k 4)) (by simp); have s4 := hSw (w.heap.size, 0, .int .i64 c) (by simp); have s5 := hSw (w.heap.size, 1, .int .i64 d) (by simp); obtain ⟨s0, t0⟩ := s0; obtain ⟨s1, t1⟩ := s1; obtain ⟨s2, t2⟩ := s2; obtain ⟨s3, t3⟩ := s3; obtain ⟨s4, t4⟩ := s4; obtain ⟨s5, t5⟩ := s5; go_simp
      try simp only [Act.put, List.setIfInBounds_toArray, List.set_cons_zero, List.set_cons_succ, List.getElem_toArray, List.getElem_cons_zero, List.getElem_cons_succ]
      refine wpAnyH_take (i := 11) (v := .int .i64 (W k 4)) rfl (by kernel_rfl) (by kernel_rfl) (by kernel_rfl) (fun _ _ _ h => h) (Or.inl ⟨by rfl, ?_⟩) (by assumption) ?_
      · intro wx hSw; have s0 := hSw (gW, 0, .int .i64 (W k 0)) (by simp); have s1 := hSw (gW, 1, .int .i64 (W k 1)) (by simp); have s2 := hSw (gW, 3, .int .i64 (W k 3)) (by simp); have s3 := hSw (gW, 4, .int .i64 (W k 4)) (by simp); have s4 := hSw (w.heap.size, 0, .int .i64 c) (by simp); have s5 := hSw (w.heap.size, 1, .int .i64 d) (by simp); obtain ⟨s0, t0⟩ := s0; obtain ⟨s1, t1⟩ := s1; obtain ⟨s2, t2⟩ := s2; obtain ⟨s3, t3⟩ := s3; obtain ⟨s4, t4⟩ := s4; obtain ⟨s5, t5⟩ := s5; go_simp
      try simp only [Act.put, List.setIfInBounds_toArray, List.set_cons_zero, List.set_cons_succ, List.getElem_toArray, List.getElem_cons_zero, List.getElem_cons_succ]
      refine wpAnyH_ready (rs := [1, 7]) (by kernel_rfl) (by simp) ?_
      refine (AllReadyH.cons rfl (fun K hK => ?_) (AllReadyH.cons rfl (fun K hK => ?_) AllReadyH.nil))
      · have kc := (hKb.2 0 (by simp)).1
        have kl := hKb.1
        simp only [List.getD, List.getElem?_cons_zero, Option.getD_some] at kc
        go_simp
        clear kc kl
        refine hK.out _ _ hHeld (fun hNew => ?_)
        clear hK K hHeld
        have hHeld := hNew
        clear hNew
        try simp only [Act.put, List.setIfInBounds_toArray, List.set_cons_zero, List.set_cons_succ, List.getElem_toArray, List.getElem_cons_zero, List.getElem_cons_succ]
        refine wpAnyH_ready (rs := [7]) (by kernel_rfl) (by simp) ?_
        refine (AllReadyH.cons rfl (fun K hK => ?_) AllReadyH.nil)
        go_simp
        go_wp2_with fail
        refine (plcCell_impl c d (W k 1) _).mono ?_
        rintro e X1 ⟨rfl, hx1⟩
        replace hO := own_keep hO hx1
        replace hB := bthen hB hx1
        replace hKb := hKb.below hx1
        replace hM := hM.below hx1
        replace hR := hR.below hx1
        have hz_X1 := hx1.size
        refine hK.out _ _ (hHeld.below hx1) (fun hNew => ?_)
        clear hK K hHeld
        have hHeld := hNew
        clear hNew
        try simp only [Act.put, List.setIfInBounds_toArray, List.set_cons_zero, List.set_cons_succ, List.getElem_toArray, List.getElem_cons_zero, List.getElem_cons_succ]
        clear hx1
        refine wpAnyH_take (i := 12) (v := .agg #[.int .i64 (W k 0), .int .i64 (cellF c d (W k 1)), .bool false, .int .i64 0, .int .i64 0, .int .i64 0, .int .i64 0, .int .i64 0, .int .i64 (W k 3), .int .i64 (W k 4)]) rfl (by kernel_rfl) (by kernel_rfl) (by kernel_rfl) (fun _ _ _ h => h) (Or.inl ⟨by rfl, ?_⟩) (by assumption) ?_
        · intro wx hSw; have s0 := hSw (gW, 0, .int .i64 (W k 0)) (by simp); have s1 := hSw (gW, 1, .int .i64 (W k 1)) (by simp); have s2 := hSw (gW, 3, .int .i64 (W k 3)) (by simp); have s3 := hSw (gW, 4, .int .i64 (W k 4)) (by simp); have s4 := hSw (w.heap.size, 0, .int .i64 c) (by simp); have s5 := hSw (w.heap.size, 1, .int .i64 d) (by simp); obtain ⟨s0, t0⟩ := s0; obtain ⟨s1, t1⟩ := s1; obtain ⟨s2, t2⟩ := s2; obtain ⟨s3, t3⟩ := s3; obtain ⟨s4, t4⟩ := s4; obtain ⟨s5, t5⟩ := s5; go_simp
        try simp only [Act.put, List.setIfInBounds_toArray, List.set_cons_zero, List.set_cons_succ, List.getElem_toArray, List.getElem_cons_zero, List.getElem_cons_succ]
        refine wpAnyH_ready (rs := [13]) (by kernel_rfl) (by simp) ?_
        refine (AllReadyH.cons rfl (fun K hK => ?_) AllReadyH.nil)
        go_simp
        obtain ⟨X2, e2⟩ : ∃ X, X = X1.alloc (.cells #[.int .i64 (W k 0), .int .i64 (cellF c d (W k 1)), .bool false, .int .i64 0, .int .i64 0, .int .i64 0, .int .i64 0, .int .i64 0, .int .i64 (W k 3), .int .i64 (W k 4)] 74) := ⟨_, rfl⟩
        rw [← e2]
        have hx2 : Below X1.heap.size X1 X2 := by rw [e2]; exact (Below.refl _ _).alloc (Nat.le_refl _) _
        have hnn : Hid (∀ j u, (P10.rowK ((newZ c d W)) k)[j]? = some u → X2.cell? ((⟨X1.heap.size, 0, none⟩ : Addr).add j) = some u) := by rw [e2]; exact cells_row X1 ((newZ c d W)) k
        clear e2
        replace hO := own_keep hO hx2
        replace hB := bthen hB hx2
        replace hKb := hKb.below hx2
        replace hM := hM.below hx2
        replace hR := hR.below hx2
        have hz_X2 := hx2.size
        refine hK.out _ _ (hHeld.below hx2) (fun hNew => ?_)
        clear hK K hHeld
        have hHeld := hNew
        clear hNew
        try simp only [Act.put, List.setIfInBounds_toArray, List.set_cons_zero, List.set_cons_succ, List.getElem_toArray, List.getElem_cons_zero, List.getElem_cons_succ]
        clear hx2
        refine wpAnyH_ready (rs := [14]) (by kernel_rfl) (by simp) ?_
        refine (AllReadyH.cons rfl (fun K hK => ?_) AllReadyH.nil)
        rw [if_pos (by rfl)]
        refine app10 _ _ rfl (gK + 1) k _ _ rfl hO ⟨X1.heap.size, 0, none⟩ 1 (P10.rowK ((newZ c d W)) k) rfl rfl hnn.out (one_row _ _) (by omega) (by omega) ?_
        intro v3 X3 hO3 hg3
        obtain ⟨a3, l3, c3, ev3⟩ := own_shape hO3
        subst ev3
        have hz_X3 := hg3.size
        replace hB := below_row hB hO hg3 (by omega) (by omega)
        replace hKb := bk_grown hKb hO hg3 (by omega)
        replace hM := bk_grown hM hO hg3 (by omega)
        replace hR := bk_grown hR hO hg3 (by omega)
        refine hK.out _ _ (hHeld.grown hO hg3 (by intro p hp; simp only [List.mem_cons, List.not_mem_nil, or_false] at hp; rcases hp with rfl | rfl | rfl | rfl | rfl | rfl <;> first | exact .inr hgW | exact .inl (by first | (show b < _; omega) | (show w.heap.size < _; omega)))) (fun hNew => ?_)
        clear hK K hHeld
        have hHeld := hNew
        clear hNew
        try simp only [Act.put, List.setIfInBounds_toArray, List.set_cons_zero, List.set_cons_succ, List.getElem_toArray, List.getElem_cons_zero, List.getElem_cons_succ]
        clear hO hnn hg3
        rw [← rows_succ] at hO3
        refine wpAnyH_take (i := 15) (v := .pointer (some ⟨gK, 0, none⟩)) rfl (by kernel_rfl) (by kernel_rfl) (by kernel_rfl) (fun _ _ _ h => h) (Or.inl ⟨by rfl, ?_⟩) (by assumption) ?_
        · intro wx hSw; have s0 := hSw (gW, 0, .int .i64 (W k 0)) (by simp); have s1 := hSw (gW, 1, .int .i64 (W k 1)) (by simp); have s2 := hSw (gW, 3, .int .i64 (W k 3)) (by simp); have s3 := hSw (gW, 4, .int .i64 (W k 4)) (by simp); have s4 := hSw (w.heap.size, 0, .int .i64 c) (by simp); have s5 := hSw (w.heap.size, 1, .int .i64 d) (by simp); obtain ⟨s0, t0⟩ := s0; obtain ⟨s1, t1⟩ := s1; obtain ⟨s2, t2⟩ := s2; obtain ⟨s3, t3⟩ := s3; obtain ⟨s4, t4⟩ := s4; obtain ⟨s5, t5⟩ := s5; go_simp
        try simp only [Act.put, List.setIfInBounds_toArray, List.set_cons_zero, List.set_cons_succ, List.getElem_toArray, List.getElem_cons_zero, List.getElem_cons_succ]
        refine wpAnyH_ready (rs := [16]) (by kernel_rfl) (by simp) ?_
        refine (AllReadyH.cons rfl (fun K hK => ?_) AllReadyH.nil)
        have kc := (hKb.2 0 (by simp)).1
        have kf := (hKb.2 0 (by simp)).2
        simp only [List.getD, List.getElem?_cons_zero, Option.getD_some] at kc
        go_simp
        clear kc kf
        obtain ⟨X4, e4⟩ : ∃ X, X = X3.setCell ⟨gK, 0, none⟩ (.slice a3 l3 c3) := ⟨_, rfl⟩
        rw [← e4]
        replace hKb : Bk X4 (gK) [.slice a3 l3 c3] := by rw [e4]; exact Bk.set (j := 0) hKb (by simp)
        replace hM : Bk X4 (w.heap.size) [.int .i64 c, .int .i64 d] := by rw [e4]; exact hM.far (by omega)
        replace hR : Bk X4 (w.heap.size + 1) [.slice none 0 0] := by rw [e4]; exact hR.far (by omega)
        replace hB : Below w.heap.size w X4 := by rw [e4]; exact hB.setCell (by show w.heap.size ≤ gK; omega) _
        have hO4 : X4.ownsRow (gK + 1) 74 10 (.slice a3 l3 c3) (k + 1) ((List.range (k + 1)).flatMap (P10.rowK ((newZ c d W)))) := by rw [e4]; exact own_far hO3 (by omega)
        refine hK.out _ _ (by rw [e4]; exact hHeld.set (by simp <;> omega)) (fun hNew => ?_)
        have hz_X4 : X3.heap.size ≤ X4.heap.size := by rw [e4]; exact Nat.le_of_eq set_size.symm
        clear hK K hHeld
        have hHeld := hNew
        clear hNew
        try simp only [Act.put, List.setIfInBounds_toArray, List.set_cons_zero, List.set_cons_succ, List.getElem_toArray, List.getElem_cons_zero, List.getElem_cons_succ]
        clear e4 hO3
        refine wpAnyH_done (by kernel_rfl) ?_ _
        clear hHeld
        go_wp2
        go_roundw
        case rel => exact ⟨k + 1, a3, l3, c3, by omega, by go_num, hKb, hM, hR, hO4, hB, by omega⟩
        case measure => simp [intOf]; omega
      · go_simp
        go_wp2_with fail
        refine (plcCell_impl c d (W k 1) _).mono ?_
        rintro e X1 ⟨rfl, hx1⟩
        replace hO := own_keep hO hx1
        replace hB := bthen hB hx1
        replace hKb := hKb.below hx1
        replace hM := hM.below hx1
        replace hR := hR.below hx1
        have hz_X1 := hx1.size
        refine hK.out _ _ (hHeld.below hx1) (fun hNew => ?_)
        clear hK K hHeld
        have hHeld := hNew
        clear hNew
        try simp only [Act.put, List.setIfInBounds_toArray, List.set_cons_zero, List.set_cons_succ, List.getElem_toArray, List.getElem_cons_zero, List.getElem_cons_succ]
        clear hx1
        refine wpAnyH_take (i := 12) (v := .agg #[.int .i64 (W k 0), .int .i64 (cellF c d (W k 1)), .bool false, .int .i64 0, .int .i64 0, .int .i64 0, .int .i64 0, .int .i64 0, .int .i64 (W k 3), .int .i64 (W k 4)]) rfl (by kernel_rfl) (by kernel_rfl) (by kernel_rfl) (fun _ _ _ h => h) (Or.inl ⟨by rfl, ?_⟩) (by assumption) ?_
        · intro wx hSw; have s0 := hSw (gW, 0, .int .i64 (W k 0)) (by simp); have s1 := hSw (gW, 1, .int .i64 (W k 1)) (by simp); have s2 := hSw (gW, 3, .int .i64 (W k 3)) (by simp); have s3 := hSw (gW, 4, .int .i64 (W k 4)) (by simp); have s4 := hSw (w.heap.size, 0, .int .i64 c) (by simp); have s5 := hSw (w.heap.size, 1, .int .i64 d) (by simp); obtain ⟨s0, t0⟩ := s0; obtain ⟨s1, t1⟩ := s1; obtain ⟨s2, t2⟩ := s2; obtain ⟨s3, t3⟩ := s3; obtain ⟨s4, t4⟩ := s4; obtain ⟨s5, t5⟩ := s5; go_simp
        try simp only [Act.put, List.setIfInBounds_toArray, List.set_cons_zero, List.set_cons_succ, List.getElem_toArray, List.getElem_cons_zero, List.getElem_cons_succ]
        refine wpAnyH_ready (rs := [1, 13]) (by kernel_rfl) (by simp) ?_
        refine (AllReadyH.cons rfl (fun K hK => ?_) (AllReadyH.cons rfl (fun K hK => ?_) AllReadyH.nil))
        · have kc := (hKb.2 0 (by simp)).1
          have kl := hKb.1
          simp only [List.getD, List.getElem?_cons_zero, Option.getD_some] at kc
          go_simp
          clear kc kl
          refine hK.out _ _ hHeld (fun hNew => ?_)
          clear hK K hHeld
          have hHeld := hNew
          clear hNew
          try simp only [Act.put, List.setIfInBounds_toArray, List.set_cons_zero, List.set_cons_succ, List.getElem_toArray, List.getElem_cons_zero, List.getElem_cons_succ]
          refine wpAnyH_ready (rs := [13]) (by kernel_rfl) (by simp) ?_
          refine (AllReadyH.cons rfl (fun K hK => ?_) AllReadyH.nil)
          go_simp
          obtain ⟨X2, e2⟩ : ∃ X, X = X1.alloc (.cells #[.int .i64 (W k 0), .int .i64 (cellF c d (W k 1)), .bool false, .int .i64 0, .int .i64 0, .int .i64 0, .int .i64 0, .int .i64 0, .int .i64 (W k 3), .int .i64 (W k 4)] 74) := ⟨_, rfl⟩
          rw [← e2]
          have hx2 : Below X1.heap.size X1 X2 := by rw [e2]; exact (Below.refl _ _).alloc (Nat.le_refl _) _
          have hnn : Hid (∀ j u, (P10.rowK ((newZ c d W)) k)[j]? = some u → X2.cell? ((⟨X1.heap.size, 0, none⟩ : Addr).add j) = some u) := by rw [e2]; exact cells_row X1 ((newZ c d W)) k
          clear e2
          replace hO := own_keep hO hx2
          replace hB := bthen hB hx2
          replace hKb := hKb.below hx2
          replace hM := hM.below hx2
          replace hR := hR.below hx2
          have hz_X2 := hx2.size
          refine hK.out _ _ (hHeld.below hx2) (fun hNew => ?_)
          clear hK K hHeld
          have hHeld := hNew
          clear hNew
          try simp only [Act.put, List.setIfInBounds_toArray, List.set_cons_zero, List.set_cons_succ, List.getElem_toArray, List.getElem_cons_zero, List.getElem_cons_succ]
          clear hx2
          refine wpAnyH_ready (rs := [14]) (by kernel_rfl) (by simp) ?_
          refine (AllReadyH.cons rfl (fun K hK => ?_) AllReadyH.nil)
          rw [if_pos (by rfl)]
          refine app10 _ _ rfl (gK + 1) k _ _ rfl hO ⟨X1.heap.size, 0, none⟩ 1 (P10.rowK ((newZ c d W)) k) rfl rfl hnn.out (one_row _ _) (by omega) (by omega) ?_
          intro v3 X3 hO3 hg3
          obtain ⟨a3, l3, c3, ev3⟩ := own_shape hO3
          subst ev3
          have hz_X3 := hg3.size
          replace hB := below_row hB hO hg3 (by omega) (by omega)
          replace hKb := bk_grown hKb hO hg3 (by omega)
          replace hM := bk_grown hM hO hg3 (by omega)
          replace hR := bk_grown hR hO hg3 (by omega)
          refine hK.out _ _ (hHeld.grown hO hg3 (by intro p hp; simp only [List.mem_cons, List.not_mem_nil, or_false] at hp; rcases hp with rfl | rfl | rfl | rfl | rfl | rfl <;> first | exact .inr hgW | exact .inl (by first | (show b < _; omega) | (show w.heap.size < _; omega)))) (fun hNew => ?_)
          clear hK K hHeld
          have hHeld := hNew
          clear hNew
          try simp only [Act.put, List.setIfInBounds_toArray, List.set_cons_zero, List.set_cons_succ, List.getElem_toArray, List.getElem_cons_zero, List.getElem_cons_succ]
          clear hO hnn hg3
          rw [← rows_succ] at hO3
          refine wpAnyH_take (i := 15) (v := .pointer (some ⟨gK, 0, none⟩)) rfl (by kernel_rfl) (by kernel_rfl) (by kernel_rfl) (fun _ _ _ h => h) (Or.inl ⟨by rfl, ?_⟩) (by assumption) ?_
          · intro wx hSw; have s0 := hSw (gW, 0, .int .i64 (W k 0)) (by simp); have s1 := hSw (gW, 1, .int .i64 (W k 1)) (by simp); have s2 := hSw (gW, 3, .int .i64 (W k 3)) (by simp); have s3 := hSw (gW, 4, .int .i64 (W k 4)) (by simp); have s4 := hSw (w.heap.size, 0, .int .i64 c) (by simp); have s5 := hSw (w.heap.size, 1, .int .i64 d) (by simp); obtain ⟨s0, t0⟩ := s0; obtain ⟨s1, t1⟩ := s1; obtain ⟨s2, t2⟩ := s2; obtain ⟨s3, t3⟩ := s3; obtain ⟨s4, t4⟩ := s4; obtain ⟨s5, t5⟩ := s5; go_simp
          try simp only [Act.put, List.setIfInBounds_toArray, List.set_cons_zero, List.set_cons_succ, List.getElem_toArray, List.getElem_cons_zero, List.getElem_cons_succ]
          refine wpAnyH_ready (rs := [16]) (by kernel_rfl) (by simp) ?_
          refine (AllReadyH.cons rfl (fun K hK => ?_) AllReadyH.nil)
          have kc := (hKb.2 0 (by simp)).1
          have kf := (hKb.2 0 (by simp)).2
          simp only [List.getD, List.getElem?_cons_zero, Option.getD_some] at kc
          go_simp
          clear kc kf
          obtain ⟨X4, e4⟩ : ∃ X, X = X3.setCell ⟨gK, 0, none⟩ (.slice a3 l3 c3) := ⟨_, rfl⟩
          rw [← e4]
          replace hKb : Bk X4 (gK) [.slice a3 l3 c3] := by rw [e4]; exact Bk.set (j := 0) hKb (by simp)
          replace hM : Bk X4 (w.heap.size) [.int .i64 c, .int .i64 d] := by rw [e4]; exact hM.far (by omega)
          replace hR : Bk X4 (w.heap.size + 1) [.slice none 0 0] := by rw [e4]; exact hR.far (by omega)
          replace hB : Below w.heap.size w X4 := by rw [e4]; exact hB.setCell (by show w.heap.size ≤ gK; omega) _
          have hO4 : X4.ownsRow (gK + 1) 74 10 (.slice a3 l3 c3) (k + 1) ((List.range (k + 1)).flatMap (P10.rowK ((newZ c d W)))) := by rw [e4]; exact own_far hO3 (by omega)
          refine hK.out _ _ (by rw [e4]; exact hHeld.set (by simp <;> omega)) (fun hNew => ?_)
          have hz_X4 : X3.heap.size ≤ X4.heap.size := by rw [e4]; exact Nat.le_of_eq set_size.symm
          clear hK K hHeld
          have hHeld := hNew
          clear hNew
          try simp only [Act.put, List.setIfInBounds_toArray, List.set_cons_zero, List.set_cons_succ, List.getElem_toArray, List.getElem_cons_zero, List.getElem_cons_succ]
          clear e4 hO3
          refine wpAnyH_done (by kernel_rfl) ?_ _
          clear hHeld
          go_wp2
          go_roundw
          case rel => exact ⟨k + 1, a3, l3, c3, by omega, by go_num, hKb, hM, hR, hO4, hB, by omega⟩
          case measure => simp [intOf]; omega
        · go_simp
          obtain ⟨X2, e2⟩ : ∃ X, X = X1.alloc (.cells #[.int .i64 (W k 0), .int .i64 (cellF c d (W k 1)), .bool false, .int .i64 0, .int .i64 0, .int .i64 0, .int .i64 0, .int .i64 0, .int .i64 (W k 3), .int .i64 (W k 4)] 74) := ⟨_, rfl⟩
          rw [← e2]
          have hx2 : Below X1.heap.size X1 X2 := by rw [e2]; exact (Below.refl _ _).alloc (Nat.le_refl _) _
          have hnn : Hid (∀ j u, (P10.rowK ((newZ c d W)) k)[j]? = some u → X2.cell? ((⟨X1.heap.size, 0, none⟩ : Addr).add j) = some u) := by rw [e2]; exact cells_row X1 ((newZ c d W)) k
          clear e2
          replace hO := own_keep hO hx2
          replace hB := bthen hB hx2
          replace hKb := hKb.below hx2
          replace hM := hM.below hx2
          replace hR := hR.below hx2
          have hz_X2 := hx2.size
          refine hK.out _ _ (hHeld.below hx2) (fun hNew => ?_)
          clear hK K hHeld
          have hHeld := hNew
          clear hNew
          try simp only [Act.put, List.setIfInBounds_toArray, List.set_cons_zero, List.set_cons_succ, List.getElem_toArray, List.getElem_cons_zero, List.getElem_cons_succ]
          clear hx2
          refine wpAnyH_ready (rs := [1]) (by kernel_rfl) (by simp) ?_
          refine (AllReadyH.cons rfl (fun K hK => ?_) AllReadyH.nil)
          have kc := (hKb.2 0 (by simp)).1
          have kl := hKb.1
          simp only [List.getD, List.getElem?_cons_zero, Option.getD_some] at kc
          go_simp
          clear kc kl
          refine hK.out _ _ hHeld (fun hNew => ?_)
          clear hK K hHeld
          have hHeld := hNew
          clear hNew
          try simp only [Act.put, List.setIfInBounds_toArray, List.set_cons_zero, List.set_cons_succ, List.getElem_toArray, List.getElem_cons_zero, List.getElem_cons_succ]
          refine wpAnyH_ready (rs := [14]) (by kernel_rfl) (by simp) ?_
          refine (AllReadyH.cons rfl (fun K hK => ?_) AllReadyH.nil)
          rw [if_pos (by rfl)]
          refine app10 _ _ rfl (gK + 1) k _ _ rfl hO ⟨X1.heap.size, 0, none⟩ 1 (P10.rowK ((newZ c d W)) k) rfl rfl hnn.out (one_row _ _) (by omega) (by omega) ?_
          intro v3 X3 hO3 hg3
          obtain ⟨a3, l3, c3, ev3⟩ := own_shape hO3
          subst ev3
          have hz_X3 := hg3.size
          replace hB := below_row hB hO hg3 (by omega) (by omega)
          replace hKb := bk_grown hKb hO hg3 (by omega)
          replace hM := bk_grown hM hO hg3 (by omega)
          replace hR := bk_grown hR hO hg3 (by omega)
          refine hK.out _ _ (hHeld.grown hO hg3 (by intro p hp; simp only [List.mem_cons, List.not_mem_nil, or_false] at hp; rcases hp with rfl | rfl | rfl | rfl | rfl | rfl <;> first | exact .inr hgW | exact .inl (by first | (show b < _; omega) | (show w.heap.size < _; omega)))) (fun hNew => ?_)
          clear hK K hHeld
          have hHeld := hNew
          clear hNew
          try simp only [Act.put, List.setIfInBounds_toArray, List.set_cons_zero, List.set_cons_succ, List.getElem_toArray, List.getElem_cons_zero, List.getElem_cons_succ]
          clear hO hnn hg3
          rw [← rows_succ] at hO3
          refine wpAnyH_take (i := 15) (v := .pointer (some ⟨gK, 0, none⟩)) rfl (by kernel_rfl) (by kernel_rfl) (by kernel_rfl) (fun _ _ _ h => h) (Or.inl ⟨by rfl, ?_⟩) (by assumption) ?_
          · intro wx hSw; have s0 := hSw (gW, 0, .int .i64 (W k 0)) (by simp); have s1 := hSw (gW, 1, .int .i64 (W k 1)) (by simp); have s2 := hSw (gW, 3, .int .i64 (W k 3)) (by simp); have s3 := hSw (gW, 4, .int .i64 (W k 4)) (by simp); have s4 := hSw (w.heap.size, 0, .int .i64 c) (by simp); have s5 := hSw (w.heap.size, 1, .int .i64 d) (by simp); obtain ⟨s0, t0⟩ := s0; obtain ⟨s1, t1⟩ := s1; obtain ⟨s2, t2⟩ := s2; obtain ⟨s3, t3⟩ := s3; obtain ⟨s4, t4⟩ := s4; obtain ⟨s5, t5⟩ := s5; go_simp
          try simp only [Act.put, List.setIfInBounds_toArray, List.set_cons_zero, List.set_cons_succ, List.getElem_toArray, List.getElem_cons_zero, List.getElem_cons_succ]
          refine wpAnyH_ready (rs := [16]) (by kernel_rfl) (by simp) ?_
          refine (AllReadyH.cons rfl (fun K hK => ?_) AllReadyH.nil)
          have kc := (hKb.2 0 (by simp)).1
          have kf := (hKb.2 0 (by simp)).2
          simp only [List.getD, List.getElem?_cons_zero, Option.getD_some] at kc
          go_simp
          clear kc kf
          obtain ⟨X4, e4⟩ : ∃ X, X = X3.setCell ⟨gK, 0, none⟩ (.slice a3 l3 c3) := ⟨_, rfl⟩
          rw [← e4]
          replace hKb : Bk X4 (gK) [.slice a3 l3 c3] := by rw [e4]; exact Bk.set (j := 0) hKb (by simp)
          replace hM : Bk X4 (w.heap.size) [.int .i64 c, .int .i64 d] := by rw [e4]; exact hM.far (by omega)
          replace hR : Bk X4 (w.heap.size + 1) [.slice none 0 0] := by rw [e4]; exact hR.far (by omega)
          replace hB : Below w.heap.size w X4 := by rw [e4]; exact hB.setCell (by show w.heap.size ≤ gK; omega) _
          have hO4 : X4.ownsRow (gK + 1) 74 10 (.slice a3 l3 c3) (k + 1) ((List.range (k + 1)).flatMap (P10.rowK ((newZ c d W)))) := by rw [e4]; exact own_far hO3 (by omega)
          refine hK.out _ _ (by rw [e4]; exact hHeld.set (by simp <;> omega)) (fun hNew => ?_)
          have hz_X4 : X3.heap.size ≤ X4.heap.size := by rw [e4]; exact Nat.le_of_eq set_size.symm
          clear hK K hHeld
          have hHeld := hNew
          clear hNew
          try simp only [Act.put, List.setIfInBounds_toArray, List.set_cons_zero, List.set_cons_succ, List.getElem_toArray, List.getElem_cons_zero, List.getElem_cons_succ]
          clear e4 hO3
          refine wpAnyH_done (by kernel_rfl) ?_ _
          clear hHeld
          go_wp2
          go_roundw
          case rel => exact ⟨k + 1, a3, l3, c3, by omega, by go_num, hKb, hM, hR, hO4, hB, by omega⟩
          case measure => simp [intOf]; omega
    · have hkk : k = n := by omega
      subst hkk
      have kc : wr.cell? ⟨gK, 0, none⟩ = some (.slice a l cp) := (hKb.2 0 (by simp)).1
      have kl := hKb.1
      have rc : wr.cell? ⟨w.heap.size + 1, 0, none⟩ = some (.slice none 0 0) := (hR.2 0 (by simp)).1
      have rf : wr.frozen? ⟨w.heap.size + 1, 0, none⟩ = false := (hR.2 0 (by simp)).2
      have QK : Hid (Bk wr (gK) [.slice a l cp]) := hKb
      have QM : Hid (Bk wr (w.heap.size) [.int .i64 c, .int .i64 d]) := hM
      have QR : Hid (Bk wr (w.heap.size + 1) [.slice none 0 0]) := hR
      have QO : Hid (wr.ownsRow (gK + 1) 74 10 (.slice a l cp) k ((List.range k).flatMap (P10.rowK (newZ c d W)))) := hO
      have QB : Hid (Below w.heap.size w wr) := hB
      clear hKb hM hR hO hB
      go_wp2
      refine bodyPost_ret (v := .agg #[.slice a l cp]) (by simp [results, Try.results11, go_sem, *]) rfl ?_
      exact ⟨⟨_, rfl, by rw [HV.out]; exact rl_mono (P10.rl_of_own (own_far QO.out (g := w.heap.size + 1) (by omega))) (by omega)⟩, QB.out.setCell (by show w.heap.size ≤ w.heap.size + 1; omega) _⟩

end Go.Proofs.Ytgjapdjidighlaa
