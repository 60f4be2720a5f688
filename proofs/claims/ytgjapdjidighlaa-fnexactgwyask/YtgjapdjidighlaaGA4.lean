/- GwyAsk of the model; conditions: those typed. -/
import Derived.Test.YtgjapdjidighlaaGA3
import Derived.Test.YtgjapdjidighlaaGB4
namespace Go.Proofs.Ytgjapdjidighlaa
open Go.RowKit Go.Deep
set_option linter.unusedVariables false

theorem rl_row {lo hi : Nat} {w : World} {a : Option Addr} {c n : Nat} {Z : Nat → Nat → Int} (h : P10.RL lo hi w (.slice a n c) n Z) : P10.RowK w a n Z := by
  obtain ⟨a', c', e, r⟩ := h.at
  cases e
  exact r
theorem rl_hi {lo hi hi' : Nat} {w : World} {v : Value} {n : Nat} {Z : Nat → Nat → Int} (h : P10.RL lo hi w v n Z) (h1 : hi ≤ hi') (h2 : hi' ≤ w.heap.size) : P10.RL lo hi' w v n Z := by
  rcases h with h | ⟨g, c, q1, q2, q3, q4, q5⟩
  · exact .inl h
  · exact .inr ⟨g, c, q1, q2, by omega, h2, q5⟩

set_option maxRecDepth 20000 in
set_option maxHeartbeats 4000000 in
theorem ask_spec (c d : Int) (b o n cap : Nat) (Z : Nat → Nat → Int) (who kind to nn : Int) (hn : n ≤ 1048576) (w : World) (hb : b < w.heap.size) (hr : ∀ k j, k < n → j < 10 → w.cell? ⟨b, o + k * 10 + j, none⟩ = some (P10.cv j (Z k j))) :
    Calls Try.prog 21 #[.agg #[.int .i64 c, .int .i64 d], .agg #[.slice (some ⟨b, o, none⟩) n cap], .int .i64 who, .int .i64 kind, .int .i64 to, .int .i64 nn] w fun e w' => (∃ v, e = .returned (.tuple #[.agg #[v], .bool (gaB c d n Z who kind to nn)]) ∧ P10.RL w.heap.size w'.heap.size w' v (gaN c d n Z) (askR n Z who kind to nn).1) ∧ Below w.heap.size w w' := by
  have HR : Hid (∀ k j, k < n → j < 10 → w.cell? ⟨b, o + k * 10 + j, none⟩ = some (P10.cv j (Z k j))) := hr
  clear hr
  have HW : Hid (P10.RowK w (some ⟨b, o, none⟩) n Z) := .inr ⟨b, o, rfl, hb, HR.out⟩
  cases hk : bookB c d n Z
  · have hv : gaN c d n Z = 0 := by simp [gaN, hk]
    have hb : gaB c d n Z who kind to nn = false := by simp [gaB, hk]
    rw [hv, hb]
    clear hv hb
    go_enter Try.func21, Try.ntmps21
    go_wp2_with fail
    obtain ⟨w0, e0⟩ : ∃ w0, w0 = ((w.alloc (.cells #[.int .i64 c, .int .i64 d] 30)).alloc (.cells #[.slice (some ⟨b, o, none⟩) n cap] 28)).alloc (.cells #[.slice none 0 0] 28) := ⟨_, rfl⟩
    have B1 : Hid (Below w.heap.size w w0) := by rw [e0]; exact (((Below.refl _ _).alloc (by simp) _).alloc (by simp) _).alloc (by simp; omega) _
    have M2 : Hid (Bk w0 w.heap.size [.int .i64 c, .int .i64 d]) := by rw [e0]; exact ((bk_new w 30 [.int .i64 c, .int .i64 d]).below ((Below.refl _ _).alloc (Nat.le_refl _) _)).below ((Below.refl _ _).alloc (Nat.le_refl _) _)
    have K3 : Hid (Bk w0 (w.heap.size + 1) [.slice (some ⟨b, o, none⟩) n cap]) := by rw [e0]; have := (bk_new (w.alloc (.cells #[.int .i64 c, .int .i64 d] 30)) 28 [.slice (some ⟨b, o, none⟩) n cap]).below ((Below.refl _ _).alloc (Nat.le_refl _) (.cells #[.slice none 0 0] 28)); rwa [show (w.alloc (.cells #[.int .i64 c, .int .i64 d] 30)).heap.size = w.heap.size + 1 by simp] at this
    have R4 : Hid (Bk w0 (w.heap.size + 1 + 1) [.slice none 0 0]) := by rw [e0]; have := bk_new ((w.alloc (.cells #[.int .i64 c, .int .i64 d] 30)).alloc (.cells #[.slice (some ⟨b, o, none⟩) n cap] 28)) 28 [.slice none 0 0]; rwa [show ((w.alloc (.cells #[.int .i64 c, .int .i64 d] 30)).alloc (.cells #[.slice (some ⟨b, o, none⟩) n cap] 28)).heap.size = w.heap.size + 1 + 1 by simp] at this
    rw [← e0]
    clear e0
    refine (book_spec c d _ n cap Z hn _ (P10.row_below HW.out B1.out)).mono ?_
    rintro e w1 ⟨rfl, hb1⟩
    have B5 : Hid (Below w.heap.size w w1) := bthen B1.out hb1
    have M5 : Hid (Bk w1 w.heap.size [.int .i64 c, .int .i64 d]) := M2.out.below hb1
    have K5 : Hid (Bk w1 (w.heap.size + 1) [.slice (some ⟨b, o, none⟩) n cap]) := K3.out.below hb1
    have R5 : Hid (Bk w1 (w.heap.size + 1 + 1) [.slice none 0 0]) := R4.out.below hb1
    clear B1 M2 K3 R4
    clear hb1
    rw [hk]
    have yR0 : w1.cell? ⟨(w.heap.size + 1 + 1), 0, none⟩ = some (.slice none 0 0) := (R5.out.2 0 (by simp)).1
    have zR0 : w1.frozen? ⟨(w.heap.size + 1 + 1), 0, none⟩ = false := (R5.out.2 0 (by simp)).2
    have hlR : (w.heap.size + 1 + 1) < w1.heap.size := R5.out.1
    go_wp2
    refine bodyPost_ret (v := .tuple #[.agg #[.slice none 0 0], .bool false]) (by simp [results, Try.results21, go_sem, *]) rfl ?_
    exact ⟨⟨_, rfl, .inl ⟨rfl, none, 0, rfl⟩⟩, B5.out.setCell (by show w.heap.size ≤ w.heap.size + 1 + 1; omega) _⟩
  · have hv : gaN c d n Z = n := by simp [gaN, hk]
    have hb : gaB c d n Z who kind to nn = (askR n Z who kind to nn).2 := by simp [gaB, hk]
    rw [hv, hb]
    clear hv hb
    obtain ⟨Y, eY⟩ : ∃ Y, Y = (askR n Z who kind to nn).1 := ⟨_, rfl⟩
    obtain ⟨q, eq⟩ : ∃ q, q = (askR n Z who kind to nn).2 := ⟨_, rfl⟩
    have EY : Hid (Y = (askR n Z who kind to nn).1) := eY
    have EQ : Hid (q = (askR n Z who kind to nn).2) := eq
    rw [← eY, ← eq]
    clear eY eq
    cases hs : seek n Z who with
    | none =>
      have hY : Y = Z := by rw [EY.out]; simp only [askR, hs]
      have hq : q = false := by rw [EQ.out]; simp only [askR, hs]
      rw [hY, hq]
      clear hY hq EY EQ Y q
      go_enter Try.func21, Try.ntmps21
      go_wp2_with fail
      obtain ⟨w0, e0⟩ : ∃ w0, w0 = ((w.alloc (.cells #[.int .i64 c, .int .i64 d] 30)).alloc (.cells #[.slice (some ⟨b, o, none⟩) n cap] 28)).alloc (.cells #[.slice none 0 0] 28) := ⟨_, rfl⟩
      have B6 : Hid (Below w.heap.size w w0) := by rw [e0]; exact (((Below.refl _ _).alloc (by simp) _).alloc (by simp) _).alloc (by simp; omega) _
      have M7 : Hid (Bk w0 w.heap.size [.int .i64 c, .int .i64 d]) := by rw [e0]; exact ((bk_new w 30 [.int .i64 c, .int .i64 d]).below ((Below.refl _ _).alloc (Nat.le_refl _) _)).below ((Below.refl _ _).alloc (Nat.le_refl _) _)
      have K8 : Hid (Bk w0 (w.heap.size + 1) [.slice (some ⟨b, o, none⟩) n cap]) := by rw [e0]; have := (bk_new (w.alloc (.cells #[.int .i64 c, .int .i64 d] 30)) 28 [.slice (some ⟨b, o, none⟩) n cap]).below ((Below.refl _ _).alloc (Nat.le_refl _) (.cells #[.slice none 0 0] 28)); rwa [show (w.alloc (.cells #[.int .i64 c, .int .i64 d] 30)).heap.size = w.heap.size + 1 by simp] at this
      have R9 : Hid (Bk w0 (w.heap.size + 1 + 1) [.slice none 0 0]) := by rw [e0]; have := bk_new ((w.alloc (.cells #[.int .i64 c, .int .i64 d] 30)).alloc (.cells #[.slice (some ⟨b, o, none⟩) n cap] 28)) 28 [.slice none 0 0]; rwa [show ((w.alloc (.cells #[.int .i64 c, .int .i64 d] 30)).alloc (.cells #[.slice (some ⟨b, o, none⟩) n cap] 28)).heap.size = w.heap.size + 1 + 1 by simp] at this
      rw [← e0]
      clear e0
      refine (book_spec c d _ n cap Z hn _ (P10.row_below HW.out B6.out)).mono ?_
      rintro e w1 ⟨rfl, hb1⟩
      have B10 : Hid (Below w.heap.size w w1) := bthen B6.out hb1
      have M10 : Hid (Bk w1 w.heap.size [.int .i64 c, .int .i64 d]) := M7.out.below hb1
      have K10 : Hid (Bk w1 (w.heap.size + 1) [.slice (some ⟨b, o, none⟩) n cap]) := K8.out.below hb1
      have R10 : Hid (Bk w1 (w.heap.size + 1 + 1) [.slice none 0 0]) := R9.out.below hb1
      clear B6 M7 K8 R9
      clear hb1
      rw [hk]
      have r1 : w.heap.size + 1 + 1 < w1.heap.size := R10.out.1
      have yM0 : w1.cell? ⟨w.heap.size, 0, none⟩ = some (.int .i64 c) := (M10.out.2 0 (by simp)).1
      have yM1 : w1.cell? ⟨w.heap.size, 1, none⟩ = some (.int .i64 d) := (M10.out.2 1 (by simp)).1
      have hlM : w.heap.size < w1.heap.size := M10.out.1
      have yK0 : w1.cell? ⟨(w.heap.size + 1), 0, none⟩ = some (.slice (some ⟨b, o, none⟩) n cap) := (K10.out.2 0 (by simp)).1
      have hlK : (w.heap.size + 1) < w1.heap.size := K10.out.1
      have yR0 : w1.cell? ⟨(w.heap.size + 1 + 1), 0, none⟩ = some (.slice none 0 0) := (R10.out.2 0 (by simp)).1
      have hlR : (w.heap.size + 1 + 1) < w1.heap.size := R10.out.1
      go_wp2_with fail
      refine (copy_spec b o n cap Z hn _ (Nat.lt_of_lt_of_le hb B10.out.size) (fun k j h1 h2 => (B10.out.cell (p := ⟨b, _, none⟩) hb).trans (HR.out k j h1 h2))).mono ?_
      rintro e w2 ⟨⟨v, rfl, hr2⟩, hb2⟩
      clear yM0 yM1 hlM yK0 hlK yR0 hlR
      have B11 : Hid (Below w.heap.size w w2) := bthen B10.out hb2
      have M11 : Hid (Bk w2 w.heap.size [.int .i64 c, .int .i64 d]) := M10.out.below hb2
      have K11 : Hid (Bk w2 (w.heap.size + 1) [.slice (some ⟨b, o, none⟩) n cap]) := K10.out.below hb2
      have R11 : Hid (Bk w2 (w.heap.size + 1 + 1) [.slice none 0 0]) := R10.out.below hb2
      clear B10 M10 K10 R10
      have z2 := hb2.size
      clear hb2
      obtain ⟨va, vc, ev, _⟩ := hr2.at
      subst ev
      obtain ⟨lo, elo⟩ : ∃ g, g = w1.heap.size := ⟨_, rfl⟩
      rw [← elo] at r1 z2 hr2
      clear elo
      obtain ⟨gX, eX⟩ : ∃ g, g = w2.heap.size := ⟨_, rfl⟩
      rw [← eX] at z2 hr2
      have L12 : Hid (P10.RL lo gX w2 (.slice va n vc) n Z) := hr2
      clear hr2
      go_wp2_with fail
      obtain ⟨w3, e3⟩ : ∃ y, y = w2.alloc (.cells #[.slice va n vc] 28) := ⟨_, rfl⟩
      have hb3 : Below w2.heap.size w2 w3 := by rw [e3]; exact (Below.refl _ _).alloc (Nat.le_refl _) _
      have X3 : Bk w3 gX [.slice va n vc] := by rw [e3, eX]; exact bk_new w2 28 [.slice va n vc]
      rw [← e3, ← eX]
      clear e3 eX
      have B13 : Hid (Below w.heap.size w w3) := bthen B11.out hb3
      have M13 : Hid (Bk w3 w.heap.size [.int .i64 c, .int .i64 d]) := M11.out.below hb3
      have K13 : Hid (Bk w3 (w.heap.size + 1) [.slice (some ⟨b, o, none⟩) n cap]) := K11.out.below hb3
      have R13 : Hid (Bk w3 (w.heap.size + 1 + 1) [.slice none 0 0]) := R11.out.below hb3
      have L13 : Hid (P10.RL lo gX w3 (.slice va n vc) n Z) := L12.out.below hb3
      clear B11 M11 K11 R11 L12
      have X14 : Hid (Bk w3 gX [.slice va n vc]) := X3
      clear X3 hb3
      refine (at_spec va n vc Z who hn _ (rl_row L13.out)).mono ?_
      rintro e w4 ⟨rfl, hb4⟩
      rw [hs]
      have B15 : Hid (Below w.heap.size w w4) := bthen B13.out hb4
      have M15 : Hid (Bk w4 w.heap.size [.int .i64 c, .int .i64 d]) := M13.out.below hb4
      have K15 : Hid (Bk w4 (w.heap.size + 1) [.slice (some ⟨b, o, none⟩) n cap]) := K13.out.below hb4
      have R15 : Hid (Bk w4 (w.heap.size + 1 + 1) [.slice none 0 0]) := R13.out.below hb4
      have L15 : Hid (P10.RL lo gX w4 (.slice va n vc) n Z) := L13.out.below hb4
      have X15 : Hid (Bk w4 gX [.slice va n vc]) := X14.out.below hb4
      clear B13 M13 K13 R13 L13 X14
      clear hb4
      simp only [atI]
      have zg : gX ≤ w4.heap.size := Nat.le_of_lt X15.out.1
      have HL : Hid (P10.RL lo w4.heap.size w4 (.slice va n vc) n Z) := rl_hi L15.out zg (Nat.le_refl _)
      have yR0 : w4.cell? ⟨(w.heap.size + 1 + 1), 0, none⟩ = some (.slice none 0 0) := (R15.out.2 0 (by simp)).1
      have zR0 : w4.frozen? ⟨(w.heap.size + 1 + 1), 0, none⟩ = false := (R15.out.2 0 (by simp)).2
      have hlR : (w.heap.size + 1 + 1) < w4.heap.size := R15.out.1
      have yX0 : w4.cell? ⟨gX, 0, none⟩ = some (.slice va n vc) := (X15.out.2 0 (by simp)).1
      have hlX : gX < w4.heap.size := X15.out.1
      go_wp2
      refine bodyPost_ret (v := .tuple #[.agg #[.slice va n vc], .bool false]) (by simp [results, Try.results21, go_sem, *]) rfl ?_
      exact ⟨⟨_, rfl, rl_mono (by rw [set_size]; exact rl_set HL.out (by omega)) (by omega)⟩, B15.out.setCell (by show w.heap.size ≤ w.heap.size + 1 + 1; omega) _⟩
    | some i =>
      obtain ⟨hi, hz, _⟩ := seek_some hs
      have h8 := book_seq hk i hi
      have hw8 : IntKind.wrap .i64 (Z i 8 + 1) = Z i 8 + 1 := by simp [IntKind.wrap, IntKind.bits, IntKind.signed]; omega
      have hi' : (i : Int) < n := by omega
      have hi1 : ¬ (i : Int) = -1 := by omega
      cases hb2 : P10.tr (Z i 2)
      · cases ho : ordB who (Z i 8 + 1) kind to nn
        · have hY : Y = Z := by rw [EY.out]; simp [askR, hs, hb2, ho]
          have hq : q = false := by rw [EQ.out]; simp [askR, hs, hb2, ho]
          rw [hY, hq]
          clear hY hq EY EQ Y q
          go_enter Try.func21, Try.ntmps21
          go_wp2_with fail
          obtain ⟨w0, e0⟩ : ∃ w0, w0 = ((w.alloc (.cells #[.int .i64 c, .int .i64 d] 30)).alloc (.cells #[.slice (some ⟨b, o, none⟩) n cap] 28)).alloc (.cells #[.slice none 0 0] 28) := ⟨_, rfl⟩
          have B16 : Hid (Below w.heap.size w w0) := by rw [e0]; exact (((Below.refl _ _).alloc (by simp) _).alloc (by simp) _).alloc (by simp; omega) _
          have M17 : Hid (Bk w0 w.heap.size [.int .i64 c, .int .i64 d]) := by rw [e0]; exact ((bk_new w 30 [.int .i64 c, .int .i64 d]).below ((Below.refl _ _).alloc (Nat.le_refl _) _)).below ((Below.refl _ _).alloc (Nat.le_refl _) _)
          have K18 : Hid (Bk w0 (w.heap.size + 1) [.slice (some ⟨b, o, none⟩) n cap]) := by rw [e0]; have := (bk_new (w.alloc (.cells #[.int .i64 c, .int .i64 d] 30)) 28 [.slice (some ⟨b, o, none⟩) n cap]).below ((Below.refl _ _).alloc (Nat.le_refl _) (.cells #[.slice none 0 0] 28)); rwa [show (w.alloc (.cells #[.int .i64 c, .int .i64 d] 30)).heap.size = w.heap.size + 1 by simp] at this
          have R19 : Hid (Bk w0 (w.heap.size + 1 + 1) [.slice none 0 0]) := by rw [e0]; have := bk_new ((w.alloc (.cells #[.int .i64 c, .int .i64 d] 30)).alloc (.cells #[.slice (some ⟨b, o, none⟩) n cap] 28)) 28 [.slice none 0 0]; rwa [show ((w.alloc (.cells #[.int .i64 c, .int .i64 d] 30)).alloc (.cells #[.slice (some ⟨b, o, none⟩) n cap] 28)).heap.size = w.heap.size + 1 + 1 by simp] at this
          rw [← e0]
          clear e0
          refine (book_spec c d _ n cap Z hn _ (P10.row_below HW.out B16.out)).mono ?_
          rintro e w1 ⟨rfl, hb1⟩
          have B20 : Hid (Below w.heap.size w w1) := bthen B16.out hb1
          have M20 : Hid (Bk w1 w.heap.size [.int .i64 c, .int .i64 d]) := M17.out.below hb1
          have K20 : Hid (Bk w1 (w.heap.size + 1) [.slice (some ⟨b, o, none⟩) n cap]) := K18.out.below hb1
          have R20 : Hid (Bk w1 (w.heap.size + 1 + 1) [.slice none 0 0]) := R19.out.below hb1
          clear B16 M17 K18 R19
          clear hb1
          rw [hk]
          have r1 : w.heap.size + 1 + 1 < w1.heap.size := R20.out.1
          have yM0 : w1.cell? ⟨w.heap.size, 0, none⟩ = some (.int .i64 c) := (M20.out.2 0 (by simp)).1
          have yM1 : w1.cell? ⟨w.heap.size, 1, none⟩ = some (.int .i64 d) := (M20.out.2 1 (by simp)).1
          have hlM : w.heap.size < w1.heap.size := M20.out.1
          have yK0 : w1.cell? ⟨(w.heap.size + 1), 0, none⟩ = some (.slice (some ⟨b, o, none⟩) n cap) := (K20.out.2 0 (by simp)).1
          have hlK : (w.heap.size + 1) < w1.heap.size := K20.out.1
          have yR0 : w1.cell? ⟨(w.heap.size + 1 + 1), 0, none⟩ = some (.slice none 0 0) := (R20.out.2 0 (by simp)).1
          have hlR : (w.heap.size + 1 + 1) < w1.heap.size := R20.out.1
          go_wp2_with fail
          refine (copy_spec b o n cap Z hn _ (Nat.lt_of_lt_of_le hb B20.out.size) (fun k j h1 h2 => (B20.out.cell (p := ⟨b, _, none⟩) hb).trans (HR.out k j h1 h2))).mono ?_
          rintro e w2 ⟨⟨v, rfl, hr2⟩, hb2⟩
          clear yM0 yM1 hlM yK0 hlK yR0 hlR
          have B21 : Hid (Below w.heap.size w w2) := bthen B20.out hb2
          have M21 : Hid (Bk w2 w.heap.size [.int .i64 c, .int .i64 d]) := M20.out.below hb2
          have K21 : Hid (Bk w2 (w.heap.size + 1) [.slice (some ⟨b, o, none⟩) n cap]) := K20.out.below hb2
          have R21 : Hid (Bk w2 (w.heap.size + 1 + 1) [.slice none 0 0]) := R20.out.below hb2
          clear B20 M20 K20 R20
          have z2 := hb2.size
          clear hb2
          obtain ⟨va, vc, ev, _⟩ := hr2.at
          subst ev
          obtain ⟨lo, elo⟩ : ∃ g, g = w1.heap.size := ⟨_, rfl⟩
          rw [← elo] at r1 z2 hr2
          clear elo
          obtain ⟨gX, eX⟩ : ∃ g, g = w2.heap.size := ⟨_, rfl⟩
          rw [← eX] at z2 hr2
          have L22 : Hid (P10.RL lo gX w2 (.slice va n vc) n Z) := hr2
          clear hr2
          go_wp2_with fail
          obtain ⟨w3, e3⟩ : ∃ y, y = w2.alloc (.cells #[.slice va n vc] 28) := ⟨_, rfl⟩
          have hb3 : Below w2.heap.size w2 w3 := by rw [e3]; exact (Below.refl _ _).alloc (Nat.le_refl _) _
          have X3 : Bk w3 gX [.slice va n vc] := by rw [e3, eX]; exact bk_new w2 28 [.slice va n vc]
          rw [← e3, ← eX]
          clear e3 eX
          have B23 : Hid (Below w.heap.size w w3) := bthen B21.out hb3
          have M23 : Hid (Bk w3 w.heap.size [.int .i64 c, .int .i64 d]) := M21.out.below hb3
          have K23 : Hid (Bk w3 (w.heap.size + 1) [.slice (some ⟨b, o, none⟩) n cap]) := K21.out.below hb3
          have R23 : Hid (Bk w3 (w.heap.size + 1 + 1) [.slice none 0 0]) := R21.out.below hb3
          have L23 : Hid (P10.RL lo gX w3 (.slice va n vc) n Z) := L22.out.below hb3
          clear B21 M21 K21 R21 L22
          have X24 : Hid (Bk w3 gX [.slice va n vc]) := X3
          clear X3 hb3
          refine (at_spec va n vc Z who hn _ (rl_row L23.out)).mono ?_
          rintro e w4 ⟨rfl, hb4⟩
          rw [hs]
          have B25 : Hid (Below w.heap.size w w4) := bthen B23.out hb4
          have M25 : Hid (Bk w4 w.heap.size [.int .i64 c, .int .i64 d]) := M23.out.below hb4
          have K25 : Hid (Bk w4 (w.heap.size + 1) [.slice (some ⟨b, o, none⟩) n cap]) := K23.out.below hb4
          have R25 : Hid (Bk w4 (w.heap.size + 1 + 1) [.slice none 0 0]) := R23.out.below hb4
          have L25 : Hid (P10.RL lo gX w4 (.slice va n vc) n Z) := L23.out.below hb4
          have X25 : Hid (Bk w4 gX [.slice va n vc]) := X24.out.below hb4
          clear B23 M23 K23 R23 L23 X24
          clear hb4
          simp only [atI]
          obtain ⟨g, gc, eg, g1, g2, g3, hOg⟩ : ∃ g c, Value.slice va n vc = .slice (some ⟨g, 0, none⟩) n c ∧ lo ≤ g ∧ g < gX ∧ gX ≤ w4.heap.size ∧ P10.OwnK w4 g n Z n := by
            rcases L25.out with ⟨h0, _⟩ | h
            · omega
            · exact h
          injection eg with eg1 _ eg2
          subst eg1 eg2
          have HOg : Hid (P10.OwnK w4 g n Z n) := hOg
          have c2 : w4.cell? ⟨g, i * 10 + 2, none⟩ = some (.bool false) := by rw [hOg.2 i 2 hi (by omega)]; simp [P10.cv, hb2]
          have c8 : w4.cell? ⟨g, i * 10 + 8, none⟩ = some (.int .i64 (Z i 8)) := hOg.2 i 8 hi (by omega)
          clear hOg
          have lg : g < w4.heap.size := by omega
          have yX0 : w4.cell? ⟨gX, 0, none⟩ = some (.slice (some ⟨g, 0, none⟩) n vc) := (X25.out.2 0 (by simp)).1
          have hlX : gX < w4.heap.size := X25.out.1
          go_wp2_with fail
          clear yX0 hlX
          obtain ⟨gO, eO⟩ : ∃ g, g = w4.heap.size := ⟨_, rfl⟩
          obtain ⟨w5, e5⟩ : ∃ y, y = w4.alloc (.cells #[.int .i64 who, .int .i64 (Z i 8 + 1), .int .i64 kind, .int .i64 to, .int .i64 nn] 54) := ⟨_, rfl⟩
          have hb5 : Below w4.heap.size w4 w5 := by rw [e5]; exact (Below.refl _ _).alloc (Nat.le_refl _) _
          have X5 : Bk w5 gO [.int .i64 who, .int .i64 (Z i 8 + 1), .int .i64 kind, .int .i64 to, .int .i64 nn] := by rw [e5, eO]; exact bk_new w4 54 [.int .i64 who, .int .i64 (Z i 8 + 1), .int .i64 kind, .int .i64 to, .int .i64 nn]
          rw [← e5, ← eO]
          have ho5 : gX < gO := by have := X25.out.1; omega
          have HO5 := P10.own_below HOg.out lg hb5
          clear e5 eO c2 c8 lg HOg
          have B26 : Hid (Below w.heap.size w w5) := bthen B25.out hb5
          have M26 : Hid (Bk w5 w.heap.size [.int .i64 c, .int .i64 d]) := M25.out.below hb5
          have K26 : Hid (Bk w5 (w.heap.size + 1) [.slice (some ⟨b, o, none⟩) n cap]) := K25.out.below hb5
          have R26 : Hid (Bk w5 (w.heap.size + 1 + 1) [.slice none 0 0]) := R25.out.below hb5
          have L26 : Hid (P10.RL lo gX w5 (.slice (some ⟨g, 0, none⟩) n vc) n Z) := L25.out.below hb5
          have X26 : Hid (Bk w5 gX [.slice (some ⟨g, 0, none⟩) n vc]) := X25.out.below hb5
          clear B25 M25 K25 R25 L25 X25
          have O27 : Hid (Bk w5 gO [.int .i64 who, .int .i64 (Z i 8 + 1), .int .i64 kind, .int .i64 to, .int .i64 nn]) := X5
          clear X5 hb5
          have lg5 : g < w5.heap.size := by have := X26.out.1; omega
          refine (ordOk_spec _ _ _ _ _ _).mono ?_
          rintro e w6 ⟨rfl, hb6⟩
          rw [ho]
          have HO6 : Hid (P10.OwnK w6 g n Z n) := P10.own_below HO5 lg5 hb6
          clear HO5 lg5
          have B28 : Hid (Below w.heap.size w w6) := bthen B26.out hb6
          have M28 : Hid (Bk w6 w.heap.size [.int .i64 c, .int .i64 d]) := M26.out.below hb6
          have K28 : Hid (Bk w6 (w.heap.size + 1) [.slice (some ⟨b, o, none⟩) n cap]) := K26.out.below hb6
          have R28 : Hid (Bk w6 (w.heap.size + 1 + 1) [.slice none 0 0]) := R26.out.below hb6
          have L28 : Hid (P10.RL lo gX w6 (.slice (some ⟨g, 0, none⟩) n vc) n Z) := L26.out.below hb6
          have X28 : Hid (Bk w6 gX [.slice (some ⟨g, 0, none⟩) n vc]) := X26.out.below hb6
          have O28 : Hid (Bk w6 gO [.int .i64 who, .int .i64 (Z i 8 + 1), .int .i64 kind, .int .i64 to, .int .i64 nn]) := O27.out.below hb6
          clear B26 M26 K26 R26 L26 X26 O27
          clear hb6
          clear HO6
          have zg : gX ≤ w6.heap.size := Nat.le_of_lt X28.out.1
          have HL : Hid (P10.RL lo w6.heap.size w6 (.slice (some ⟨g, 0, none⟩) n vc) n Z) := rl_hi L28.out zg (Nat.le_refl _)
          have yR0 : w6.cell? ⟨(w.heap.size + 1 + 1), 0, none⟩ = some (.slice none 0 0) := (R28.out.2 0 (by simp)).1
          have zR0 : w6.frozen? ⟨(w.heap.size + 1 + 1), 0, none⟩ = false := (R28.out.2 0 (by simp)).2
          have hlR : (w.heap.size + 1 + 1) < w6.heap.size := R28.out.1
          have yX0 : w6.cell? ⟨gX, 0, none⟩ = some (.slice (some ⟨g, 0, none⟩) n vc) := (X28.out.2 0 (by simp)).1
          have hlX : gX < w6.heap.size := X28.out.1
          go_wp2
          refine bodyPost_ret (v := .tuple #[.agg #[.slice (some ⟨g, 0, none⟩) n vc], .bool false]) (by simp [results, Try.results21, go_sem, *]) rfl ?_
          exact ⟨⟨_, rfl, rl_mono (by rw [set_size]; exact rl_set HL.out (by omega)) (by omega)⟩, B28.out.setCell (by show w.heap.size ≤ w.heap.size + 1 + 1; omega) _⟩
        · have hY : Y = takeZ Z i who kind to nn := by rw [EY.out]; simp [askR, hs, hb2, ho]
          have hq : q = true := by rw [EQ.out]; simp [askR, hs, hb2, ho]
          rw [hY, hq]
          clear hY hq EY EQ Y q
          go_enter Try.func21, Try.ntmps21
          go_wp2_with fail
          obtain ⟨w0, e0⟩ : ∃ w0, w0 = ((w.alloc (.cells #[.int .i64 c, .int .i64 d] 30)).alloc (.cells #[.slice (some ⟨b, o, none⟩) n cap] 28)).alloc (.cells #[.slice none 0 0] 28) := ⟨_, rfl⟩
          have B29 : Hid (Below w.heap.size w w0) := by rw [e0]; exact (((Below.refl _ _).alloc (by simp) _).alloc (by simp) _).alloc (by simp; omega) _
          have M30 : Hid (Bk w0 w.heap.size [.int .i64 c, .int .i64 d]) := by rw [e0]; exact ((bk_new w 30 [.int .i64 c, .int .i64 d]).below ((Below.refl _ _).alloc (Nat.le_refl _) _)).below ((Below.refl _ _).alloc (Nat.le_refl _) _)
          have K31 : Hid (Bk w0 (w.heap.size + 1) [.slice (some ⟨b, o, none⟩) n cap]) := by rw [e0]; have := (bk_new (w.alloc (.cells #[.int .i64 c, .int .i64 d] 30)) 28 [.slice (some ⟨b, o, none⟩) n cap]).below ((Below.refl _ _).alloc (Nat.le_refl _) (.cells #[.slice none 0 0] 28)); rwa [show (w.alloc (.cells #[.int .i64 c, .int .i64 d] 30)).heap.size = w.heap.size + 1 by simp] at this
          have R32 : Hid (Bk w0 (w.heap.size + 1 + 1) [.slice none 0 0]) := by rw [e0]; have := bk_new ((w.alloc (.cells #[.int .i64 c, .int .i64 d] 30)).alloc (.cells #[.slice (some ⟨b, o, none⟩) n cap] 28)) 28 [.slice none 0 0]; rwa [show ((w.alloc (.cells #[.int .i64 c, .int .i64 d] 30)).alloc (.cells #[.slice (some ⟨b, o, none⟩) n cap] 28)).heap.size = w.heap.size + 1 + 1 by simp] at this
          rw [← e0]
          clear e0
          refine (book_spec c d _ n cap Z hn _ (P10.row_below HW.out B29.out)).mono ?_
          rintro e w1 ⟨rfl, hb1⟩
          have B33 : Hid (Below w.heap.size w w1) := bthen B29.out hb1
          have M33 : Hid (Bk w1 w.heap.size [.int .i64 c, .int .i64 d]) := M30.out.below hb1
          have K33 : Hid (Bk w1 (w.heap.size + 1) [.slice (some ⟨b, o, none⟩) n cap]) := K31.out.below hb1
          have R33 : Hid (Bk w1 (w.heap.size + 1 + 1) [.slice none 0 0]) := R32.out.below hb1
          clear B29 M30 K31 R32
          clear hb1
          rw [hk]
          have r1 : w.heap.size + 1 + 1 < w1.heap.size := R33.out.1
          have yM0 : w1.cell? ⟨w.heap.size, 0, none⟩ = some (.int .i64 c) := (M33.out.2 0 (by simp)).1
          have yM1 : w1.cell? ⟨w.heap.size, 1, none⟩ = some (.int .i64 d) := (M33.out.2 1 (by simp)).1
          have hlM : w.heap.size < w1.heap.size := M33.out.1
          have yK0 : w1.cell? ⟨(w.heap.size + 1), 0, none⟩ = some (.slice (some ⟨b, o, none⟩) n cap) := (K33.out.2 0 (by simp)).1
          have hlK : (w.heap.size + 1) < w1.heap.size := K33.out.1
          have yR0 : w1.cell? ⟨(w.heap.size + 1 + 1), 0, none⟩ = some (.slice none 0 0) := (R33.out.2 0 (by simp)).1
          have hlR : (w.heap.size + 1 + 1) < w1.heap.size := R33.out.1
          go_wp2_with fail
          refine (copy_spec b o n cap Z hn _ (Nat.lt_of_lt_of_le hb B33.out.size) (fun k j h1 h2 => (B33.out.cell (p := ⟨b, _, none⟩) hb).trans (HR.out k j h1 h2))).mono ?_
          rintro e w2 ⟨⟨v, rfl, hr2⟩, hb2⟩
          clear yM0 yM1 hlM yK0 hlK yR0 hlR
          have B34 : Hid (Below w.heap.size w w2) := bthen B33.out hb2
          have M34 : Hid (Bk w2 w.heap.size [.int .i64 c, .int .i64 d]) := M33.out.below hb2
          have K34 : Hid (Bk w2 (w.heap.size + 1) [.slice (some ⟨b, o, none⟩) n cap]) := K33.out.below hb2
          have R34 : Hid (Bk w2 (w.heap.size + 1 + 1) [.slice none 0 0]) := R33.out.below hb2
          clear B33 M33 K33 R33
          have z2 := hb2.size
          clear hb2
          obtain ⟨va, vc, ev, _⟩ := hr2.at
          subst ev
          obtain ⟨lo, elo⟩ : ∃ g, g = w1.heap.size := ⟨_, rfl⟩
          rw [← elo] at r1 z2 hr2
          clear elo
          obtain ⟨gX, eX⟩ : ∃ g, g = w2.heap.size := ⟨_, rfl⟩
          rw [← eX] at z2 hr2
          have L35 : Hid (P10.RL lo gX w2 (.slice va n vc) n Z) := hr2
          clear hr2
          go_wp2_with fail
          obtain ⟨w3, e3⟩ : ∃ y, y = w2.alloc (.cells #[.slice va n vc] 28) := ⟨_, rfl⟩
          have hb3 : Below w2.heap.size w2 w3 := by rw [e3]; exact (Below.refl _ _).alloc (Nat.le_refl _) _
          have X3 : Bk w3 gX [.slice va n vc] := by rw [e3, eX]; exact bk_new w2 28 [.slice va n vc]
          rw [← e3, ← eX]
          clear e3 eX
          have B36 : Hid (Below w.heap.size w w3) := bthen B34.out hb3
          have M36 : Hid (Bk w3 w.heap.size [.int .i64 c, .int .i64 d]) := M34.out.below hb3
          have K36 : Hid (Bk w3 (w.heap.size + 1) [.slice (some ⟨b, o, none⟩) n cap]) := K34.out.below hb3
          have R36 : Hid (Bk w3 (w.heap.size + 1 + 1) [.slice none 0 0]) := R34.out.below hb3
          have L36 : Hid (P10.RL lo gX w3 (.slice va n vc) n Z) := L35.out.below hb3
          clear B34 M34 K34 R34 L35
          have X37 : Hid (Bk w3 gX [.slice va n vc]) := X3
          clear X3 hb3
          refine (at_spec va n vc Z who hn _ (rl_row L36.out)).mono ?_
          rintro e w4 ⟨rfl, hb4⟩
          rw [hs]
          have B38 : Hid (Below w.heap.size w w4) := bthen B36.out hb4
          have M38 : Hid (Bk w4 w.heap.size [.int .i64 c, .int .i64 d]) := M36.out.below hb4
          have K38 : Hid (Bk w4 (w.heap.size + 1) [.slice (some ⟨b, o, none⟩) n cap]) := K36.out.below hb4
          have R38 : Hid (Bk w4 (w.heap.size + 1 + 1) [.slice none 0 0]) := R36.out.below hb4
          have L38 : Hid (P10.RL lo gX w4 (.slice va n vc) n Z) := L36.out.below hb4
          have X38 : Hid (Bk w4 gX [.slice va n vc]) := X37.out.below hb4
          clear B36 M36 K36 R36 L36 X37
          clear hb4
          simp only [atI]
          obtain ⟨g, gc, eg, g1, g2, g3, hOg⟩ : ∃ g c, Value.slice va n vc = .slice (some ⟨g, 0, none⟩) n c ∧ lo ≤ g ∧ g < gX ∧ gX ≤ w4.heap.size ∧ P10.OwnK w4 g n Z n := by
            rcases L38.out with ⟨h0, _⟩ | h
            · omega
            · exact h
          injection eg with eg1 _ eg2
          subst eg1 eg2
          have HOg : Hid (P10.OwnK w4 g n Z n) := hOg
          have c2 : w4.cell? ⟨g, i * 10 + 2, none⟩ = some (.bool false) := by rw [hOg.2 i 2 hi (by omega)]; simp [P10.cv, hb2]
          have c8 : w4.cell? ⟨g, i * 10 + 8, none⟩ = some (.int .i64 (Z i 8)) := hOg.2 i 8 hi (by omega)
          clear hOg
          have lg : g < w4.heap.size := by omega
          have yX0 : w4.cell? ⟨gX, 0, none⟩ = some (.slice (some ⟨g, 0, none⟩) n vc) := (X38.out.2 0 (by simp)).1
          have hlX : gX < w4.heap.size := X38.out.1
          go_wp2_with fail
          clear yX0 hlX
          obtain ⟨gO, eO⟩ : ∃ g, g = w4.heap.size := ⟨_, rfl⟩
          obtain ⟨w5, e5⟩ : ∃ y, y = w4.alloc (.cells #[.int .i64 who, .int .i64 (Z i 8 + 1), .int .i64 kind, .int .i64 to, .int .i64 nn] 54) := ⟨_, rfl⟩
          have hb5 : Below w4.heap.size w4 w5 := by rw [e5]; exact (Below.refl _ _).alloc (Nat.le_refl _) _
          have X5 : Bk w5 gO [.int .i64 who, .int .i64 (Z i 8 + 1), .int .i64 kind, .int .i64 to, .int .i64 nn] := by rw [e5, eO]; exact bk_new w4 54 [.int .i64 who, .int .i64 (Z i 8 + 1), .int .i64 kind, .int .i64 to, .int .i64 nn]
          rw [← e5, ← eO]
          have ho5 : gX < gO := by have := X38.out.1; omega
          have HO5 := P10.own_below HOg.out lg hb5
          clear e5 eO c2 c8 lg HOg
          have B39 : Hid (Below w.heap.size w w5) := bthen B38.out hb5
          have M39 : Hid (Bk w5 w.heap.size [.int .i64 c, .int .i64 d]) := M38.out.below hb5
          have K39 : Hid (Bk w5 (w.heap.size + 1) [.slice (some ⟨b, o, none⟩) n cap]) := K38.out.below hb5
          have R39 : Hid (Bk w5 (w.heap.size + 1 + 1) [.slice none 0 0]) := R38.out.below hb5
          have L39 : Hid (P10.RL lo gX w5 (.slice (some ⟨g, 0, none⟩) n vc) n Z) := L38.out.below hb5
          have X39 : Hid (Bk w5 gX [.slice (some ⟨g, 0, none⟩) n vc]) := X38.out.below hb5
          clear B38 M38 K38 R38 L38 X38
          have O40 : Hid (Bk w5 gO [.int .i64 who, .int .i64 (Z i 8 + 1), .int .i64 kind, .int .i64 to, .int .i64 nn]) := X5
          clear X5 hb5
          have lg5 : g < w5.heap.size := by have := X39.out.1; omega
          refine (ordOk_spec _ _ _ _ _ _).mono ?_
          rintro e w6 ⟨rfl, hb6⟩
          rw [ho]
          have HO6 : Hid (P10.OwnK w6 g n Z n) := P10.own_below HO5 lg5 hb6
          clear HO5 lg5
          have B41 : Hid (Below w.heap.size w w6) := bthen B39.out hb6
          have M41 : Hid (Bk w6 w.heap.size [.int .i64 c, .int .i64 d]) := M39.out.below hb6
          have K41 : Hid (Bk w6 (w.heap.size + 1) [.slice (some ⟨b, o, none⟩) n cap]) := K39.out.below hb6
          have R41 : Hid (Bk w6 (w.heap.size + 1 + 1) [.slice none 0 0]) := R39.out.below hb6
          have L41 : Hid (P10.RL lo gX w6 (.slice (some ⟨g, 0, none⟩) n vc) n Z) := L39.out.below hb6
          have X41 : Hid (Bk w6 gX [.slice (some ⟨g, 0, none⟩) n vc]) := X39.out.below hb6
          have O41 : Hid (Bk w6 gO [.int .i64 who, .int .i64 (Z i 8 + 1), .int .i64 kind, .int .i64 to, .int .i64 nn]) := O40.out.below hb6
          clear B39 M39 K39 R39 L39 X39 O40
          clear hb6
          have zg : gX < w6.heap.size := X41.out.1
          obtain ⟨d2, p2⟩ := Option.isSome_iff_exists.1 (HO6.out.1 (i * 10 + 2) (by omega)).1
          have f2 := (HO6.out.1 (i * 10 + 2) (by omega)).2
          obtain ⟨d3, p3⟩ := Option.isSome_iff_exists.1 (HO6.out.1 (i * 10 + 3) (by omega)).1
          have f3 := (HO6.out.1 (i * 10 + 3) (by omega)).2
          obtain ⟨d4, p4⟩ := Option.isSome_iff_exists.1 (HO6.out.1 (i * 10 + 4) (by omega)).1
          have f4 := (HO6.out.1 (i * 10 + 4) (by omega)).2
          obtain ⟨d5, p5⟩ := Option.isSome_iff_exists.1 (HO6.out.1 (i * 10 + 5) (by omega)).1
          have f5 := (HO6.out.1 (i * 10 + 5) (by omega)).2
          obtain ⟨d6, p6⟩ := Option.isSome_iff_exists.1 (HO6.out.1 (i * 10 + 6) (by omega)).1
          have f6 := (HO6.out.1 (i * 10 + 6) (by omega)).2
          obtain ⟨d7, p7⟩ := Option.isSome_iff_exists.1 (HO6.out.1 (i * 10 + 7) (by omega)).1
          have f7 := (HO6.out.1 (i * 10 + 7) (by omega)).2
          have yX0 : w6.cell? ⟨gX, 0, none⟩ = some (.slice (some ⟨g, 0, none⟩) n vc) := (X41.out.2 0 (by simp)).1
          have hlX : gX < w6.heap.size := X41.out.1
          have yO0 : w6.cell? ⟨gO, 0, none⟩ = some (.int .i64 who) := (O41.out.2 0 (by simp)).1
          have yO1 : w6.cell? ⟨gO, 1, none⟩ = some (.int .i64 (Z i 8 + 1)) := (O41.out.2 1 (by simp)).1
          have yO2 : w6.cell? ⟨gO, 2, none⟩ = some (.int .i64 kind) := (O41.out.2 2 (by simp)).1
          have yO3 : w6.cell? ⟨gO, 3, none⟩ = some (.int .i64 to) := (O41.out.2 3 (by simp)).1
          have yO4 : w6.cell? ⟨gO, 4, none⟩ = some (.int .i64 nn) := (O41.out.2 4 (by simp)).1
          have hlO : gO < w6.heap.size := O41.out.1
          have yR0 : w6.cell? ⟨(w.heap.size + 1 + 1), 0, none⟩ = some (.slice none 0 0) := (R41.out.2 0 (by simp)).1
          have zR0 : w6.frozen? ⟨(w.heap.size + 1 + 1), 0, none⟩ = false := (R41.out.2 0 (by simp)).2
          have hlR : (w.heap.size + 1 + 1) < w6.heap.size := R41.out.1
          have n1 : ¬ g = gX := by omega
          have n2 : ¬ gX = g := by omega
          have n3 : ¬ g = gO := by omega
          have n4 : ¬ gO = g := by omega
          have n5 : ¬ g = w.heap.size + 1 + 1 := by omega
          have n6 : ¬ w.heap.size + 1 + 1 = g := by omega
          have lg : g < w6.heap.size := by omega
          obtain ⟨w7, e7⟩ : ∃ y, y = ((((((w6.setCell ⟨g, i * 10 + 2, none⟩ (.bool true)).setCell ⟨g, i * 10 + 3, none⟩ (.int .i64 who)).setCell ⟨g, i * 10 + 4, none⟩ (.int .i64 (Z i 8 + 1))).setCell ⟨g, i * 10 + 5, none⟩ (.int .i64 kind)).setCell ⟨g, i * 10 + 6, none⟩ (.int .i64 to)).setCell ⟨g, i * 10 + 7, none⟩ (.int .i64 nn)) := ⟨_, rfl⟩
          have z7 : w7.heap.size = w6.heap.size := by rw [e7]; simp [World.setCell]
          have HT : Hid (P10.OwnK w7 g n (takeZ Z i who kind to nn) n) := by unfold Hid; rw [e7]; exact own_take HO6.out hi
          have B7 : Hid (Below w.heap.size w w7) := by unfold Hid; rw [e7]; exact ((((((B41.out.setCell (by show w.heap.size ≤ g; omega) _).setCell (by show w.heap.size ≤ g; omega) _).setCell (by show w.heap.size ≤ g; omega) _).setCell (by show w.heap.size ≤ g; omega) _).setCell (by show w.heap.size ≤ g; omega) _).setCell (by show w.heap.size ≤ g; omega) _)
          have R7 : Bk w7 (w.heap.size + 1 + 1) [.slice none 0 0] := by rw [e7]; exact ((((((R41.out.far (by omega)).far (by omega)).far (by omega)).far (by omega)).far (by omega)).far (by omega))
          have X7 : Bk w7 gX [.slice (some ⟨g, 0, none⟩) n vc] := by rw [e7]; exact ((((((X41.out.far (by omega)).far (by omega)).far (by omega)).far (by omega)).far (by omega)).far (by omega))
          go_upto_region 12 with fail
          rw [← e7]
          clear e7 HO6 p2 f2 p3 f3 p4 f4 p5 f5 p6 f6 p7 f7
          clear yX0 hlX yO0 yO1 yO2 yO3 yO4 hlO yR0 zR0 hlR
          have yr : w7.cell? ⟨w.heap.size + 1 + 1, 0, none⟩ = some (.slice none 0 0) := (R7.2 0 (by simp)).1
          have zr : w7.frozen? ⟨w.heap.size + 1 + 1, 0, none⟩ = false := (R7.2 0 (by simp)).2
          have yx : w7.cell? ⟨gX, 0, none⟩ = some (.slice (some ⟨g, 0, none⟩) n vc) := (X7.2 0 (by simp)).1
          have lx := X7.1
          have lr := R7.1
          go_wp2
          refine bodyPost_ret (v := .tuple #[.agg #[.slice (some ⟨g, 0, none⟩) n vc], .bool true]) (by simp [results, Try.results21, go_sem, *]) rfl ?_
          exact ⟨⟨_, rfl, .inr ⟨g, vc, rfl, by omega, by rw [set_size]; omega, Nat.le_refl _, P10.own_far HT.out (by omega)⟩⟩, B7.out.setCell (by show w.heap.size ≤ w.heap.size + 1 + 1; omega) _⟩
      · have hY : Y = Z := by rw [EY.out]; simp [askR, hs, hb2]
        have hq : q = false := by rw [EQ.out]; simp [askR, hs, hb2]
        rw [hY, hq]
        clear hY hq EY EQ Y q
        go_enter Try.func21, Try.ntmps21
        go_wp2_with fail
        obtain ⟨w0, e0⟩ : ∃ w0, w0 = ((w.alloc (.cells #[.int .i64 c, .int .i64 d] 30)).alloc (.cells #[.slice (some ⟨b, o, none⟩) n cap] 28)).alloc (.cells #[.slice none 0 0] 28) := ⟨_, rfl⟩
        have B42 : Hid (Below w.heap.size w w0) := by rw [e0]; exact (((Below.refl _ _).alloc (by simp) _).alloc (by simp) _).alloc (by simp; omega) _
        have M43 : Hid (Bk w0 w.heap.size [.int .i64 c, .int .i64 d]) := by rw [e0]; exact ((bk_new w 30 [.int .i64 c, .int .i64 d]).below ((Below.refl _ _).alloc (Nat.le_refl _) _)).below ((Below.refl _ _).alloc (Nat.le_refl _) _)
        have K44 : Hid (Bk w0 (w.heap.size + 1) [.slice (some ⟨b, o, none⟩) n cap]) := by rw [e0]; have := (bk_new (w.alloc (.cells #[.int .i64 c, .int .i64 d] 30)) 28 [.slice (some ⟨b, o, none⟩) n cap]).below ((Below.refl _ _).alloc (Nat.le_refl _) (.cells #[.slice none 0 0] 28)); rwa [show (w.alloc (.cells #[.int .i64 c, .int .i64 d] 30)).heap.size = w.heap.size + 1 by simp] at this
        have R45 : Hid (Bk w0 (w.heap.size + 1 + 1) [.slice none 0 0]) := by rw [e0]; have := bk_new ((w.alloc (.cells #[.int .i64 c, .int .i64 d] 30)).alloc (.cells #[.slice (some ⟨b, o, none⟩) n cap] 28)) 28 [.slice none 0 0]; rwa [show ((w.alloc (.cells #[.int .i64 c, .int .i64 d] 30)).alloc (.cells #[.slice (some ⟨b, o, none⟩) n cap] 28)).heap.size = w.heap.size + 1 + 1 by simp] at this
        rw [← e0]
        clear e0
        refine (book_spec c d _ n cap Z hn _ (P10.row_below HW.out B42.out)).mono ?_
        rintro e w1 ⟨rfl, hb1⟩
        have B46 : Hid (Below w.heap.size w w1) := bthen B42.out hb1
        have M46 : Hid (Bk w1 w.heap.size [.int .i64 c, .int .i64 d]) := M43.out.below hb1
        have K46 : Hid (Bk w1 (w.heap.size + 1) [.slice (some ⟨b, o, none⟩) n cap]) := K44.out.below hb1
        have R46 : Hid (Bk w1 (w.heap.size + 1 + 1) [.slice none 0 0]) := R45.out.below hb1
        clear B42 M43 K44 R45
        clear hb1
        rw [hk]
        have r1 : w.heap.size + 1 + 1 < w1.heap.size := R46.out.1
        have yM0 : w1.cell? ⟨w.heap.size, 0, none⟩ = some (.int .i64 c) := (M46.out.2 0 (by simp)).1
        have yM1 : w1.cell? ⟨w.heap.size, 1, none⟩ = some (.int .i64 d) := (M46.out.2 1 (by simp)).1
        have hlM : w.heap.size < w1.heap.size := M46.out.1
        have yK0 : w1.cell? ⟨(w.heap.size + 1), 0, none⟩ = some (.slice (some ⟨b, o, none⟩) n cap) := (K46.out.2 0 (by simp)).1
        have hlK : (w.heap.size + 1) < w1.heap.size := K46.out.1
        have yR0 : w1.cell? ⟨(w.heap.size + 1 + 1), 0, none⟩ = some (.slice none 0 0) := (R46.out.2 0 (by simp)).1
        have hlR : (w.heap.size + 1 + 1) < w1.heap.size := R46.out.1
        go_wp2_with fail
        refine (copy_spec b o n cap Z hn _ (Nat.lt_of_lt_of_le hb B46.out.size) (fun k j h1 h2 => (B46.out.cell (p := ⟨b, _, none⟩) hb).trans (HR.out k j h1 h2))).mono ?_
        rintro e w2 ⟨⟨v, rfl, hr2⟩, hb2⟩
        clear yM0 yM1 hlM yK0 hlK yR0 hlR
        have B47 : Hid (Below w.heap.size w w2) := bthen B46.out hb2
        have M47 : Hid (Bk w2 w.heap.size [.int .i64 c, .int .i64 d]) := M46.out.below hb2
        have K47 : Hid (Bk w2 (w.heap.size + 1) [.slice (some ⟨b, o, none⟩) n cap]) := K46.out.below hb2
        have R47 : Hid (Bk w2 (w.heap.size + 1 + 1) [.slice none 0 0]) := R46.out.below hb2
        clear B46 M46 K46 R46
        have z2 := hb2.size
        clear hb2
        obtain ⟨va, vc, ev, _⟩ := hr2.at
        subst ev
        obtain ⟨lo, elo⟩ : ∃ g, g = w1.heap.size := ⟨_, rfl⟩
        rw [← elo] at r1 z2 hr2
        clear elo
        obtain ⟨gX, eX⟩ : ∃ g, g = w2.heap.size := ⟨_, rfl⟩
        rw [← eX] at z2 hr2
        have L48 : Hid (P10.RL lo gX w2 (.slice va n vc) n Z) := hr2
        clear hr2
        go_wp2_with fail
        obtain ⟨w3, e3⟩ : ∃ y, y = w2.alloc (.cells #[.slice va n vc] 28) := ⟨_, rfl⟩
        have hb3 : Below w2.heap.size w2 w3 := by rw [e3]; exact (Below.refl _ _).alloc (Nat.le_refl _) _
        have X3 : Bk w3 gX [.slice va n vc] := by rw [e3, eX]; exact bk_new w2 28 [.slice va n vc]
        rw [← e3, ← eX]
        clear e3 eX
        have B49 : Hid (Below w.heap.size w w3) := bthen B47.out hb3
        have M49 : Hid (Bk w3 w.heap.size [.int .i64 c, .int .i64 d]) := M47.out.below hb3
        have K49 : Hid (Bk w3 (w.heap.size + 1) [.slice (some ⟨b, o, none⟩) n cap]) := K47.out.below hb3
        have R49 : Hid (Bk w3 (w.heap.size + 1 + 1) [.slice none 0 0]) := R47.out.below hb3
        have L49 : Hid (P10.RL lo gX w3 (.slice va n vc) n Z) := L48.out.below hb3
        clear B47 M47 K47 R47 L48
        have X50 : Hid (Bk w3 gX [.slice va n vc]) := X3
        clear X3 hb3
        refine (at_spec va n vc Z who hn _ (rl_row L49.out)).mono ?_
        rintro e w4 ⟨rfl, hb4⟩
        rw [hs]
        have B51 : Hid (Below w.heap.size w w4) := bthen B49.out hb4
        have M51 : Hid (Bk w4 w.heap.size [.int .i64 c, .int .i64 d]) := M49.out.below hb4
        have K51 : Hid (Bk w4 (w.heap.size + 1) [.slice (some ⟨b, o, none⟩) n cap]) := K49.out.below hb4
        have R51 : Hid (Bk w4 (w.heap.size + 1 + 1) [.slice none 0 0]) := R49.out.below hb4
        have L51 : Hid (P10.RL lo gX w4 (.slice va n vc) n Z) := L49.out.below hb4
        have X51 : Hid (Bk w4 gX [.slice va n vc]) := X50.out.below hb4
        clear B49 M49 K49 R49 L49 X50
        clear hb4
        simp only [atI]
        obtain ⟨g, gc, eg, g1, g2, g3, hOg⟩ : ∃ g c, Value.slice va n vc = .slice (some ⟨g, 0, none⟩) n c ∧ lo ≤ g ∧ g < gX ∧ gX ≤ w4.heap.size ∧ P10.OwnK w4 g n Z n := by
          rcases L51.out with ⟨h0, _⟩ | h
          · omega
          · exact h
        injection eg with eg1 _ eg2
        subst eg1 eg2
        have HOg : Hid (P10.OwnK w4 g n Z n) := hOg
        have c2 : w4.cell? ⟨g, i * 10 + 2, none⟩ = some (.bool true) := by rw [hOg.2 i 2 hi (by omega)]; simp [P10.cv, hb2]
        have c8 : w4.cell? ⟨g, i * 10 + 8, none⟩ = some (.int .i64 (Z i 8)) := hOg.2 i 8 hi (by omega)
        clear hOg
        have lg : g < w4.heap.size := by omega
        clear HOg
        have zg : gX ≤ w4.heap.size := Nat.le_of_lt X51.out.1
        have HL : Hid (P10.RL lo w4.heap.size w4 (.slice (some ⟨g, 0, none⟩) n vc) n Z) := rl_hi L51.out zg (Nat.le_refl _)
        have yR0 : w4.cell? ⟨(w.heap.size + 1 + 1), 0, none⟩ = some (.slice none 0 0) := (R51.out.2 0 (by simp)).1
        have zR0 : w4.frozen? ⟨(w.heap.size + 1 + 1), 0, none⟩ = false := (R51.out.2 0 (by simp)).2
        have hlR : (w.heap.size + 1 + 1) < w4.heap.size := R51.out.1
        have yX0 : w4.cell? ⟨gX, 0, none⟩ = some (.slice (some ⟨g, 0, none⟩) n vc) := (X51.out.2 0 (by simp)).1
        have hlX : gX < w4.heap.size := X51.out.1
        go_wp2
        refine bodyPost_ret (v := .tuple #[.agg #[.slice (some ⟨g, 0, none⟩) n vc], .bool false]) (by simp [results, Try.results21, go_sem, *]) rfl ?_
        exact ⟨⟨_, rfl, rl_mono (by rw [set_size]; exact rl_set HL.out (by omega)) (by omega)⟩, B51.out.setCell (by show w.heap.size ≤ w.heap.size + 1 + 1; omega) _⟩
end Go.Proofs.Ytgjapdjidighlaa
