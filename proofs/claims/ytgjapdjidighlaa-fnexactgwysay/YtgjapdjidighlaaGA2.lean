/- GwyAsk of the program; conditions: those typed. -/
import Derived.Test.YtgjapdjidighlaaGA1
import Derived.Test.YtgjapdjidighlaaGB3
namespace Go.Proofs.Ytgjapdjidighlaa
open Go.RowKit Go.Deep
set_option linter.unusedVariables false

/-- Which row is the walker's. -/
def seek (n : Nat) (Z : Nat → Nat → Int) (who : Int) : Option Nat := (List.range n).find? (fun k => Z k 0 == who)
theorem seek_none {n : Nat} {Z : Nat → Nat → Int} {who : Int} (h : seek n Z who = none) : ∀ j, j < n → ¬ Z j 0 = who := by
  intro j hj e
  have := List.find?_eq_none.1 h j (by simpa using hj)
  simp [e] at this
theorem seek_some {n i : Nat} {Z : Nat → Nat → Int} {who : Int} (h : seek n Z who = some i) : i < n ∧ Z i 0 = who ∧ ∀ j, j < i → ¬ Z j 0 = who := by
  have h1 := List.find?_some h
  obtain ⟨_, h2, h3⟩ := List.find?_range_eq_some.1 h
  exact ⟨by simpa using h2, by simpa using h1, fun j hj => by have := h3 j hj; simpa using this⟩
theorem seek_at {n i : Nat} {Z : Nat → Nat → Int} {who : Int} (hi : i < n) (h : Z i 0 = who) (hf : ∀ j, j < i → ¬ Z j 0 = who) : seek n Z who = some i := by
  refine List.find?_range_eq_some.2 ⟨by simpa using h, by simpa using hi, fun j hj => ?_⟩
  simpa using hf j hj
theorem seek_no {n : Nat} {Z : Nat → Nat → Int} {who : Int} (h : ∀ j, j < n → ¬ Z j 0 = who) : seek n Z who = none :=
  List.find?_eq_none.2 (fun j hj => by have := h j (by simpa using hj); simpa using this)
def askR (n : Nat) (Z : Nat → Nat → Int) (who kind to nn : Int) : (Nat → Nat → Int) × Bool := match seek n Z who with
  | none => (Z, false)
  | some i => if P10.tr (Z i 2) = true then (Z, false) else if ordB who (Z i 8 + 1) kind to nn = true then (takeZ Z i who kind to nn, true) else (Z, false)
/-- What GwyAsk answers: how many rows, which, and whether the order is taken. -/
def gaN (c d : Int) (n : Nat) (Z : Nat → Nat → Int) : Nat := if bookB c d n Z = true then n else 0
def gaB (c d : Int) (n : Nat) (Z : Nat → Nat → Int) (who kind to nn : Int) : Bool := bookB c d n Z && (askR n Z who kind to nn).2
theorem book_row {c d : Int} {n : Nat} {Z : Nat → Nat → Int} (h : bookB c d n Z = true) : ∀ k, k < n → rowB c (Z k) = true ∧ (k = 0 ∨ Z (k - 1) 0 < Z k 0) := by
  intro k hk
  simp only [bookB, Bool.and_eq_true, decide_eq_true_eq] at h
  have := h.2 k hk
  simp only [stepR, Bool.and_eq_true, Bool.or_eq_true, decide_eq_true_eq] at this
  exact this
theorem book_key {c d : Int} {n : Nat} {Z : Nat → Nat → Int} (h : bookB c d n Z = true) : ∀ k, k < n → 1 ≤ Z k 0 ∧ Z k 0 ≤ 9 := by
  intro k hk
  have := (book_row h k hk).1
  simp only [rowB, inB, Bool.and_eq_true, decide_eq_true_eq] at this
  exact this.1
theorem book_seq {c d : Int} {n : Nat} {Z : Nat → Nat → Int} (h : bookB c d n Z = true) : ∀ k, k < n → 0 ≤ Z k 8 ∧ Z k 8 ≤ 900 := by
  intro k hk
  have := (book_row h k hk).1
  simp only [rowB, inB, Bool.and_eq_true, decide_eq_true_eq] at this
  exact this.2.2.1
theorem book_rise {c d : Int} {n : Nat} {Z : Nat → Nat → Int} (h : bookB c d n Z = true) : ∀ a b, a < b → b < n → Z a 0 < Z b 0 := by
  intro a b hab
  obtain ⟨m, rfl⟩ : ∃ m, b = a + 1 + m := ⟨b - (a + 1), by omega⟩
  clear hab
  induction m with
  | zero =>
    intro hb
    rcases (book_row h (a + 1) hb).2 with e | e
    · omega
    · exact e
  | succ m ih =>
    intro hb
    have h1 := ih (by omega)
    rcases (book_row h (a + 1 + (m + 1)) hb).2 with e | e
    · omega
    · have e2 : Z (a + 1 + m) 0 < Z (a + 1 + (m + 1)) 0 := e
      omega
theorem take_any (c d : Int) (lo mb n : Nat) (Bs : Nat → Nat) (Z : Nat → Nat → Int) (who s0 kind to nn : Int) (hwf : (Lit.int .i64 who).wf = true) (hk : bookB c d n Z = true) (w : World) (hlo : lo ≤ w.heap.size) (h : Op lo w mb n (fun k => Z k 0) Bs Z) :
    Calls Try.prog 48 #[.map (some mb), .agg #[.int .i64 who, .int .i64 s0, .int .i64 kind, .int .i64 to, .int .i64 nn]] w fun e w' => e = .returned (.bool (askR n Z who kind to nn).2) ∧ Op lo w' mb n (fun k => Z k 0) Bs (askR n Z who kind to nn).1 ∧ Below lo w w' ∧ w.heap.size ≤ w'.heap.size := by
  cases hs : seek n Z who with
  | none =>
    refine (take_no lo mb n (fun k => Z k 0) Bs Z who s0 kind to nn hwf (seek_none hs) w h).mono ?_
    rintro e w' ⟨rfl, hb⟩
    simp only [askR, hs]
    exact ⟨by trivial, h.below hb, hb.mono hlo, hb.size⟩
  | some i =>
    obtain ⟨hi, hz, _⟩ := seek_some hs
    refine (take_yes lo mb n i (fun k => Z k 0) Bs Z who s0 kind to nn hwf hi hz (book_rise hk) (book_seq hk i hi) w hlo h).mono ?_
    rintro e w' ⟨hq, hb, hz⟩
    simp only [askR, hs]
    refine ⟨?_, ?_, hb, hz⟩
    · by_cases h1 : P10.tr (Z i 2) = true
      · rw [if_pos h1] at hq ⊢; exact hq.1
      · rw [if_neg h1] at hq ⊢
        by_cases h2 : ordB who (Z i 8 + 1) kind to nn = true
        · rw [if_pos h2] at hq ⊢; exact hq.1
        · rw [if_neg h2] at hq ⊢; exact hq.1
    · by_cases h1 : P10.tr (Z i 2) = true
      · rw [if_pos h1] at hq ⊢; exact hq.2
      · rw [if_neg h1] at hq ⊢
        by_cases h2 : ordB who (Z i 8 + 1) kind to nn = true
        · rw [if_pos h2] at hq ⊢; exact hq.2
        · rw [if_neg h2] at hq ⊢; exact hq.2

set_option maxHeartbeats 2000000 in
theorem ask_impl (c d : Int) (a : Option Addr) (n cap : Nat) (Z : Nat → Nat → Int) (who kind to nn : Int) (hwf : (Lit.int .i64 who).wf = true) (hn : n ≤ 1048576) (w : World) (h : P10.RowK w a n Z) :
    Calls Try.prog 22 #[.agg #[.int .i64 c, .int .i64 d], .agg #[.slice a n cap], .int .i64 who, .int .i64 kind, .int .i64 to, .int .i64 nn] w fun e w' => (∃ v, e = .returned (.tuple #[.agg #[v], .bool (gaB c d n Z who kind to nn)]) ∧ P10.RL w.heap.size w'.heap.size w' v (gaN c d n Z) (askR n Z who kind to nn).1) ∧ Below w.heap.size w w' := by
  have HR : Hid (P10.RowK w a n Z) := h
  clear h
  cases hk : bookB c d n Z
  · have hv : gaN c d n Z = 0 := by simp [gaN, hk]
    have hb : gaB c d n Z who kind to nn = false := by simp [gaB, hk]
    rw [hv, hb]
    clear hv hb
    go_enter Try.func22, Try.ntmps22
    go_wp2_with fail
    obtain ⟨w0, e0⟩ : ∃ w0, w0 = ((w.alloc (.cells #[.int .i64 c, .int .i64 d] 30)).alloc (.cells #[.slice a n cap] 28)).alloc (.cells #[.slice none 0 0] 28) := ⟨_, rfl⟩
    have B1 : Hid (Below w.heap.size w w0) := by rw [e0]; exact (((Below.refl _ _).alloc (by simp) _).alloc (by simp) _).alloc (by simp; omega) _
    have M2 : Hid (Bk w0 w.heap.size [.int .i64 c, .int .i64 d]) := by rw [e0]; exact ((bk_new w 30 [.int .i64 c, .int .i64 d]).below ((Below.refl _ _).alloc (Nat.le_refl _) _)).below ((Below.refl _ _).alloc (Nat.le_refl _) _)
    have K3 : Hid (Bk w0 (w.heap.size + 1) [.slice a n cap]) := by rw [e0]; have := (bk_new (w.alloc (.cells #[.int .i64 c, .int .i64 d] 30)) 28 [.slice a n cap]).below ((Below.refl _ _).alloc (Nat.le_refl _) (.cells #[.slice none 0 0] 28)); rwa [show (w.alloc (.cells #[.int .i64 c, .int .i64 d] 30)).heap.size = w.heap.size + 1 by simp] at this
    have R4 : Hid (Bk w0 (w.heap.size + 1 + 1) [.slice none 0 0]) := by rw [e0]; have := bk_new ((w.alloc (.cells #[.int .i64 c, .int .i64 d] 30)).alloc (.cells #[.slice a n cap] 28)) 28 [.slice none 0 0]; rwa [show ((w.alloc (.cells #[.int .i64 c, .int .i64 d] 30)).alloc (.cells #[.slice a n cap] 28)).heap.size = w.heap.size + 1 + 1 by simp] at this
    rw [← e0]
    clear e0
    refine (book_impl c d a n cap Z hn _ (P10.row_below HR.out B1.out)).mono ?_
    rintro e w1 ⟨rfl, hb1⟩
    have B5 : Hid (Below w.heap.size w w1) := bthen B1.out hb1
    have M5 : Hid (Bk w1 w.heap.size [.int .i64 c, .int .i64 d]) := M2.out.below hb1
    have K5 : Hid (Bk w1 (w.heap.size + 1) [.slice a n cap]) := K3.out.below hb1
    have R5 : Hid (Bk w1 (w.heap.size + 1 + 1) [.slice none 0 0]) := R4.out.below hb1
    clear B1 M2 K3 R4
    clear hb1
    rw [hk]
    have yR0 : w1.cell? ⟨(w.heap.size + 1 + 1), 0, none⟩ = some (.slice none 0 0) := (R5.out.2 0 (by simp)).1
    have zR0 : w1.frozen? ⟨(w.heap.size + 1 + 1), 0, none⟩ = false := (R5.out.2 0 (by simp)).2
    have hlR : (w.heap.size + 1 + 1) < w1.heap.size := R5.out.1
    go_wp2
    refine bodyPost_ret (v := .tuple #[.agg #[.slice none 0 0], .bool false]) (by simp [results, Try.results22, go_sem, *]) rfl ?_
    exact ⟨⟨_, rfl, .inl ⟨rfl, none, 0, rfl⟩⟩, B5.out.setCell (by show w.heap.size ≤ w.heap.size + 1 + 1; omega) _⟩
  · have hv : gaN c d n Z = n := by simp [gaN, hk]
    have hb : gaB c d n Z who kind to nn = (askR n Z who kind to nn).2 := by simp [gaB, hk]
    rw [hv, hb]
    clear hv hb
    obtain ⟨Y, eY⟩ : ∃ Y, Y = (askR n Z who kind to nn).1 := ⟨_, rfl⟩
    obtain ⟨q, eq⟩ : ∃ q, q = (askR n Z who kind to nn).2 := ⟨_, rfl⟩
    have EY : Hid (Y = (askR n Z who kind to nn).1) := eY
    have EQ : Hid (q = (askR n Z who kind to nn).2) := eq
    rw [← eY, ← eq]
    clear eY eq
    go_enter Try.func22, Try.ntmps22
    go_wp2_with fail
    obtain ⟨w0, e0⟩ : ∃ w0, w0 = ((w.alloc (.cells #[.int .i64 c, .int .i64 d] 30)).alloc (.cells #[.slice a n cap] 28)).alloc (.cells #[.slice none 0 0] 28) := ⟨_, rfl⟩
    have B6 : Hid (Below w.heap.size w w0) := by rw [e0]; exact (((Below.refl _ _).alloc (by simp) _).alloc (by simp) _).alloc (by simp; omega) _
    have M7 : Hid (Bk w0 w.heap.size [.int .i64 c, .int .i64 d]) := by rw [e0]; exact ((bk_new w 30 [.int .i64 c, .int .i64 d]).below ((Below.refl _ _).alloc (Nat.le_refl _) _)).below ((Below.refl _ _).alloc (Nat.le_refl _) _)
    have K8 : Hid (Bk w0 (w.heap.size + 1) [.slice a n cap]) := by rw [e0]; have := (bk_new (w.alloc (.cells #[.int .i64 c, .int .i64 d] 30)) 28 [.slice a n cap]).below ((Below.refl _ _).alloc (Nat.le_refl _) (.cells #[.slice none 0 0] 28)); rwa [show (w.alloc (.cells #[.int .i64 c, .int .i64 d] 30)).heap.size = w.heap.size + 1 by simp] at this
    have R9 : Hid (Bk w0 (w.heap.size + 1 + 1) [.slice none 0 0]) := by rw [e0]; have := bk_new ((w.alloc (.cells #[.int .i64 c, .int .i64 d] 30)).alloc (.cells #[.slice a n cap] 28)) 28 [.slice none 0 0]; rwa [show ((w.alloc (.cells #[.int .i64 c, .int .i64 d] 30)).alloc (.cells #[.slice a n cap] 28)).heap.size = w.heap.size + 1 + 1 by simp] at this
    rw [← e0]
    clear e0
    refine (book_impl c d a n cap Z hn _ (P10.row_below HR.out B6.out)).mono ?_
    rintro e w1 ⟨rfl, hb1⟩
    have B10 : Hid (Below w.heap.size w w1) := bthen B6.out hb1
    have M10 : Hid (Bk w1 w.heap.size [.int .i64 c, .int .i64 d]) := M7.out.below hb1
    have K10 : Hid (Bk w1 (w.heap.size + 1) [.slice a n cap]) := K8.out.below hb1
    have R10 : Hid (Bk w1 (w.heap.size + 1 + 1) [.slice none 0 0]) := R9.out.below hb1
    clear B6 M7 K8 R9
    clear hb1
    rw [hk]
    have yM0 : w1.cell? ⟨w.heap.size, 0, none⟩ = some (.int .i64 c) := (M10.out.2 0 (by simp)).1
    have yM1 : w1.cell? ⟨w.heap.size, 1, none⟩ = some (.int .i64 d) := (M10.out.2 1 (by simp)).1
    have hlM : w.heap.size < w1.heap.size := M10.out.1
    have yK0 : w1.cell? ⟨(w.heap.size + 1), 0, none⟩ = some (.slice a n cap) := (K10.out.2 0 (by simp)).1
    have hlK : (w.heap.size + 1) < w1.heap.size := K10.out.1
    have yR0 : w1.cell? ⟨(w.heap.size + 1 + 1), 0, none⟩ = some (.slice none 0 0) := (R10.out.2 0 (by simp)).1
    have hlR : (w.heap.size + 1 + 1) < w1.heap.size := R10.out.1
    have r1 : w.heap.size + 1 + 1 < w1.heap.size := R10.out.1
    go_wp2_with fail
    refine (opened a n cap Z hn (book_key hk) _ (P10.row_below HR.out B10.out)).mono ?_
    rintro e w2 ⟨⟨mb, Bs, rfl, hO2⟩, hb2⟩
    clear yM0 yM1 hlM yK0 hlK yR0 hlR
    have B11 : Hid (Below w.heap.size w w2) := bthen B10.out hb2
    have M11 : Hid (Bk w2 w.heap.size [.int .i64 c, .int .i64 d]) := M10.out.below hb2
    have K11 : Hid (Bk w2 (w.heap.size + 1) [.slice a n cap]) := K10.out.below hb2
    have R11 : Hid (Bk w2 (w.heap.size + 1 + 1) [.slice none 0 0]) := R10.out.below hb2
    clear B10 M10 K10 R10
    have z2 := hb2.size
    clear hb2
    obtain ⟨lo, elo⟩ : ∃ g, g = w1.heap.size := ⟨_, rfl⟩
    rw [← elo] at z2 r1 hO2
    clear elo
    go_wp2_with fail
    refine (take_any c d lo mb n Bs Z who 0 kind to nn hwf hk _ z2 hO2).mono ?_
    rintro e w3 ⟨rfl, hO3, hb3, hz3⟩
    rw [← EY.out] at hO3
    rw [← EQ.out]
    have B12 : Hid (Below w.heap.size w w3) := B11.out.trans (hb3.mono (by omega))
    have M12 : Hid (Bk w3 w.heap.size [.int .i64 c, .int .i64 d]) := M11.out.sm hz3 (sm_below hb3 (by omega))
    have K12 : Hid (Bk w3 (w.heap.size + 1) [.slice a n cap]) := K11.out.sm hz3 (sm_below hb3 (by omega))
    have R12 : Hid (Bk w3 (w.heap.size + 1 + 1) [.slice none 0 0]) := R11.out.sm hz3 (sm_below hb3 (by omega))
    clear B11 M11 K11 R11
    have HO3 : Hid (Op lo w3 mb n (fun k => Z k 0) Bs Y) := hO3
    clear hO3 hO2 hb3
    go_wp2_with fail
    refine (told lo mb n (fun k => Z k 0) Bs Y hn (book_rise hk) _ HO3.out).mono ?_
    rintro e w4 ⟨⟨v, rfl, hr4⟩, hb4⟩
    have B13 : Hid (Below w.heap.size w w4) := bthen B12.out hb4
    have M13 : Hid (Bk w4 w.heap.size [.int .i64 c, .int .i64 d]) := M12.out.below hb4
    have K13 : Hid (Bk w4 (w.heap.size + 1) [.slice a n cap]) := K12.out.below hb4
    have R13 : Hid (Bk w4 (w.heap.size + 1 + 1) [.slice none 0 0]) := R12.out.below hb4
    clear B12 M12 K12 R12
    obtain ⟨va, vc, ev, _⟩ := hr4.at
    subst ev
    have HL : Hid (P10.RL w3.heap.size w4.heap.size w4 (.slice va n vc) n Y) := hr4
    have z4 := hb4.size
    clear hr4 hb4 HO3
    have yR0 : w4.cell? ⟨(w.heap.size + 1 + 1), 0, none⟩ = some (.slice none 0 0) := (R13.out.2 0 (by simp)).1
    have zR0 : w4.frozen? ⟨(w.heap.size + 1 + 1), 0, none⟩ = false := (R13.out.2 0 (by simp)).2
    have hlR : (w.heap.size + 1 + 1) < w4.heap.size := R13.out.1
    go_wp2
    refine bodyPost_ret (v := .tuple #[.agg #[.slice va n vc], .bool q]) (by simp [results, Try.results22, go_sem, *]) rfl ?_
    exact ⟨⟨_, rfl, rl_mono (by rw [set_size]; exact rl_set HL.out (by omega)) (by omega)⟩, B13.out.setCell (by show w.heap.size ≤ w.heap.size + 1 + 1; omega) _⟩
end Go.Proofs.Ytgjapdjidighlaa
