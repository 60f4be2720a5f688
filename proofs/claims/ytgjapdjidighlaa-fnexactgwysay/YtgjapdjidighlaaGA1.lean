/- An open book takes an order; conditions: those typed. -/
import Derived.Test.YtgjapdjidighlaaGO2
import Derived.Test.YtgjapdjidighlaaOrd2
namespace Go.Proofs.Ytgjapdjidighlaa
open Go.RowKit Go.Deep
set_option linter.unusedVariables false

def takeZ (Z : Nat → Nat → Int) (i : Nat) (who kind to nn : Int) : Nat → Nat → Int := fun k j => if k = i then (match j with | 2 => 0 | 3 => who | 4 => Z i 8 + 1 | 5 => kind | 6 => to | 7 => nn | j => Z i j) else Z k j
theorem bk_drew {W : World} {b : Nat} {l : List Value} (h : Bk W b l) : Bk W.drew b l := h
theorem grown_drew {a W : World} {r : Option Nat} (h : a.grownBy W r) : a.grownBy W.drew r := ⟨h.os, h.tape, h.output, h.size, h.block⟩
theorem takeZ_other {Z : Nat → Nat → Int} {i k : Nat} {who kind to nn : Int} (h : ¬ k = i) : P10.rowK (takeZ Z i who kind to nn) k = P10.rowK Z k := by simp [P10.rowK, takeZ, h]
theorem Op.change {lo mb n i : Nat} {w w' : World} {Kf : Nat → Int} {Bs : Nat → Nat} {Z Z' : Nat → Nat → Int} (h : Op lo w mb n Kf Bs Z) (hi : i < n) (hg : w.grownBy w' (some (Bs i))) (h1 : Bk w' (Bs i) (P10.rowK Z' i)) (h2 : ∀ k, ¬ k = i → P10.rowK Z' k = P10.rowK Z k) : Op lo w' mb n Kf Bs Z' := by
  obtain ⟨q1, q2, q3, q4⟩ := h
  refine ⟨q1, q2.kept hg (fun e => (q2.not (q3 i hi).2 (by simp [P10.rowK])) (Option.some.inj e).symm), fun k hk => ?_, q4⟩
  by_cases e : k = i
  · subst e; exact ⟨(q3 k hk).1, h1⟩
  · rw [h2 k e]
    refine ⟨(q3 k hk).1, (q3 k hk).2.sm hg.size (sm_grown hg (q3 k hk).2.1 (fun e2 => ?_))⟩
    have e3 := Option.some.inj e2
    rcases Nat.lt_or_gt_of_ne e with h | h
    · have := q4 k i h hi; omega
    · have := q4 i k h hk; omega

set_option maxHeartbeats 1000000 in
theorem take_no (lo mb n : Nat) (Kf : Nat → Int) (Bs : Nat → Nat) (Z : Nat → Nat → Int) (who s0 kind to nn : Int) (hwf : (Lit.int .i64 who).wf = true) (hno : ∀ j, j < n → ¬ Kf j = who) (w : World) (h : Op lo w mb n Kf Bs Z) :
    Calls Try.prog 48 #[.map (some mb), .agg #[.int .i64 who, .int .i64 s0, .int .i64 kind, .int .i64 to, .int .i64 nn]] w fun e w' => e = .returned (.bool false) ∧ Below w.heap.size w w' := by
  have HO : Hid (Op lo w mb n Kf Bs Z) := h
  clear h
  go_enter Try.func48, Try.ntmps48
  have lk := (HO.out.below (show Below w.heap.size w (w.alloc (.cells #[.int .i64 who, .int .i64 s0, .int .i64 kind, .int .i64 to, .int .i64 nn] 54)) from (Below.refl _ _).alloc (Nat.le_refl _) _)).2.1.look (z := who) hwf
  rw [mapP_none n hno] at lk
  simp only [pvo, Option.isSome_none] at lk
  clear hno
  go_wp2
  go_ret
  exact ⟨rfl, (Below.refl _ _).alloc (Nat.le_refl _) _⟩

set_option maxRecDepth 20000 in
set_option maxHeartbeats 2000000 in
theorem take_yes (lo mb n i : Nat) (Kf : Nat → Int) (Bs : Nat → Nat) (Z : Nat → Nat → Int) (who s0 kind to nn : Int) (hwf : (Lit.int .i64 who).wf = true) (hi : i < n) (hKi : Kf i = who) (hr : ∀ a b, a < b → b < n → Kf a < Kf b) (h8 : 0 ≤ Z i 8 ∧ Z i 8 ≤ 900) (w : World) (hlo : lo ≤ w.heap.size) (h : Op lo w mb n Kf Bs Z) :
    Calls Try.prog 48 #[.map (some mb), .agg #[.int .i64 who, .int .i64 s0, .int .i64 kind, .int .i64 to, .int .i64 nn]] w fun e w' => (if P10.tr (Z i 2) = true then e = .returned (.bool false) ∧ Op lo w' mb n Kf Bs Z else if ordB who (Z i 8 + 1) kind to nn = true then e = .returned (.bool true) ∧ Op lo w' mb n Kf Bs (takeZ Z i who kind to nn) else e = .returned (.bool false) ∧ Op lo w' mb n Kf Bs Z) ∧ Below lo w w' ∧ w.heap.size ≤ w'.heap.size := by
  have HO : Hid (Op lo w mb n Kf Bs Z) := h
  clear h
  have hw8 : IntKind.wrap .i64 (Z i 8 + 1) = Z i 8 + 1 := by simp [IntKind.wrap, IntKind.bits, IntKind.signed]; omega
  have hBl := (HO.out.2.2.1 i hi).2.1
  have hBlo := (HO.out.2.2.1 i hi).1
  cases hb : P10.tr (Z i 2)
  · go_enter Try.func48, Try.ntmps48
    have lk := (HO.out.below (show Below w.heap.size w (w.alloc (.cells #[.int .i64 who, .int .i64 s0, .int .i64 kind, .int .i64 to, .int .i64 nn] 54)) from (Below.refl _ _).alloc (Nat.le_refl _) _)).2.1.look (z := who) hwf
    have hmp : mapP Kf Bs n who = some (Bs i) := by rw [← hKi]; exact mapP_some n hi hr
    rw [hmp] at lk
    clear hmp
    simp only [pvo, pv, Option.isSome_some] at lk
    have P0 : Bk (w.alloc (.cells #[.int .i64 who, .int .i64 s0, .int .i64 kind, .int .i64 to, .int .i64 nn] 54)) (Bs i) (P10.rowK Z i) := (HO.out.below (show Below w.heap.size w (w.alloc (.cells #[.int .i64 who, .int .i64 s0, .int .i64 kind, .int .i64 to, .int .i64 nn] 54)) from (Below.refl _ _).alloc (Nat.le_refl _) _)).2.2.1 i hi |>.2
    have c0 : (w.alloc (.cells #[.int .i64 who, .int .i64 s0, .int .i64 kind, .int .i64 to, .int .i64 nn] 54)).cell? ⟨Bs i, 0, none⟩ = some (.int .i64 (Z i 0)) := ((P0).2 0 (by simp [P10.rowK])).1
    have c1 : (w.alloc (.cells #[.int .i64 who, .int .i64 s0, .int .i64 kind, .int .i64 to, .int .i64 nn] 54)).cell? ⟨Bs i, 1, none⟩ = some (.int .i64 (Z i 1)) := ((P0).2 1 (by simp [P10.rowK])).1
    have c2 : (w.alloc (.cells #[.int .i64 who, .int .i64 s0, .int .i64 kind, .int .i64 to, .int .i64 nn] 54)).cell? ⟨Bs i, 2, none⟩ = some (.bool false) := by rw [((P0).2 2 (by simp [P10.rowK])).1]; simp [P10.rowK, hb]
    have c3 : (w.alloc (.cells #[.int .i64 who, .int .i64 s0, .int .i64 kind, .int .i64 to, .int .i64 nn] 54)).cell? ⟨Bs i, 3, none⟩ = some (.int .i64 (Z i 3)) := ((P0).2 3 (by simp [P10.rowK])).1
    have c4 : (w.alloc (.cells #[.int .i64 who, .int .i64 s0, .int .i64 kind, .int .i64 to, .int .i64 nn] 54)).cell? ⟨Bs i, 4, none⟩ = some (.int .i64 (Z i 4)) := ((P0).2 4 (by simp [P10.rowK])).1
    have c5 : (w.alloc (.cells #[.int .i64 who, .int .i64 s0, .int .i64 kind, .int .i64 to, .int .i64 nn] 54)).cell? ⟨Bs i, 5, none⟩ = some (.int .i64 (Z i 5)) := ((P0).2 5 (by simp [P10.rowK])).1
    have c6 : (w.alloc (.cells #[.int .i64 who, .int .i64 s0, .int .i64 kind, .int .i64 to, .int .i64 nn] 54)).cell? ⟨Bs i, 6, none⟩ = some (.int .i64 (Z i 6)) := ((P0).2 6 (by simp [P10.rowK])).1
    have c7 : (w.alloc (.cells #[.int .i64 who, .int .i64 s0, .int .i64 kind, .int .i64 to, .int .i64 nn] 54)).cell? ⟨Bs i, 7, none⟩ = some (.int .i64 (Z i 7)) := ((P0).2 7 (by simp [P10.rowK])).1
    have c8 : (w.alloc (.cells #[.int .i64 who, .int .i64 s0, .int .i64 kind, .int .i64 to, .int .i64 nn] 54)).cell? ⟨Bs i, 8, none⟩ = some (.int .i64 (Z i 8)) := ((P0).2 8 (by simp [P10.rowK])).1
    have c9 : (w.alloc (.cells #[.int .i64 who, .int .i64 s0, .int .i64 kind, .int .i64 to, .int .i64 nn] 54)).cell? ⟨Bs i, 9, none⟩ = some (.int .i64 (Z i 9)) := ((P0).2 9 (by simp [P10.rowK])).1
    have lB : Bs i < (w.alloc (.cells #[.int .i64 who, .int .i64 s0, .int .i64 kind, .int .i64 to, .int .i64 nn] 54)).heap.size := (P0).1
    clear P0
    go_wp2_with fail
    obtain ⟨w0, e0⟩ : ∃ y, y = (w.alloc (.cells #[.int .i64 who, .int .i64 (Z i 8 + 1), .int .i64 kind, .int .i64 to, .int .i64 nn] 54)) := ⟨_, rfl⟩
    have b0 : Below w.heap.size w w0 := by rw [e0]; exact (Below.refl _ _).alloc (Nat.le_refl _) _
    have X0 : Bk w0 w.heap.size [.int .i64 who, .int .i64 (Z i 8 + 1), .int .i64 kind, .int .i64 to, .int .i64 nn] := by rw [e0]; exact bk_new w 54 [.int .i64 who, .int .i64 (Z i 8 + 1), .int .i64 kind, .int .i64 to, .int .i64 nn]
    rw [← e0]
    clear e0 lk c0 c1 c2 c3 c4 c5 c6 c7 c8 c9 lB
    refine (ordOk_impl _ _ _ _ _ _).mono ?_
    rintro e w1 ⟨rfl, hb1⟩
    have b1 : Below w.heap.size w w1 := bthen b0 hb1
    have X1 := X0.below hb1
    have O1 : Hid (Op lo w1 mb n Kf Bs Z) := HO.out.below b1
    have B1 : Hid (Below lo w w1) := b1.mono hlo
    have z1 := b1.size
    clear b0 X0 hb1 b1
    cases hq : ordB who (Z i 8 + 1) kind to nn
    · go_wp2
      go_ret
      exact ⟨by simp; exact O1.out, B1.out, z1⟩
    have HX : Hid (Bk w1 w.heap.size [.int .i64 who, .int .i64 (Z i 8 + 1), .int .i64 kind, .int .i64 to, .int .i64 nn]) := X1
    clear X1
    have o0 : w1.cell? ⟨w.heap.size, 0, none⟩ = some (.int .i64 who) := (HX.out.2 0 (by simp)).1
    have o1 : w1.cell? ⟨w.heap.size, 1, none⟩ = some (.int .i64 (Z i 8 + 1)) := (HX.out.2 1 (by simp)).1
    have o2 : w1.cell? ⟨w.heap.size, 2, none⟩ = some (.int .i64 kind) := (HX.out.2 2 (by simp)).1
    have o3 : w1.cell? ⟨w.heap.size, 3, none⟩ = some (.int .i64 to) := (HX.out.2 3 (by simp)).1
    have o4 : w1.cell? ⟨w.heap.size, 4, none⟩ = some (.int .i64 nn) := (HX.out.2 4 (by simp)).1
    have ol := HX.out.1
    have P1 := (O1.out.2.2.1 i hi).2
    have c0 : w1.cell? ⟨Bs i, 0, none⟩ = some (.int .i64 (Z i 0)) := ((P1).2 0 (by simp [P10.rowK])).1
    have c1 : w1.cell? ⟨Bs i, 1, none⟩ = some (.int .i64 (Z i 1)) := ((P1).2 1 (by simp [P10.rowK])).1
    have c2 : w1.cell? ⟨Bs i, 2, none⟩ = some (.bool false) := by rw [((P1).2 2 (by simp [P10.rowK])).1]; simp [P10.rowK, hb]
    have c3 : w1.cell? ⟨Bs i, 3, none⟩ = some (.int .i64 (Z i 3)) := ((P1).2 3 (by simp [P10.rowK])).1
    have c4 : w1.cell? ⟨Bs i, 4, none⟩ = some (.int .i64 (Z i 4)) := ((P1).2 4 (by simp [P10.rowK])).1
    have c5 : w1.cell? ⟨Bs i, 5, none⟩ = some (.int .i64 (Z i 5)) := ((P1).2 5 (by simp [P10.rowK])).1
    have c6 : w1.cell? ⟨Bs i, 6, none⟩ = some (.int .i64 (Z i 6)) := ((P1).2 6 (by simp [P10.rowK])).1
    have c7 : w1.cell? ⟨Bs i, 7, none⟩ = some (.int .i64 (Z i 7)) := ((P1).2 7 (by simp [P10.rowK])).1
    have c8 : w1.cell? ⟨Bs i, 8, none⟩ = some (.int .i64 (Z i 8)) := ((P1).2 8 (by simp [P10.rowK])).1
    have c9 : w1.cell? ⟨Bs i, 9, none⟩ = some (.int .i64 (Z i 9)) := ((P1).2 9 (by simp [P10.rowK])).1
    have lB : Bs i < w1.heap.size := (P1).1
    have f2 : w1.frozen? ⟨Bs i, 2, none⟩ = false := (P1.2 2 (by simp [P10.rowK])).2
    have f3 : w1.frozen? ⟨Bs i, 3, none⟩ = false := (P1.2 3 (by simp [P10.rowK])).2
    have f4 : w1.frozen? ⟨Bs i, 4, none⟩ = false := (P1.2 4 (by simp [P10.rowK])).2
    have f5 : w1.frozen? ⟨Bs i, 5, none⟩ = false := (P1.2 5 (by simp [P10.rowK])).2
    have f6 : w1.frozen? ⟨Bs i, 6, none⟩ = false := (P1.2 6 (by simp [P10.rowK])).2
    have f7 : w1.frozen? ⟨Bs i, 7, none⟩ = false := (P1.2 7 (by simp [P10.rowK])).2
    have hne : ¬ w.heap.size = Bs i := by omega
    have hne2 : ¬ Bs i = w.heap.size := by omega
    have HP1 : Hid (Bk w1 (Bs i) (P10.rowK Z i)) := P1
    clear P1
    go_wp2
    go_region
    have eR : P10.rowK (takeZ Z i who kind to nn) i = [.int .i64 (Z i 0), .int .i64 (Z i 1), .bool true, .int .i64 who, .int .i64 (Z i 8 + 1), .int .i64 kind, .int .i64 to, .int .i64 nn, .int .i64 (Z i 8), .int .i64 (Z i 9)] := by simp [P10.rowK, takeZ, P10.tr]
    obtain ⟨w2, e2⟩ : ∃ y, y = ((((((w1.setCell ⟨Bs i, 2, none⟩ (.bool true)).setCell ⟨Bs i, 3, none⟩ (.int .i64 who)).setCell ⟨Bs i, 4, none⟩ (.int .i64 (Z i 8 + 1))).setCell ⟨Bs i, 5, none⟩ (.int .i64 kind)).setCell ⟨Bs i, 6, none⟩ (.int .i64 to)).setCell ⟨Bs i, 7, none⟩ (.int .i64 nn)).drew := ⟨_, rfl⟩
    have g1 : w1.grownBy ((((((w1.setCell ⟨Bs i, 2, none⟩ (.bool true)).setCell ⟨Bs i, 3, none⟩ (.int .i64 who)).setCell ⟨Bs i, 4, none⟩ (.int .i64 (Z i 8 + 1))).setCell ⟨Bs i, 5, none⟩ (.int .i64 kind)).setCell ⟨Bs i, 6, none⟩ (.int .i64 to)).setCell ⟨Bs i, 7, none⟩ (.int .i64 nn)) (some (Bs i)) := ((((((set_grown _ _ _ _).1.trans (set_grown _ _ _ _).1).trans (set_grown _ _ _ _).1).trans (set_grown _ _ _ _).1).trans (set_grown _ _ _ _).1).trans (set_grown _ _ _ _).1)
    have g2 : w1.grownBy w2 (some (Bs i)) := by rw [e2]; exact grown_drew g1
    have P2 : Bk w2 (Bs i) (P10.rowK (takeZ Z i who kind to nn) i) := by rw [e2, eR]; refine bk_drew ?_; have h := (Bk.set (j := 7) (v := .int .i64 nn) (Bk.set (j := 6) (v := .int .i64 to) (Bk.set (j := 5) (v := .int .i64 kind) (Bk.set (j := 4) (v := .int .i64 (Z i 8 + 1)) (Bk.set (j := 3) (v := .int .i64 who) (Bk.set (j := 2) (v := .bool true) HP1.out (by simp [P10.rowK])) (by simp [P10.rowK])) (by simp [P10.rowK])) (by simp [P10.rowK])) (by simp [P10.rowK])) (by simp [P10.rowK])); exact h
    rw [← e2]
    clear e2 g1 eR
    clear c0 c1 c2 c3 c4 c5 c6 c7 c8 c9 lB
    clear o0 o1 o2 o3 o4 f2 f3 f4 f5 f6 f7
    have O2 : Hid (Op lo w2 mb n Kf Bs (takeZ Z i who kind to nn)) := O1.out.change hi g2 P2 (fun k hk => takeZ_other hk)
    have B2 : Hid (Below lo w w2) := B1.out.trans (below_grown g2 hBlo (by omega))
    have z2 := g2.size
    clear g2 P2 O1 B1 HP1
    go_wp2
    go_ret
    exact ⟨by simp; exact O2.out, B2.out, by omega⟩
  · go_enter Try.func48, Try.ntmps48
    have lk := (HO.out.below (show Below w.heap.size w (w.alloc (.cells #[.int .i64 who, .int .i64 s0, .int .i64 kind, .int .i64 to, .int .i64 nn] 54)) from (Below.refl _ _).alloc (Nat.le_refl _) _)).2.1.look (z := who) hwf
    have hmp : mapP Kf Bs n who = some (Bs i) := by rw [← hKi]; exact mapP_some n hi hr
    rw [hmp] at lk
    clear hmp
    simp only [pvo, pv, Option.isSome_some] at lk
    have P0 : Bk (w.alloc (.cells #[.int .i64 who, .int .i64 s0, .int .i64 kind, .int .i64 to, .int .i64 nn] 54)) (Bs i) (P10.rowK Z i) := (HO.out.below (show Below w.heap.size w (w.alloc (.cells #[.int .i64 who, .int .i64 s0, .int .i64 kind, .int .i64 to, .int .i64 nn] 54)) from (Below.refl _ _).alloc (Nat.le_refl _) _)).2.2.1 i hi |>.2
    have c0 : (w.alloc (.cells #[.int .i64 who, .int .i64 s0, .int .i64 kind, .int .i64 to, .int .i64 nn] 54)).cell? ⟨Bs i, 0, none⟩ = some (.int .i64 (Z i 0)) := ((P0).2 0 (by simp [P10.rowK])).1
    have c1 : (w.alloc (.cells #[.int .i64 who, .int .i64 s0, .int .i64 kind, .int .i64 to, .int .i64 nn] 54)).cell? ⟨Bs i, 1, none⟩ = some (.int .i64 (Z i 1)) := ((P0).2 1 (by simp [P10.rowK])).1
    have c2 : (w.alloc (.cells #[.int .i64 who, .int .i64 s0, .int .i64 kind, .int .i64 to, .int .i64 nn] 54)).cell? ⟨Bs i, 2, none⟩ = some (.bool true) := by rw [((P0).2 2 (by simp [P10.rowK])).1]; simp [P10.rowK, hb]
    have c3 : (w.alloc (.cells #[.int .i64 who, .int .i64 s0, .int .i64 kind, .int .i64 to, .int .i64 nn] 54)).cell? ⟨Bs i, 3, none⟩ = some (.int .i64 (Z i 3)) := ((P0).2 3 (by simp [P10.rowK])).1
    have c4 : (w.alloc (.cells #[.int .i64 who, .int .i64 s0, .int .i64 kind, .int .i64 to, .int .i64 nn] 54)).cell? ⟨Bs i, 4, none⟩ = some (.int .i64 (Z i 4)) := ((P0).2 4 (by simp [P10.rowK])).1
    have c5 : (w.alloc (.cells #[.int .i64 who, .int .i64 s0, .int .i64 kind, .int .i64 to, .int .i64 nn] 54)).cell? ⟨Bs i, 5, none⟩ = some (.int .i64 (Z i 5)) := ((P0).2 5 (by simp [P10.rowK])).1
    have c6 : (w.alloc (.cells #[.int .i64 who, .int .i64 s0, .int .i64 kind, .int .i64 to, .int .i64 nn] 54)).cell? ⟨Bs i, 6, none⟩ = some (.int .i64 (Z i 6)) := ((P0).2 6 (by simp [P10.rowK])).1
    have c7 : (w.alloc (.cells #[.int .i64 who, .int .i64 s0, .int .i64 kind, .int .i64 to, .int .i64 nn] 54)).cell? ⟨Bs i, 7, none⟩ = some (.int .i64 (Z i 7)) := ((P0).2 7 (by simp [P10.rowK])).1
    have c8 : (w.alloc (.cells #[.int .i64 who, .int .i64 s0, .int .i64 kind, .int .i64 to, .int .i64 nn] 54)).cell? ⟨Bs i, 8, none⟩ = some (.int .i64 (Z i 8)) := ((P0).2 8 (by simp [P10.rowK])).1
    have c9 : (w.alloc (.cells #[.int .i64 who, .int .i64 s0, .int .i64 kind, .int .i64 to, .int .i64 nn] 54)).cell? ⟨Bs i, 9, none⟩ = some (.int .i64 (Z i 9)) := ((P0).2 9 (by simp [P10.rowK])).1
    have lB : Bs i < (w.alloc (.cells #[.int .i64 who, .int .i64 s0, .int .i64 kind, .int .i64 to, .int .i64 nn] 54)).heap.size := (P0).1
    clear P0
    go_wp2
    go_ret
    exact ⟨by simp; exact HO.out.below ((Below.refl _ _).alloc (Nat.le_refl _) _), ((Below.refl _ _).alloc (Nat.le_refl _) _).mono hlo, by simp⟩
end Go.Proofs.Ytgjapdjidighlaa
