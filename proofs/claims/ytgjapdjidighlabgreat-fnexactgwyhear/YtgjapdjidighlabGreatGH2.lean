/- What the gateway hears: told and away; conditions: those typed. -/
import Derived.Test.YtgjapdjidighlabGreatGH1
namespace Go.Proofs.YtgjapdjidighlabGreat
open Go.RowKit Go.Deep
set_option linter.unusedVariables false
theorem answered3 (x : Nat → Int) (w : World) : Calls Tryz.prog 110 #[.agg #[.int .i64 (x 5), .int .i64 (x 6), .int .i64 (x 7), .int .i64 (x 8), .int .i64 (x 9), .int .i64 (x 4)]] w fun e w' => e = .returned (.agg #[.int .i64 (x 5), .int .i64 (x 6), .int .i64 (x 7), .int .i64 (x 8), .int .i64 (x 9)]) ∧ Below w.heap.size w w' := by
  go_enter Tryz.func110, Tryz.ntmps110
  go_wp2
  exact bodyPost_ret (v := .agg #[.int .i64 (x 5), .int .i64 (x 6), .int .i64 (x 7), .int .i64 (x 8), .int .i64 (x 9)]) (by simp [results, Tryz.results110, go_sem]) rfl ⟨rfl, ((Below.refl _ _).alloc (by simp) _).alloc (by simp) _⟩
theorem answered4 (x : Nat → Int) (w : World) : Calls Tryz.prog 114 #[.agg #[.int .i64 (x 5), .int .i64 (x 6), .int .i64 (x 7), .int .i64 (x 8), .int .i64 (x 9)]] w fun e w' => e = .returned (.agg #[.int .i64 (x 5), .int .i64 (x 6), .int .i64 (x 7), .int .i64 (x 8), .int .i64 (x 9)]) ∧ Below w.heap.size w w' := by
  go_enter Tryz.func114, Tryz.ntmps114
  go_wp2
  exact bodyPost_ret (v := .agg #[.int .i64 (x 5), .int .i64 (x 6), .int .i64 (x 7), .int .i64 (x 8), .int .i64 (x 9)]) (by simp [results, Tryz.results114, go_sem]) rfl ⟨rfl, ((Below.refl _ _).alloc (by simp) _).alloc (by simp) _⟩
set_option maxRecDepth 20000 in
set_option maxHeartbeats 2000000 in
theorem heard3 (lo mb n i : Nat) (Kf : Nat → Int) (Bs : Nat → Nat) (Z : Nat → Nat → Int) (x : Nat → Int) (c d ce : Int) (hi : i < n) (w : World) (hlo : lo ≤ w.heap.size) (h : Op lo w mb n Kf Bs Z) :
    Calls Tryz.prog 111 #[.agg #[.int .i64 (x 5), .int .i64 (x 6), .int .i64 (x 7), .int .i64 (x 8), .int .i64 (x 9), .int .i64 (x 4)], .agg #[.int .i64 c, .int .i64 d], .pointer (some ⟨Bs i, 0, none⟩), .int .i64 ce] w fun e w' => e = .returned (.bool true) ∧ Op lo w' mb n Kf Bs (tellZ Z i ce (x 6) (x 4)) ∧ Below lo w w' ∧ w.heap.size ≤ w'.heap.size := by
  have HO : Hid (Op lo w mb n Kf Bs Z) := h
  clear h
  have hBl := (HO.out.2.2.1 i hi).2.1
  have hBlo := (HO.out.2.2.1 i hi).1
  go_enter Tryz.func111, Tryz.ntmps111
  go_wp2
  obtain ⟨w1, e1⟩ : ∃ y, y = ((w.alloc (.cells #[.int .i64 (x 5), .int .i64 (x 6), .int .i64 (x 7), .int .i64 (x 8), .int .i64 (x 9), .int .i64 (x 4)] 116)).alloc (.cells #[.int .i64 c, .int .i64 d] 43)) := ⟨_, rfl⟩
  have b1 : Below w.heap.size w w1 := by rw [e1]; exact ((Below.refl _ _).alloc (by simp) _).alloc (by simp) _
  have X1 : Bk w1 w.heap.size [.int .i64 (x 5), .int .i64 (x 6), .int .i64 (x 7), .int .i64 (x 8), .int .i64 (x 9), .int .i64 (x 4)] := by rw [e1]; exact (bk_new w 116 [.int .i64 (x 5), .int .i64 (x 6), .int .i64 (x 7), .int .i64 (x 8), .int .i64 (x 9), .int .i64 (x 4)]).below ((Below.refl _ _).alloc (Nat.le_refl _) _)
  rw [← e1]
  clear e1
  have O1 : Hid (Op lo w1 mb n Kf Bs Z) := HO.out.below b1
  have B1 : Hid (Below lo w w1) := b1.mono hlo
  have z1 := b1.size
  have P1 := (O1.out.2.2.1 i hi).2
  clear b1
  have c0 : w1.cell? ⟨Bs i, 0, none⟩ = some (.int .i64 (Z i 0)) := (P1.2 0 (by simp [P10.rowK])).1
  have f0 : w1.frozen? ⟨Bs i, 0, none⟩ = false := (P1.2 0 (by simp [P10.rowK])).2
  have c1 : w1.cell? ⟨Bs i, 1, none⟩ = some (.int .i64 (Z i 1)) := (P1.2 1 (by simp [P10.rowK])).1
  have f1 : w1.frozen? ⟨Bs i, 1, none⟩ = false := (P1.2 1 (by simp [P10.rowK])).2
  have c2 : w1.cell? ⟨Bs i, 2, none⟩ = some (.bool (P10.tr (Z i 2))) := (P1.2 2 (by simp [P10.rowK])).1
  have f2 : w1.frozen? ⟨Bs i, 2, none⟩ = false := (P1.2 2 (by simp [P10.rowK])).2
  have c3 : w1.cell? ⟨Bs i, 3, none⟩ = some (.int .i64 (Z i 3)) := (P1.2 3 (by simp [P10.rowK])).1
  have f3 : w1.frozen? ⟨Bs i, 3, none⟩ = false := (P1.2 3 (by simp [P10.rowK])).2
  have c4 : w1.cell? ⟨Bs i, 4, none⟩ = some (.int .i64 (Z i 4)) := (P1.2 4 (by simp [P10.rowK])).1
  have f4 : w1.frozen? ⟨Bs i, 4, none⟩ = false := (P1.2 4 (by simp [P10.rowK])).2
  have c5 : w1.cell? ⟨Bs i, 5, none⟩ = some (.int .i64 (Z i 5)) := (P1.2 5 (by simp [P10.rowK])).1
  have f5 : w1.frozen? ⟨Bs i, 5, none⟩ = false := (P1.2 5 (by simp [P10.rowK])).2
  have c6 : w1.cell? ⟨Bs i, 6, none⟩ = some (.int .i64 (Z i 6)) := (P1.2 6 (by simp [P10.rowK])).1
  have f6 : w1.frozen? ⟨Bs i, 6, none⟩ = false := (P1.2 6 (by simp [P10.rowK])).2
  have c7 : w1.cell? ⟨Bs i, 7, none⟩ = some (.int .i64 (Z i 7)) := (P1.2 7 (by simp [P10.rowK])).1
  have f7 : w1.frozen? ⟨Bs i, 7, none⟩ = false := (P1.2 7 (by simp [P10.rowK])).2
  have c8 : w1.cell? ⟨Bs i, 8, none⟩ = some (.int .i64 (Z i 8)) := (P1.2 8 (by simp [P10.rowK])).1
  have f8 : w1.frozen? ⟨Bs i, 8, none⟩ = false := (P1.2 8 (by simp [P10.rowK])).2
  have c9 : w1.cell? ⟨Bs i, 9, none⟩ = some (.int .i64 (Z i 9)) := (P1.2 9 (by simp [P10.rowK])).1
  have f9 : w1.frozen? ⟨Bs i, 9, none⟩ = false := (P1.2 9 (by simp [P10.rowK])).2
  have o0 : w1.cell? ⟨w.heap.size, 0, none⟩ = some (.int .i64 (x 5)) := (X1.2 0 (by simp)).1
  have o1 : w1.cell? ⟨w.heap.size, 1, none⟩ = some (.int .i64 (x 6)) := (X1.2 1 (by simp)).1
  have o2 : w1.cell? ⟨w.heap.size, 2, none⟩ = some (.int .i64 (x 7)) := (X1.2 2 (by simp)).1
  have o3 : w1.cell? ⟨w.heap.size, 3, none⟩ = some (.int .i64 (x 8)) := (X1.2 3 (by simp)).1
  have o4 : w1.cell? ⟨w.heap.size, 4, none⟩ = some (.int .i64 (x 9)) := (X1.2 4 (by simp)).1
  have o5 : w1.cell? ⟨w.heap.size, 5, none⟩ = some (.int .i64 (x 4)) := (X1.2 5 (by simp)).1
  have lB := P1.1
  have lX := X1.1
  have hne : ¬ w.heap.size = Bs i := by omega
  have hne2 : ¬ Bs i = w.heap.size := by omega
  have HP1 : Hid (Bk w1 (Bs i) (P10.rowK Z i)) := P1
  clear P1 X1
  go_region
  have eR : P10.rowK (tellZ Z i ce (x 6) (x 4)) i = [.int .i64 (Z i 0), .int .i64 ce, .bool false, .int .i64 0, .int .i64 0, .int .i64 0, .int .i64 0, .int .i64 0, .int .i64 (x 6), .int .i64 (x 4)] := by simp [P10.rowK, tellZ, P10.tr]
  obtain ⟨w2, e2⟩ : ∃ y, y = ((((((((((w1.setCell ⟨Bs i, 0, none⟩ (.int .i64 (Z i 0))).setCell ⟨Bs i, 1, none⟩ (.int .i64 ce)).setCell ⟨Bs i, 2, none⟩ (.bool false)).setCell ⟨Bs i, 3, none⟩ (.int .i64 0)).setCell ⟨Bs i, 4, none⟩ (.int .i64 0)).setCell ⟨Bs i, 5, none⟩ (.int .i64 0)).setCell ⟨Bs i, 6, none⟩ (.int .i64 0)).setCell ⟨Bs i, 7, none⟩ (.int .i64 0)).setCell ⟨Bs i, 8, none⟩ (.int .i64 (x 6))).setCell ⟨Bs i, 9, none⟩ (.int .i64 (x 4))).drew := ⟨_, rfl⟩
  have g1 : w1.grownBy ((((((((((w1.setCell ⟨Bs i, 0, none⟩ (.int .i64 (Z i 0))).setCell ⟨Bs i, 1, none⟩ (.int .i64 ce)).setCell ⟨Bs i, 2, none⟩ (.bool false)).setCell ⟨Bs i, 3, none⟩ (.int .i64 0)).setCell ⟨Bs i, 4, none⟩ (.int .i64 0)).setCell ⟨Bs i, 5, none⟩ (.int .i64 0)).setCell ⟨Bs i, 6, none⟩ (.int .i64 0)).setCell ⟨Bs i, 7, none⟩ (.int .i64 0)).setCell ⟨Bs i, 8, none⟩ (.int .i64 (x 6))).setCell ⟨Bs i, 9, none⟩ (.int .i64 (x 4))) (some (Bs i)) := ((((((((((set_grown _ _ _ _).1.trans (set_grown _ _ _ _).1).trans (set_grown _ _ _ _).1).trans (set_grown _ _ _ _).1).trans (set_grown _ _ _ _).1).trans (set_grown _ _ _ _).1).trans (set_grown _ _ _ _).1).trans (set_grown _ _ _ _).1).trans (set_grown _ _ _ _).1).trans (set_grown _ _ _ _).1)
  have g2 : w1.grownBy w2 (some (Bs i)) := by rw [e2]; exact grown_drew g1
  have P2 : Bk w2 (Bs i) (P10.rowK (tellZ Z i ce (x 6) (x 4)) i) := by rw [e2, eR]; refine bk_drew ?_; have h := (Bk.set (j := 9) (v := .int .i64 (x 4)) (Bk.set (j := 8) (v := .int .i64 (x 6)) (Bk.set (j := 7) (v := .int .i64 0) (Bk.set (j := 6) (v := .int .i64 0) (Bk.set (j := 5) (v := .int .i64 0) (Bk.set (j := 4) (v := .int .i64 0) (Bk.set (j := 3) (v := .int .i64 0) (Bk.set (j := 2) (v := .bool false) (Bk.set (j := 1) (v := .int .i64 ce) (Bk.set (j := 0) (v := .int .i64 (Z i 0)) HP1.out (by simp [P10.rowK])) (by simp [P10.rowK])) (by simp [P10.rowK])) (by simp [P10.rowK])) (by simp [P10.rowK])) (by simp [P10.rowK])) (by simp [P10.rowK])) (by simp [P10.rowK])) (by simp [P10.rowK])) (by simp [P10.rowK])); exact h
  rw [← e2]
  clear e2 g1 eR c0 f0 c1 f1 c2 f2 c3 f3 c4 f4 c5 f5 c6 f6 c7 f7 c8 f8 c9 f9 o0 o1 o2 o3 o4 o5
  have O2 : Hid (Op lo w2 mb n Kf Bs (tellZ Z i ce (x 6) (x 4))) := O1.out.change hi g2 P2 (fun k hk => tellZ_other hk)
  have B2 : Hid (Below lo w w2) := B1.out.trans (below_grown g2 hBlo (by omega))
  have z2 := g2.size
  clear g2 P2 O1 B1 HP1
  go_wp2
  go_ret
  exact ⟨rfl, O2.out, B2.out, by omega⟩
set_option maxRecDepth 20000 in
set_option maxHeartbeats 2000000 in
theorem heard4 (lo mb n i : Nat) (Kf : Nat → Int) (Bs : Nat → Nat) (Z : Nat → Nat → Int) (x : Nat → Int) (c d ce : Int) (hi : i < n) (h2 : c = 2 ∨ c = 3 ∨ c = 4) (h4 : ce = 0 ∨ ce = 1 ∨ ce = 2 ∨ ce = 3) (w : World) (hlo : lo ≤ w.heap.size) (h : Op lo w mb n Kf Bs Z) :
    Calls Tryz.prog 115 #[.agg #[.int .i64 (x 5), .int .i64 (x 6), .int .i64 (x 7), .int .i64 (x 8), .int .i64 (x 9)], .agg #[.int .i64 c, .int .i64 d], .pointer (some ⟨Bs i, 0, none⟩), .int .i64 ce] w fun e w' => e = .returned (.bool false) ∧ Op lo w' mb n Kf Bs (awayZ c Z i ce) ∧ Below lo w w' ∧ w.heap.size ≤ w'.heap.size := by
  have HO : Hid (Op lo w mb n Kf Bs Z) := h
  clear h
  have hBl := (HO.out.2.2.1 i hi).2.1
  have hBlo := (HO.out.2.2.1 i hi).1
  have hw1 : IntKind.wrap .i64 (ce + 1) = ce + 1 := by simp [IntKind.wrap, IntKind.bits, IntKind.signed]; omega
  have hc0 : ¬ c = 0 := by omega
  by_cases he : Z i 1 = ce
  · go_enter Tryz.func115, Tryz.ntmps115
    go_upto_region 1 with fail
    obtain ⟨w1, e1⟩ : ∃ y, y = ((w.alloc (.cells #[.int .i64 (x 5), .int .i64 (x 6), .int .i64 (x 7), .int .i64 (x 8), .int .i64 (x 9)] 117)).alloc (.cells #[.int .i64 c, .int .i64 d] 43)) := ⟨_, rfl⟩
    have b1 : Below w.heap.size w w1 := by rw [e1]; exact ((Below.refl _ _).alloc (by simp) _).alloc (by simp) _
    have X1 : Bk w1 (w.heap.size + 1) [.int .i64 c, .int .i64 d] := by rw [e1]; have := bk_new (w.alloc (.cells #[.int .i64 (x 5), .int .i64 (x 6), .int .i64 (x 7), .int .i64 (x 8), .int .i64 (x 9)] 117)) 43 [.int .i64 c, .int .i64 d]; rwa [show (w.alloc (.cells #[.int .i64 (x 5), .int .i64 (x 6), .int .i64 (x 7), .int .i64 (x 8), .int .i64 (x 9)] 117)).heap.size = w.heap.size + 1 by simp] at this
    rw [← e1]
    clear e1
    have O1 : Hid (Op lo w1 mb n Kf Bs Z) := HO.out.below b1
    have B1 : Hid (Below lo w w1) := b1.mono hlo
    have z1 := b1.size
    have P1 := (O1.out.2.2.1 i hi).2
    clear b1
    have c1 : w1.cell? ⟨Bs i, 1, none⟩ = some (.int .i64 (Z i 1)) := (P1.2 1 (by simp [P10.rowK])).1
    have f1 : w1.frozen? ⟨Bs i, 1, none⟩ = false := (P1.2 1 (by simp [P10.rowK])).2
    have o0 : w1.cell? ⟨w.heap.size + 1, 0, none⟩ = some (.int .i64 c) := (X1.2 0 (by simp)).1
    have lB := P1.1
    have lX := X1.1
    have HP1 : Hid (Bk w1 (Bs i) (P10.rowK Z i)) := P1
    clear P1 X1
    go_wp2
    have eR : P10.rowK (awayZ c Z i ce) i = [.int .i64 (Z i 0), .int .i64 ((ce + 1) % c), .bool (P10.tr (Z i 2)), .int .i64 (Z i 3), .int .i64 (Z i 4), .int .i64 (Z i 5), .int .i64 (Z i 6), .int .i64 (Z i 7), .int .i64 (Z i 8), .int .i64 (Z i 9)] := by simp [P10.rowK, awayZ, he]
    obtain ⟨w2, e2⟩ : ∃ y, y = w1.setCell ⟨Bs i, 1, none⟩ (.int .i64 ((ce + 1) % c)) := ⟨_, rfl⟩
    have g2 : w1.grownBy w2 (some (Bs i)) := by rw [e2]; exact (set_grown _ _ _ _).1
    have P2 : Bk w2 (Bs i) (P10.rowK (awayZ c Z i ce) i) := by rw [e2, eR]; have h := Bk.set (j := 1) (v := .int .i64 ((ce + 1) % c)) HP1.out (by simp [P10.rowK]); exact h
    rw [← e2]
    clear e2 eR c1 f1 o0
    have O2 : Hid (Op lo w2 mb n Kf Bs (awayZ c Z i ce)) := O1.out.change hi g2 P2 (fun k hk => awayZ_other hk)
    have B2 : Hid (Below lo w w2) := B1.out.trans (below_grown g2 hBlo (by omega))
    have z2 := g2.size
    clear g2 P2
    go_ret
    exact ⟨rfl, O2.out, B2.out, by omega⟩
  · go_enter Tryz.func115, Tryz.ntmps115
    go_upto_region 1 with fail
    obtain ⟨w1, e1⟩ : ∃ y, y = ((w.alloc (.cells #[.int .i64 (x 5), .int .i64 (x 6), .int .i64 (x 7), .int .i64 (x 8), .int .i64 (x 9)] 117)).alloc (.cells #[.int .i64 c, .int .i64 d] 43)) := ⟨_, rfl⟩
    have b1 : Below w.heap.size w w1 := by rw [e1]; exact ((Below.refl _ _).alloc (by simp) _).alloc (by simp) _
    have X1 : Bk w1 (w.heap.size + 1) [.int .i64 c, .int .i64 d] := by rw [e1]; have := bk_new (w.alloc (.cells #[.int .i64 (x 5), .int .i64 (x 6), .int .i64 (x 7), .int .i64 (x 8), .int .i64 (x 9)] 117)) 43 [.int .i64 c, .int .i64 d]; rwa [show (w.alloc (.cells #[.int .i64 (x 5), .int .i64 (x 6), .int .i64 (x 7), .int .i64 (x 8), .int .i64 (x 9)] 117)).heap.size = w.heap.size + 1 by simp] at this
    rw [← e1]
    clear e1
    have O1 : Hid (Op lo w1 mb n Kf Bs Z) := HO.out.below b1
    have B1 : Hid (Below lo w w1) := b1.mono hlo
    have z1 := b1.size
    have P1 := (O1.out.2.2.1 i hi).2
    clear b1
    have c1 : w1.cell? ⟨Bs i, 1, none⟩ = some (.int .i64 (Z i 1)) := (P1.2 1 (by simp [P10.rowK])).1
    have f1 : w1.frozen? ⟨Bs i, 1, none⟩ = false := (P1.2 1 (by simp [P10.rowK])).2
    have o0 : w1.cell? ⟨w.heap.size + 1, 0, none⟩ = some (.int .i64 c) := (X1.2 0 (by simp)).1
    have lB := P1.1
    have lX := X1.1
    have HP1 : Hid (Bk w1 (Bs i) (P10.rowK Z i)) := P1
    clear P1 X1
    have hY : ∀ k, P10.rowK (awayZ c Z i ce) k = P10.rowK Z k := by
      intro k
      by_cases e : k = i
      · subst e; simp [P10.rowK, awayZ, he]
      · exact awayZ_other e
    have O2 : Hid (Op lo w1 mb n Kf Bs (awayZ c Z i ce)) := by
      have q := O1.out
      exact ⟨q.1, q.2.1, fun k hk => by rw [hY k]; exact q.2.2.1 k hk, q.2.2.2⟩
    clear hY
    go_wp2
    go_ret
    exact ⟨rfl, O2.out, B1.out, z1⟩
end Go.Proofs.YtgjapdjidighlabGreat
