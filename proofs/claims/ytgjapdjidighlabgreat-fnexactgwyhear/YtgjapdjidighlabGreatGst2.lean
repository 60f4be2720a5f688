/- The law FnExactGstOk: it answers true; conditions: none. -/
import Derived.Test.YtgjapdjidighlabGreatGst1
import Derived.Deep.Slices
namespace Go.Proofs.YtgjapdjidighlabGreat
open Go.RowKit Go.ChangeShapes Go.WideShapes Go.ChangeAt Go.Deep
set_option linter.unusedVariables false

section
variable {H : Type} {enc : TypeId × Value → H} {P : Program} {w : World} {base : Nat} {spare : Nat → Bool} {held : Bool}
/-- Seven cells, the last five a struct's within. -/
theorem trod_ghost {t tw ti : TypeId} {f0 f1 f2 : Field} {q5 : Array Field} {fuel : Nat} {cs : List Value} {x : DataW H × List MemPlace}
    (ht : P.underlying t = some (.struct #[f0, f1, f2])) (hct : P.cellsOf t = 7) (o0 : f0.offset = 0 ∧ f0.type = ti) (o1 : f1.offset = 1 ∧ f1.type = ti) (o2 : f2.offset = 2 ∧ f2.type = tw)
    (hw : P.underlying tw = some (.struct q5)) (hcw : P.cellsOf tw = 5) (hsz : q5.size = 5) (hoff : ∀ (i : Nat) (f : Field), q5[i]? = some f → f.offset = i ∧ f.type = ti)
    (hi : P.underlying ti = some (.int .i64)) (hi1 : P.cellsOf ti = 1)
    (h : DataW.trod enc P w base spare held fuel t cs = some x) : cs.length = 7 ∧ ∀ j, j < 7 → ∃ z, cs[j]? = some (.int .i64 z) ∧ (Lit.int .i64 z).wf = true := by
  obtain ⟨xs, n, _, _, hl, hlen, hfld⟩ := DataW.trod_struct ht h
  rw [hct] at hl
  have h0 := hfld 0 f0 rfl
  have h1 := hfld 1 f1 rfl
  have h2 := hfld 2 f2 rfl
  have hx : ∀ i, i < 3 → ∃ y, xs[i]? = some y := fun i hi => ⟨xs[i]'(by rw [hlen]; exact hi), List.getElem?_eq_getElem (by rw [hlen]; exact hi)⟩
  obtain ⟨y0, e0⟩ := hx 0 (by omega)
  obtain ⟨y1, e1⟩ := hx 1 (by omega)
  obtain ⟨y2, e2⟩ := hx 2 (by omega)
  rw [e0, o0.1, o0.2, hi1] at h0
  rw [e1, o1.1, o1.2, hi1] at h1
  rw [e2, o2.1, o2.2, hcw] at h2
  obtain ⟨z0, g0, _, w0⟩ := DataW.trod_int hi h0
  obtain ⟨z1, g1, _, w1⟩ := DataW.trod_int hi h1
  obtain ⟨ys, m, _, _, hl2, hlen2, hfld2⟩ := DataW.trod_struct hw h2
  have hq : ∀ i, i < 5 → ∃ z, cs[2 + i]? = some (.int .i64 z) ∧ (Lit.int .i64 z).wf = true := fun i hi' => by
    have hf := hfld2 i (q5[i]'(by omega)) (by simp [hsz, hi'])
    obtain ⟨f1', f2'⟩ := hoff i (q5[i]'(by omega)) (by simp [hsz, hi'])
    rw [f1', f2', hi1, show ys[i]? = some (ys[i]'(by rw [hlen2, hsz]; exact hi')) from List.getElem?_eq_getElem (by rw [hlen2, hsz]; exact hi')] at hf
    obtain ⟨z, g, _, wz⟩ := DataW.trod_int hi hf
    refine ⟨z, ?_, wz⟩
    have : (((cs.drop 2).take 5).drop i).take 1 = [.int .i64 z] := g
    have hh := congrArg (fun l => l[0]?) this
    simpa [List.getElem?_take, List.getElem?_drop, hi'] using hh
  refine ⟨hl, fun j hj => ?_⟩
  by_cases j0 : j = 0
  · subst j0
    refine ⟨z0, ?_, w0⟩
    have hh := congrArg (fun l => l[0]?) g0
    simpa using hh
  · by_cases j1 : j = 1
    · subst j1
      refine ⟨z1, ?_, w1⟩
      have hh := congrArg (fun l => l[0]?) g1
      simpa [List.getElem?_take, List.getElem?_drop] using hh
    · obtain ⟨i, rfl⟩ : ∃ i, j = 2 + i := ⟨j - 2, by omega⟩
      exact hq i (by omega)
/-- A ghost by value. -/
theorem open_ghost {b0 : Nat} {r : Reach} {t tw ti : TypeId} {f0 f1 f2 : Field} {q5 : Array Field} {v : Value} {dd : DataW H} {pl : List MemPlace}
    (ht : P.underlying t = some (.struct #[f0, f1, f2])) (hct : P.cellsOf t = 7) (o0 : f0.offset = 0 ∧ f0.type = ti) (o1 : f1.offset = 1 ∧ f1.type = ti) (o2 : f2.offset = 2 ∧ f2.type = tw)
    (hw : P.underlying tw = some (.struct q5)) (hcw : P.cellsOf tw = 5) (hsz : q5.size = 5) (hoff : ∀ (i : Nat) (f : Field), q5[i]? = some f → f.offset = i ∧ f.type = ti)
    (hi : P.underlying ti = some (.int .i64)) (hi1 : P.cellsOf ti = 1)
    (hv : Value.okWide P w r b0 t v) (h : DataW.Trod enc P w base spare held t v dd pl) :
    ∃ f n i a co s l : Int, v = .agg #[.int .i64 f, .int .i64 n, .int .i64 i, .int .i64 a, .int .i64 co, .int .i64 s, .int .i64 l] := by
  obtain ⟨cs, rfl, hsize⟩ := okWide_struct ht hv
  obtain ⟨fuel, hf⟩ := h
  obtain ⟨hl, hall⟩ := trod_ghost ht hct o0 o1 o2 hw hcw hsz hoff hi hi1 hf
  simp only [Value.cells] at hl hall
  obtain ⟨z0, e0, _⟩ := hall 0 (by omega)
  obtain ⟨z1, e1, _⟩ := hall 1 (by omega)
  obtain ⟨z2, e2, _⟩ := hall 2 (by omega)
  obtain ⟨z3, e3, _⟩ := hall 3 (by omega)
  obtain ⟨z4, e4, _⟩ := hall 4 (by omega)
  obtain ⟨z5, e5, _⟩ := hall 5 (by omega)
  obtain ⟨z6, e6, _⟩ := hall 6 (by omega)
  refine ⟨z0, z1, z2, z3, z4, z5, z6, ?_⟩
  congr 1
  apply Array.ext'
  apply List.ext_getElem?
  intro i
  match i with
  | 0 => exact e0
  | 1 => exact e1
  | 2 => exact e2
  | 3 => exact e3
  | 4 => exact e4
  | 5 => exact e5
  | 6 => exact e6
  | i + 7 => rw [List.getElem?_eq_none (by omega), List.getElem?_eq_none (by simp)]
end
theorem toMap (c d : Int) (w : World) :
    Calls Tryz.prog 6 #[.agg #[.int .i64 c, .int .i64 d]] w fun e w' => e = .returned (.agg #[.int .i64 c, .int .i64 d]) ∧ Below w.heap.size w w' := by
  go_enter Tryz.func6, Tryz.ntmps6
  go_wp2
  exact bodyPost_ret (v := .agg #[.int .i64 c, .int .i64 d]) (by simp [results, Tryz.results6, go_sem]) rfl ⟨rfl, (((Below.refl _ _).alloc (by simp) _).alloc (by simp) _).alloc (by simp; omega) _⟩

set_option maxHeartbeats 1000000 in
theorem toGhost (f n i a co s l : Int) (w : World) :
    Calls Tryz.prog 21 #[.agg #[.int .i64 f, .int .i64 n, .int .i64 i, .int .i64 a, .int .i64 co, .int .i64 s, .int .i64 l]] w fun e w' => e = .returned (.agg #[.int .i64 f, .int .i64 n, .int .i64 i, .int .i64 a, .int .i64 co, .int .i64 s, .int .i64 l]) ∧ Below w.heap.size w w' := by
  go_enter Tryz.func21, Tryz.ntmps21
  go_wp2_with fail
  obtain ⟨w0, e0⟩ : ∃ w0, w0 = ((w.alloc (.cells #[.int .i64 f, .int .i64 n, .int .i64 i, .int .i64 a, .int .i64 co, .int .i64 s, .int .i64 l] 34)).alloc (.cells #[.int .i64 0, .int .i64 0, .int .i64 0, .int .i64 0, .int .i64 0, .int .i64 0, .int .i64 0] 51)).alloc (.cells #[.int .i64 f, .int .i64 n, .int .i64 0, .int .i64 0, .int .i64 0, .int .i64 0, .int .i64 0] 51) := ⟨_, rfl⟩
  have B1 : Hid (Below w.heap.size w w0) := by rw [e0]; exact (((Below.refl _ _).alloc (by simp) _).alloc (by simp) _).alloc (by simp; omega) _
  have R2 : Hid (Bk w0 (w.heap.size + 1) [.int .i64 0, .int .i64 0, .int .i64 0, .int .i64 0, .int .i64 0, .int .i64 0, .int .i64 0]) := by rw [e0]; have := (bk_new (w.alloc (.cells #[.int .i64 f, .int .i64 n, .int .i64 i, .int .i64 a, .int .i64 co, .int .i64 s, .int .i64 l] 34)) 51 [.int .i64 0, .int .i64 0, .int .i64 0, .int .i64 0, .int .i64 0, .int .i64 0, .int .i64 0]).below ((Below.refl _ _).alloc (Nat.le_refl _) (.cells #[.int .i64 f, .int .i64 n, .int .i64 0, .int .i64 0, .int .i64 0, .int .i64 0, .int .i64 0] 51)); rwa [show (w.alloc (.cells #[.int .i64 f, .int .i64 n, .int .i64 i, .int .i64 a, .int .i64 co, .int .i64 s, .int .i64 l] 34)).heap.size = w.heap.size + 1 by simp] at this
  have O3 : Hid (Bk w0 (w.heap.size + 1 + 1) [.int .i64 f, .int .i64 n, .int .i64 0, .int .i64 0, .int .i64 0, .int .i64 0, .int .i64 0]) := by rw [e0]; have := bk_new ((w.alloc (.cells #[.int .i64 f, .int .i64 n, .int .i64 i, .int .i64 a, .int .i64 co, .int .i64 s, .int .i64 l] 34)).alloc (.cells #[.int .i64 0, .int .i64 0, .int .i64 0, .int .i64 0, .int .i64 0, .int .i64 0, .int .i64 0] 51)) 51 [.int .i64 f, .int .i64 n, .int .i64 0, .int .i64 0, .int .i64 0, .int .i64 0, .int .i64 0]; rwa [show ((w.alloc (.cells #[.int .i64 f, .int .i64 n, .int .i64 i, .int .i64 a, .int .i64 co, .int .i64 s, .int .i64 l] 34)).alloc (.cells #[.int .i64 0, .int .i64 0, .int .i64 0, .int .i64 0, .int .i64 0, .int .i64 0, .int .i64 0] 51)).heap.size = w.heap.size + 1 + 1 by simp] at this
  rw [← e0]
  clear e0
  refine (toWalker _ _ _ _ _ _).mono ?_
  rintro e w1 ⟨rfl, hb1⟩
  have B4 : Hid (Below w.heap.size w w1) := bthen B1.out hb1
  have R4 : Hid (Bk w1 (w.heap.size + 1) [.int .i64 0, .int .i64 0, .int .i64 0, .int .i64 0, .int .i64 0, .int .i64 0, .int .i64 0]) := R2.out.below hb1
  have O4 : Hid (Bk w1 (w.heap.size + 1 + 1) [.int .i64 f, .int .i64 n, .int .i64 0, .int .i64 0, .int .i64 0, .int .i64 0, .int .i64 0]) := O3.out.below hb1
  clear B1 R2 O3
  clear hb1
  have yR0 : w1.cell? ⟨(w.heap.size + 1), 0, none⟩ = some (.int .i64 0) := (R4.out.2 0 (by simp)).1
  have zR0 : w1.frozen? ⟨(w.heap.size + 1), 0, none⟩ = false := (R4.out.2 0 (by simp)).2
  have yR1 : w1.cell? ⟨(w.heap.size + 1), 1, none⟩ = some (.int .i64 0) := (R4.out.2 1 (by simp)).1
  have zR1 : w1.frozen? ⟨(w.heap.size + 1), 1, none⟩ = false := (R4.out.2 1 (by simp)).2
  have yR2 : w1.cell? ⟨(w.heap.size + 1), 2, none⟩ = some (.int .i64 0) := (R4.out.2 2 (by simp)).1
  have zR2 : w1.frozen? ⟨(w.heap.size + 1), 2, none⟩ = false := (R4.out.2 2 (by simp)).2
  have yR3 : w1.cell? ⟨(w.heap.size + 1), 3, none⟩ = some (.int .i64 0) := (R4.out.2 3 (by simp)).1
  have zR3 : w1.frozen? ⟨(w.heap.size + 1), 3, none⟩ = false := (R4.out.2 3 (by simp)).2
  have yR4 : w1.cell? ⟨(w.heap.size + 1), 4, none⟩ = some (.int .i64 0) := (R4.out.2 4 (by simp)).1
  have zR4 : w1.frozen? ⟨(w.heap.size + 1), 4, none⟩ = false := (R4.out.2 4 (by simp)).2
  have yR5 : w1.cell? ⟨(w.heap.size + 1), 5, none⟩ = some (.int .i64 0) := (R4.out.2 5 (by simp)).1
  have zR5 : w1.frozen? ⟨(w.heap.size + 1), 5, none⟩ = false := (R4.out.2 5 (by simp)).2
  have yR6 : w1.cell? ⟨(w.heap.size + 1), 6, none⟩ = some (.int .i64 0) := (R4.out.2 6 (by simp)).1
  have zR6 : w1.frozen? ⟨(w.heap.size + 1), 6, none⟩ = false := (R4.out.2 6 (by simp)).2
  have hlR : (w.heap.size + 1) < w1.heap.size := R4.out.1
  have yO0 : w1.cell? ⟨(w.heap.size + 1 + 1), 0, none⟩ = some (.int .i64 f) := (O4.out.2 0 (by simp)).1
  have zO0 : w1.frozen? ⟨(w.heap.size + 1 + 1), 0, none⟩ = false := (O4.out.2 0 (by simp)).2
  have yO1 : w1.cell? ⟨(w.heap.size + 1 + 1), 1, none⟩ = some (.int .i64 n) := (O4.out.2 1 (by simp)).1
  have zO1 : w1.frozen? ⟨(w.heap.size + 1 + 1), 1, none⟩ = false := (O4.out.2 1 (by simp)).2
  have yO2 : w1.cell? ⟨(w.heap.size + 1 + 1), 2, none⟩ = some (.int .i64 0) := (O4.out.2 2 (by simp)).1
  have zO2 : w1.frozen? ⟨(w.heap.size + 1 + 1), 2, none⟩ = false := (O4.out.2 2 (by simp)).2
  have yO3 : w1.cell? ⟨(w.heap.size + 1 + 1), 3, none⟩ = some (.int .i64 0) := (O4.out.2 3 (by simp)).1
  have zO3 : w1.frozen? ⟨(w.heap.size + 1 + 1), 3, none⟩ = false := (O4.out.2 3 (by simp)).2
  have yO4 : w1.cell? ⟨(w.heap.size + 1 + 1), 4, none⟩ = some (.int .i64 0) := (O4.out.2 4 (by simp)).1
  have zO4 : w1.frozen? ⟨(w.heap.size + 1 + 1), 4, none⟩ = false := (O4.out.2 4 (by simp)).2
  have yO5 : w1.cell? ⟨(w.heap.size + 1 + 1), 5, none⟩ = some (.int .i64 0) := (O4.out.2 5 (by simp)).1
  have zO5 : w1.frozen? ⟨(w.heap.size + 1 + 1), 5, none⟩ = false := (O4.out.2 5 (by simp)).2
  have yO6 : w1.cell? ⟨(w.heap.size + 1 + 1), 6, none⟩ = some (.int .i64 0) := (O4.out.2 6 (by simp)).1
  have zO6 : w1.frozen? ⟨(w.heap.size + 1 + 1), 6, none⟩ = false := (O4.out.2 6 (by simp)).2
  have hlO : (w.heap.size + 1 + 1) < w1.heap.size := O4.out.1
  go_wp2
  refine bodyPost_ret (v := .agg #[.int .i64 f, .int .i64 n, .int .i64 i, .int .i64 a, .int .i64 co, .int .i64 s, .int .i64 l]) (by simp [results, Tryz.results21, go_sem, *]) rfl ?_
  exact ⟨rfl, ((((((((((((B4.out.setCell (by first | (simp; done) | (simp; omega) | omega) _).setCell (by first | (simp; done) | (simp; omega) | omega) _).setCell (by first | (simp; done) | (simp; omega) | omega) _).setCell (by first | (simp; done) | (simp; omega) | omega) _).setCell (by first | (simp; done) | (simp; omega) | omega) _).setCell (by first | (simp; done) | (simp; omega) | omega) _).setCell (by first | (simp; done) | (simp; omega) | omega) _).setCell (by first | (simp; done) | (simp; omega) | omega) _).setCell (by first | (simp; done) | (simp; omega) | omega) _).setCell (by first | (simp; done) | (simp; omega) | omega) _).setCell (by first | (simp; done) | (simp; omega) | omega) _).setCell (by first | (simp; done) | (simp; omega) | omega) _)⟩

end Go.Proofs.YtgjapdjidighlabGreat
