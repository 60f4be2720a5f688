/- For every list of walkers and every walker the program's WlkPut answers as the model's WlkPut, writes into no argument, and its answer owns its memory; conditions: none. -/
import Derived.Test.YtfigfalmmieelaaRows
import Derived.Test.YtfigfalmmieelaaPutLaw
import Derived.WalkKit
import Derived.ProofKit
import Derived.OpenShut
import Derived.ShutString
import Derived.ChangeOld
import Derived.Below
namespace Go.Proofs.Ytfigfalmmieelaa.ExactWlkPutDone
open Go.ChangeShapes Go.WideShapes Go.ChangeAt Go.RowKit
open Go.ChangeMaps (open_string shut_string)
set_option linter.unusedVariables false

theorem own : ownKnob Try.prog.godebug = none := by kernel_rfl
theorem laidOut : laidOutB Try.prog = true := by kernel_rfl

set_option maxRecDepth 100000 in
theorem lifted (os : Os) (started : os.Started) (H : Type) (enc : TypeId × Value → H) :
    ReturnsInHanded {} Try.checked os 5 .any (Rows.fnExactWlkPutSpec.pre6 enc Try.prog Try.f5 Rows.fnExactWlkPutRow.domain false) (Rows.fnExactWlkPutSpec.post enc Try.prog Try.f5 false true false false) := by
  refine returnsInHanded_of_change (C := Try.checked) own started (by kernel_rfl) Try.func5
    (ChangeSpec.witness6 (enc := enc) (C := Try.checked) false ⟨#[], #[.slice none 0 0, .agg #[.int .i64 0, .int .i64 0, .int .i64 0, .int .i64 0, .int .i64 0]], []⟩ 8 (by kernel_rfl) (by kernel_rfl) (by kernel_rfl) (by kernel_rfl)) ?_
  intro W base args ds gs before hval0 hW hcnd _
  have hval : ∀ (j : Nat) t v, Try.f5.params[j]? = some t → args[j]? = some v → Value.okWide Try.prog W .any base t v := hval0
  have hW' := hW
  obtain ⟨p, q, hA0, hV, rfl, hfz, hnd⟩ := hW
  have hA : DataW.TrodAll enc Try.prog W 0 (fun _ => true) true Try.f5.params.toList args.toList ds p := hA0
  rw [Try.params5] at hA hval
  obtain ⟨v0, vs0, d0, ds0, p0, q0, hargs, rfl, rfl, h0, r0⟩ := trodAll_cons hA
  obtain ⟨v1, vs1, d1, ds1, p1, q1, rfl, rfl, rfl, h1, r1⟩ := trodAll_cons r0
  obtain ⟨rfl, rfl, rfl⟩ := trodAll_nil r1
  obtain rfl : args = #[v0, v1] := by cases args; simp_all
  obtain ⟨rfl, rfl⟩ := trodVars_none hV
  have k0 := h0
  have lt0 : ∀ x ∈ p0, x.block < W.heap.size := by obtain ⟨m, hm⟩ := k0; exact DataW.trod_lt m _ _ _ hm
  obtain ⟨a0, len0, cap0, rfl⟩ := okWide_slice Try.underlying35 (hval 0 35 v0 rfl rfl)
  obtain ⟨hm0, Z0, hr0, hw0⟩ := open_row5 Try.underlying35 Try.underlying41 Try.underlying3 (by kernel_rfl) (by kernel_rfl) rfl (by
    intro i f hf
    match i, hf with
    | 0, hf => simp at hf; subst hf; exact ⟨rfl, rfl⟩
    | 1, hf => simp at hf; subst hf; exact ⟨rfl, rfl⟩
    | 2, hf => simp at hf; subst hf; exact ⟨rfl, rfl⟩
    | 3, hf => simp at hf; subst hf; exact ⟨rfl, rfl⟩
    | 4, hf => simp at hf; subst hf; exact ⟨rfl, rfl⟩
    | i + 5, hf => simp at hf) h0
  have k1 := h1
  have lt1 : ∀ x ∈ p1, x.block < W.heap.size := by obtain ⟨m, hm⟩ := k1; exact DataW.trod_lt m _ _ _ hm
  obtain ⟨y0, y1, y2, y3, y4, rfl, q0, q1, q2, q3, q4⟩ := open_int5 Try.underlying41 Try.underlying3 (by kernel_rfl) (by kernel_rfl) ⟨rfl, rfl⟩ ⟨rfl, rfl⟩ ⟨rfl, rfl⟩ ⟨rfl, rfl⟩ ⟨rfl, rfl⟩ (hval 1 41 v1 rfl rfl) h1
  clear hA0 hval0
  obtain ⟨Z, hlow, e0, e1, e2, e3, e4⟩ : ∃ Z : Nat → Nat → Int, (∀ k j, k < len0 → Z k j = Z0 k j) ∧ Z len0 0 = y0 ∧ Z len0 1 = y1 ∧ Z len0 2 = y2 ∧ Z len0 3 = y3 ∧ Z len0 4 = y4 :=
    ⟨fun k j => if k < len0 then Z0 k j else [y0, y1, y2, y3, y4].getD j 0, fun k j hk => if_pos hk, by simp, by simp, by simp, by simp, by simp⟩
  have hr : Row5 W a0 len0 Z := by
    rcases hr0 with h | ⟨b, o, ha, hb, hc⟩
    · exact .inl h
    · exact .inr ⟨b, o, ha, hb, fun k j hk hj => by rw [hlow k j hk]; exact hc k j hk hj⟩
  have hwz : ∀ k j, k < len0 + 1 → j < 5 → (Lit.int .i64 (Z k j)).wf = true := by
    intro k j hk hj
    by_cases h : k < len0
    · rw [hlow k j h]; exact hw0 k j h hj
    · have hkl : k = len0 := by omega
      subst hkl
      match j, hj with
      | 0, _ => rw [e0]; exact q0
      | 1, _ => rw [e1]; exact q1
      | 2, _ => rw [e2]; exact q2
      | 3, _ => rw [e3]; exact q3
      | 4, _ => rw [e4]; exact q4
  have hlaw := law_put a0 len0 cap0 Z hm0 W hr hwz
  rw [e0, e1, e2, e3, e4] at hlaw
  refine hlaw.mono fun e W' ⟨he, bel⟩ => ?_
  subst he
  exact ⟨_, rfl, _, _, _, [], _, [], hW', trodAll_mk1 (shut_bool Try.underlying4 _), (trodAll_cons_mk (Below.trod laidOut (by kernel_rfl) (of_decide_eq_true (by kernel_rfl)) k0 bel lt0) (trodAll_cons_mk (Below.trod laidOut (by kernel_rfl) (of_decide_eq_true (by kernel_rfl)) k1 bel lt1) trodAll_mk0)), rfl, bel.frame _, fun h => by cases h⟩

theorem over : Rows.fnExactWlkPutRow.holds Try.pinned (OpenSpec.ofChange Rows.fnExactWlkPutSpec) :=
  OpenClaim.holds_of_wide 5 Try.f5 rfl rfl rfl rfl rfl rfl rfl ⟨rfl, rfl, rfl, rfl, rfl⟩ rfl rfl rfl rfl rfl (by kernel_rfl) Try.func5 (by kernel_rfl)
    (of_decide_eq_true (by kernel_rfl)) (by unfold Func.isWrapper; first | (rw [if_pos (by decide +kernel)]; kernel_rfl) | (rw [if_neg (by decide +kernel)]; exact ⟨rfl, rfl⟩))
    (fun os started H enc _ => lifted os started H enc)
end Go.Proofs.Ytfigfalmmieelaa.ExactWlkPutDone
namespace Go.Proofs.Ytfigfalmmieelaa
theorem wlkPut_holds : Rows.FnExactWlkPutSaid := ExactWlkPutDone.over
end Go.Proofs.Ytfigfalmmieelaa
