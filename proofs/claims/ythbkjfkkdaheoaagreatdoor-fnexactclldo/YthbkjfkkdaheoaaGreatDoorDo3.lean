/- note, hand, canPay, canSend: what a scene's walkers have; conditions: the scene lies in memory. -/
import Derived.Test.YthbkjfkkdaheoaaGreatDoorTk
import Derived.Test.YthbkjfkkdaheoaaGreatDoorMo3
namespace Go.Proofs.YthbkjfkkdaheoaaGreatDoor
open Go.RowKit Go.Deep
set_option linter.unusedVariables false
def Sv (w : World) (c d : Int) (s b lo : Nat) (V : CV) (n : Nat) : Prop := ∃ n0 W0, Sc w c d s b lo (V.with n0 W0) n (mapW V.W V.nW)
theorem Sv.below {w w' : World} {c d : Int} {s b lo n : Nat} {V : CV} (h : Sv w c d s b lo V n) (hb : Below w.heap.size w w') : Sv w' c d s b lo V n := by
  obtain ⟨n0, W0, h⟩ := h
  exact ⟨n0, W0, h.below hb⟩
theorem Sv.mono {w : World} {c d : Int} {s b lo n n' : Nat} {V : CV} (h : Sv w c d s b lo V n) (hn : n ≤ n') : Sv w c d s b lo V n' := by
  obtain ⟨n0, W0, h⟩ := h
  exact ⟨n0, W0, h.mono hn⟩
theorem Sc.map {w : World} {c d : Int} {s b lo n : Nat} {V : CV} {M : Int → Option (Nat → Int)} (h : Sc w c d s b lo V n M) : Wm w b n M ∧ w.cell? ⟨s, 0, none⟩ = some (.int .i64 c) ∧ w.cell? ⟨s, 1, none⟩ = some (.int .i64 d) ∧ w.cell? ⟨s, 2, none⟩ = some (.int .i64 V.c) := by
  obtain ⟨aW, kW, kO, aX, kX, aI, kI, gW, gO, gX, gI, sl, xs, hN, rW, rX, rI, hO, hM, _⟩ := h
  exact ⟨hM, (hN 0 (by decide)).1, (hN 1 (by decide)).1, (hN 2 (by decide)).1⟩
theorem Sv.at {w : World} {c d : Int} {s b lo n : Nat} {V : CV} (h : Sv w c d s b lo V n) :
    (w.cell? ⟨s, 0, none⟩ = some (.int .i64 c) ∧ w.cell? ⟨s, 1, none⟩ = some (.int .i64 d) ∧ w.cell? ⟨s, 2, none⟩ = some (.int .i64 V.c) ∧ w.cell? ⟨s, 4, none⟩ = some (.int .i64 V.g) ∧ w.frozen? ⟨s, 4, none⟩ = false ∧ w.cell? ⟨s, 8, none⟩ = some (.map (some b))) ∧ s < w.heap.size ∧ lo ≤ s ∧ lo ≤ b ∧ b < w.heap.size ∧ ¬ s = b ∧ Wm w b n (mapW V.W V.nW) := by
  obtain ⟨n0, W0, h⟩ := h
  obtain ⟨h1, h2, h3, h4, h5, h6, h7, h8⟩ := h.at4
  obtain ⟨m0, m1, m2, m3⟩ := h.map
  exact ⟨⟨m1, m2, m3, h1, h2, h3⟩, h4, h5, h6, h7, h8, m0⟩
theorem Sv.put {w : World} {c d : Int} {s b lo n m : Nat} {V : CV} (h : Sv w c d s b lo V n) (hr : Rise V.W V.nW) (hm : m < V.nW) {z : Int} (hz : V.W m 0 = z) (hw : (Lit.int .i64 z).wf = true) (Z : Nat → Int) (hZ : Z 0 = z) :
    ∃ w2, (Instr.mapUpdate 130 (.map (some b)) (.int .i64 z) (wv Z)).run Tryz.prog w = .ok () w2 ∧ Sv w2 c d s b lo (V.setW m Z) (n + 1) ∧ Below lo w w2 ∧ w.grownBy w2 (some b) := by
  obtain ⟨n0, W0, h⟩ := h
  obtain ⟨w2, h1, h2, h3, h4⟩ := h.put hw Z
  rw [putM_upd hr hm (hZ.trans hz.symm) hz] at h2
  exact ⟨w2, h1, ⟨n0, W0, h2⟩, h3, h4⟩
theorem Sv.del {w : World} {c d : Int} {s b lo n m : Nat} {V : CV} (h : Sv w c d s b lo V n) (hr : Rise V.W V.nW) (hm : m < V.nW) {z : Int} (hz : V.W m 0 = z) (hw : (Lit.int .i64 z).wf = true) (ty : TypeId) :
    ∃ w2, (Builtin.delete_ #[130, 3] ty #[.map (some b), .int .i64 z]).run Tryz.prog w = .ok (.tuple #[]) w2 ∧ Sv w2 c d s b lo (V.outW m) n ∧ Below lo w w2 ∧ w.grownBy w2 (some b) := by
  obtain ⟨n0, W0, h⟩ := h
  obtain ⟨w2, h1, h2, h3, h4⟩ := h.del hw ty
  rw [delM_del hr hm hz] at h2
  exact ⟨w2, h1, ⟨n0, W0, h2⟩, h3, h4⟩
theorem Sv.ground {w : World} {c d : Int} {s b lo n : Nat} {V : CV} (h : Sv w c d s b lo V n) (z : Int) : Sv (w.setCell ⟨s, 4, none⟩ (.int .i64 z)) c d s b lo (V.gnd z) n := by
  obtain ⟨n0, W0, h⟩ := h
  exact ⟨n0, W0, h.ground z⟩
theorem Sv.lookA {w : World} {c d : Int} {s b lo n m : Nat} {V : CV} (h : Sv w c d s b lo V n) (hr : Rise V.W V.nW) (hm : m < V.nW) {z : Int} (hz : V.W m 0 = z) (hw : (Lit.int .i64 z).wf = true) :
    (Instr.lookup 130 (.map (some b)) (.int .i64 z) false).run Tryz.prog w = .ok (.agg #[.int .i64 (V.W m 0), .int .i64 (V.W m 1), .int .i64 (V.W m 2), .int .i64 (V.W m 3), .int .i64 (V.W m 4)]) w ∧ (Instr.lookup 130 (.map (some b)) (.int .i64 z) true).run Tryz.prog w = .ok (.tuple #[.agg #[.int .i64 (V.W m 0), .int .i64 (V.W m 1), .int .i64 (V.W m 2), .int .i64 (V.W m 3), .int .i64 (V.W m 4)], .bool true]) w := by
  have hM := h.at.2.2.2.2.2.2
  have e := hr.map hm hz
  refine ⟨?_, ?_⟩
  · rw [hM.look1 hw, e]; rfl
  · rw [hM.look hw, e]; rfl
theorem Sv.lookN {w : World} {c d : Int} {s b lo n : Nat} {V : CV} (h : Sv w c d s b lo V n) {z : Int} (hno : ∀ k, k < V.nW → ¬ V.W k 0 = z) (hw : (Lit.int .i64 z).wf = true) :
    (Instr.lookup 130 (.map (some b)) (.int .i64 z) true).run Tryz.prog w = .ok (.tuple #[.agg #[.int .i64 0, .int .i64 0, .int .i64 0, .int .i64 0, .int .i64 0], .bool false]) w := by
  have hM := h.at.2.2.2.2.2.2
  rw [hM.look hw, mapW_no V.nW hno]; rfl
set_option maxRecDepth 20000 in
set_option maxHeartbeats 4000000 in
theorem note_impl (c d o sq k t nn : Int) (s b lo m : Nat) (V : CV) (n : Nat) (hr : Rise V.W V.nW) (hm : m < V.nW) (hz : V.W m 0 = o) (hwf : (Lit.int .i64 o).wf = true) (code : Int) (w : World) (h : Sv w c d s b lo V n) :
    Calls Tryz.prog 132 #[.pointer (some ⟨s, 0, none⟩), .agg #[.int .i64 o, .int .i64 sq, .int .i64 k, .int .i64 t, .int .i64 nn], .int .i64 code] w fun e w' => e = .returned (.tuple #[]) ∧ Sv w' c d s b lo (V.setW m (zq (V.W m) sq code)) (n + 1) ∧ Below lo w w' ∧ ∀ x, x < w.heap.size → ¬ x = b → Sm w w' x := by
  have HZ : Hid (V.W m 0 = o) := hz
  clear hz
  obtain ⟨⟨_, _, _, _, _, _⟩, ls, ll, lb, lbw, nsb, _⟩ := h.at
  go_enter Tryz.func132, Tryz.ntmps132
  go_upto_region 1 with fail
  obtain ⟨w0, e0⟩ : ∃ w0, w0 = w.alloc (.cells #[.int .i64 o, .int .i64 sq, .int .i64 k, .int .i64 t, .int .i64 nn] 41) := ⟨_, rfl⟩
  have hb0 : Below w.heap.size w w0 := by rw [e0]; exact (Below.refl _ _).alloc (Nat.le_refl _) _
  have X0 : Bk w0 w.heap.size [.int .i64 o, .int .i64 sq, .int .i64 k, .int .i64 t, .int .i64 nn] := by rw [e0]; exact bk_new w 41 [.int .i64 o, .int .i64 sq, .int .i64 k, .int .i64 t, .int .i64 nn]
  rw [← e0]
  clear e0
  have z0 := X0.1
  have B1 : Hid (Below w.heap.size w w0) := hb0
  have P2 : Hid (Bk w0 w.heap.size [.int .i64 o, .int .i64 sq, .int .i64 k, .int .i64 t, .int .i64 nn]) := X0
  have S3 : Hid (Sv w0 c d s b lo V n) := h.below hb0
  clear X0 hb0 h
  obtain ⟨yP0, yP1, yP2, yP3, yP4⟩ := P2.out.a5
  have hlP : w.heap.size < w0.heap.size := P2.out.1
  have HL : Hid (∀ wx, Below w0.heap.size w0 wx → (Instr.lookup 130 (.map (some b)) (.int .i64 o) false).run Tryz.prog wx = .ok (.agg #[.int .i64 (V.W m 0), .int .i64 (V.W m 1), .int .i64 (V.W m 2), .int .i64 (V.W m 3), .int .i64 (V.W m 4)]) wx) := fun wx hx => ((S3.out.below hx).lookA hr hm HZ.out hwf).1
  have c8 : w0.cell? ⟨s, 8, none⟩ = some (.map (some b)) := S3.out.at.1.2.2.2.2.2
  have lsw : s < w0.heap.size := S3.out.at.2.1
  refine wp_region_held_drew (S := fun w' => Below (w0.heap.size) w0 w') (by kernel_rfl) ((Below.refl _ _).drew) ?_
  intro hHeld
  obtain ⟨X0, hX0⟩ : ∃ X, X = w0.drew := ⟨_, rfl⟩
  have hz0 : w0.heap.size ≤ X0.heap.size := by rw [hX0]; exact Nat.le_refl _
  rw [← hX0] at hHeld ⊢
  clear hX0
  refine tkl 0 (.pointer (some ⟨s, 0, none⟩)) rfl ?_ ?_
  · intro wx hSw; obtain ⟨hcS, hfS⟩ := bcellN hSw; go_simp
  try simp only [Act.put, aS]
  refine tkl 4 (.pointer (some ⟨w.heap.size, 0, none⟩)) rfl ?_ ?_
  · intro wx hSw; obtain ⟨hcS, hfS⟩ := bcellN hSw; go_simp
  try simp only [Act.put, aS]
  refine tkl 1 (.pointer (some ⟨s, 0, none⟩)) rfl ?_ ?_
  · intro wx hSw; obtain ⟨hcS, hfS⟩ := bcellN hSw; go_simp
  try simp only [Act.put, aS]
  refine tkl 5 (.int .i64 o) rfl ?_ ?_
  · intro wx hSw; obtain ⟨hcS, hfS⟩ := bcellN hSw; go_simp
  try simp only [Act.put, aS]
  refine tkl 2 (.pointer (some ⟨s, 8, none⟩)) rfl ?_ ?_
  · intro wx hSw; obtain ⟨hcS, hfS⟩ := bcellN hSw; go_simp
  try simp only [Act.put, aS]
  refine tkl 3 (.map (some b)) rfl ?_ ?_
  · intro wx hSw; obtain ⟨hcS, hfS⟩ := bcellN hSw; go_simp
  try simp only [Act.put, aS]
  refine tkl 6 (.agg #[.int .i64 (V.W m 0), .int .i64 (V.W m 1), .int .i64 (V.W m 2), .int .i64 (V.W m 3), .int .i64 (V.W m 4)]) rfl ?_ ?_
  · intro wx hSw; obtain ⟨hcS, hfS⟩ := bcellN hSw; have hl := HL.out wx hSw; go_simp
  try simp only [Act.put, aS]
  refine rd1 7 rfl fun K hK => ?_
  go_simp
  obtain ⟨Xgk, eA⟩ : ∃ X, X = X0.alloc (.cells #[.int .i64 0, .int .i64 0, .int .i64 0, .int .i64 0, .int .i64 0] 54) := ⟨_, rfl⟩
  rw [← eA]
  have hbA : Below X0.heap.size X0 Xgk := by rw [eA]; exact (Below.refl _ _).alloc (Nat.le_refl _) _
  have hZgk : Bk Xgk X0.heap.size [.int .i64 0, .int .i64 0, .int .i64 0, .int .i64 0, .int .i64 0] := by rw [eA]; exact bk_new X0 54 [.int .i64 0, .int .i64 0, .int .i64 0, .int .i64 0, .int .i64 0]
  have hzAgk1 : Xgk.heap.size ≤ X0.heap.size + 1 := by rw [eA]; simp
  have hzAgk2 : X0.heap.size + 1 ≤ Xgk.heap.size := by rw [eA]; simp
  clear eA
  have hsz_Xgk := hbA.size
  refine hK.out _ _ (bthenN hHeld (by omega) hbA) (fun hNew => ?_)
  clear hK K hHeld
  have hHeld := hNew
  clear hNew
  try simp only [Act.put, aS]
  clear hbA
  obtain ⟨gk, egk⟩ : ∃ g, g = X0.heap.size := ⟨_, rfl⟩
  rw [← egk] at hZgk ⊢
  have egk1 : gk ≤ X0.heap.size := by omega
  have egk2 : X0.heap.size ≤ gk := by omega
  clear egk
  refine rd1 8 rfl fun K hK => ?_
  have r0 := (hZgk.2 0 (by simp)).1
  have r1 := (hZgk.2 1 (by simp)).1
  have r2 := (hZgk.2 2 (by simp)).1
  have r3 := (hZgk.2 3 (by simp)).1
  have r4 := (hZgk.2 4 (by simp)).1
  have f0 := (hZgk.2 0 (by simp)).2
  have f1 := (hZgk.2 1 (by simp)).2
  have f2 := (hZgk.2 2 (by simp)).2
  have f3 := (hZgk.2 3 (by simp)).2
  have f4 := (hZgk.2 4 (by simp)).2
  simp only [List.getD, List.getElem?_cons_zero, List.getElem?_cons_succ, Option.getD_some] at r0 r1 r2 r3 r4
  have lZgk := hZgk.1
  have hkgk : w0.heap.size ≤ gk := by omega
  go_simp
  obtain ⟨XSgk, eS⟩ : ∃ X, X = (((((Xgk.setCell ⟨gk, 0, none⟩ (.int .i64 (V.W m 0))).setCell ⟨gk, 1, none⟩ (.int .i64 (V.W m 1))).setCell ⟨gk, 2, none⟩ (.int .i64 (V.W m 2))).setCell ⟨gk, 3, none⟩ (.int .i64 (V.W m 3))).setCell ⟨gk, 4, none⟩ (.int .i64 (V.W m 4))) := ⟨_, rfl⟩
  rw [← eS]
  have hPgk : Bk XSgk gk [.int .i64 (V.W m 0), .int .i64 (V.W m 1), .int .i64 (V.W m 2), .int .i64 (V.W m 3), .int .i64 (V.W m 4)] := by rw [eS]; exact bk_put (l := [.int .i64 (V.W m 0), .int .i64 (V.W m 1), .int .i64 (V.W m 2), .int .i64 (V.W m 3), .int .i64 (V.W m 4)]) hZgk rfl
  have hzgk1 : XSgk.heap.size ≤ Xgk.heap.size := by rw [eS]; exact Nat.le_of_eq (size_put gk [.int .i64 (V.W m 0), .int .i64 (V.W m 1), .int .i64 (V.W m 2), .int .i64 (V.W m 3), .int .i64 (V.W m 4)] 0 Xgk)
  have hzgk2 : Xgk.heap.size ≤ XSgk.heap.size := by rw [eS]; exact Nat.le_of_eq (size_put gk [.int .i64 (V.W m 0), .int .i64 (V.W m 1), .int .i64 (V.W m 2), .int .i64 (V.W m 3), .int .i64 (V.W m 4)] 0 Xgk).symm
  have hmgk : ∀ b, ¬ b = gk → Sm Xgk XSgk b := by rw [eS]; exact fun b hb => sm_put hb [.int .i64 (V.W m 0), .int .i64 (V.W m 1), .int .i64 (V.W m 2), .int .i64 (V.W m 3), .int .i64 (V.W m 4)] 0 Xgk
  have hBgk : Below (w0.heap.size) w0 XSgk := by rw [eS]; exact below_put hkgk [.int .i64 (V.W m 0), .int .i64 (V.W m 1), .int .i64 (V.W m 2), .int .i64 (V.W m 3), .int .i64 (V.W m 4)] 0 hHeld
  clear eS r0 f0 r1 f1 r2 f2 r3 f3 r4 f4
  refine hK.out _ _ hBgk (fun hNew => ?_)
  clear hK K hHeld
  have hHeld := hNew
  clear hNew
  try simp only [Act.put, aS]
  refine wpAnyH_done (by kernel_rfl) ?_ _
  have hB2 : Below w0.heap.size w0 ((XSgk.setCell ⟨gk, 3, none⟩ (.int .i64 sq)).setCell ⟨gk, 4, none⟩ (.int .i64 code)).drew := ((hHeld.setCell (by show w0.heap.size ≤ gk; omega) _).setCell (by show w0.heap.size ≤ gk; omega) _).drew
  obtain ⟨wm, hr1, hS2, hB3, hG3⟩ := (S3.out.below hB2).put hr hm HZ.out hwf (zq (V.W m) sq code) HZ.out
  have hr2 : (Instr.mapUpdate 130 (.map (some b)) (.int .i64 o) (.agg #[.int .i64 (V.W m 0), .int .i64 (V.W m 1), .int .i64 (V.W m 2), .int .i64 sq, .int .i64 code])).run Tryz.prog ((XSgk.setCell ⟨gk, 3, none⟩ (.int .i64 sq)).setCell ⟨gk, 4, none⟩ (.int .i64 code)).drew = .ok () wm := hr1
  have HS2 : Hid (Sv wm c d s b lo (V.setW m (zq (V.W m) sq code)) (n + 1)) := hS2
  have HB3 : Hid (Below lo w wm) := ((B1.out.mono (by omega)).trans (hB2.mono (by omega))).trans hB3
  have HG : Hid (∀ x, x < w.heap.size → ¬ x = b → Sm w wm x) := fun x hx hne => ((sm_below B1.out hx).trans (sm_below hB2 (by omega))).trans (sm_grown hG3 (by have := hB2.size; omega) (fun e => hne (by injection e)))
  clear hS2 hB3 hr1 hB2 HL hG3
  have u0 : XSgk.cell? ⟨w.heap.size, 0, none⟩ = some (.int .i64 o) := (hHeld.cell (p := ⟨w.heap.size, 0, none⟩) (by show w.heap.size < _; omega)).trans yP0
  have u1 : XSgk.cell? ⟨w.heap.size, 1, none⟩ = some (.int .i64 sq) := (hHeld.cell (p := ⟨w.heap.size, 1, none⟩) (by show w.heap.size < _; omega)).trans yP1
  have u8 : XSgk.cell? ⟨s, 8, none⟩ = some (.map (some b)) := (hHeld.cell (p := ⟨s, 8, none⟩) (by show s < _; omega)).trans c8
  have v0 : XSgk.cell? ⟨gk, 0, none⟩ = some (.int .i64 (V.W m 0)) := (hPgk.2 0 (by simp)).1
  have v1 : XSgk.cell? ⟨gk, 1, none⟩ = some (.int .i64 (V.W m 1)) := (hPgk.2 1 (by simp)).1
  have v2 : XSgk.cell? ⟨gk, 2, none⟩ = some (.int .i64 (V.W m 2)) := (hPgk.2 2 (by simp)).1
  have v3 : XSgk.cell? ⟨gk, 3, none⟩ = some (.int .i64 (V.W m 3)) := (hPgk.2 3 (by simp)).1
  have v4 : XSgk.cell? ⟨gk, 4, none⟩ = some (.int .i64 (V.W m 4)) := (hPgk.2 4 (by simp)).1
  have f0 : XSgk.frozen? ⟨gk, 0, none⟩ = false := (hPgk.2 0 (by simp)).2
  have f1 : XSgk.frozen? ⟨gk, 1, none⟩ = false := (hPgk.2 1 (by simp)).2
  have f2 : XSgk.frozen? ⟨gk, 2, none⟩ = false := (hPgk.2 2 (by simp)).2
  have f3 : XSgk.frozen? ⟨gk, 3, none⟩ = false := (hPgk.2 3 (by simp)).2
  have f4 : XSgk.frozen? ⟨gk, 4, none⟩ = false := (hPgk.2 4 (by simp)).2
  have lg := hPgk.1
  have lsx : s < XSgk.heap.size := by omega
  have lpx : w.heap.size < XSgk.heap.size := by omega
  have n1 : ¬ gk = s := by omega
  have n2 : ¬ s = gk := by omega
  have n3 : ¬ gk = w.heap.size := by omega
  have n4 : ¬ w.heap.size = gk := by omega
  clear hPgk hHeld
  go_wp2
  go_region
  go_wp2
  refine bodyPost_end (v := .tuple #[]) (by simp [results, Tryz.results132, go_sem]) rfl ?_
  exact ⟨rfl, HS2.out, HB3.out, HG.out⟩
set_option maxRecDepth 20000 in
set_option maxHeartbeats 4000000 in
theorem hand_impl (c d o nn : Int) (s b lo m : Nat) (V : CV) (n : Nat) (hr : Rise V.W V.nW) (hm : m < V.nW) (hz : V.W m 0 = o) (hwf : (Lit.int .i64 o).wf = true) (hn : -100 ≤ nn ∧ nn ≤ 100) (hc : -100 ≤ V.W m 2 ∧ V.W m 2 ≤ 1000) (w : World) (h : Sv w c d s b lo V n) :
    Calls Tryz.prog 158 #[.pointer (some ⟨s, 0, none⟩), .int .i64 o, .int .i64 nn] w fun e w' => e = .returned (.tuple #[]) ∧ Sv w' c d s b lo (V.setW m (zc (V.W m) nn)) (n + 1) ∧ Below lo w w' ∧ ∀ x, x < w.heap.size → ¬ x = b → Sm w w' x := by
  have HZ : Hid (V.W m 0 = o) := hz
  clear hz
  obtain ⟨⟨_, _, _, _, _, c8⟩, ls, ll, lb, lbw, nsb, _⟩ := h.at
  have hl := (h.lookA hr hm HZ.out hwf).1
  go_enter Tryz.func158, Tryz.ntmps158
  go_upto_region 2 with fail
  obtain ⟨X, eX⟩ : ∃ X, X = w.alloc (.cells #[.int .i64 (V.W m 0), .int .i64 (V.W m 1), .int .i64 (V.W m 2 + nn), .int .i64 (V.W m 3), .int .i64 (V.W m 4)] 54) := ⟨_, rfl⟩
  rw [← eX]
  have hBX : Below w.heap.size w X := by rw [eX]; exact (Below.refl _ _).alloc (Nat.le_refl _) _
  have hX : Bk X w.heap.size [.int .i64 (V.W m 0), .int .i64 (V.W m 1), .int .i64 (V.W m 2 + nn), .int .i64 (V.W m 3), .int .i64 (V.W m 4)] := by rw [eX]; exact bk_new w 54 [.int .i64 (V.W m 0), .int .i64 (V.W m 1), .int .i64 (V.W m 2 + nn), .int .i64 (V.W m 3), .int .i64 (V.W m 4)]
  clear eX hl
  obtain ⟨wm, hr1, hS2, hB3, hG3⟩ := (h.below hBX.drew).put hr hm HZ.out hwf (zc (V.W m) nn) HZ.out
  have hr2 : (Instr.mapUpdate 130 (.map (some b)) (.int .i64 o) (.agg #[.int .i64 (V.W m 0), .int .i64 (V.W m 1), .int .i64 (V.W m 2 + nn), .int .i64 (V.W m 3), .int .i64 (V.W m 4)])).run Tryz.prog X.drew = .ok () wm := hr1
  have HS2 : Hid (Sv wm c d s b lo (V.setW m (zc (V.W m) nn)) (n + 1)) := hS2
  have HB3 : Hid (Below lo w wm) := (hBX.drew.mono (by omega)).trans hB3
  have HG : Hid (∀ x, x < w.heap.size → ¬ x = b → Sm w wm x) := fun x hx hne => (sm_below hBX.drew hx).trans (sm_grown hG3 (by have := hBX.drew.size; omega) (fun e => hne (by injection e)))
  have v0 : X.cell? ⟨w.heap.size, 0, none⟩ = some (.int .i64 (V.W m 0)) := (hX.2 0 (by simp)).1
  have v1 : X.cell? ⟨w.heap.size, 1, none⟩ = some (.int .i64 (V.W m 1)) := (hX.2 1 (by simp)).1
  have v2 : X.cell? ⟨w.heap.size, 2, none⟩ = some (.int .i64 (V.W m 2 + nn)) := (hX.2 2 (by simp)).1
  have v3 : X.cell? ⟨w.heap.size, 3, none⟩ = some (.int .i64 (V.W m 3)) := (hX.2 3 (by simp)).1
  have v4 : X.cell? ⟨w.heap.size, 4, none⟩ = some (.int .i64 (V.W m 4)) := (hX.2 4 (by simp)).1
  have u8 : X.cell? ⟨s, 8, none⟩ = some (.map (some b)) := (hBX.cell (p := ⟨s, 8, none⟩) ls).trans c8
  have lg := hX.1
  have lsx : s < X.heap.size := by omega
  clear hX hBX hS2 hB3 hr1 c8 h hG3
  go_region
  go_wp2
  refine bodyPost_end (v := .tuple #[]) (by simp [results, Tryz.results158, go_sem]) rfl ?_
  exact ⟨rfl, HS2.out, HB3.out, HG.out⟩
theorem field54_1 (x0 x1 x2 x3 x4 : Value) (w : World) : (Instr.field 54 (.agg #[x0, x1, x2, x3, x4]) 1).run Tryz.prog w = .ok x1 w := by kernel_rfl
theorem field54_2 (x0 x1 x2 x3 x4 : Value) (w : World) : (Instr.field 54 (.agg #[x0, x1, x2, x3, x4]) 2).run Tryz.prog w = .ok x2 w := by kernel_rfl
set_option maxRecDepth 20000 in
set_option maxHeartbeats 4000000 in
theorem canPay_impl (c d o sq k t nn : Int) (s b lo m : Nat) (V : CV) (n : Nat) (hr : Rise V.W V.nW) (hm : m < V.nW) (hz : V.W m 0 = o) (hwf : (Lit.int .i64 o).wf = true) (w : World) (h : Sv w c d s b lo V n) :
    Calls Tryz.prog 157 #[.pointer (some ⟨s, 0, none⟩), .agg #[.int .i64 o, .int .i64 sq, .int .i64 k, .int .i64 t, .int .i64 nn]] w fun e w' => e = .returned (.bool (decide (nn ≤ V.W m 2))) ∧ Below w.heap.size w w' := by
  have HZ : Hid (V.W m 0 = o) := hz
  clear hz
  obtain ⟨⟨_, _, _, _, _, _⟩, ls, ll, lb, lbw, nsb, _⟩ := h.at
  go_enter Tryz.func157, Tryz.ntmps157
  go_upto_region 1 with fail
  obtain ⟨w0, e0⟩ : ∃ w0, w0 = w.alloc (.cells #[.int .i64 o, .int .i64 sq, .int .i64 k, .int .i64 t, .int .i64 nn] 41) := ⟨_, rfl⟩
  have hb0 : Below w.heap.size w w0 := by rw [e0]; exact (Below.refl _ _).alloc (Nat.le_refl _) _
  have X0 : Bk w0 w.heap.size [.int .i64 o, .int .i64 sq, .int .i64 k, .int .i64 t, .int .i64 nn] := by rw [e0]; exact bk_new w 41 [.int .i64 o, .int .i64 sq, .int .i64 k, .int .i64 t, .int .i64 nn]
  rw [← e0]
  clear e0
  have z0 := X0.1
  have B1 : Hid (Below w.heap.size w w0) := hb0
  have P2 : Hid (Bk w0 w.heap.size [.int .i64 o, .int .i64 sq, .int .i64 k, .int .i64 t, .int .i64 nn]) := X0
  have S3 : Hid (Sv w0 c d s b lo V n) := h.below hb0
  clear X0 hb0 h
  obtain ⟨yP0, yP1, yP2, yP3, yP4⟩ := P2.out.a5
  have hlP : w.heap.size < w0.heap.size := P2.out.1
  have c8 : w0.cell? ⟨s, 8, none⟩ = some (.map (some b)) := S3.out.at.1.2.2.2.2.2
  have lsw : s < w0.heap.size := S3.out.at.2.1
  have hl := ((S3.out.below ((Below.refl _ _).drew)).lookA hr hm HZ.out hwf).1
  have hfd := field54_2
  go_region
  go_wp2
  go_ret
  exact ⟨by simp, by repeat (first | exact B1.out | apply Below.drew | apply bdrewN)⟩
theorem Sv.nxt {w : World} {c d : Int} {s b lo n : Nat} {V : CV} (h : Sv w c d s b lo V n) {q : Nat} (hq : q < V.nX) :
    ∃ gX kX, w.cell? ⟨s, 6, none⟩ = some (.slice (some ⟨gX, 0, none⟩) V.nX kX) ∧ w.cell? ⟨gX, q, none⟩ = some (.int .i64 (V.X q)) ∧ w.frozen? ⟨gX, q, none⟩ = false ∧ lo ≤ gX ∧ gX < w.heap.size ∧ ¬ gX = s ∧ ¬ gX = b ∧
      ∀ z, Sv (w.setCell ⟨gX, q, none⟩ (.int .i64 z)) c d s b lo { V with X := updI V.X q z } n := by
  obtain ⟨n0, W0, h⟩ := h
  obtain ⟨gX, kX, h1, h2, h3, h4, h5, h6, h7, h8⟩ := h.nxt (q := q) hq
  exact ⟨gX, kX, h1, h2, h3, h4, h5, h6, h7, fun z => ⟨n0, W0, h8 z⟩⟩
set_option maxHeartbeats 4000000 in
theorem canSend_impl (c d : Int) (s b lo q : Nat) (V : CV) (n : Nat) (hq : q < V.nX) (w : World) (h : Sv w c d s b lo V n) :
    Calls Tryz.prog 155 #[.pointer (some ⟨s, 0, none⟩), .int .i64 (q : Int)] w fun e w' => e = .returned (.bool (decide (V.X q < 5000))) ∧ w' = w := by
  obtain ⟨gX, kX, h1, h2, h3, h4, h5, h6, h7, h8⟩ := h.nxt hq
  have ls := h.at.2.1
  have hq' : (q : Int) < V.nX := by omega
  clear h8 h
  go_enter Tryz.func155, Tryz.ntmps155
  go_wp2
  go_ret
  exact ⟨by simp, rfl⟩
end Go.Proofs.YthbkjfkkdaheoaaGreatDoor
