/- As toCell, and the lists of a copied cell lie block by block; conditions: the cell lies in memory. -/
import Derived.Test.YthbkjfkkdaheoaaGreatDoorMo10
import Derived.Test.YthbkjfkkdaheoaaGreatDoorCSz
import Derived.Test.YthbkjfkkdaheoaaGreatDoorCCopyS
namespace Go.Proofs.YthbkjfkkdaheoaaGreatDoor
open Go.RowKit Go.Deep
set_option linter.unusedVariables false
section
variable {c d : Int} {V : CV} {m : Nat} {s k t n : Int}
theorem idx_here (hr : Rise V.W V.nW) (hm : m < V.nW) {B : Nat → Int} (hB : B 0 = V.W m 0) : idxW (updW V.W m B) (V.W m 0) V.nW = some m :=
  idx_some V.nW (hr.upd hB) hm (by rw [upd_at]; exact hB)
theorem fin_ref (hr : Rise V.W V.nW) (hm : m < V.nW) {code : Int} (hc : code ≠ 1) (eM : kindM c d (V.setW m (zq (V.W m) s (V.W m 4))) m k t n = (V.setW m (zq (V.W m) s (V.W m 4)), code)) (eV : kindV c d (V.setW m (zq (V.W m) s 1)) m k t n = (V.setW m (zq (V.W m) s 1), code)) :
    modelV c d V m s k t n = freshV c d V m s k t n := by
  unfold modelV freshV
  rw [eM, eV]
  simp only [if_neg hc]
  have h1 : idxW (V.setW m (zq (V.W m) s (V.W m 4))).W (V.W m 0) (V.setW m (zq (V.W m) s (V.W m 4))).nW = some m := idx_here hr hm rfl
  rw [h1]
  simp only
  refine Prod.ext ?_ rfl
  show (V.setW m (zq (V.W m) s (V.W m 4))).setW m _ = _
  rw [setW_setW]
  have h2 : (V.setW m (zq (V.W m) s (V.W m 4))).W m = zq (V.W m) s (V.W m 4) := upd_at
  rw [h2]
  exact congrArg (V.setW m) (by funext j; match j with | 0 => rfl | 1 => rfl | 2 => rfl | 3 => rfl | _ + 4 => rfl)
theorem fin_done (G : CV → CV) {B0 B1 : Nat → Int} (eM : kindM c d (V.setW m (zq (V.W m) s (V.W m 4))) m k t n = (G (V.setW m B0), 1)) (eV : kindV c d (V.setW m (zq (V.W m) s 1)) m k t n = (G (V.setW m B1), 1))
    (h1 : idxW (G (V.setW m B0)).W (V.W m 0) (G (V.setW m B0)).nW = some m) (h2 : (G (V.setW m B0)).W m = B0) (h3 : ∀ C, (G (V.setW m B0)).setW m C = G (V.setW m C)) (h4 : zq B0 (B0 3) 1 = B1) :
    modelV c d V m s k t n = freshV c d V m s k t n := by
  unfold modelV freshV
  rw [eM, eV]
  simp only
  rw [h1]
  simp only
  rw [h2, h3, h4]
  rfl
theorem model_eq (hr : Rise V.W V.nW) (hm : m < V.nW) (hto : k = 2 → ¬ t = V.W m 0) : modelV c d V m s k t n = freshV c d V m s k t n := by
  have a0 : (V.setW m (zq (V.W m) s (V.W m 4))).W m = zq (V.W m) s (V.W m 4) := upd_at
  have a1 : (V.setW m (zq (V.W m) s 1)).W m = zq (V.W m) s 1 := upd_at
  have p0 : ∀ l, zq (V.W m) s l 1 = V.W m 1 := fun _ => rfl
  have p2 : ∀ l, zq (V.W m) s l 2 = V.W m 2 := fun _ => rfl
  have gg : ∀ B, (V.setW m B).g = V.g := fun _ => rfl
  have gc : ∀ B, (V.setW m B).c = V.c := fun _ => rfl
  have gX : ∀ B, (V.setW m B).X = V.X := fun _ => rfl
  by_cases k1 : k = 1
  · subst k1
    have eM0 : kindM c d (V.setW m (zq (V.W m) s (V.W m 4))) m 1 t n = stepM c d (V.setW m (zq (V.W m) s (V.W m 4))) m t := by simp [kindM]
    have eV0 : kindV c d (V.setW m (zq (V.W m) s 1)) m 1 t n = stepV c d (V.setW m (zq (V.W m) s 1)) m t := by simp [kindV]
    by_cases w1 : cellF c d (V.W m 1 + stepF t) = -1 ∨ (¬ cellF c d (V.W m 1 + stepF t) = V.c ∧ ¬ V.X t.toNat < 5000)
    · exact fin_ref hr hm (code := 2) (by decide) (by rw [eM0]; unfold stepM; rw [a0, p0, gc, gX, if_pos w1]) (by rw [eV0]; unfold stepV; rw [a1, p0, gc, gX, if_pos w1])
    by_cases w2 : cellF c d (V.W m 1 + stepF t) = V.c
    · refine fin_done (fun U => U) (B0 := za (zq (V.W m) s (V.W m 4)) (V.W m 1 + stepF t)) (B1 := za (zq (V.W m) s 1) (V.W m 1 + stepF t)) (by rw [eM0]; unfold stepM; rw [a0, p0, gc, gX, if_neg w1, if_pos w2, setW_setW]) (by rw [eV0]; unfold stepV; rw [a1, p0, gc, gX, if_neg w1, if_pos w2, setW_setW]) (idx_here hr hm rfl) upd_at (fun C => setW_setW) (by funext j; match j with | 0 => rfl | 1 => rfl | 2 => rfl | 3 => rfl | _ + 4 => rfl)
    · have eM : kindM c d (V.setW m (zq (V.W m) s (V.W m 4))) m 1 t n = (((V.setW m (zq (V.W m) s (V.W m 4))).outW m).send t.toNat (pw (V.X t.toNat) (za (zl (zq (V.W m) s (V.W m 4))) (V.W m 1 + stepF t))), 1) := by rw [eM0]; unfold stepM; rw [a0, p0, gc, gX, if_neg w1, if_neg w2]
      have eV : kindV c d (V.setW m (zq (V.W m) s 1)) m 1 t n = (((V.setW m (zq (V.W m) s 1)).outW m).send t.toNat (pw (V.X t.toNat) (za (zq (V.W m) s 1) (V.W m 1 + stepF t))), 1) := by rw [eV0]; unfold stepV; rw [a1, p0, gc, gX, if_neg w1, if_neg w2]
      unfold modelV freshV
      rw [eM, eV]
      simp only
      have hn : idxW (((V.setW m (zq (V.W m) s (V.W m 4))).outW m).send t.toNat (pw (V.X t.toNat) (za (zl (zq (V.W m) s (V.W m 4))) (V.W m 1 + stepF t)))).W (V.W m 0) (((V.setW m (zq (V.W m) s (V.W m 4))).outW m).send t.toNat (pw (V.X t.toNat) (za (zl (zq (V.W m) s (V.W m 4))) (V.W m 1 + stepF t)))).nW = none := by
        refine idx_none (W := delW (updW V.W m (zq (V.W m) s (V.W m 4))) m) (V.nW - 1) (fun j hj e => ?_)
        have hr0 : Rise (updW V.W m (zq (V.W m) s (V.W m 4))) V.nW := hr.upd rfl
        have e0 : updW V.W m (zq (V.W m) s (V.W m 4)) m 0 = V.W m 0 := upd_id (W := V.W) (m := m) (Z := zq (V.W m) s (V.W m 4)) rfl m
        unfold delW at e
        split at e
        · have := hr0.one (show j < V.nW by omega) hm (e.trans e0.symm); omega
        · have := hr0.one (show j + 1 < V.nW by omega) hm (e.trans e0.symm); omega
      rw [hn]
      simp only
      have hd : delW (updW V.W m (zq (V.W m) s (V.W m 4))) m = delW (updW V.W m (zq (V.W m) s 1)) m := by
        funext j
        unfold delW
        by_cases e : j < m
        · rw [if_pos e, if_pos e, upd_ne (by omega), upd_ne (by omega)]
        · rw [if_neg e, if_neg e, upd_ne (by omega), upd_ne (by omega)]
      have hp : za (zl (zq (V.W m) s (V.W m 4))) (V.W m 1 + stepF t) = za (zq (V.W m) s 1) (V.W m 1 + stepF t) := by funext j; match j with | 0 => rfl | 1 => rfl | 2 => rfl | 3 => rfl | _ + 4 => rfl
      rw [hp]
      have ho : (V.setW m (zq (V.W m) s (V.W m 4))).outW m = (V.setW m (zq (V.W m) s 1)).outW m := by
        unfold CV.outW
        show ({ V with nW := V.nW - 1, W := delW (updW V.W m (zq (V.W m) s (V.W m 4))) m } : CV) = { V with nW := V.nW - 1, W := delW (updW V.W m (zq (V.W m) s 1)) m }
        rw [hd]
      rw [ho]
      rfl
  by_cases k2 : k = 2
  · subst k2
    have eM0 : kindM c d (V.setW m (zq (V.W m) s (V.W m 4))) m 2 t n = giveV (V.setW m (zq (V.W m) s (V.W m 4))) m t n := by simp [kindM]
    have eV0 : kindV c d (V.setW m (zq (V.W m) s 1)) m 2 t n = giveV (V.setW m (zq (V.W m) s 1)) m t n := by simp [kindV]
    have hix : ∀ B, B 0 = V.W m 0 → idxW (V.setW m B).W t (V.setW m B).nW = idxW V.W t V.nW := fun B hB => by
      show idxW (updW V.W m B) t V.nW = _
      rcases hr.get t with ⟨j, hj, hz⟩ | hno
      · rw [idx_some V.nW hr hj hz, idx_some V.nW (hr.upd hB) hj (by rw [upd_id hB]; exact hz)]
      · rw [idx_none V.nW hno, idx_none V.nW (fun i hi => by rw [upd_id hB]; exact hno i hi)]
    rcases hr.get t with ⟨j, hj, hz⟩ | hno
    · have hjm : ¬ j = m := fun e => hto rfl (by rw [← hz, e])
      have hmj : ¬ m = j := fun e => hjm e.symm
      have ij := idx_some V.nW hr hj hz
      have wj : ∀ B, (V.setW m B).W j = V.W j := fun B => upd_ne hjm
      by_cases w1 : V.W m 2 < n
      · exact fin_ref hr hm (code := 3) (by decide) (by rw [eM0]; unfold giveV; rw [hix (zq (V.W m) s (V.W m 4)) rfl, ij]; simp only; rw [a0, p2, if_pos w1]) (by rw [eV0]; unfold giveV; rw [hix (zq (V.W m) s 1) rfl, ij]; simp only; rw [a1, p2, if_pos w1])
      by_cases w2 : 99 < V.W j 2 + n
      · exact fin_ref hr hm (code := 5) (by decide) (by rw [eM0]; unfold giveV; rw [hix (zq (V.W m) s (V.W m 4)) rfl, ij]; simp only; rw [a0, p2, wj, if_neg w1, if_pos w2]) (by rw [eV0]; unfold giveV; rw [hix (zq (V.W m) s 1) rfl, ij]; simp only; rw [a1, p2, wj, if_neg w1, if_pos w2])
      · refine fin_done (fun U => U.setW j (zc (V.W j) n)) (B0 := zc (zq (V.W m) s (V.W m 4)) (-n)) (B1 := zc (zq (V.W m) s 1) (-n)) (by rw [eM0]; unfold giveV; rw [hix (zq (V.W m) s (V.W m 4)) rfl, ij]; simp only; rw [a0, p2, wj, if_neg w1, if_neg w2, setW_setW]) (by rw [eV0]; unfold giveV; rw [hix (zq (V.W m) s 1) rfl, ij]; simp only; rw [a1, p2, wj, if_neg w1, if_neg w2, setW_setW]) ?_ ?_ (fun C => ?_) (by funext j; match j with | 0 => rfl | 1 => rfl | 2 => rfl | 3 => rfl | _ + 4 => rfl)
        · show idxW (updW (updW V.W m _) j _) (V.W m 0) V.nW = some m
          have hB : ∀ i, updW (updW V.W m (zc (zq (V.W m) s (V.W m 4)) (-n))) j (zc (V.W j) n) i 0 = V.W i 0 := fun i => by rw [upd_id (W := updW V.W m (zc (zq (V.W m) s (V.W m 4)) (-n))) (m := j) (Z := zc (V.W j) n) (by rw [upd_ne hjm]; rfl), upd_id (W := V.W) (m := m) (Z := zc (zq (V.W m) s (V.W m 4)) (-n)) rfl]
          exact idx_some V.nW (fun i i' h1 h2 => by rw [hB, hB]; exact hr i i' h1 h2) hm (hB m)
        · show updW (updW V.W m _) j _ m = _
          rw [upd_ne hmj, upd_at]
        · show ({ V with W := updW (updW (updW V.W m _) j _) m C } : CV) = { V with W := updW (updW V.W m C) j _ }
          rw [upd_swap hjm, upd_upd]
    · exact fin_ref hr hm (code := 4) (by decide) (by rw [eM0]; unfold giveV; rw [hix (zq (V.W m) s (V.W m 4)) rfl, idx_none V.nW hno]) (by rw [eV0]; unfold giveV; rw [hix (zq (V.W m) s 1) rfl, idx_none V.nW hno])
  by_cases k3 : k = 3
  · subst k3
    have eM0 : kindM c d (V.setW m (zq (V.W m) s (V.W m 4))) m 3 t n = dropV (V.setW m (zq (V.W m) s (V.W m 4))) m n := by simp [kindM]
    have eV0 : kindV c d (V.setW m (zq (V.W m) s 1)) m 3 t n = dropV (V.setW m (zq (V.W m) s 1)) m n := by simp [kindV]
    by_cases w1 : V.W m 2 < n
    · exact fin_ref hr hm (code := 3) (by decide) (by rw [eM0]; unfold dropV; rw [a0, p2, if_pos w1]) (by rw [eV0]; unfold dropV; rw [a1, p2, if_pos w1])
    by_cases w2 : 900 < V.g + n
    · exact fin_ref hr hm (code := 5) (by decide) (by rw [eM0]; unfold dropV; rw [a0, p2, gg, if_neg w1, if_pos w2]) (by rw [eV0]; unfold dropV; rw [a1, p2, gg, if_neg w1, if_pos w2])
    · exact fin_done (fun U => U.gnd (V.g + n)) (B0 := zc (zq (V.W m) s (V.W m 4)) (-n)) (B1 := zc (zq (V.W m) s 1) (-n)) (by rw [eM0]; unfold dropV; rw [a0, p2, gg, if_neg w1, if_neg w2, setW_setW]) (by rw [eV0]; unfold dropV; rw [a1, p2, gg, if_neg w1, if_neg w2, setW_setW]) (idx_here hr hm rfl) upd_at (fun C => by show ({ V with W := updW (updW V.W m _) m C, g := V.g + n } : CV) = { V with W := updW V.W m C, g := V.g + n }; rw [upd_upd]) (by funext j; match j with | 0 => rfl | 1 => rfl | 2 => rfl | 3 => rfl | _ + 4 => rfl)
  by_cases k4 : k = 4
  · subst k4
    have eM0 : kindM c d (V.setW m (zq (V.W m) s (V.W m 4))) m 4 t n = pickV (V.setW m (zq (V.W m) s (V.W m 4))) m n := by simp [kindM]
    have eV0 : kindV c d (V.setW m (zq (V.W m) s 1)) m 4 t n = pickV (V.setW m (zq (V.W m) s 1)) m n := by simp [kindV]
    by_cases w1 : V.g < n
    · exact fin_ref hr hm (code := 6) (by decide) (by rw [eM0]; unfold pickV; rw [gg, if_pos w1]) (by rw [eV0]; unfold pickV; rw [gg, if_pos w1])
    by_cases w2 : 99 < V.W m 2 + n
    · exact fin_ref hr hm (code := 5) (by decide) (by rw [eM0]; unfold pickV; rw [a0, p2, gg, if_neg w1, if_pos w2]) (by rw [eV0]; unfold pickV; rw [a1, p2, gg, if_neg w1, if_pos w2])
    · exact fin_done (fun U => U.gnd (V.g - n)) (B0 := zc (zq (V.W m) s (V.W m 4)) n) (B1 := zc (zq (V.W m) s 1) n) (by rw [eM0]; unfold pickV; rw [a0, p2, gg, if_neg w1, if_neg w2, setW_setW]) (by rw [eV0]; unfold pickV; rw [a1, p2, gg, if_neg w1, if_neg w2, setW_setW]) (idx_here hr hm rfl) upd_at (fun C => by show ({ V with W := updW (updW V.W m _) m C, g := V.g - n } : CV) = { V with W := updW V.W m C, g := V.g - n }; rw [upd_upd]) (by funext j; match j with | 0 => rfl | 1 => rfl | 2 => rfl | 3 => rfl | _ + 4 => rfl)
  by_cases k5 : k = 5
  · subst k5
    have eM0 : kindM c d (V.setW m (zq (V.W m) s (V.W m 4))) m 5 t n = throwV c d (V.setW m (zq (V.W m) s (V.W m 4))) m t n := by simp [kindM]
    have eV0 : kindV c d (V.setW m (zq (V.W m) s 1)) m 5 t n = throwV c d (V.setW m (zq (V.W m) s 1)) m t n := by simp [kindV]
    by_cases w0 : edgeB c d (V.W m 1) t = false
    · exact fin_ref hr hm (code := 7) (by decide) (by rw [eM0]; unfold throwV; rw [a0, p0, if_pos w0]) (by rw [eV0]; unfold throwV; rw [a1, p0, if_pos w0])
    by_cases w1 : V.W m 2 < n
    · exact fin_ref hr hm (code := 3) (by decide) (by rw [eM0]; unfold throwV; rw [a0, p0, p2, if_neg w0, if_pos w1]) (by rw [eV0]; unfold throwV; rw [a1, p0, p2, if_neg w0, if_pos w1])
    by_cases w2 : ¬ V.X t.toNat < 5000
    · exact fin_ref hr hm (code := 5) (by decide) (by rw [eM0]; unfold throwV; rw [a0, p0, p2, gX, if_neg w0, if_neg w1, if_pos w2]) (by rw [eV0]; unfold throwV; rw [a1, p0, p2, gX, if_neg w0, if_neg w1, if_pos w2])
    · exact fin_done (fun U => U.send t.toNat (pk (V.X t.toNat) n)) (B0 := zc (zq (V.W m) s (V.W m 4)) (-n)) (B1 := zc (zq (V.W m) s 1) (-n)) (by rw [eM0]; unfold throwV; rw [a0, p0, p2, gX, if_neg w0, if_neg w1, if_neg w2, setW_setW]) (by rw [eV0]; unfold throwV; rw [a1, p0, p2, gX, if_neg w0, if_neg w1, if_neg w2, setW_setW]) (idx_here hr hm rfl) upd_at (fun C => by show (((V.setW m _).setW m C).send t.toNat (pk (V.X t.toNat) n)) = _; rw [setW_setW]) (by funext j; match j with | 0 => rfl | 1 => rfl | 2 => rfl | 3 => rfl | _ + 4 => rfl)
  · exact fin_done (fun U => U) (B0 := zq (V.W m) s (V.W m 4)) (B1 := zq (V.W m) s 1) (by simp [kindM, k1, k2, k3, k4, k5]) (by simp [kindV, k1, k2, k3, k4, k5]) (idx_here hr hm rfl) upd_at (fun C => setW_setW) (by funext j; match j with | 0 => rfl | 1 => rfl | 2 => rfl | 3 => rfl | _ + 4 => rfl)
end
theorem doM_eq {c d : Int} {V : CV} {o s k t n : Int} (hV : cllB c d V = true) (hO : ordB o s k t n = true) : doM c d V o s k t n = doV c d V o s k t n := by
  have hr : Rise V.W V.nW := cllB_rise hV
  unfold doM doV
  rcases hr.get o with ⟨m, hm, hz⟩ | hno
  · rw [idx_some V.nW hr hm hz]
    simp only
    rw [model_eq hr hm (fun k2 => by
      simp only [ordB, kindB, Bool.and_eq_true] at hO
      have h := hO.2.2
      rw [if_neg (by omega), if_pos k2] at h
      simp only [Bool.and_eq_true, bne_iff_ne, ne_eq] at h
      rw [hz]; exact h.2.1)]
  · rw [idx_none V.nW hno]
set_option maxRecDepth 20000 in
set_option maxHeartbeats 8000000 in
theorem cllDo_spec (c d : Int) (v : Value) (V : CV) (lo : Nat) (o sq k t nn : Int) (hs0 : V.short 1048576) (w : World) (h : CopyAt lo w v V) :
    Calls Tryz.prog 10 #[.agg #[.int .i64 c, .int .i64 d], v, .agg #[.int .i64 o, .int .i64 sq, .int .i64 k, .int .i64 t, .int .i64 nn]] w fun e w' => (∃ u z, e = .returned (.tuple #[u, .int .i64 z]) ∧ z = (doR c d V o sq k t nn).2 ∧ OwnC w.heap.size w'.heap.size w' u (doR c d V o sq k t nn).1) ∧ Below w.heap.size w w' := by
  obtain ⟨bW, bO, bX, bI, q0, q1, q2, q3, q4, rfl, g1, g2, g3, g4⟩ := h
  have CP : Hid (CopyAt lo w (.agg #[.int .i64 V.c, .slice (some ⟨bW, 0, none⟩) V.nW V.nW, .int .i64 V.g, .slice (some ⟨bO, 0, none⟩) V.nO V.nO, .slice (some ⟨bX, 0, none⟩) V.nX V.nX, .slice (some ⟨bI, 0, none⟩) V.nI V.nI]) V) := ⟨bW, bO, bX, bI, q0, q1, q2, q3, q4, rfl, g1, g2, g3, g4⟩
  have hs : Hid (V.short 1048576) := hs0
  clear g1 g2 g3 g4 hs0 q0 q1 q2 q3 q4
  cases h1 : cllB c d V
  · skip
    go_enter Tryz.func10, Tryz.ntmps10
    go_wp2_with fail
    obtain ⟨w0, e0⟩ : ∃ w0, w0 = ((((w.alloc (.cells #[.int .i64 c, .int .i64 d] 38)).alloc (.cells #[.int .i64 V.c, .slice (some ⟨bW, 0, none⟩) V.nW V.nW, .int .i64 V.g, .slice (some ⟨bO, 0, none⟩) V.nO V.nO, .slice (some ⟨bX, 0, none⟩) V.nX V.nX, .slice (some ⟨bI, 0, none⟩) V.nI V.nI] 35)).alloc (.cells #[.int .i64 o, .int .i64 sq, .int .i64 k, .int .i64 t, .int .i64 nn] 41)).alloc (.cells #[.int .i64 0, .slice none 0 0, .int .i64 0, .slice none 0 0, .slice none 0 0, .slice none 0 0] 35)) := ⟨_, rfl⟩
    have z0 : w.heap.size + 4 ≤ w0.heap.size := by rw [e0]; simp
    have B0 : Hid (Below w.heap.size w w0) := by rw [e0]; exact ((((Below.refl _ _).alloc (by simp) _).alloc (by simp) _).alloc (by simp; omega) _).alloc (by simp; omega) _
    have A0 : Hid (Six w0 (w.heap.size + 1) [.int .i64 V.c, .slice (some ⟨bW, 0, none⟩) V.nW V.nW, .int .i64 V.g, .slice (some ⟨bO, 0, none⟩) V.nO V.nO, .slice (some ⟨bX, 0, none⟩) V.nX V.nX, .slice (some ⟨bI, 0, none⟩) V.nI V.nI]) := by rw [e0]; exact (six_box2 w _ 38 35 _ _ _ _ _ _ ).below (by simp) (((Below.refl _ _).alloc (Nat.le_refl _) _).alloc (by simp) _)
    have P0 : Hid (Bk w0 (w.heap.size + 1 + 1) [.int .i64 o, .int .i64 sq, .int .i64 k, .int .i64 t, .int .i64 nn]) := by rw [e0]; have h := bk_new ((w.alloc (.cells #[.int .i64 c, .int .i64 d] 38)).alloc (.cells #[.int .i64 V.c, .slice (some ⟨bW, 0, none⟩) V.nW V.nW, .int .i64 V.g, .slice (some ⟨bO, 0, none⟩) V.nO V.nO, .slice (some ⟨bX, 0, none⟩) V.nX V.nX, .slice (some ⟨bI, 0, none⟩) V.nI V.nI] 35)) 41 [.int .i64 o, .int .i64 sq, .int .i64 k, .int .i64 t, .int .i64 nn]; rw [World.size_alloc, World.size_alloc] at h; exact h.below ((Below.refl _ _).alloc (Nat.le_refl _) _)
    have R0 : Hid (Six w0 (w.heap.size + 1 + 1 + 1) [.int .i64 0, .slice none 0 0, .int .i64 0, .slice none 0 0, .slice none 0 0, .slice none 0 0]) := by rw [e0]; have h := six_new (((w.alloc (.cells #[.int .i64 c, .int .i64 d] 38)).alloc (.cells #[.int .i64 V.c, .slice (some ⟨bW, 0, none⟩) V.nW V.nW, .int .i64 V.g, .slice (some ⟨bO, 0, none⟩) V.nO V.nO, .slice (some ⟨bX, 0, none⟩) V.nX V.nX, .slice (some ⟨bI, 0, none⟩) V.nI V.nI] 35)).alloc (.cells #[.int .i64 o, .int .i64 sq, .int .i64 k, .int .i64 t, .int .i64 nn] 41)) 35 (.int .i64 0) (.slice none 0 0) (.int .i64 0) (.slice none 0 0) (.slice none 0 0) (.slice none 0 0); rw [World.size_alloc, World.size_alloc, World.size_alloc] at h; exact h
    have m00 : Hid (w0.cell? ⟨w.heap.size, 0, none⟩ = some (.int .i64 c)) := by rw [e0]; exact (((((Below.refl _ (w.alloc (.cells #[.int .i64 c, .int .i64 d] 38))).alloc (Nat.le_refl _) _).alloc (by simp) _).alloc (by simp) _).cell (p := ⟨w.heap.size, 0, none⟩) (by simp)).trans (by simp)
    have m10 : Hid (w0.cell? ⟨w.heap.size, 1, none⟩ = some (.int .i64 d)) := by rw [e0]; exact (((((Below.refl _ (w.alloc (.cells #[.int .i64 c, .int .i64 d] 38))).alloc (Nat.le_refl _) _).alloc (by simp) _).alloc (by simp) _).cell (p := ⟨w.heap.size, 1, none⟩) (by simp)).trans (by simp)
    rw [← e0]
    clear e0
    refine (cllOk_spec c d _ V lo hs.out _ (CP.out.below B0.out)).mono ?_
    rintro e w1 ⟨rfl, hb1⟩
    rw [h1]
    have B1 := hid (bthen B0.out hb1)
    have A1 := hid (A0.out.below (by omega) hb1)
    have P1 := hid (P0.out.below hb1)
    have R1 := hid (R0.out.below (by omega) hb1)
    have m01 := hid (one_bl (by omega) hb1 m00.out)
    have m11 := hid (one_bl (by omega) hb1 m10.out)
    have z1 : w.heap.size + 4 ≤ w1.heap.size := Nat.le_trans z0 hb1.size
    clear A0 B0 P0 R0 m00 m10
    clear hb1
    have m0 := m01.out
    have m1 := m11.out
    obtain ⟨a0, a1, a2, a3, a4, a5⟩ := A1.out.a6
    have lA : w.heap.size + 1 < w1.heap.size := by omega
    have lM : w.heap.size < w1.heap.size := by omega
    obtain ⟨p0, p1, p2, p3, p4⟩ := P1.out.a5
    have lP : w.heap.size + 1 + 1 < w1.heap.size := by omega
    obtain ⟨r0, r1, r2, r3, r4, r5⟩ := R1.out.a6
    obtain ⟨q0, q1, q2, q3, q4, q5⟩ := R1.out.f6
    have lR : w.heap.size + 1 + 1 + 1 < w1.heap.size := by omega
    go_wp2
    refine bodyPost_ret (v := .tuple #[.agg #[.int .i64 0, .slice none 0 0, .int .i64 0, .slice none 0 0, .slice none 0 0, .slice none 0 0], .int .i64 0]) (by simp [results, Tryz.results10, go_sem, r0, r1, r2, r3, r4, r5]) rfl ?_
    exact ⟨⟨_, _, rfl, by rw [doR_no (.inl h1)], by rw [doR_no (.inl h1)]; exact nothing_own _ _ _⟩, below_put6 B1.out (by omega) _ _ _ _ _ _⟩
  cases h3 : ordB o sq k t nn
  · skip
    go_enter Tryz.func10, Tryz.ntmps10
    go_wp2_with fail
    obtain ⟨w0, e0⟩ : ∃ w0, w0 = ((((w.alloc (.cells #[.int .i64 c, .int .i64 d] 38)).alloc (.cells #[.int .i64 V.c, .slice (some ⟨bW, 0, none⟩) V.nW V.nW, .int .i64 V.g, .slice (some ⟨bO, 0, none⟩) V.nO V.nO, .slice (some ⟨bX, 0, none⟩) V.nX V.nX, .slice (some ⟨bI, 0, none⟩) V.nI V.nI] 35)).alloc (.cells #[.int .i64 o, .int .i64 sq, .int .i64 k, .int .i64 t, .int .i64 nn] 41)).alloc (.cells #[.int .i64 0, .slice none 0 0, .int .i64 0, .slice none 0 0, .slice none 0 0, .slice none 0 0] 35)) := ⟨_, rfl⟩
    have z0 : w.heap.size + 4 ≤ w0.heap.size := by rw [e0]; simp
    have B0 : Hid (Below w.heap.size w w0) := by rw [e0]; exact ((((Below.refl _ _).alloc (by simp) _).alloc (by simp) _).alloc (by simp; omega) _).alloc (by simp; omega) _
    have A0 : Hid (Six w0 (w.heap.size + 1) [.int .i64 V.c, .slice (some ⟨bW, 0, none⟩) V.nW V.nW, .int .i64 V.g, .slice (some ⟨bO, 0, none⟩) V.nO V.nO, .slice (some ⟨bX, 0, none⟩) V.nX V.nX, .slice (some ⟨bI, 0, none⟩) V.nI V.nI]) := by rw [e0]; exact (six_box2 w _ 38 35 _ _ _ _ _ _ ).below (by simp) (((Below.refl _ _).alloc (Nat.le_refl _) _).alloc (by simp) _)
    have P0 : Hid (Bk w0 (w.heap.size + 1 + 1) [.int .i64 o, .int .i64 sq, .int .i64 k, .int .i64 t, .int .i64 nn]) := by rw [e0]; have h := bk_new ((w.alloc (.cells #[.int .i64 c, .int .i64 d] 38)).alloc (.cells #[.int .i64 V.c, .slice (some ⟨bW, 0, none⟩) V.nW V.nW, .int .i64 V.g, .slice (some ⟨bO, 0, none⟩) V.nO V.nO, .slice (some ⟨bX, 0, none⟩) V.nX V.nX, .slice (some ⟨bI, 0, none⟩) V.nI V.nI] 35)) 41 [.int .i64 o, .int .i64 sq, .int .i64 k, .int .i64 t, .int .i64 nn]; rw [World.size_alloc, World.size_alloc] at h; exact h.below ((Below.refl _ _).alloc (Nat.le_refl _) _)
    have R0 : Hid (Six w0 (w.heap.size + 1 + 1 + 1) [.int .i64 0, .slice none 0 0, .int .i64 0, .slice none 0 0, .slice none 0 0, .slice none 0 0]) := by rw [e0]; have h := six_new (((w.alloc (.cells #[.int .i64 c, .int .i64 d] 38)).alloc (.cells #[.int .i64 V.c, .slice (some ⟨bW, 0, none⟩) V.nW V.nW, .int .i64 V.g, .slice (some ⟨bO, 0, none⟩) V.nO V.nO, .slice (some ⟨bX, 0, none⟩) V.nX V.nX, .slice (some ⟨bI, 0, none⟩) V.nI V.nI] 35)).alloc (.cells #[.int .i64 o, .int .i64 sq, .int .i64 k, .int .i64 t, .int .i64 nn] 41)) 35 (.int .i64 0) (.slice none 0 0) (.int .i64 0) (.slice none 0 0) (.slice none 0 0) (.slice none 0 0); rw [World.size_alloc, World.size_alloc, World.size_alloc] at h; exact h
    have m00 : Hid (w0.cell? ⟨w.heap.size, 0, none⟩ = some (.int .i64 c)) := by rw [e0]; exact (((((Below.refl _ (w.alloc (.cells #[.int .i64 c, .int .i64 d] 38))).alloc (Nat.le_refl _) _).alloc (by simp) _).alloc (by simp) _).cell (p := ⟨w.heap.size, 0, none⟩) (by simp)).trans (by simp)
    have m10 : Hid (w0.cell? ⟨w.heap.size, 1, none⟩ = some (.int .i64 d)) := by rw [e0]; exact (((((Below.refl _ (w.alloc (.cells #[.int .i64 c, .int .i64 d] 38))).alloc (Nat.le_refl _) _).alloc (by simp) _).alloc (by simp) _).cell (p := ⟨w.heap.size, 1, none⟩) (by simp)).trans (by simp)
    rw [← e0]
    clear e0
    refine (cllOk_spec c d _ V lo hs.out _ (CP.out.below B0.out)).mono ?_
    rintro e w1 ⟨rfl, hb1⟩
    rw [h1]
    have B1 := hid (bthen B0.out hb1)
    have A1 := hid (A0.out.below (by omega) hb1)
    have P1 := hid (P0.out.below hb1)
    have R1 := hid (R0.out.below (by omega) hb1)
    have m01 := hid (one_bl (by omega) hb1 m00.out)
    have m11 := hid (one_bl (by omega) hb1 m10.out)
    have z1 : w.heap.size + 4 ≤ w1.heap.size := Nat.le_trans z0 hb1.size
    clear A0 B0 P0 R0 m00 m10
    clear hb1
    have m0 := m01.out
    have m1 := m11.out
    obtain ⟨a0, a1, a2, a3, a4, a5⟩ := A1.out.a6
    have lA : w.heap.size + 1 < w1.heap.size := by omega
    have lM : w.heap.size < w1.heap.size := by omega
    obtain ⟨p0, p1, p2, p3, p4⟩ := P1.out.a5
    have lP : w.heap.size + 1 + 1 < w1.heap.size := by omega
    go_wp2_with fail
    clear m0 m1 a0 a1 a2 a3 a4 a5 lA lM p0 p1 p2 p3 p4 lP
    refine (ordOk_spec o sq k t nn _).mono ?_
    rintro e w2 ⟨rfl, hb2⟩
    rw [h3]
    have B2 := hid (bthen B1.out hb2)
    have A2 := hid (A1.out.below (by omega) hb2)
    have P2 := hid (P1.out.below hb2)
    have R2 := hid (R1.out.below (by omega) hb2)
    have m02 := hid (one_bl (by omega) hb2 m01.out)
    have m12 := hid (one_bl (by omega) hb2 m11.out)
    have z2 : w.heap.size + 4 ≤ w2.heap.size := Nat.le_trans z1 hb2.size
    clear A1 B1 P1 R1 m01 m11
    clear hb2
    have m0 := m02.out
    have m1 := m12.out
    obtain ⟨a0, a1, a2, a3, a4, a5⟩ := A2.out.a6
    have lA : w.heap.size + 1 < w2.heap.size := by omega
    have lM : w.heap.size < w2.heap.size := by omega
    obtain ⟨p0, p1, p2, p3, p4⟩ := P2.out.a5
    have lP : w.heap.size + 1 + 1 < w2.heap.size := by omega
    obtain ⟨r0, r1, r2, r3, r4, r5⟩ := R2.out.a6
    obtain ⟨q0, q1, q2, q3, q4, q5⟩ := R2.out.f6
    have lR : w.heap.size + 1 + 1 + 1 < w2.heap.size := by omega
    go_wp2
    refine bodyPost_ret (v := .tuple #[.agg #[.int .i64 0, .slice none 0 0, .int .i64 0, .slice none 0 0, .slice none 0 0, .slice none 0 0], .int .i64 0]) (by simp [results, Tryz.results10, go_sem, r0, r1, r2, r3, r4, r5]) rfl ?_
    exact ⟨⟨_, _, rfl, by rw [doR_no (.inr h3)], by rw [doR_no (.inr h3)]; exact nothing_own _ _ _⟩, below_put6 B2.out (by omega) _ _ _ _ _ _⟩
  go_enter Tryz.func10, Tryz.ntmps10
  go_wp2_with fail
  obtain ⟨w0, e0⟩ : ∃ w0, w0 = ((((w.alloc (.cells #[.int .i64 c, .int .i64 d] 38)).alloc (.cells #[.int .i64 V.c, .slice (some ⟨bW, 0, none⟩) V.nW V.nW, .int .i64 V.g, .slice (some ⟨bO, 0, none⟩) V.nO V.nO, .slice (some ⟨bX, 0, none⟩) V.nX V.nX, .slice (some ⟨bI, 0, none⟩) V.nI V.nI] 35)).alloc (.cells #[.int .i64 o, .int .i64 sq, .int .i64 k, .int .i64 t, .int .i64 nn] 41)).alloc (.cells #[.int .i64 0, .slice none 0 0, .int .i64 0, .slice none 0 0, .slice none 0 0, .slice none 0 0] 35)) := ⟨_, rfl⟩
  have z0 : w.heap.size + 4 ≤ w0.heap.size := by rw [e0]; simp
  have B0 : Hid (Below w.heap.size w w0) := by rw [e0]; exact ((((Below.refl _ _).alloc (by simp) _).alloc (by simp) _).alloc (by simp; omega) _).alloc (by simp; omega) _
  have A0 : Hid (Six w0 (w.heap.size + 1) [.int .i64 V.c, .slice (some ⟨bW, 0, none⟩) V.nW V.nW, .int .i64 V.g, .slice (some ⟨bO, 0, none⟩) V.nO V.nO, .slice (some ⟨bX, 0, none⟩) V.nX V.nX, .slice (some ⟨bI, 0, none⟩) V.nI V.nI]) := by rw [e0]; exact (six_box2 w _ 38 35 _ _ _ _ _ _ ).below (by simp) (((Below.refl _ _).alloc (Nat.le_refl _) _).alloc (by simp) _)
  have P0 : Hid (Bk w0 (w.heap.size + 1 + 1) [.int .i64 o, .int .i64 sq, .int .i64 k, .int .i64 t, .int .i64 nn]) := by rw [e0]; have h := bk_new ((w.alloc (.cells #[.int .i64 c, .int .i64 d] 38)).alloc (.cells #[.int .i64 V.c, .slice (some ⟨bW, 0, none⟩) V.nW V.nW, .int .i64 V.g, .slice (some ⟨bO, 0, none⟩) V.nO V.nO, .slice (some ⟨bX, 0, none⟩) V.nX V.nX, .slice (some ⟨bI, 0, none⟩) V.nI V.nI] 35)) 41 [.int .i64 o, .int .i64 sq, .int .i64 k, .int .i64 t, .int .i64 nn]; rw [World.size_alloc, World.size_alloc] at h; exact h.below ((Below.refl _ _).alloc (Nat.le_refl _) _)
  have R0 : Hid (Six w0 (w.heap.size + 1 + 1 + 1) [.int .i64 0, .slice none 0 0, .int .i64 0, .slice none 0 0, .slice none 0 0, .slice none 0 0]) := by rw [e0]; have h := six_new (((w.alloc (.cells #[.int .i64 c, .int .i64 d] 38)).alloc (.cells #[.int .i64 V.c, .slice (some ⟨bW, 0, none⟩) V.nW V.nW, .int .i64 V.g, .slice (some ⟨bO, 0, none⟩) V.nO V.nO, .slice (some ⟨bX, 0, none⟩) V.nX V.nX, .slice (some ⟨bI, 0, none⟩) V.nI V.nI] 35)).alloc (.cells #[.int .i64 o, .int .i64 sq, .int .i64 k, .int .i64 t, .int .i64 nn] 41)) 35 (.int .i64 0) (.slice none 0 0) (.int .i64 0) (.slice none 0 0) (.slice none 0 0) (.slice none 0 0); rw [World.size_alloc, World.size_alloc, World.size_alloc] at h; exact h
  have m00 : Hid (w0.cell? ⟨w.heap.size, 0, none⟩ = some (.int .i64 c)) := by rw [e0]; exact (((((Below.refl _ (w.alloc (.cells #[.int .i64 c, .int .i64 d] 38))).alloc (Nat.le_refl _) _).alloc (by simp) _).alloc (by simp) _).cell (p := ⟨w.heap.size, 0, none⟩) (by simp)).trans (by simp)
  have m10 : Hid (w0.cell? ⟨w.heap.size, 1, none⟩ = some (.int .i64 d)) := by rw [e0]; exact (((((Below.refl _ (w.alloc (.cells #[.int .i64 c, .int .i64 d] 38))).alloc (Nat.le_refl _) _).alloc (by simp) _).alloc (by simp) _).cell (p := ⟨w.heap.size, 1, none⟩) (by simp)).trans (by simp)
  rw [← e0]
  clear e0
  refine (cllOk_spec c d _ V lo hs.out _ (CP.out.below B0.out)).mono ?_
  rintro e w1 ⟨rfl, hb1⟩
  rw [h1]
  have B1 := hid (bthen B0.out hb1)
  have A1 := hid (A0.out.below (by omega) hb1)
  have P1 := hid (P0.out.below hb1)
  have R1 := hid (R0.out.below (by omega) hb1)
  have m01 := hid (one_bl (by omega) hb1 m00.out)
  have m11 := hid (one_bl (by omega) hb1 m10.out)
  have z1 : w.heap.size + 4 ≤ w1.heap.size := Nat.le_trans z0 hb1.size
  clear A0 B0 P0 R0 m00 m10
  clear hb1
  have m0 := m01.out
  have m1 := m11.out
  obtain ⟨a0, a1, a2, a3, a4, a5⟩ := A1.out.a6
  have lA : w.heap.size + 1 < w1.heap.size := by omega
  have lM : w.heap.size < w1.heap.size := by omega
  obtain ⟨p0, p1, p2, p3, p4⟩ := P1.out.a5
  have lP : w.heap.size + 1 + 1 < w1.heap.size := by omega
  go_wp2_with fail
  clear m0 m1 a0 a1 a2 a3 a4 a5 lA lM p0 p1 p2 p3 p4 lP
  refine (ordOk_spec o sq k t nn _).mono ?_
  rintro e w2 ⟨rfl, hb2⟩
  rw [h3]
  have B2 := hid (bthen B1.out hb2)
  have A2 := hid (A1.out.below (by omega) hb2)
  have P2 := hid (P1.out.below hb2)
  have R2 := hid (R1.out.below (by omega) hb2)
  have m02 := hid (one_bl (by omega) hb2 m01.out)
  have m12 := hid (one_bl (by omega) hb2 m11.out)
  have z2 : w.heap.size + 4 ≤ w2.heap.size := Nat.le_trans z1 hb2.size
  clear A1 B1 P1 R1 m01 m11
  clear hb2
  have m0 := m02.out
  have m1 := m12.out
  obtain ⟨a0, a1, a2, a3, a4, a5⟩ := A2.out.a6
  have lA : w.heap.size + 1 < w2.heap.size := by omega
  have lM : w.heap.size < w2.heap.size := by omega
  obtain ⟨p0, p1, p2, p3, p4⟩ := P2.out.a5
  have lP : w.heap.size + 1 + 1 < w2.heap.size := by omega
  go_wp2_with fail
  clear m0 m1 a0 a1 a2 a3 a4 a5 lA lM p0 p1 p2 p3 p4 lP
  refine (l5Do_spec c d o sq k t nn _ V lo hs.out h1 h3 _ (CP.out.below B2.out)).mono ?_
  rintro e w4 ⟨⟨u, tb, rfl, etb, hO⟩, hb4⟩
  rw [doM_eq h1 h3] at hO etb
  obtain ⟨U, eU⟩ : ∃ U, U = (doV c d V o sq k t nn).1 := ⟨_, rfl⟩
  rw [← eU] at hO
  have EU : Hid (U = (doV c d V o sq k t nn).1) := eU
  have ETB : Hid (tb = (doV c d V o sq k t nn).2) := etb
  obtain ⟨aW, kW, aO, kO, aX, kX, aI, kI, rfl, _, _, _, _⟩ := hO.at
  have O4 : Hid (OwnC w2.heap.size w4.heap.size w4 (.agg #[.int .i64 U.c, .slice aW U.nW kW, .int .i64 U.g, .slice aO U.nO kO, .slice aX U.nX kX, .slice aI U.nI kI]) U) := hO
  have lo2 : w2.heap.size ≤ w4.heap.size := hb4.size
  have B4 := hid (bthen B2.out hb4)
  have A4 := hid (A2.out.below (by omega) hb4)
  have P4 := hid (P2.out.below hb4)
  have R4 := hid (R2.out.below (by omega) hb4)
  have m04 := hid (one_bl (by omega) hb4 m02.out)
  have m14 := hid (one_bl (by omega) hb4 m12.out)
  have z4 : w.heap.size + 4 ≤ w4.heap.size := Nat.le_trans z2 hb4.size
  clear A2 B2 P2 R2 m02 m12
  clear hO hb4 eU etb
  obtain ⟨l2, el2⟩ : ∃ l2, l2 = w2.heap.size := ⟨_, rfl⟩
  rw [← el2] at O4 lo2 z2
  clear el2
  obtain ⟨r0, r1, r2, r3, r4, r5⟩ := R4.out.a6
  obtain ⟨q0, q1, q2, q3, q4, q5⟩ := R4.out.f6
  have lR : w.heap.size + 1 + 1 + 1 < w4.heap.size := by omega
  go_wp2
  refine bodyPost_ret (v := .tuple #[.agg #[.int .i64 U.c, .slice aW U.nW kW, .int .i64 U.g, .slice aO U.nO kO, .slice aX U.nX kX, .slice aI U.nI kI], .int .i64 tb]) (by simp [results, Tryz.results10, go_sem, r0, r1, r2, r3, r4, r5]) rfl ?_
  have hzz := size_put6 w4 (w.heap.size + 1 + 1 + 1) (.int .i64 U.c) (.slice aW U.nW kW) (.int .i64 U.g) (.slice aO U.nO kO) (.slice aX U.nX kX) (.slice aI U.nI kI)
  refine ⟨⟨_, _, rfl, by rw [doR_yes h1 h3, ETB.out], ?_⟩, below_put6 B4.out (by omega) _ _ _ _ _ _⟩
  rw [doR_yes h1 h3]
  show OwnC w.heap.size (put6 w4 (w.heap.size + 1 + 1 + 1) (.int .i64 U.c) (.slice aW U.nW kW) (.int .i64 U.g) (.slice aO U.nO kO) (.slice aX U.nX kX) (.slice aI U.nI kI)).heap.size (put6 w4 (w.heap.size + 1 + 1 + 1) (.int .i64 U.c) (.slice aW U.nW kW) (.int .i64 U.g) (.slice aO U.nO kO) (.slice aX U.nX kX) (.slice aI U.nI kI)) _ _
  rw [hzz]
  rw [← EU.out]
  exact O4.out.more (by omega) (Nat.le_refl _) (Nat.le_of_eq hzz.symm) (fun y g1 g2 => sm_put6 (by omega) (.int .i64 U.c) (.slice aW U.nW kW) (.int .i64 U.g) (.slice aO U.nO kO) (.slice aX U.nX kX) (.slice aI U.nI kI))
def sumN (N : Nat → Nat) : Nat → Nat
  | 0 => 0
  | k + 1 => sumN N k + N k
set_option maxHeartbeats 1000000 in
theorem szOuts2 (a : Option Addr) (n cap : Nat) (N : Nat → Nat) (O : Nat → Nat → Nat → Int) (left : Int) (h0 : 0 ≤ left) (h1 : left ≤ 1048576) (hn : (n : Int) ≤ 9223372036854775807) (hN : ∀ k, k < n → (N k : Int) ≤ 9223372036854775807) (w : World) (h : RowO w a n N O) :
    Calls Tryz.prog 39 #[.slice a n cap, .int .i64 left] w fun e w' => (∃ r : Int, e = .returned (.int .i64 r) ∧ (r = -1 ∨ (0 ≤ r ∧ r ≤ left ∧ (n : Int) ≤ left ∧ (∀ k, k < n → (N k : Int) ≤ left) ∧ (sumN N n : Int) ≤ left))) ∧ Below w.heap.size w w' := by
  have HN : Hid (∀ k, k < n → (N k : Int) ≤ 9223372036854775807) := hN
  have HR : Hid (RowO w a n N O) := h
  clear hN h
  by_cases h : (n : Int) ≤ left
  · have hd : 0 ≤ left - n := by omega
    go_enter Tryz.func39, Tryz.ntmps39
    go_wp2
    go_loopw [1, 5] (fun l i wr => ∃ (k : Nat) (r : Int), k ≤ n ∧ i = .int .i64 k ∧ l = .int .i64 r ∧ 0 ≤ r ∧ r ≤ left ∧ (∀ j, j < k → (N j : Int) ≤ left) ∧ (sumN N k : Int) + r ≤ left ∧ Below w.heap.size w wr) (fun _ i _ => n - (intOf i).toNat)
    case atStart => exact ⟨0, left - n, Nat.zero_le _, rfl, by go_num, by omega, by omega, fun _ h => absurd h (by omega), by simp [sumN]; omega, Below.refl _ _⟩
    case round =>
      obtain ⟨k, r, hk, rfl, rfl, hr0, hr1, hall, hsum, hbel⟩ := hrel
      have HSU : Hid ((sumN N k : Int) + r ≤ left) := hsum
      clear hsum
      have HA : Hid (∀ j, j < k → (N j : Int) ≤ left) := hall
      clear hall
      by_cases hkn : k < n
      · have hkn' : (k : Int) < n := by omega
        obtain ⟨b, o, rfl, hb, hrow⟩ : ∃ b o, a = some ⟨b, o, none⟩ ∧ b < w.heap.size ∧ ∀ k, k < n → ∃ x c, w.cell? ⟨b, o + k, none⟩ = some (.slice x (N k) c) ∧ P8.Row8 w x (N k) (O k) := by
          rcases HR.out with h | h
          · omega
          · exact h
        obtain ⟨x, c, hc, _⟩ := hrow k hkn
        clear hrow
        have hc' : wr.cell? ⟨b, o + k, none⟩ = some (.slice x (N k) c) := (hbel.cell (p := ⟨b, o + k, none⟩) hb).trans hc
        clear hc
        go_wp2_with fail
        refine (szParcels x (N k) c r hr0 (by omega) (HN.out k hkn) _).mono ?_
        rintro e w1 ⟨rfl, hb1⟩
        have B1 : Below w.heap.size w w1 := bthen hbel hb1
        clear hb1 hbel hc'
        by_cases hle : (N k : Int) ≤ r
        · have hd1 : 0 ≤ r - (N k : Int) := by omega
          rw [if_pos hle]
          go_wp2
          go_roundw
          case rel => exact ⟨k + 1, r - (N k : Int), by omega, by go_num, rfl, by omega, by omega, fun j hj => by
            by_cases hjk : j = k
            · subst hjk; omega
            · exact HA.out j (by omega), by have := HSU.out; simp only [sumN]; omega, B1⟩
          case measure => simp [intOf]; omega
        · rw [if_neg hle]
          go_wp2
          go_ret
          exact ⟨⟨-1, rfl, .inl rfl⟩, B1⟩
      · have : k = n := by omega
        subst this
        go_wp2
        go_ret
        exact ⟨⟨r, rfl, .inr ⟨hr0, hr1, h, HA.out, by have := HSU.out; omega⟩⟩, hbel⟩
  · go_enter Tryz.func39, Tryz.ntmps39
    go_wp2
    all_goals (go_ret; exact ⟨⟨-1, rfl, .inl rfl⟩, Below.refl _ _⟩)
set_option maxHeartbeats 1000000 in
theorem szCell2 (v : Value) (V : CV) (hs : V.short maxLen) (w : World) (h : CellAt w v V) :
    Calls Tryz.prog 9 #[v, .int .i64 1048576] w fun e w' => (∃ r : Int, e = .returned (.int .i64 r) ∧ (r < 0 ∨ (0 ≤ r ∧ V.short 1048576 ∧ sumN V.N V.nO ≤ 1048576))) ∧ Below w.heap.size w w' := by
  obtain ⟨aW, kW, aO, kO, aX, kX, aI, kI, rfl, rW, rO, rX, rI⟩ := h
  obtain ⟨VC, nW, W, VG, nO, N, O, nX, X, nI, I⟩ := V
  simp only at rW rO rX rI ⊢
  simp only [CV.short] at hs ⊢
  obtain ⟨sW, sO, sN, sX, sI⟩ := hs
  unfold maxLen at sW sO sN sX sI
  have HO : Hid (RowO w aO nO N O) := rO
  have HN : Hid (∀ k, k < nO → (N k : Int) ≤ 9223372036854775807) := fun k hk => by have := sN k hk; omega
  clear rW rO rX rI sN
  go_enter Tryz.func9, Tryz.ntmps9
  go_wp2_with fail
  refine (szWalkers aW nW kW 1048576 (by omega) (by omega) (by omega) _).mono ?_
  rintro e w1 ⟨rfl, hb1⟩
  have B1 : Below w.heap.size w w1 := bthen (by first | exact Below.refl _ _ | exact (Below.refl _ _).alloc (by simp) _) hb1
  by_cases hW : (nW : Int) ≤ 1048576
  · rw [if_pos hW]
    have hW0 : 0 ≤ 1048576 - (nW : Int) := by omega
    obtain ⟨hc1, hf1⟩ := bcell hb1
    have s1 : w.heap.size < w1.heap.size := by have := hb1.size; simp at this; omega
    go_wp2_with fail
    refine (szOuts2 aO nO kO N O _ hW0 (by omega) (by omega) HN.out _ (rowO_below HO.out B1)).mono ?_
    rintro e w2 ⟨⟨r, rfl, hr⟩, hb2⟩
    have B2 := bthen B1 hb2
    obtain ⟨hc2, hf2⟩ := bcell hb2
    have s2 : w.heap.size < w2.heap.size := Nat.lt_of_lt_of_le s1 hb2.size
    rcases hr with rfl | ⟨r0, r1, r2, r3, r4⟩
    · go_wp2
      go_ret
      exact ⟨⟨-1, rfl, .inl (by omega)⟩, B2⟩
    · have HR3 : Hid (∀ k, k < nO → (N k : Int) ≤ 1048576 - (nW : Int)) := r3
      have HR4 : Hid ((sumN N nO : Int) ≤ 1048576 - (nW : Int)) := r4
      clear r3 r4
      go_wp2_with fail
      refine (szInts aX nX kX _ r0 (by omega) (by omega) _).mono ?_
      rintro e w3 ⟨rfl, hb3⟩
      have B3 := bthen B2 hb3
      obtain ⟨hc3, hf3⟩ := bcell hb3
      have s3 : w.heap.size < w3.heap.size := Nat.lt_of_lt_of_le s2 hb3.size
      by_cases hX : (nX : Int) ≤ r
      · rw [if_pos hX]
        have hX0 : 0 ≤ r - (nX : Int) := by omega
        go_wp2_with fail
        refine (szInts aI nI kI _ hX0 (by omega) (by omega) _).mono ?_
        rintro e w4 ⟨rfl, hb4⟩
        have B4 := bthen B3 hb4
        by_cases hI : (nI : Int) ≤ r - (nX : Int)
        · rw [if_pos hI]
          have hI0 : 0 ≤ r - (nX : Int) - (nI : Int) := by omega
          go_wp2
          go_ret
          exact ⟨⟨_, rfl, .inr ⟨hI0, ⟨by omega, by omega, fun k hk => by have := HR3.out k hk; omega, by omega, by omega⟩, by have := HR4.out; omega⟩⟩, B4⟩
        · rw [if_neg hI]
          go_wp2
          go_ret
          exact ⟨⟨-1, rfl, .inl (by omega)⟩, B4⟩
      · rw [if_neg hX]
        go_wp2
        go_ret
        exact ⟨⟨-1, rfl, .inl (by omega)⟩, B3⟩
  · rw [if_neg hW]
    go_wp2
    go_ret
    exact ⟨⟨-1, rfl, .inl (by omega)⟩, B1⟩
def OwnOb (hi : Nat) (w : World) (B n : Nat) (N : Nat → Nat) (O : Nat → Nat → Nat → Int) (k : Nat) : Prop :=
  (∀ i, i < n → (w.cell? ⟨B, i, none⟩).isSome = true ∧ w.frozen? ⟨B, i, none⟩ = false) ∧
    ∃ xs : Nat → Nat, (∀ i j, i < j → j < k → xs i < xs j) ∧ ∀ j, j < k → B < xs j ∧ xs j < w.heap.size ∧ xs j < hi ∧ w.cell? ⟨B, j, none⟩ = some (.slice (some ⟨xs j, 0, none⟩) (N j) (N j)) ∧ P8.Own8 w (xs j) (N j) (O j) (N j)
theorem ownOb_of {hi : Nat} {w : World} {B n k : Nat} {N : Nat → Nat} {O : Nat → Nat → Nat → Int} (h : OwnO w B n N O k) (e : hi = w.heap.size) : OwnOb hi w B n N O k := by
  obtain ⟨h1, xs, h2, h3⟩ := h
  exact ⟨h1, xs, h2, fun j hj => ⟨(h3 j hj).1, (h3 j hj).2.1, by rw [e]; exact (h3 j hj).2.1, (h3 j hj).2.2.1, (h3 j hj).2.2.2⟩⟩
theorem ownOb_own {hi : Nat} {w : World} {B n k : Nat} {N : Nat → Nat} {O : Nat → Nat → Nat → Int} (h : OwnOb hi w B n N O k) : OwnO w B n N O k := by
  obtain ⟨h1, xs, h2, h3⟩ := h
  exact ⟨h1, xs, h2, fun j hj => ⟨(h3 j hj).1, (h3 j hj).2.1, (h3 j hj).2.2.2.1, (h3 j hj).2.2.2.2⟩⟩
theorem ownOb_below {hi : Nat} {w w' : World} {B n k : Nat} {N : Nat → Nat} {O : Nat → Nat → Nat → Int} (h : OwnOb hi w B n N O k) (hB : B < w.heap.size) (hb : Below w.heap.size w w') : OwnOb hi w' B n N O k := by
  obtain ⟨h1, xs, h2, h3⟩ := h
  refine ⟨fun i hi => by rw [hb.cell (p := ⟨B, i, none⟩) hB, hb.frozen (p := ⟨B, i, none⟩) hB]; exact h1 i hi, xs, h2, fun j hj => ?_⟩
  obtain ⟨y1, y2, y3, y4, y5⟩ := h3 j hj
  exact ⟨y1, Nat.lt_of_lt_of_le y2 hb.size, y3, by rw [hb.cell (p := ⟨B, j, none⟩) hB]; exact y4, P8.own_below y5 y2 hb⟩
theorem ownOb_set {hi : Nat} {w : World} {B g n k j : Nat} {N : Nat → Nat} {O : Nat → Nat → Nat → Int} {u : Value} (h : OwnOb hi w g n N O k) (hne : B < g) : OwnOb hi (w.setCell ⟨B, j, none⟩ u) g n N O k := by
  obtain ⟨h1, xs, h2, h3⟩ := h
  refine ⟨fun i hi => by rw [set_out (fun e => by have := e.1; omega), set_frozen]; exact h1 i hi, xs, h2, fun i hi => ?_⟩
  obtain ⟨y1, y2, y3, y4, y5⟩ := h3 i hi
  exact ⟨y1, by rw [set_size]; exact y2, y3, by rw [set_out (fun e => by have := e.1; omega)]; exact y4, own8_set y5 (by omega)⟩
def CopyB (lo : Nat) (w : World) (v : Value) (V : CV) : Prop :=
  ∃ bW bO bX bI hi, lo ≤ bW ∧ bW < bO ∧ bO < bX ∧ bX < bI ∧ bI < w.heap.size ∧ hi ≤ bX ∧
    v = .agg #[.int .i64 V.c, .slice (some ⟨bW, 0, none⟩) V.nW V.nW, .int .i64 V.g, .slice (some ⟨bO, 0, none⟩) V.nO V.nO, .slice (some ⟨bX, 0, none⟩) V.nX V.nX, .slice (some ⟨bI, 0, none⟩) V.nI V.nI] ∧
    Own5 w bW V.nW V.W V.nW ∧ OwnOb hi w bO V.nO V.N V.O V.nO ∧ Own1 w bX V.nX V.X V.nX ∧ Own1 w bI V.nI V.I V.nI
theorem CopyB.copy {lo : Nat} {w : World} {v : Value} {V : CV} (h : CopyB lo w v V) : CopyAt lo w v V := by
  obtain ⟨bW, bO, bX, bI, hi, q0, q1, q2, q3, q4, q5, e, g1, g2, g3, g4⟩ := h
  exact ⟨bW, bO, bX, bI, q0, q1, q2, q3, q4, e, g1, ownOb_own g2, g3, g4⟩
theorem CopyB.own {lo : Nat} {w : World} {v : Value} {V : CV} (h : CopyB lo w v V) : OwnC lo w.heap.size w v V := by
  obtain ⟨bW, bO, bX, bI, hi, q0, q1, q2, q3, q4, q5, rfl, g1, ⟨_, xs, hx, hy⟩, g3, g4⟩ := h
  exact ownC_any (gW := bW) (gO := bO) (gX := bX) (gI := bI) (sl := fun k => .slice (some ⟨xs k, 0, none⟩) (V.N k) (V.N k)) (xs := xs) (.inr ⟨_, rfl, q0, by omega, Nat.le_refl _, g1⟩) (by omega) (by omega) (Nat.le_refl _)
    (fun k hk => ⟨(hy k hk).2.2.2.1, .inr ⟨_, rfl, by have := (hy k hk).1; omega, (hy k hk).2.1, Nat.le_refl _, (hy k hk).2.2.2.2⟩⟩) (.inr ⟨_, rfl, by omega, by omega, Nat.le_refl _, g3⟩) (.inr ⟨_, rfl, by omega, by omega, Nat.le_refl _, g4⟩)
    (fun _ => by omega) (fun _ _ => by omega) (fun _ _ => by omega) (fun _ => by omega) (fun _ => by omega) (fun _ _ => by omega)
    (fun k hk _ => by have h1 := (hy k hk).1; have h2 := (hy k hk).2.2.1; exact ⟨fun _ => by omega, by omega, fun _ => by omega, fun _ => by omega⟩) (fun i j hij hj _ _ => by have := hx i j hij hj; omega)
set_option maxHeartbeats 4000000 in
theorem toCellB (v : Value) (V : CV) (hs : V.short 1048576) (w : World) (h : CellAt w v V) :
    Calls Tryz.prog 12 #[v] w fun e w' => (∃ v', e = .returned v' ∧ CopyB w.heap.size w' v' V) ∧ Below w.heap.size w w' := by
  obtain ⟨aW, kW, aO, kO, aX, kX, aI, kI, rfl, rW, rO, rX, rI⟩ := h
  obtain ⟨VC, nW, W, VG, nO, N, O, nX, X, nI, I⟩ := V
  simp only at rW rO rX rI
  obtain ⟨sW, sO, sN, sX, sI⟩ := hs
  simp only at sW sO sN sX sI
  have HW : Hid (Row5 w aW nW W) := rW
  have HO : Hid (RowO w aO nO N O) := rO
  have HX : Hid (Row1 w aX nX X) := rX
  have HI : Hid (Row1 w aI nI I) := rI
  have HN : Hid (∀ k, k < nO → N k ≤ 1048576) := sN
  clear rW rO rX rI sN
  go_enter Tryz.func12, Tryz.ntmps12
  go_wp2_with fail
  obtain ⟨w0, e0⟩ : ∃ w0, w0 = (((w.alloc (.cells #[.int .i64 VC, .slice aW nW kW, .int .i64 VG, .slice aO nO kO, .slice aX nX kX, .slice aI nI kI] 28)).alloc (.cells #[.int .i64 0, .slice none 0 0, .int .i64 0, .slice none 0 0, .slice none 0 0, .slice none 0 0] 35)).alloc (.cells #[.int .i64 VC, .slice none 0 0, .int .i64 0, .slice none 0 0, .slice none 0 0, .slice none 0 0] 35)) := ⟨_, rfl⟩
  have z0 : w.heap.size + 3 ≤ w0.heap.size := by rw [e0]; simp
  have B0 : Hid (Below w.heap.size w w0) := by rw [e0]; exact (((Below.refl _ _).alloc (by simp) _).alloc (by simp) _).alloc (by simp; omega) _
  have A0 : Hid (Six w0 w.heap.size [.int .i64 VC, .slice aW nW kW, .int .i64 VG, .slice aO nO kO, .slice aX nX kX, .slice aI nI kI]) := by rw [e0]; exact ((six_new w 28 (.int .i64 VC) (.slice aW nW kW) (.int .i64 VG) (.slice aO nO kO) (.slice aX nX kX) (.slice aI nI kI)).below (by simp) ((Below.refl _ _).alloc (by simp) _)).below (by simp; omega) ((Below.refl _ _).alloc (by simp) _)
  have R0 : Hid (Six w0 (w.heap.size + 1) [.int .i64 0, .slice none 0 0, .int .i64 0, .slice none 0 0, .slice none 0 0, .slice none 0 0]) := by rw [e0]; have := (six_new (w.alloc (.cells #[.int .i64 VC, .slice aW nW kW, .int .i64 VG, .slice aO nO kO, .slice aX nX kX, .slice aI nI kI] 28)) 35 (.int .i64 0) (.slice none 0 0) (.int .i64 0) (.slice none 0 0) (.slice none 0 0) (.slice none 0 0)).below (by simp) ((Below.refl _ _).alloc (by simp) (.cells #[.int .i64 VC, .slice none 0 0, .int .i64 0, .slice none 0 0, .slice none 0 0, .slice none 0 0] 35)); rw [show (w.alloc (.cells #[.int .i64 VC, .slice aW nW kW, .int .i64 VG, .slice aO nO kO, .slice aX nX kX, .slice aI nI kI] 28)).heap.size = w.heap.size + 1 by simp] at this; exact this
  have O0 : Hid (Six w0 (w.heap.size + 1 + 1) [.int .i64 VC, .slice none 0 0, .int .i64 0, .slice none 0 0, .slice none 0 0, .slice none 0 0]) := by rw [e0]; have := six_new ((w.alloc (.cells #[.int .i64 VC, .slice aW nW kW, .int .i64 VG, .slice aO nO kO, .slice aX nX kX, .slice aI nI kI] 28)).alloc (.cells #[.int .i64 0, .slice none 0 0, .int .i64 0, .slice none 0 0, .slice none 0 0, .slice none 0 0] 35)) 35 (.int .i64 VC) (.slice none 0 0) (.int .i64 0) (.slice none 0 0) (.slice none 0 0) (.slice none 0 0); rw [show ((w.alloc (.cells #[.int .i64 VC, .slice aW nW kW, .int .i64 VG, .slice aO nO kO, .slice aX nX kX, .slice aI nI kI] 28)).alloc (.cells #[.int .i64 0, .slice none 0 0, .int .i64 0, .slice none 0 0, .slice none 0 0, .slice none 0 0] 35)).heap.size = w.heap.size + 1 + 1 by simp] at this; exact this
  rw [← e0]
  clear e0
  refine (toWalkers aW nW kW W sW _ (row5_below HW.out B0.out)).mono ?_
  rintro e w1 ⟨rfl, ho, hz1, hb⟩
  obtain ⟨b1, eb⟩ : ∃ b, b = w0.heap.size := ⟨_, rfl⟩
  rw [← eb] at ho hz1 ⊢
  have zz1 : w0.heap.size ≤ b1 := by omega
  clear eb
  have hbl1 := hb.size
  have bA : Hid (Six ((w1.setCell ⟨w.heap.size + 1 + 1, 1, none⟩ (.slice (some ⟨b1, 0, none⟩) nW nW)).setCell ⟨w.heap.size + 1 + 1, 2, none⟩ (.int .i64 VG)) w.heap.size [.int .i64 VC, .slice aW nW kW, .int .i64 VG, .slice aO nO kO, .slice aX nX kX, .slice aI nI kI]) := (((A0.out.below (by omega) hb).far (by omega)).far (by omega))
  have bR : Hid (Six ((w1.setCell ⟨w.heap.size + 1 + 1, 1, none⟩ (.slice (some ⟨b1, 0, none⟩) nW nW)).setCell ⟨w.heap.size + 1 + 1, 2, none⟩ (.int .i64 VG)) (w.heap.size + 1) [.int .i64 0, .slice none 0 0, .int .i64 0, .slice none 0 0, .slice none 0 0, .slice none 0 0]) := (((R0.out.below (by omega) hb).far (by omega)).far (by omega))
  have bO : Hid (Six ((w1.setCell ⟨w.heap.size + 1 + 1, 1, none⟩ (.slice (some ⟨b1, 0, none⟩) nW nW)).setCell ⟨w.heap.size + 1 + 1, 2, none⟩ (.int .i64 VG)) (w.heap.size + 1 + 1) [.int .i64 VC, .slice (some ⟨b1, 0, none⟩) nW nW, .int .i64 VG, .slice none 0 0, .slice none 0 0, .slice none 0 0]) := (((O0.out.below (by omega) hb).set (j := 1) (v := .slice (some ⟨b1, 0, none⟩) nW nW) rfl (by decide)).set (j := 2) (v := .int .i64 VG) rfl (by decide))
  have bB : Hid (Below w.heap.size w ((w1.setCell ⟨w.heap.size + 1 + 1, 1, none⟩ (.slice (some ⟨b1, 0, none⟩) nW nW)).setCell ⟨w.heap.size + 1 + 1, 2, none⟩ (.int .i64 VG))) := (((bthen B0.out hb).setCell (by simp; omega) _).setCell (by simp; omega) _)
  have nb1 : Hid (Own5 ((w1.setCell ⟨w.heap.size + 1 + 1, 1, none⟩ (.slice (some ⟨b1, 0, none⟩) nW nW)).setCell ⟨w.heap.size + 1 + 1, 2, none⟩ (.int .i64 VG)) b1 nW W nW) := (own5_set ((own5_set (ho) (by omega))) (by omega))
  have a0 : w1.cell? ⟨w.heap.size, 0, none⟩ = some (.int .i64 VC) := ((A0.out.below (by omega) hb) 0 (by decide)).1
  have a1 : w1.cell? ⟨w.heap.size, 1, none⟩ = some (.slice aW nW kW) := ((A0.out.below (by omega) hb) 1 (by decide)).1
  have a2 : w1.cell? ⟨w.heap.size, 2, none⟩ = some (.int .i64 VG) := ((A0.out.below (by omega) hb) 2 (by decide)).1
  have a3 : w1.cell? ⟨w.heap.size, 3, none⟩ = some (.slice aO nO kO) := ((A0.out.below (by omega) hb) 3 (by decide)).1
  have a4 : w1.cell? ⟨w.heap.size, 4, none⟩ = some (.slice aX nX kX) := ((A0.out.below (by omega) hb) 4 (by decide)).1
  have a5 : w1.cell? ⟨w.heap.size, 5, none⟩ = some (.slice aI nI kI) := ((A0.out.below (by omega) hb) 5 (by decide)).1
  have hO := O0.out.below (by omega) hb
  have y0 := (hO 0 (by decide)).1
  have f0 := (hO 0 (by decide)).2
  have y1 := (hO 1 (by decide)).1
  have f1 := (hO 1 (by decide)).2
  have y2 := (hO 2 (by decide)).1
  have f2 := (hO 2 (by decide)).2
  have y3 := (hO 3 (by decide)).1
  have f3 := (hO 3 (by decide)).2
  have y4 := (hO 4 (by decide)).1
  have f4 := (hO 4 (by decide)).2
  have y5 := (hO 5 (by decide)).1
  have f5 := (hO 5 (by decide)).2
  simp only [List.getD, List.getElem?_cons_zero, List.getElem?_cons_succ, Option.getD_some] at y0 y1 y2 y3 y4 y5
  clear hO
  clear ho hb
  go_wp2_with fail
  obtain ⟨w15, e0⟩ : ∃ x, x = ((w1.setCell ⟨w.heap.size + 1 + 1, 1, none⟩ (.slice (some ⟨b1, 0, none⟩) nW nW)).setCell ⟨w.heap.size + 1 + 1, 2, none⟩ (.int .i64 VG)) := ⟨_, rfl⟩
  rw [← e0] at bA bR bO bB  nb1 ⊢
  have z1 : w1.heap.size ≤ w15.heap.size := by rw [e0]; simp [World.setCell]
  clear e0 a0 a1 a2 a3 a4 a5 y0 y1 y2 y3 y4 y5 f0 f1 f2 f3 f4 f5 A0 R0 O0 B0
  have A1 := bA
  have R1 := bR
  have O1 := bO
  have B1 := bB
  clear bA bR bO bB
  have ob1 := nb1
  clear nb1
  refine (toOuts aO nO kO N O sO HN.out _ (rowO_below HO.out B1.out)).mono ?_
  rintro e w2 ⟨rfl, ho, hz2, hb⟩
  obtain ⟨hi2, ehi⟩ : ∃ hi2, hi2 = w2.heap.size := ⟨_, rfl⟩
  replace ho := ownOb_of ho ehi
  have hhi2 : hi2 ≤ w2.heap.size := by omega
  clear ehi
  obtain ⟨b2, eb⟩ : ∃ b, b = w15.heap.size := ⟨_, rfl⟩
  rw [← eb] at ho hz2 ⊢
  have zz2 : w15.heap.size ≤ b2 := by omega
  clear eb
  have hbl2 := hb.size
  have bA : Hid (Six (w2.setCell ⟨w.heap.size + 1 + 1, 3, none⟩ (.slice (some ⟨b2, 0, none⟩) nO nO)) w.heap.size [.int .i64 VC, .slice aW nW kW, .int .i64 VG, .slice aO nO kO, .slice aX nX kX, .slice aI nI kI]) := ((A1.out.below (by omega) hb).far (by omega))
  have bR : Hid (Six (w2.setCell ⟨w.heap.size + 1 + 1, 3, none⟩ (.slice (some ⟨b2, 0, none⟩) nO nO)) (w.heap.size + 1) [.int .i64 0, .slice none 0 0, .int .i64 0, .slice none 0 0, .slice none 0 0, .slice none 0 0]) := ((R1.out.below (by omega) hb).far (by omega))
  have bO : Hid (Six (w2.setCell ⟨w.heap.size + 1 + 1, 3, none⟩ (.slice (some ⟨b2, 0, none⟩) nO nO)) (w.heap.size + 1 + 1) [.int .i64 VC, .slice (some ⟨b1, 0, none⟩) nW nW, .int .i64 VG, .slice (some ⟨b2, 0, none⟩) nO nO, .slice none 0 0, .slice none 0 0]) := ((O1.out.below (by omega) hb).set (j := 3) (v := .slice (some ⟨b2, 0, none⟩) nO nO) rfl (by decide))
  have bB : Hid (Below w.heap.size w (w2.setCell ⟨w.heap.size + 1 + 1, 3, none⟩ (.slice (some ⟨b2, 0, none⟩) nO nO))) := ((bthen B1.out hb).setCell (by simp; omega) _)
  have nb1 : Hid (Own5 (w2.setCell ⟨w.heap.size + 1 + 1, 3, none⟩ (.slice (some ⟨b2, 0, none⟩) nO nO)) b1 nW W nW) := (own5_set (own_below ob1.out (by omega) hb) (by omega))
  have nb2 : Hid (OwnOb hi2 (w2.setCell ⟨w.heap.size + 1 + 1, 3, none⟩ (.slice (some ⟨b2, 0, none⟩) nO nO)) b2 nO N O nO) := (ownOb_set (ho) (by omega))
  have a0 : w2.cell? ⟨w.heap.size, 0, none⟩ = some (.int .i64 VC) := ((A1.out.below (by omega) hb) 0 (by decide)).1
  have a1 : w2.cell? ⟨w.heap.size, 1, none⟩ = some (.slice aW nW kW) := ((A1.out.below (by omega) hb) 1 (by decide)).1
  have a2 : w2.cell? ⟨w.heap.size, 2, none⟩ = some (.int .i64 VG) := ((A1.out.below (by omega) hb) 2 (by decide)).1
  have a3 : w2.cell? ⟨w.heap.size, 3, none⟩ = some (.slice aO nO kO) := ((A1.out.below (by omega) hb) 3 (by decide)).1
  have a4 : w2.cell? ⟨w.heap.size, 4, none⟩ = some (.slice aX nX kX) := ((A1.out.below (by omega) hb) 4 (by decide)).1
  have a5 : w2.cell? ⟨w.heap.size, 5, none⟩ = some (.slice aI nI kI) := ((A1.out.below (by omega) hb) 5 (by decide)).1
  have hO := O1.out.below (by omega) hb
  have y0 := (hO 0 (by decide)).1
  have f0 := (hO 0 (by decide)).2
  have y1 := (hO 1 (by decide)).1
  have f1 := (hO 1 (by decide)).2
  have y2 := (hO 2 (by decide)).1
  have f2 := (hO 2 (by decide)).2
  have y3 := (hO 3 (by decide)).1
  have f3 := (hO 3 (by decide)).2
  have y4 := (hO 4 (by decide)).1
  have f4 := (hO 4 (by decide)).2
  have y5 := (hO 5 (by decide)).1
  have f5 := (hO 5 (by decide)).2
  simp only [List.getD, List.getElem?_cons_zero, List.getElem?_cons_succ, Option.getD_some] at y0 y1 y2 y3 y4 y5
  clear hO
  clear ho hb
  go_wp2_with fail
  obtain ⟨w25, e0⟩ : ∃ x, x = (w2.setCell ⟨w.heap.size + 1 + 1, 3, none⟩ (.slice (some ⟨b2, 0, none⟩) nO nO)) := ⟨_, rfl⟩
  rw [← e0] at bA bR bO bB nb1 nb2 ⊢
  have z2 : w2.heap.size ≤ w25.heap.size := by rw [e0]; simp [World.setCell]
  clear e0 a0 a1 a2 a3 a4 a5 y0 y1 y2 y3 y4 y5 f0 f1 f2 f3 f4 f5 A1 R1 O1 B1
  have A2 := bA
  have R2 := bR
  have O2 := bO
  have B2 := bB
  clear bA bR bO bB
  have ob1 := nb1
  clear nb1
  have ob2 := nb2
  clear nb2
  refine (toInts aX nX kX X sX _ (row1_below HX.out B2.out)).mono ?_
  rintro e w3 ⟨rfl, ho, hz3, hb⟩
  obtain ⟨b3, eb⟩ : ∃ b, b = w25.heap.size := ⟨_, rfl⟩
  rw [← eb] at ho hz3 ⊢
  have zz3 : w25.heap.size ≤ b3 := by omega
  clear eb
  have hbl3 := hb.size
  have bA : Hid (Six (w3.setCell ⟨w.heap.size + 1 + 1, 4, none⟩ (.slice (some ⟨b3, 0, none⟩) nX nX)) w.heap.size [.int .i64 VC, .slice aW nW kW, .int .i64 VG, .slice aO nO kO, .slice aX nX kX, .slice aI nI kI]) := ((A2.out.below (by omega) hb).far (by omega))
  have bR : Hid (Six (w3.setCell ⟨w.heap.size + 1 + 1, 4, none⟩ (.slice (some ⟨b3, 0, none⟩) nX nX)) (w.heap.size + 1) [.int .i64 0, .slice none 0 0, .int .i64 0, .slice none 0 0, .slice none 0 0, .slice none 0 0]) := ((R2.out.below (by omega) hb).far (by omega))
  have bO : Hid (Six (w3.setCell ⟨w.heap.size + 1 + 1, 4, none⟩ (.slice (some ⟨b3, 0, none⟩) nX nX)) (w.heap.size + 1 + 1) [.int .i64 VC, .slice (some ⟨b1, 0, none⟩) nW nW, .int .i64 VG, .slice (some ⟨b2, 0, none⟩) nO nO, .slice (some ⟨b3, 0, none⟩) nX nX, .slice none 0 0]) := ((O2.out.below (by omega) hb).set (j := 4) (v := .slice (some ⟨b3, 0, none⟩) nX nX) rfl (by decide))
  have bB : Hid (Below w.heap.size w (w3.setCell ⟨w.heap.size + 1 + 1, 4, none⟩ (.slice (some ⟨b3, 0, none⟩) nX nX))) := ((bthen B2.out hb).setCell (by simp; omega) _)
  have nb1 : Hid (Own5 (w3.setCell ⟨w.heap.size + 1 + 1, 4, none⟩ (.slice (some ⟨b3, 0, none⟩) nX nX)) b1 nW W nW) := (own5_set (own_below ob1.out (by omega) hb) (by omega))
  have nb2 : Hid (OwnOb hi2 (w3.setCell ⟨w.heap.size + 1 + 1, 4, none⟩ (.slice (some ⟨b3, 0, none⟩) nX nX)) b2 nO N O nO) := (ownOb_set (ownOb_below ob2.out (by omega) hb) (by omega))
  have nb3 : Hid (Own1 (w3.setCell ⟨w.heap.size + 1 + 1, 4, none⟩ (.slice (some ⟨b3, 0, none⟩) nX nX)) b3 nX X nX) := (own1_set (ho) (by omega))
  have a0 : w3.cell? ⟨w.heap.size, 0, none⟩ = some (.int .i64 VC) := ((A2.out.below (by omega) hb) 0 (by decide)).1
  have a1 : w3.cell? ⟨w.heap.size, 1, none⟩ = some (.slice aW nW kW) := ((A2.out.below (by omega) hb) 1 (by decide)).1
  have a2 : w3.cell? ⟨w.heap.size, 2, none⟩ = some (.int .i64 VG) := ((A2.out.below (by omega) hb) 2 (by decide)).1
  have a3 : w3.cell? ⟨w.heap.size, 3, none⟩ = some (.slice aO nO kO) := ((A2.out.below (by omega) hb) 3 (by decide)).1
  have a4 : w3.cell? ⟨w.heap.size, 4, none⟩ = some (.slice aX nX kX) := ((A2.out.below (by omega) hb) 4 (by decide)).1
  have a5 : w3.cell? ⟨w.heap.size, 5, none⟩ = some (.slice aI nI kI) := ((A2.out.below (by omega) hb) 5 (by decide)).1
  have hO := O2.out.below (by omega) hb
  have y0 := (hO 0 (by decide)).1
  have f0 := (hO 0 (by decide)).2
  have y1 := (hO 1 (by decide)).1
  have f1 := (hO 1 (by decide)).2
  have y2 := (hO 2 (by decide)).1
  have f2 := (hO 2 (by decide)).2
  have y3 := (hO 3 (by decide)).1
  have f3 := (hO 3 (by decide)).2
  have y4 := (hO 4 (by decide)).1
  have f4 := (hO 4 (by decide)).2
  have y5 := (hO 5 (by decide)).1
  have f5 := (hO 5 (by decide)).2
  simp only [List.getD, List.getElem?_cons_zero, List.getElem?_cons_succ, Option.getD_some] at y0 y1 y2 y3 y4 y5
  clear hO
  clear ho hb
  go_wp2_with fail
  obtain ⟨w35, e0⟩ : ∃ x, x = (w3.setCell ⟨w.heap.size + 1 + 1, 4, none⟩ (.slice (some ⟨b3, 0, none⟩) nX nX)) := ⟨_, rfl⟩
  rw [← e0] at bA bR bO bB nb1 nb2 nb3 ⊢
  have z3 : w3.heap.size ≤ w35.heap.size := by rw [e0]; simp [World.setCell]
  clear e0 a0 a1 a2 a3 a4 a5 y0 y1 y2 y3 y4 y5 f0 f1 f2 f3 f4 f5 A2 R2 O2 B2
  have A3 := bA
  have R3 := bR
  have O3 := bO
  have B3 := bB
  clear bA bR bO bB
  have ob1 := nb1
  clear nb1
  have ob2 := nb2
  clear nb2
  have ob3 := nb3
  clear nb3
  refine (toInts aI nI kI I sI _ (row1_below HI.out B3.out)).mono ?_
  rintro e w4 ⟨rfl, ho, hz4, hb⟩
  obtain ⟨b4, eb⟩ : ∃ b, b = w35.heap.size := ⟨_, rfl⟩
  rw [← eb] at ho hz4 ⊢
  have zz4 : w35.heap.size ≤ b4 := by omega
  clear eb
  have hbl4 := hb.size
  have bA : Hid (Six (w4.setCell ⟨w.heap.size + 1 + 1, 5, none⟩ (.slice (some ⟨b4, 0, none⟩) nI nI)) w.heap.size [.int .i64 VC, .slice aW nW kW, .int .i64 VG, .slice aO nO kO, .slice aX nX kX, .slice aI nI kI]) := ((A3.out.below (by omega) hb).far (by omega))
  have bR : Hid (Six (w4.setCell ⟨w.heap.size + 1 + 1, 5, none⟩ (.slice (some ⟨b4, 0, none⟩) nI nI)) (w.heap.size + 1) [.int .i64 0, .slice none 0 0, .int .i64 0, .slice none 0 0, .slice none 0 0, .slice none 0 0]) := ((R3.out.below (by omega) hb).far (by omega))
  have bO : Hid (Six (w4.setCell ⟨w.heap.size + 1 + 1, 5, none⟩ (.slice (some ⟨b4, 0, none⟩) nI nI)) (w.heap.size + 1 + 1) [.int .i64 VC, .slice (some ⟨b1, 0, none⟩) nW nW, .int .i64 VG, .slice (some ⟨b2, 0, none⟩) nO nO, .slice (some ⟨b3, 0, none⟩) nX nX, .slice (some ⟨b4, 0, none⟩) nI nI]) := ((O3.out.below (by omega) hb).set (j := 5) (v := .slice (some ⟨b4, 0, none⟩) nI nI) rfl (by decide))
  have bB : Hid (Below w.heap.size w (w4.setCell ⟨w.heap.size + 1 + 1, 5, none⟩ (.slice (some ⟨b4, 0, none⟩) nI nI))) := ((bthen B3.out hb).setCell (by simp; omega) _)
  have nb1 : Hid (Own5 (w4.setCell ⟨w.heap.size + 1 + 1, 5, none⟩ (.slice (some ⟨b4, 0, none⟩) nI nI)) b1 nW W nW) := (own5_set (own_below ob1.out (by omega) hb) (by omega))
  have nb2 : Hid (OwnOb hi2 (w4.setCell ⟨w.heap.size + 1 + 1, 5, none⟩ (.slice (some ⟨b4, 0, none⟩) nI nI)) b2 nO N O nO) := (ownOb_set (ownOb_below ob2.out (by omega) hb) (by omega))
  have nb3 : Hid (Own1 (w4.setCell ⟨w.heap.size + 1 + 1, 5, none⟩ (.slice (some ⟨b4, 0, none⟩) nI nI)) b3 nX X nX) := (own1_set (own1_below ob3.out (by omega) hb) (by omega))
  have nb4 : Hid (Own1 (w4.setCell ⟨w.heap.size + 1 + 1, 5, none⟩ (.slice (some ⟨b4, 0, none⟩) nI nI)) b4 nI I nI) := (own1_set (ho) (by omega))
  have a0 : w4.cell? ⟨w.heap.size, 0, none⟩ = some (.int .i64 VC) := ((A3.out.below (by omega) hb) 0 (by decide)).1
  have a1 : w4.cell? ⟨w.heap.size, 1, none⟩ = some (.slice aW nW kW) := ((A3.out.below (by omega) hb) 1 (by decide)).1
  have a2 : w4.cell? ⟨w.heap.size, 2, none⟩ = some (.int .i64 VG) := ((A3.out.below (by omega) hb) 2 (by decide)).1
  have a3 : w4.cell? ⟨w.heap.size, 3, none⟩ = some (.slice aO nO kO) := ((A3.out.below (by omega) hb) 3 (by decide)).1
  have a4 : w4.cell? ⟨w.heap.size, 4, none⟩ = some (.slice aX nX kX) := ((A3.out.below (by omega) hb) 4 (by decide)).1
  have a5 : w4.cell? ⟨w.heap.size, 5, none⟩ = some (.slice aI nI kI) := ((A3.out.below (by omega) hb) 5 (by decide)).1
  have hO := O3.out.below (by omega) hb
  have y0 := (hO 0 (by decide)).1
  have f0 := (hO 0 (by decide)).2
  have y1 := (hO 1 (by decide)).1
  have f1 := (hO 1 (by decide)).2
  have y2 := (hO 2 (by decide)).1
  have f2 := (hO 2 (by decide)).2
  have y3 := (hO 3 (by decide)).1
  have f3 := (hO 3 (by decide)).2
  have y4 := (hO 4 (by decide)).1
  have f4 := (hO 4 (by decide)).2
  have y5 := (hO 5 (by decide)).1
  have f5 := (hO 5 (by decide)).2
  simp only [List.getD, List.getElem?_cons_zero, List.getElem?_cons_succ, Option.getD_some] at y0 y1 y2 y3 y4 y5
  have hR := R3.out.below (by omega) hb
  have r0 := (hR 0 (by decide)).1
  have g0 := (hR 0 (by decide)).2
  have r1 := (hR 1 (by decide)).1
  have g1 := (hR 1 (by decide)).2
  have r2 := (hR 2 (by decide)).1
  have g2 := (hR 2 (by decide)).2
  have r3 := (hR 3 (by decide)).1
  have g3 := (hR 3 (by decide)).2
  have r4 := (hR 4 (by decide)).1
  have g4 := (hR 4 (by decide)).2
  have r5 := (hR 5 (by decide)).1
  have g5 := (hR 5 (by decide)).2
  simp only [List.getD, List.getElem?_cons_zero, List.getElem?_cons_succ, Option.getD_some] at r0 r1 r2 r3 r4 r5
  clear hO
  go_wp2
  refine bodyPost_ret (v := .agg #[.int .i64 VC, .slice (some ⟨b1, 0, none⟩) nW nW, .int .i64 VG, .slice (some ⟨b2, 0, none⟩) nO nO, .slice (some ⟨b3, 0, none⟩) nX nX, .slice (some ⟨b4, 0, none⟩) nI nI]) (by simp [results, Tryz.results12, go_sem, r0, r1, r2, r3, r4, r5]) rfl ?_
  refine ⟨⟨_, rfl, b1, b2, b3, b4, hi2, by omega, by omega, by omega, by omega, by simp [World.setCell]; omega, by omega, rfl, (own5_set ((own5_set ((own5_set ((own5_set ((own5_set ((own5_set (nb1.out) (by omega))) (by omega))) (by omega))) (by omega))) (by omega))) (by omega)), (ownOb_set ((ownOb_set ((ownOb_set ((ownOb_set ((ownOb_set ((ownOb_set (nb2.out) (by omega))) (by omega))) (by omega))) (by omega))) (by omega))) (by omega)), (own1_set ((own1_set ((own1_set ((own1_set ((own1_set ((own1_set (nb3.out) (by omega))) (by omega))) (by omega))) (by omega))) (by omega))) (by omega)), (own1_set ((own1_set ((own1_set ((own1_set ((own1_set ((own1_set (nb4.out) (by omega))) (by omega))) (by omega))) (by omega))) (by omega))) (by omega))⟩, ((((((bB.out.setCell (by simp) _).setCell (by simp) _).setCell (by simp) _).setCell (by simp) _).setCell (by simp) _).setCell (by simp) _)⟩
end Go.Proofs.YthbkjfkkdaheoaaGreatDoor
