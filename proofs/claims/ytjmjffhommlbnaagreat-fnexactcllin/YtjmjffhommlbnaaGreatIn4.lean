/- A walker among others, by its number; and CllIn of the program; conditions: the cell lies in memory. -/
import Derived.Test.YtjmjffhommlbnaaGreatIn2
namespace Go.Proofs.YtjmjffhommlbnaaGreat
open Go.RowKit Go.Deep
set_option linter.unusedVariables false

def zp (pi pa pm ps pl : Int) : Nat → Int
  | 0 => pi
  | 1 => pa
  | 2 => pm
  | 3 => ps
  | _ => pl
def takeB (c d : Int) (V : CV) (M : Int → Option (Nat → Int)) (q : Nat) (pn pk pi pa pc : Int) : Bool := !(pn != V.I q) && roomB c d V M pk pi pa pc
def CV.took (V : CV) (q : Nat) (pk pc : Int) : CV := { V with I := updI V.I q (V.I q + 1), g := if pk = 1 then V.g else V.g + pc }
def tookM (M : Int → Option (Nat → Int)) (pk pi pa pm ps pl : Int) : Int → Option (Nat → Int) := if pk = 1 then putM M pi (zp pi pa pm ps pl) else M
def inV (c d : Int) (V : CV) (M : Int → Option (Nat → Int)) (q : Nat) (pn pk pi pa pc : Int) : CV := if takeB c d V M q pn pk pi pa pc then V.took q pk pc else V
def inM (c d : Int) (V : CV) (M : Int → Option (Nat → Int)) (q : Nat) (pn pk pi pa pm ps pl pc : Int) : Int → Option (Nat → Int) := if takeB c d V M q pn pk pi pa pc then tookM M pk pi pa pm ps pl else M
theorem in_no {c d : Int} {V : CV} {M : Int → Option (Nat → Int)} {q : Nat} {pn pk pi pa pm ps pl pc : Int} (h : takeB c d V M q pn pk pi pa pc = false) : inV c d V M q pn pk pi pa pc = V ∧ inM c d V M q pn pk pi pa pm ps pl pc = M := by simp [inV, inM, h]
theorem in_yes {c d : Int} {V : CV} {M : Int → Option (Nat → Int)} {q : Nat} {pn pk pi pa pm ps pl pc : Int} (h : takeB c d V M q pn pk pi pa pc = true) : inV c d V M q pn pk pi pa pc = V.took q pk pc ∧ inM c d V M q pn pk pi pa pm ps pl pc = tookM M pk pi pa pm ps pl := by simp [inV, inM, h]
theorem Sc.at4 {w : World} {c d : Int} {s b lo : Nat} {V : CV} {n : Nat} {M : Int → Option (Nat → Int)} (h : Sc w c d s b lo V n M) :
    w.cell? ⟨s, 4, none⟩ = some (.int .i64 V.g) ∧ w.frozen? ⟨s, 4, none⟩ = false ∧ w.cell? ⟨s, 8, none⟩ = some (.map (some b)) ∧ s < w.heap.size ∧ lo ≤ s ∧ lo ≤ b ∧ b < w.heap.size ∧ ¬ s = b := by
  obtain ⟨aW, kW, kO, aX, kX, aI, kI, gW, gO, gX, gI, sl, xs, hN, rW, rX, rI, hO, hM, ⟨l1, l2, l3, l4, l5, l6, l7, l8⟩, _⟩ := h
  exact ⟨(hN 4 (by decide)).1, (hN 4 (by decide)).2, (hN 8 (by decide)).1, l4, l3, l5, hM.lt, l6⟩

set_option maxRecDepth 20000 in
set_option maxHeartbeats 4000000 in
theorem takeIn_impl (c d pn pk pi pa pm ps pl pc : Int) (q s b lo : Nat) (V : CV) (n : Nat) (M : Int → Option (Nat → Int)) (hk : pk = 1 ∨ pk = 2) (hq : q < V.nI) (hI : 0 ≤ V.I q ∧ V.I q ≤ 5000) (hg : 0 ≤ V.g ∧ V.g ≤ 900) (hpc : 0 ≤ pc ∧ pc ≤ 900) (hwf : (Lit.int .i64 pi).wf = true) (w : World) (h : Sc w c d s b lo V n M) :
    Calls Tryz.prog 28 #[.pointer (some ⟨s, 0, none⟩), .int .i64 (q : Int), .agg #[.int .i64 pn, .int .i64 pk, .int .i64 pi, .int .i64 pa, .int .i64 pm, .int .i64 ps, .int .i64 pl, .int .i64 pc]] w fun e w' => e = .returned (.bool (takeB c d V M q pn pk pi pa pc)) ∧ Sc w' c d s b lo (inV c d V M q pn pk pi pa pc) (n + 1) (inM c d V M q pn pk pi pa pm ps pl pc) ∧ Below lo w w' := by
  go_enter Tryz.func28, Tryz.ntmps28
  go_upto_region 1 with fail
  obtain ⟨w0, e0⟩ : ∃ w0, w0 = w.alloc (.cells #[.int .i64 pn, .int .i64 pk, .int .i64 pi, .int .i64 pa, .int .i64 pm, .int .i64 ps, .int .i64 pl, .int .i64 pc] 45) := ⟨_, rfl⟩
  have hb0 : Below w.heap.size w w0 := by rw [e0]; exact (Below.refl _ _).alloc (Nat.le_refl _) _
  have X0 : Bk w0 w.heap.size [.int .i64 pn, .int .i64 pk, .int .i64 pi, .int .i64 pa, .int .i64 pm, .int .i64 ps, .int .i64 pl, .int .i64 pc] := by rw [e0]; exact bk_new w 45 [.int .i64 pn, .int .i64 pk, .int .i64 pi, .int .i64 pa, .int .i64 pm, .int .i64 ps, .int .i64 pl, .int .i64 pc]
  rw [← e0]
  clear e0
  have z0 := X0.1
  obtain ⟨gJ, kJ, c7w, _, _, _, gJ2, _, _⟩ := h.ins hq
  have HJ : Hid (w.cell? ⟨s, 7, none⟩ = some (.slice (some ⟨gJ, 0, none⟩) V.nI kJ)) := c7w
  clear c7w
  have hlw : s < w.heap.size := h.at4.2.2.2.1
  have hlo : lo ≤ s := h.at4.2.2.2.2.1
  have B1 : Hid (Below w.heap.size w w0) := hb0
  have P2 : Hid (Bk w0 w.heap.size [.int .i64 pn, .int .i64 pk, .int .i64 pi, .int .i64 pa, .int .i64 pm, .int .i64 ps, .int .i64 pl, .int .i64 pc]) := X0
  have S3 : Hid (Sc w0 c d s b lo V n M) := h.below hb0
  clear X0 hb0 h
  obtain ⟨gI, kI, c7, cq, fq, g1, g2, g3, hset⟩ := S3.out.ins hq
  obtain ⟨c4, f4, c8, ls, _, lb, lbw, nsb⟩ := S3.out.at4
  have hq' : (q : Int) < V.nI := by omega
  clear hset
  have yP0 : w0.cell? ⟨w.heap.size, 0, none⟩ = some (.int .i64 pn) := (P2.out.2 0 (by simp)).1
  have yP1 : w0.cell? ⟨w.heap.size, 1, none⟩ = some (.int .i64 pk) := (P2.out.2 1 (by simp)).1
  have yP2 : w0.cell? ⟨w.heap.size, 2, none⟩ = some (.int .i64 pi) := (P2.out.2 2 (by simp)).1
  have yP3 : w0.cell? ⟨w.heap.size, 3, none⟩ = some (.int .i64 pa) := (P2.out.2 3 (by simp)).1
  have yP4 : w0.cell? ⟨w.heap.size, 4, none⟩ = some (.int .i64 pm) := (P2.out.2 4 (by simp)).1
  have yP5 : w0.cell? ⟨w.heap.size, 5, none⟩ = some (.int .i64 ps) := (P2.out.2 5 (by simp)).1
  have yP6 : w0.cell? ⟨w.heap.size, 6, none⟩ = some (.int .i64 pl) := (P2.out.2 6 (by simp)).1
  have yP7 : w0.cell? ⟨w.heap.size, 7, none⟩ = some (.int .i64 pc) := (P2.out.2 7 (by simp)).1
  have hlP : w.heap.size < w0.heap.size := P2.out.1
  cases hne : (pn != V.I q)
  · cases hroom : roomB c d V M pk pi pa pc
    · refine wp_region_held_drew (S := fun w' => Below (w0.heap.size) w0 w') (by kernel_rfl) ((Below.refl _ _).drew) ?_
      intro hHeld
      obtain ⟨X0, hX0⟩ : ∃ X, X = w0.drew := ⟨_, rfl⟩
      have hz0 : w0.heap.size ≤ X0.heap.size := by rw [hX0]; exact Nat.le_refl _
      rw [← hX0] at hHeld ⊢
      clear hX0
      refine wpAnyH_take (i := 0) (v := .pointer (some ⟨w.heap.size, 0, none⟩)) rfl (by kernel_rfl) (by kernel_rfl) (by kernel_rfl) (fun _ _ _ h => h) (Or.inl ⟨by rfl, ?_⟩) (by assumption) ?_
      · intro wx hSw; obtain ⟨hcS, hfS⟩ := bcellN hSw; go_simp
      try simp only [Act.put, List.setIfInBounds_toArray, List.set_cons_zero, List.set_cons_succ, List.getElem_toArray, List.getElem_cons_zero]
      refine wpAnyH_take (i := 2) (v := .pointer (some ⟨s, 0, none⟩)) rfl (by kernel_rfl) (by kernel_rfl) (by kernel_rfl) (fun _ _ _ h => h) (Or.inl ⟨by rfl, ?_⟩) (by assumption) ?_
      · intro wx hSw; obtain ⟨hcS, hfS⟩ := bcellN hSw; go_simp
      try simp only [Act.put, List.setIfInBounds_toArray, List.set_cons_zero, List.set_cons_succ, List.getElem_toArray, List.getElem_cons_zero, List.getElem_cons_succ]
      refine wpAnyH_take (i := 7) (v := .int .i64 (q : Int)) rfl (by kernel_rfl) (by kernel_rfl) (by kernel_rfl) (fun _ _ _ h => h) (Or.inl ⟨by rfl, ?_⟩) (by assumption) ?_
      · intro wx hSw; obtain ⟨hcS, hfS⟩ := bcellN hSw; go_simp
      try simp only [Act.put, List.setIfInBounds_toArray, List.set_cons_zero, List.set_cons_succ, List.getElem_toArray, List.getElem_cons_zero, List.getElem_cons_succ]
      refine wpAnyH_take (i := 1) (v := .int .i64 pn) rfl (by kernel_rfl) (by kernel_rfl) (by kernel_rfl) (fun _ _ _ h => h) (Or.inl ⟨by rfl, ?_⟩) (by assumption) ?_
      · intro wx hSw; obtain ⟨hcS, hfS⟩ := bcellN hSw; go_simp
      try simp only [Act.put, List.setIfInBounds_toArray, List.set_cons_zero, List.set_cons_succ, List.getElem_toArray, List.getElem_cons_zero, List.getElem_cons_succ]
      refine wpAnyH_take (i := 3) (v := .pointer (some ⟨s, 0, none⟩)) rfl (by kernel_rfl) (by kernel_rfl) (by kernel_rfl) (fun _ _ _ h => h) (Or.inl ⟨by rfl, ?_⟩) (by assumption) ?_
      · intro wx hSw; obtain ⟨hcS, hfS⟩ := bcellN hSw; go_simp
      try simp only [Act.put, List.setIfInBounds_toArray, List.set_cons_zero, List.set_cons_succ, List.getElem_toArray, List.getElem_cons_zero, List.getElem_cons_succ]
      refine wpAnyH_take (i := 4) (v := .pointer (some ⟨s, 2, none⟩)) rfl (by kernel_rfl) (by kernel_rfl) (by kernel_rfl) (fun _ _ _ h => h) (Or.inl ⟨by rfl, ?_⟩) (by assumption) ?_
      · intro wx hSw; obtain ⟨hcS, hfS⟩ := bcellN hSw; go_simp
      try simp only [Act.put, List.setIfInBounds_toArray, List.set_cons_zero, List.set_cons_succ, List.getElem_toArray, List.getElem_cons_zero, List.getElem_cons_succ]
      refine wpAnyH_take (i := 5) (v := .pointer (some ⟨s, 7, none⟩)) rfl (by kernel_rfl) (by kernel_rfl) (by kernel_rfl) (fun _ _ _ h => h) (Or.inl ⟨by rfl, ?_⟩) (by assumption) ?_
      · intro wx hSw; obtain ⟨hcS, hfS⟩ := bcellN hSw; go_simp
      try simp only [Act.put, List.setIfInBounds_toArray, List.set_cons_zero, List.set_cons_succ, List.getElem_toArray, List.getElem_cons_zero, List.getElem_cons_succ]
      refine wpAnyH_take (i := 6) (v := .slice (some ⟨gI, 0, none⟩) V.nI kI) rfl (by kernel_rfl) (by kernel_rfl) (by kernel_rfl) (fun _ _ _ h => h) (Or.inl ⟨by rfl, ?_⟩) (by assumption) ?_
      · intro wx hSw; obtain ⟨hcS, hfS⟩ := bcellN hSw; go_simp
      try simp only [Act.put, List.setIfInBounds_toArray, List.set_cons_zero, List.set_cons_succ, List.getElem_toArray, List.getElem_cons_zero, List.getElem_cons_succ]
      refine wpAnyH_take (i := 8) (v := .pointer (some ⟨gI, q, none⟩)) rfl (by kernel_rfl) (by kernel_rfl) (by kernel_rfl) (fun _ _ _ h => h) (Or.inl ⟨by rfl, ?_⟩) (by assumption) ?_
      · intro wx hSw; obtain ⟨hcS, hfS⟩ := bcellN hSw; go_simp
      try simp only [Act.put, List.setIfInBounds_toArray, List.set_cons_zero, List.set_cons_succ, List.getElem_toArray, List.getElem_cons_zero, List.getElem_cons_succ]
      refine wpAnyH_take (i := 9) (v := .int .i64 (V.I q)) rfl (by kernel_rfl) (by kernel_rfl) (by kernel_rfl) (fun _ _ _ h => h) (Or.inl ⟨by rfl, ?_⟩) (by assumption) ?_
      · intro wx hSw; obtain ⟨hcS, hfS⟩ := bcellN hSw; go_simp
      try simp only [Act.put, List.setIfInBounds_toArray, List.set_cons_zero, List.set_cons_succ, List.getElem_toArray, List.getElem_cons_zero, List.getElem_cons_succ]
      refine wpAnyH_take (i := 10) (v := .bool false) rfl (by kernel_rfl) (by kernel_rfl) (by kernel_rfl) (fun _ _ _ h => h) (Or.inl ⟨by rfl, ?_⟩) (by assumption) ?_
      · intro wx hSw; obtain ⟨hcS, hfS⟩ := bcellN hSw; go_simp
      try simp only [Act.put, List.setIfInBounds_toArray, List.set_cons_zero, List.set_cons_succ, List.getElem_toArray, List.getElem_cons_zero, List.getElem_cons_succ]
      refine wpAnyH_take (i := 11) (v := .bool false) rfl (by kernel_rfl) (by kernel_rfl) (by kernel_rfl) (fun _ _ _ h => h) (Or.inl ⟨by rfl, ?_⟩) (by assumption) ?_
      · intro wx hSw; obtain ⟨hcS, hfS⟩ := bcellN hSw; go_simp
      try simp only [Act.put, List.setIfInBounds_toArray, List.set_cons_zero, List.set_cons_succ, List.getElem_toArray, List.getElem_cons_zero, List.getElem_cons_succ]
      refine wpAnyH_take (i := 12) (v := .pointer (some ⟨s, 0, none⟩)) rfl (by kernel_rfl) (by kernel_rfl) (by kernel_rfl) (fun _ _ _ h => h) (Or.inl ⟨by rfl, ?_⟩) (by assumption) ?_
      · intro wx hSw; obtain ⟨hcS, hfS⟩ := bcellN hSw; go_simp
      try simp only [Act.put, List.setIfInBounds_toArray, List.set_cons_zero, List.set_cons_succ, List.getElem_toArray, List.getElem_cons_zero, List.getElem_cons_succ]
      refine wpAnyH_take (i := 13) (v := .agg #[.int .i64 pn, .int .i64 pk, .int .i64 pi, .int .i64 pa, .int .i64 pm, .int .i64 ps, .int .i64 pl, .int .i64 pc]) rfl (by kernel_rfl) (by kernel_rfl) (by kernel_rfl) (fun _ _ _ h => h) (Or.inl ⟨by rfl, ?_⟩) (by assumption) ?_
      · intro wx hSw; obtain ⟨hcS, hfS⟩ := bcellN hSw; go_simp
      try simp only [Act.put, List.setIfInBounds_toArray, List.set_cons_zero, List.set_cons_succ, List.getElem_toArray, List.getElem_cons_zero, List.getElem_cons_succ]
      refine wpAnyH_ready (rs := [14]) (by kernel_rfl) (by simp) ?_
      refine (AllReadyH.cons rfl (fun K hK => ?_) AllReadyH.nil)
      go_simp
      go_wp2_with fail
      refine (hasRoom_impl c d pn pk pi pa pm ps pl pc s b lo V n M hg hpc hwf _ (S3.out.below hHeld)).mono ?_
      rintro e xr ⟨rfl, hxr⟩
      rw [hroom]
      have hsz_xr := hxr.size
      refine hK.out _ _ (bthenN hHeld (by omega) hxr) (fun hNew => ?_)
      clear hK K hHeld
      have hHeld := hNew
      clear hNew
      try simp only [Act.put, List.setIfInBounds_toArray, List.set_cons_zero, List.set_cons_succ, List.getElem_toArray, List.getElem_cons_zero, List.getElem_cons_succ]
      refine wpAnyH_take (i := 15) (v := .bool true) rfl (by kernel_rfl) (by kernel_rfl) (by kernel_rfl) (fun _ _ _ h => h) (Or.inl ⟨by rfl, ?_⟩) (by assumption) ?_
      · intro wx hSw; obtain ⟨hcS, hfS⟩ := bcellN hSw; go_simp
      try simp only [Act.put, List.setIfInBounds_toArray, List.set_cons_zero, List.set_cons_succ, List.getElem_toArray, List.getElem_cons_zero, List.getElem_cons_succ]
      refine wpAnyH_take (i := 16) (v := .bool true) rfl (by kernel_rfl) (by kernel_rfl) (by kernel_rfl) (fun _ _ _ h => h) (Or.inl ⟨by rfl, ?_⟩) (by assumption) ?_
      · intro wx hSw; obtain ⟨hcS, hfS⟩ := bcellN hSw; go_simp
      try simp only [Act.put, List.setIfInBounds_toArray, List.set_cons_zero, List.set_cons_succ, List.getElem_toArray, List.getElem_cons_zero, List.getElem_cons_succ]
      refine wpAnyH_done (by kernel_rfl) ?_ _
      go_wp2
      go_ret
      have ht : takeB c d V M q pn pk pi pa pc = false := by simp [takeB, hroom]
      exact ⟨by rw [ht] <;> rfl, by rw [(in_no (pm := pm) (ps := ps) (pl := pl) ht).1, (in_no (pm := pm) (ps := ps) (pl := pl) ht).2]; exact (S3.out.below hHeld).mono (Nat.le_succ n), (B1.out.trans (hHeld.mono (by have := B1.out.size; omega))).mono (by omega)⟩
    · refine wp_region_held_drew (S := fun w' => Below (w0.heap.size) w0 w') (by kernel_rfl) ((Below.refl _ _).drew) ?_
      intro hHeld
      obtain ⟨X0, hX0⟩ : ∃ X, X = w0.drew := ⟨_, rfl⟩
      have hz0 : w0.heap.size ≤ X0.heap.size := by rw [hX0]; exact Nat.le_refl _
      rw [← hX0] at hHeld ⊢
      clear hX0
      refine wpAnyH_take (i := 0) (v := .pointer (some ⟨w.heap.size, 0, none⟩)) rfl (by kernel_rfl) (by kernel_rfl) (by kernel_rfl) (fun _ _ _ h => h) (Or.inl ⟨by rfl, ?_⟩) (by assumption) ?_
      · intro wx hSw; obtain ⟨hcS, hfS⟩ := bcellN hSw; go_simp
      try simp only [Act.put, List.setIfInBounds_toArray, List.set_cons_zero, List.set_cons_succ, List.getElem_toArray, List.getElem_cons_zero]
      refine wpAnyH_take (i := 2) (v := .pointer (some ⟨s, 0, none⟩)) rfl (by kernel_rfl) (by kernel_rfl) (by kernel_rfl) (fun _ _ _ h => h) (Or.inl ⟨by rfl, ?_⟩) (by assumption) ?_
      · intro wx hSw; obtain ⟨hcS, hfS⟩ := bcellN hSw; go_simp
      try simp only [Act.put, List.setIfInBounds_toArray, List.set_cons_zero, List.set_cons_succ, List.getElem_toArray, List.getElem_cons_zero, List.getElem_cons_succ]
      refine wpAnyH_take (i := 7) (v := .int .i64 (q : Int)) rfl (by kernel_rfl) (by kernel_rfl) (by kernel_rfl) (fun _ _ _ h => h) (Or.inl ⟨by rfl, ?_⟩) (by assumption) ?_
      · intro wx hSw; obtain ⟨hcS, hfS⟩ := bcellN hSw; go_simp
      try simp only [Act.put, List.setIfInBounds_toArray, List.set_cons_zero, List.set_cons_succ, List.getElem_toArray, List.getElem_cons_zero, List.getElem_cons_succ]
      refine wpAnyH_take (i := 1) (v := .int .i64 pn) rfl (by kernel_rfl) (by kernel_rfl) (by kernel_rfl) (fun _ _ _ h => h) (Or.inl ⟨by rfl, ?_⟩) (by assumption) ?_
      · intro wx hSw; obtain ⟨hcS, hfS⟩ := bcellN hSw; go_simp
      try simp only [Act.put, List.setIfInBounds_toArray, List.set_cons_zero, List.set_cons_succ, List.getElem_toArray, List.getElem_cons_zero, List.getElem_cons_succ]
      refine wpAnyH_take (i := 3) (v := .pointer (some ⟨s, 0, none⟩)) rfl (by kernel_rfl) (by kernel_rfl) (by kernel_rfl) (fun _ _ _ h => h) (Or.inl ⟨by rfl, ?_⟩) (by assumption) ?_
      · intro wx hSw; obtain ⟨hcS, hfS⟩ := bcellN hSw; go_simp
      try simp only [Act.put, List.setIfInBounds_toArray, List.set_cons_zero, List.set_cons_succ, List.getElem_toArray, List.getElem_cons_zero, List.getElem_cons_succ]
      refine wpAnyH_take (i := 4) (v := .pointer (some ⟨s, 2, none⟩)) rfl (by kernel_rfl) (by kernel_rfl) (by kernel_rfl) (fun _ _ _ h => h) (Or.inl ⟨by rfl, ?_⟩) (by assumption) ?_
      · intro wx hSw; obtain ⟨hcS, hfS⟩ := bcellN hSw; go_simp
      try simp only [Act.put, List.setIfInBounds_toArray, List.set_cons_zero, List.set_cons_succ, List.getElem_toArray, List.getElem_cons_zero, List.getElem_cons_succ]
      refine wpAnyH_take (i := 5) (v := .pointer (some ⟨s, 7, none⟩)) rfl (by kernel_rfl) (by kernel_rfl) (by kernel_rfl) (fun _ _ _ h => h) (Or.inl ⟨by rfl, ?_⟩) (by assumption) ?_
      · intro wx hSw; obtain ⟨hcS, hfS⟩ := bcellN hSw; go_simp
      try simp only [Act.put, List.setIfInBounds_toArray, List.set_cons_zero, List.set_cons_succ, List.getElem_toArray, List.getElem_cons_zero, List.getElem_cons_succ]
      refine wpAnyH_take (i := 6) (v := .slice (some ⟨gI, 0, none⟩) V.nI kI) rfl (by kernel_rfl) (by kernel_rfl) (by kernel_rfl) (fun _ _ _ h => h) (Or.inl ⟨by rfl, ?_⟩) (by assumption) ?_
      · intro wx hSw; obtain ⟨hcS, hfS⟩ := bcellN hSw; go_simp
      try simp only [Act.put, List.setIfInBounds_toArray, List.set_cons_zero, List.set_cons_succ, List.getElem_toArray, List.getElem_cons_zero, List.getElem_cons_succ]
      refine wpAnyH_take (i := 8) (v := .pointer (some ⟨gI, q, none⟩)) rfl (by kernel_rfl) (by kernel_rfl) (by kernel_rfl) (fun _ _ _ h => h) (Or.inl ⟨by rfl, ?_⟩) (by assumption) ?_
      · intro wx hSw; obtain ⟨hcS, hfS⟩ := bcellN hSw; go_simp
      try simp only [Act.put, List.setIfInBounds_toArray, List.set_cons_zero, List.set_cons_succ, List.getElem_toArray, List.getElem_cons_zero, List.getElem_cons_succ]
      refine wpAnyH_take (i := 9) (v := .int .i64 (V.I q)) rfl (by kernel_rfl) (by kernel_rfl) (by kernel_rfl) (fun _ _ _ h => h) (Or.inl ⟨by rfl, ?_⟩) (by assumption) ?_
      · intro wx hSw; obtain ⟨hcS, hfS⟩ := bcellN hSw; go_simp
      try simp only [Act.put, List.setIfInBounds_toArray, List.set_cons_zero, List.set_cons_succ, List.getElem_toArray, List.getElem_cons_zero, List.getElem_cons_succ]
      refine wpAnyH_take (i := 10) (v := .bool false) rfl (by kernel_rfl) (by kernel_rfl) (by kernel_rfl) (fun _ _ _ h => h) (Or.inl ⟨by rfl, ?_⟩) (by assumption) ?_
      · intro wx hSw; obtain ⟨hcS, hfS⟩ := bcellN hSw; go_simp
      try simp only [Act.put, List.setIfInBounds_toArray, List.set_cons_zero, List.set_cons_succ, List.getElem_toArray, List.getElem_cons_zero, List.getElem_cons_succ]
      refine wpAnyH_take (i := 11) (v := .bool false) rfl (by kernel_rfl) (by kernel_rfl) (by kernel_rfl) (fun _ _ _ h => h) (Or.inl ⟨by rfl, ?_⟩) (by assumption) ?_
      · intro wx hSw; obtain ⟨hcS, hfS⟩ := bcellN hSw; go_simp
      try simp only [Act.put, List.setIfInBounds_toArray, List.set_cons_zero, List.set_cons_succ, List.getElem_toArray, List.getElem_cons_zero, List.getElem_cons_succ]
      refine wpAnyH_take (i := 12) (v := .pointer (some ⟨s, 0, none⟩)) rfl (by kernel_rfl) (by kernel_rfl) (by kernel_rfl) (fun _ _ _ h => h) (Or.inl ⟨by rfl, ?_⟩) (by assumption) ?_
      · intro wx hSw; obtain ⟨hcS, hfS⟩ := bcellN hSw; go_simp
      try simp only [Act.put, List.setIfInBounds_toArray, List.set_cons_zero, List.set_cons_succ, List.getElem_toArray, List.getElem_cons_zero, List.getElem_cons_succ]
      refine wpAnyH_take (i := 13) (v := .agg #[.int .i64 pn, .int .i64 pk, .int .i64 pi, .int .i64 pa, .int .i64 pm, .int .i64 ps, .int .i64 pl, .int .i64 pc]) rfl (by kernel_rfl) (by kernel_rfl) (by kernel_rfl) (fun _ _ _ h => h) (Or.inl ⟨by rfl, ?_⟩) (by assumption) ?_
      · intro wx hSw; obtain ⟨hcS, hfS⟩ := bcellN hSw; go_simp
      try simp only [Act.put, List.setIfInBounds_toArray, List.set_cons_zero, List.set_cons_succ, List.getElem_toArray, List.getElem_cons_zero, List.getElem_cons_succ]
      refine wpAnyH_ready (rs := [14]) (by kernel_rfl) (by simp) ?_
      refine (AllReadyH.cons rfl (fun K hK => ?_) AllReadyH.nil)
      go_simp
      go_wp2_with fail
      refine (hasRoom_impl c d pn pk pi pa pm ps pl pc s b lo V n M hg hpc hwf _ (S3.out.below hHeld)).mono ?_
      rintro e xr ⟨rfl, hxr⟩
      rw [hroom]
      have hsz_xr := hxr.size
      refine hK.out _ _ (bthenN hHeld (by omega) hxr) (fun hNew => ?_)
      clear hK K hHeld
      have hHeld := hNew
      clear hNew
      try simp only [Act.put, List.setIfInBounds_toArray, List.set_cons_zero, List.set_cons_succ, List.getElem_toArray, List.getElem_cons_zero, List.getElem_cons_succ]
      refine wpAnyH_take (i := 15) (v := .bool false) rfl (by kernel_rfl) (by kernel_rfl) (by kernel_rfl) (fun _ _ _ h => h) (Or.inl ⟨by rfl, ?_⟩) (by assumption) ?_
      · intro wx hSw; obtain ⟨hcS, hfS⟩ := bcellN hSw; go_simp
      try simp only [Act.put, List.setIfInBounds_toArray, List.set_cons_zero, List.set_cons_succ, List.getElem_toArray, List.getElem_cons_zero, List.getElem_cons_succ]
      refine wpAnyH_take (i := 16) (v := .bool false) rfl (by kernel_rfl) (by kernel_rfl) (by kernel_rfl) (fun _ _ _ h => h) (Or.inl ⟨by rfl, ?_⟩) (by assumption) ?_
      · intro wx hSw; obtain ⟨hcS, hfS⟩ := bcellN hSw; go_simp
      try simp only [Act.put, List.setIfInBounds_toArray, List.set_cons_zero, List.set_cons_succ, List.getElem_toArray, List.getElem_cons_zero, List.getElem_cons_succ]
      refine wpAnyH_done (by kernel_rfl) ?_ _
      have ht : takeB c d V M q pn pk pi pa pc = true := by simp [takeB, hroom, hne]
      have SX := S3.out.below hHeld
      have BX : Below w.heap.size w xr := B1.out.trans (hHeld.mono (by have := B1.out.size; omega))
      obtain ⟨zX, hzX⟩ : ∃ z, z = w0.heap.size := ⟨_, rfl⟩
      have hzz : w0.heap.size ≤ xr.heap.size := hHeld.size
      have PX : Bk xr w.heap.size [.int .i64 pn, .int .i64 pk, .int .i64 pi, .int .i64 pa, .int .i64 pm, .int .i64 ps, .int .i64 pl, .int .i64 pc] := P2.out.below hHeld
      clear c7 cq fq c4 f4 c8 hzX yP0 yP1 yP2 yP3 yP4 yP5 yP6 yP7 hlP
      obtain ⟨gI, kI, c7, cq, fq, g1, g2, g3, hset⟩ := SX.ins hq
      obtain ⟨c4, f4, c8, ls, _, lb, lbw, nsb⟩ := SX.at4
      have eJ : gI = gJ := by have := (BX.cell (p := ⟨s, 7, none⟩) hlw).trans HJ.out; rw [c7] at this; simp only [Option.some.injEq, Value.slice.injEq, Addr.mk.injEq, true_and, and_true] at this; exact this.1
      have nPI : ¬ w.heap.size = gI := by omega
      have nIP : ¬ gI = w.heap.size := by omega
      have nPs : ¬ w.heap.size = s := by omega
      have nsP : ¬ s = w.heap.size := by omega
      have hsg : ¬ s = gI := fun e => g3 e.symm
      clear eJ
      have yP0 : xr.cell? ⟨w.heap.size, 0, none⟩ = some (.int .i64 pn) := (PX.2 0 (by simp)).1
      have yP1 : xr.cell? ⟨w.heap.size, 1, none⟩ = some (.int .i64 pk) := (PX.2 1 (by simp)).1
      have yP2 : xr.cell? ⟨w.heap.size, 2, none⟩ = some (.int .i64 pi) := (PX.2 2 (by simp)).1
      have yP3 : xr.cell? ⟨w.heap.size, 3, none⟩ = some (.int .i64 pa) := (PX.2 3 (by simp)).1
      have yP4 : xr.cell? ⟨w.heap.size, 4, none⟩ = some (.int .i64 pm) := (PX.2 4 (by simp)).1
      have yP5 : xr.cell? ⟨w.heap.size, 5, none⟩ = some (.int .i64 ps) := (PX.2 5 (by simp)).1
      have yP6 : xr.cell? ⟨w.heap.size, 6, none⟩ = some (.int .i64 pl) := (PX.2 6 (by simp)).1
      have yP7 : xr.cell? ⟨w.heap.size, 7, none⟩ = some (.int .i64 pc) := (PX.2 7 (by simp)).1
      have lyP := PX.1
      have HSET : Hid (∀ z, Sc (xr.setCell ⟨gI, q, none⟩ (.int .i64 z)) c d s b lo { V with I := updI V.I q z } n M) := hset
      clear hset
      have PX2 : Hid (Bk xr w.heap.size [.int .i64 pn, .int .i64 pk, .int .i64 pi, .int .i64 pa, .int .i64 pm, .int .i64 ps, .int .i64 pl, .int .i64 pc]) := PX
      clear PX
      rcases hk with hk | hk
      · subst hk
        have hmu := ((HSET.out (V.I q + 1)).below ((Below.refl _ _).drew)).put hwf (zp pi pa pm ps pl)
        obtain ⟨wm, hr, hS2, hB2, hG2⟩ := hmu
        have hr2 : (Instr.mapUpdate 90 (.map (some b)) (.int .i64 pi) (.agg #[.int .i64 pi, .int .i64 pa, .int .i64 pm, .int .i64 ps, .int .i64 pl])).run Tryz.prog (xr.setCell ⟨gI, q, none⟩ (.int .i64 (V.I q + 1))).drew = .ok () wm := hr
        have HS2 : Hid (Sc wm c d s b lo { V with I := updI V.I q (V.I q + 1) } (n + 1) (putM M pi (zp pi pa pm ps pl))) := hS2
        have HB2 : Hid (Below lo w wm) := (((BX.mono (by omega)).setCell (by show lo ≤ gI; omega) _).drew.trans hB2)
        clear hS2 hB2 hG2 hr HSET
        go_wp2
        go_region
        go_wp2
        go_ret
        have e1 : V.took q 1 pc = { V with I := updI V.I q (V.I q + 1) } := by simp [CV.took]
        have e2 : tookM M 1 pi pa pm ps pl = putM M pi (zp pi pa pm ps pl) := by simp [tookM]
        exact ⟨by rw [ht] <;> rfl, by rw [(in_yes (pm := pm) (ps := ps) (pl := pl) ht).1, (in_yes (pm := pm) (ps := ps) (pl := pl) ht).2, e1, e2]; exact HS2.out, HB2.out⟩
      · subst hk
        have hne1 : ((2 : Int) == 1) = false := by decide
        have HS2 : Hid (Sc (((xr.setCell ⟨gI, q, none⟩ (.int .i64 (V.I q + 1))).setCell ⟨s, 4, none⟩ (.int .i64 (V.g + pc))).drew) c d s b lo { V with I := updI V.I q (V.I q + 1), g := V.g + pc } (n + 1) M) := (((HSET.out (V.I q + 1)).ground (V.g + pc)).below ((Below.refl _ _).drew)).mono (Nat.le_succ n)
        have HB2 : Hid (Below lo w (((xr.setCell ⟨gI, q, none⟩ (.int .i64 (V.I q + 1))).setCell ⟨s, 4, none⟩ (.int .i64 (V.g + pc))).drew)) := (((BX.mono (by omega)).setCell (by show lo ≤ gI; omega) _).setCell (by show lo ≤ s; omega) _).drew
        clear HSET
        go_wp2
        go_region
        go_wp2
        go_ret
        have e1 : V.took q 2 pc = { V with I := updI V.I q (V.I q + 1), g := V.g + pc } := by simp [CV.took]
        have e2 : tookM M 2 pi pa pm ps pl = M := by simp [tookM]
        exact ⟨by rw [ht] <;> rfl, by rw [(in_yes (pm := pm) (ps := ps) (pl := pl) ht).1, (in_yes (pm := pm) (ps := ps) (pl := pl) ht).2, e1, e2]; exact HS2.out, HB2.out⟩
  · refine wp_region_held_drew (S := fun w' => Below (w0.heap.size) w0 w') (by kernel_rfl) ((Below.refl _ _).drew) ?_
    intro hHeld
    obtain ⟨X0, hX0⟩ : ∃ X, X = w0.drew := ⟨_, rfl⟩
    have hz0 : w0.heap.size ≤ X0.heap.size := by rw [hX0]; exact Nat.le_refl _
    rw [← hX0] at hHeld ⊢
    clear hX0
    refine wpAnyH_take (i := 0) (v := .pointer (some ⟨w.heap.size, 0, none⟩)) rfl (by kernel_rfl) (by kernel_rfl) (by kernel_rfl) (fun _ _ _ h => h) (Or.inl ⟨by rfl, ?_⟩) (by assumption) ?_
    · intro wx hSw; obtain ⟨hcS, hfS⟩ := bcellN hSw; go_simp
    try simp only [Act.put, List.setIfInBounds_toArray, List.set_cons_zero, List.set_cons_succ, List.getElem_toArray, List.getElem_cons_zero]
    refine wpAnyH_take (i := 2) (v := .pointer (some ⟨s, 0, none⟩)) rfl (by kernel_rfl) (by kernel_rfl) (by kernel_rfl) (fun _ _ _ h => h) (Or.inl ⟨by rfl, ?_⟩) (by assumption) ?_
    · intro wx hSw; obtain ⟨hcS, hfS⟩ := bcellN hSw; go_simp
    try simp only [Act.put, List.setIfInBounds_toArray, List.set_cons_zero, List.set_cons_succ, List.getElem_toArray, List.getElem_cons_zero, List.getElem_cons_succ]
    refine wpAnyH_take (i := 7) (v := .int .i64 (q : Int)) rfl (by kernel_rfl) (by kernel_rfl) (by kernel_rfl) (fun _ _ _ h => h) (Or.inl ⟨by rfl, ?_⟩) (by assumption) ?_
    · intro wx hSw; obtain ⟨hcS, hfS⟩ := bcellN hSw; go_simp
    try simp only [Act.put, List.setIfInBounds_toArray, List.set_cons_zero, List.set_cons_succ, List.getElem_toArray, List.getElem_cons_zero, List.getElem_cons_succ]
    refine wpAnyH_take (i := 1) (v := .int .i64 pn) rfl (by kernel_rfl) (by kernel_rfl) (by kernel_rfl) (fun _ _ _ h => h) (Or.inl ⟨by rfl, ?_⟩) (by assumption) ?_
    · intro wx hSw; obtain ⟨hcS, hfS⟩ := bcellN hSw; go_simp
    try simp only [Act.put, List.setIfInBounds_toArray, List.set_cons_zero, List.set_cons_succ, List.getElem_toArray, List.getElem_cons_zero, List.getElem_cons_succ]
    refine wpAnyH_take (i := 3) (v := .pointer (some ⟨s, 0, none⟩)) rfl (by kernel_rfl) (by kernel_rfl) (by kernel_rfl) (fun _ _ _ h => h) (Or.inl ⟨by rfl, ?_⟩) (by assumption) ?_
    · intro wx hSw; obtain ⟨hcS, hfS⟩ := bcellN hSw; go_simp
    try simp only [Act.put, List.setIfInBounds_toArray, List.set_cons_zero, List.set_cons_succ, List.getElem_toArray, List.getElem_cons_zero, List.getElem_cons_succ]
    refine wpAnyH_take (i := 4) (v := .pointer (some ⟨s, 2, none⟩)) rfl (by kernel_rfl) (by kernel_rfl) (by kernel_rfl) (fun _ _ _ h => h) (Or.inl ⟨by rfl, ?_⟩) (by assumption) ?_
    · intro wx hSw; obtain ⟨hcS, hfS⟩ := bcellN hSw; go_simp
    try simp only [Act.put, List.setIfInBounds_toArray, List.set_cons_zero, List.set_cons_succ, List.getElem_toArray, List.getElem_cons_zero, List.getElem_cons_succ]
    refine wpAnyH_take (i := 5) (v := .pointer (some ⟨s, 7, none⟩)) rfl (by kernel_rfl) (by kernel_rfl) (by kernel_rfl) (fun _ _ _ h => h) (Or.inl ⟨by rfl, ?_⟩) (by assumption) ?_
    · intro wx hSw; obtain ⟨hcS, hfS⟩ := bcellN hSw; go_simp
    try simp only [Act.put, List.setIfInBounds_toArray, List.set_cons_zero, List.set_cons_succ, List.getElem_toArray, List.getElem_cons_zero, List.getElem_cons_succ]
    refine wpAnyH_take (i := 6) (v := .slice (some ⟨gI, 0, none⟩) V.nI kI) rfl (by kernel_rfl) (by kernel_rfl) (by kernel_rfl) (fun _ _ _ h => h) (Or.inl ⟨by rfl, ?_⟩) (by assumption) ?_
    · intro wx hSw; obtain ⟨hcS, hfS⟩ := bcellN hSw; go_simp
    try simp only [Act.put, List.setIfInBounds_toArray, List.set_cons_zero, List.set_cons_succ, List.getElem_toArray, List.getElem_cons_zero, List.getElem_cons_succ]
    refine wpAnyH_take (i := 8) (v := .pointer (some ⟨gI, q, none⟩)) rfl (by kernel_rfl) (by kernel_rfl) (by kernel_rfl) (fun _ _ _ h => h) (Or.inl ⟨by rfl, ?_⟩) (by assumption) ?_
    · intro wx hSw; obtain ⟨hcS, hfS⟩ := bcellN hSw; go_simp
    try simp only [Act.put, List.setIfInBounds_toArray, List.set_cons_zero, List.set_cons_succ, List.getElem_toArray, List.getElem_cons_zero, List.getElem_cons_succ]
    refine wpAnyH_take (i := 9) (v := .int .i64 (V.I q)) rfl (by kernel_rfl) (by kernel_rfl) (by kernel_rfl) (fun _ _ _ h => h) (Or.inl ⟨by rfl, ?_⟩) (by assumption) ?_
    · intro wx hSw; obtain ⟨hcS, hfS⟩ := bcellN hSw; go_simp
    try simp only [Act.put, List.setIfInBounds_toArray, List.set_cons_zero, List.set_cons_succ, List.getElem_toArray, List.getElem_cons_zero, List.getElem_cons_succ]
    refine wpAnyH_take (i := 10) (v := .bool true) rfl (by kernel_rfl) (by kernel_rfl) (by kernel_rfl) (fun _ _ _ h => h) (Or.inl ⟨by rfl, ?_⟩) (by assumption) ?_
    · intro wx hSw; obtain ⟨hcS, hfS⟩ := bcellN hSw; go_simp
    try simp only [Act.put, List.setIfInBounds_toArray, List.set_cons_zero, List.set_cons_succ, List.getElem_toArray, List.getElem_cons_zero, List.getElem_cons_succ]
    refine wpAnyH_take (i := 11) (v := .bool true) rfl (by kernel_rfl) (by kernel_rfl) (by kernel_rfl) (fun _ _ _ h => h) (Or.inl ⟨by rfl, ?_⟩) (by assumption) ?_
    · intro wx hSw; obtain ⟨hcS, hfS⟩ := bcellN hSw; go_simp
    try simp only [Act.put, List.setIfInBounds_toArray, List.set_cons_zero, List.set_cons_succ, List.getElem_toArray, List.getElem_cons_zero, List.getElem_cons_succ]
    refine wpAnyH_take (i := 12) (v := undef) rfl (by kernel_rfl) (by kernel_rfl) (by kernel_rfl) (fun _ _ _ h => h) (Or.inr ⟨by rfl, rfl⟩) (by assumption) ?_
    try simp only [Act.put, List.setIfInBounds_toArray, List.set_cons_zero, List.set_cons_succ, List.getElem_toArray, List.getElem_cons_zero, List.getElem_cons_succ]
    refine wpAnyH_take (i := 13) (v := undef) rfl (by kernel_rfl) (by kernel_rfl) (by kernel_rfl) (fun _ _ _ h => h) (Or.inr ⟨by rfl, rfl⟩) (by assumption) ?_
    try simp only [Act.put, List.setIfInBounds_toArray, List.set_cons_zero, List.set_cons_succ, List.getElem_toArray, List.getElem_cons_zero, List.getElem_cons_succ]
    refine wpAnyH_take (i := 14) (v := undef) rfl (by kernel_rfl) (by kernel_rfl) (by kernel_rfl) (fun _ _ _ h => h) (Or.inr ⟨by rfl, rfl⟩) (by assumption) ?_
    try simp only [Act.put, List.setIfInBounds_toArray, List.set_cons_zero, List.set_cons_succ, List.getElem_toArray, List.getElem_cons_zero, List.getElem_cons_succ]
    refine wpAnyH_take (i := 15) (v := undef) rfl (by kernel_rfl) (by kernel_rfl) (by kernel_rfl) (fun _ _ _ h => h) (Or.inr ⟨by rfl, rfl⟩) (by assumption) ?_
    try simp only [Act.put, List.setIfInBounds_toArray, List.set_cons_zero, List.set_cons_succ, List.getElem_toArray, List.getElem_cons_zero, List.getElem_cons_succ]
    refine wpAnyH_take (i := 16) (v := .bool true) rfl (by kernel_rfl) (by kernel_rfl) (by kernel_rfl) (fun _ _ _ h => h) (Or.inl ⟨by rfl, ?_⟩) (by assumption) ?_
    · intro wx hSw; obtain ⟨hcS, hfS⟩ := bcellN hSw; go_simp
    try simp only [Act.put, List.setIfInBounds_toArray, List.set_cons_zero, List.set_cons_succ, List.getElem_toArray, List.getElem_cons_zero, List.getElem_cons_succ]
    refine wpAnyH_done (by kernel_rfl) ?_ _
    go_wp2
    go_ret
    have ht : takeB c d V M q pn pk pi pa pc = false := by simp [takeB, hne]
    exact ⟨by rw [ht] <;> rfl, by rw [(in_no (pm := pm) (ps := ps) (pl := pl) ht).1, (in_no (pm := pm) (ps := ps) (pl := pl) ht).2]; exact (S3.out.below hHeld).mono (Nat.le_succ n), (B1.out.trans (hHeld.mono (by have := B1.out.size; omega))).mono (by omega)⟩

theorem good_rise {c d : Int} {Z : Nat → Nat → Int} {n : Nat} (h : allB c d Z n = true) : ∀ j, j + 1 < n → Z j 0 < Z (j + 1) 0 := fun j hj => by
  have h1 := allB_down n (show j + 2 ≤ n by omega) h
  simp [allB, goodB] at h1
  omega
theorem all_rise {c d : Int} {Z : Nat → Nat → Int} {n : Nat} (h : allB c d Z n = true) (i : Nat) : ∀ j, i < j → j < n → Z i 0 < Z j 0
  | 0, h1, _ => by omega
  | j + 1, h1, h2 => by
    have h3 := good_rise h j h2
    by_cases e : i = j
    · subst e; exact h3
    · have := all_rise h i j (by omega) (by omega)
      omega
theorem cllB_rise {c d : Int} {V : CV} (h : cllB c d V = true) : ∀ i j, i < j → j < V.nW → V.W i 0 < V.W j 0 := by
  simp only [cllB, Bool.and_eq_true] at h
  exact fun i j => all_rise h.2.1 i j
theorem cllB_two {c d : Int} {V : CV} (h : cllB c d V = true) : V.nO = 2 ∧ V.nX = 2 ∧ V.nI = 2 := by
  simp only [cllB, Bool.and_eq_true, beq_iff_eq] at h
  exact ⟨h.2.2.2.1, h.2.2.2.2.1, h.2.2.2.2.2.1⟩
theorem mapW_some {W : Nat → Nat → Int} {z : Int} {m : Nat} : ∀ n, m < n → W m 0 = z → (∀ j, m < j → j < n → ¬ W j 0 = z) → mapW W n z = some (W m)
  | 0, h, _, _ => by omega
  | n + 1, h, hz, hu => by
    by_cases e : m = n
    · subst e; simp [mapW, putM, hz]
    · have h1 : ¬ z = W n 0 := fun e1 => hu n (by omega) (by omega) e1.symm
      simp only [mapW, putM, if_neg h1]
      exact mapW_some n (by omega) hz (fun j h2 h3 => hu j h2 (by omega))
theorem mapW_in {W : Nat → Nat → Int} {z : Int} : ∀ n, (mapW W n z).isSome = true → ∃ m, m < n ∧ W m 0 = z
  | 0, h => by cases h
  | n + 1, h => by
    by_cases e : z = W n 0
    · exact ⟨n, by omega, e.symm⟩
    · simp only [mapW, putM, if_neg e] at h
      obtain ⟨m, h1, h2⟩ := mapW_in n h
      exact ⟨m, by omega, h2⟩
/-- The walkers' numbers. -/
def ids (V : CV) : List Int := (List.range V.nW).map (fun k => V.W k 0)
theorem ids_len {V : CV} : (ids V).length = V.nW := by simp [ids]
theorem ids_asc {c d : Int} {V : CV} (h : cllB c d V = true) : (ids V).Pairwise (· < ·) := by
  have hr := cllB_rise h
  refine List.pairwise_map.2 ((List.pairwise_lt_range (n := V.nW)).imp_of_mem ?_)
  intro i j hi hj hij
  exact hr i j hij (List.mem_range.1 hj)
theorem map_at {c d : Int} {V : CV} (h : cllB c d V = true) (k : Nat) (hk : k < V.nW) : mapW V.W V.nW (V.W k 0) = some (V.W k) :=
  mapW_some V.nW hk rfl (fun j h1 h2 e => by have := cllB_rise h k j h1 h2; omega)
theorem ids_mem {c d : Int} {V : CV} (h : cllB c d V = true) : ∀ z, z ∈ ids V ↔ (mapW V.W V.nW z).isSome = true := fun z => by
  constructor
  · intro hz
    obtain ⟨k, hk, rfl⟩ := List.mem_map.1 hz
    rw [map_at h k (List.mem_range.1 hk)]; rfl
  · intro hz
    obtain ⟨m, h1, rfl⟩ := mapW_in V.nW hz
    exact List.mem_map.2 ⟨m, List.mem_range.2 h1, rfl⟩
theorem ids_at {c d : Int} {V : CV} (h : cllB c d V = true) : ∀ k, k < (ids V).length → V.W k = (mapW V.W V.nW (ids V)[k]!).getD fun _ => 0 := fun k hk => by
  rw [ids_len] at hk
  have e : (ids V)[k]! = V.W k 0 := by simp [ids, hk]
  rw [e, map_at h k hk]; rfl
theorem after_with {V : CV} {q : Nat} {z : Int} : (V.after q z).with V.nW V.W = V.after q z := by
  unfold CV.after
  split <;> rfl
theorem OwnC.low {lo lo' hi : Nat} {w : World} {v : Value} {V : CV} (h : OwnC lo hi w v V) (h0 : lo' ≤ lo) (hh : hi ≤ w.heap.size) : OwnC lo' hi w v V := by
  obtain ⟨vW, vO, vX, vI, gW, gO, gX, gI, sl, xs, e, rW, rO, rX, rI, hd, hx1, hx2⟩ := h
  have sm : ∀ g, Sm w w g := fun g => Sm.refl w g
  refine ⟨vW, vO, vX, vI, gW, gO, gX, gI, sl, xs, e, rW.go h0 (Nat.le_refl _) hh (fun _ _ _ => sm _), ?_, rX.go h0 (Nat.le_refl _) hh (fun _ _ _ => sm _), rI.go h0 (Nat.le_refl _) hh (fun _ _ _ => sm _), hd, hx1, hx2⟩
  rcases rO with r | ⟨co, e1, l1, l2, l3, hc⟩
  · exact .inl r
  · exact .inr ⟨co, e1, by omega, l2, l3, fun k hk => ⟨(hc k hk).1, (hc k hk).2.go h0 (Nat.le_refl _) hh (fun _ _ _ => sm _)⟩⟩

def CV.zero : CV := ⟨0, 0, fun _ _ => 0, 0, 0, fun _ => 0, fun _ _ _ => 0, 0, fun _ => 0, 0, fun _ => 0⟩
/-- What CllAck answers: the cell, and whether something was let go of. -/
def ackR (c d : Int) (V : CV) (side z : Int) : CV × Bool := if cllB c d V = false ∨ sideF c d V.c side = -1 then (CV.zero, false) else (V.after side.toNat z, ackB V side.toNat z)
theorem ackR_no {c d : Int} {V : CV} {side z : Int} (h : cllB c d V = false ∨ sideF c d V.c side = -1) : ackR c d V side z = (CV.zero, false) := if_pos h
theorem ackR_yes {c d : Int} {V : CV} {side z : Int} {q : Nat} (h1 : cllB c d V = true) (h2 : ¬ sideF c d V.c side = -1) (hq : side = (q : Int)) : ackR c d V side z = (V.after q z, ackB V q z) := by
  subst hq
  unfold ackR
  rw [if_neg (fun h => by rcases h with h | h; rw [h1] at h; cases h; exact h2 h)]
  rfl


/-- How many of the first n stand ahead of z. -/
def posW (W : Nat → Nat → Int) (z : Int) : Nat → Nat
  | 0 => 0
  | n + 1 => if W n 0 < z then n + 1 else posW W z n
theorem posW_le (W : Nat → Nat → Int) (z : Int) : ∀ n, posW W z n ≤ n
  | 0 => Nat.le_refl _
  | n + 1 => by unfold posW; split; exact Nat.le_refl _; have := posW_le W z n; omega
theorem posW_ge (W : Nat → Nat → Int) (z : Int) : ∀ n k, posW W z n ≤ k → k < n → ¬ W k 0 < z
  | 0, k, _, h => by omega
  | n + 1, k, h1, h2 => by
    unfold posW at h1
    split at h1
    · omega
    · rename_i hn
      by_cases e : k = n
      · subst e; exact hn
      · exact posW_ge W z n k h1 (by omega)
theorem posW_lt (W : Nat → Nat → Int) (z : Int) : ∀ n, (∀ i j, i < j → j < n → W i 0 < W j 0) → ∀ k, k < posW W z n → W k 0 < z
  | 0, _, k, h => by simp [posW] at h
  | n + 1, ha, k, h => by
    unfold posW at h
    split at h
    · rename_i hn
      by_cases e : k = n
      · subst e; exact hn
      · have := ha k n (by omega) (by omega); omega
    · exact posW_lt W z n (fun i j h1 h2 => ha i j h1 (by omega)) k h
/-- The walkers with one more among them. -/
def insW (W : Nat → Nat → Int) (n : Nat) (z : Int) (Zp : Nat → Int) : Nat → Nat → Int := fun k => if k < posW W z n then W k else if k = posW W z n then Zp else W (k - 1)
theorem ins_rise {W : Nat → Nat → Int} {n : Nat} {z : Int} {Zp : Nat → Int} (ha : ∀ i j, i < j → j < n → W i 0 < W j 0) (hno : ∀ k, k < n → ¬ W k 0 = z) (hz : Zp 0 = z) : ∀ i j, i < j → j < n + 1 → insW W n z Zp i 0 < insW W n z Zp j 0 := by
  intro i j hij hj
  have hle := posW_le W z n
  have lo : ∀ k, k < posW W z n → W k 0 < z := posW_lt W z n ha
  have hi : ∀ k, posW W z n ≤ k → k < n → z < W k 0 := fun k h1 h2 => by have := posW_ge W z n k h1 h2; have := hno k h2; omega
  unfold insW
  by_cases i1 : i < posW W z n
  · rw [if_pos i1]
    by_cases j1 : j < posW W z n
    · rw [if_pos j1]; exact ha i j hij (by omega)
    · rw [if_neg j1]
      by_cases j2 : j = posW W z n
      · rw [if_pos j2, hz]; exact lo i i1
      · rw [if_neg j2]; have := lo i i1; have := hi (j - 1) (by omega) (by omega); omega
  · rw [if_neg i1, if_neg (show ¬ j < posW W z n by omega), if_neg (show ¬ j = posW W z n by omega)]
    by_cases i2 : i = posW W z n
    · rw [if_pos i2, hz]; exact hi (j - 1) (by omega) (by omega)
    · rw [if_neg i2]; exact ha (i - 1) (j - 1) (by omega) (by omega)
def idsI (W : Nat → Nat → Int) (n : Nat) (z : Int) (Zp : Nat → Int) : List Int := (List.range (n + 1)).map (fun k => insW W n z Zp k 0)
theorem idsI_len {W : Nat → Nat → Int} {n : Nat} {z : Int} {Zp : Nat → Int} : (idsI W n z Zp).length = n + 1 := by simp [idsI]
theorem idsI_asc {W : Nat → Nat → Int} {n : Nat} {z : Int} {Zp : Nat → Int} (ha : ∀ i j, i < j → j < n → W i 0 < W j 0) (hno : ∀ k, k < n → ¬ W k 0 = z) (hz : Zp 0 = z) : (idsI W n z Zp).Pairwise (· < ·) := by
  refine List.pairwise_map.2 ((List.pairwise_lt_range (n := n + 1)).imp_of_mem ?_)
  intro i j hi hj hij
  exact ins_rise ha hno hz i j hij (List.mem_range.1 hj)
theorem ins_map {c d : Int} {V : CV} (h : cllB c d V = true) {z : Int} {Zp : Nat → Int} (hno : ∀ k, k < V.nW → ¬ V.W k 0 = z) (hz : Zp 0 = z) (k : Nat) (hk : k < V.nW + 1) : putM (mapW V.W V.nW) z Zp (insW V.W V.nW z Zp k 0) = some (insW V.W V.nW z Zp k) := by
  have hle := posW_le V.W z V.nW
  unfold insW putM
  by_cases k1 : k < posW V.W z V.nW
  · simp only [if_pos k1]; rw [if_neg (hno k (by omega)), map_at h k (by omega)]
  · simp only [if_neg k1]
    by_cases k2 : k = posW V.W z V.nW
    · simp only [if_pos k2]; rw [if_pos hz]
    · simp only [if_neg k2]; rw [if_neg (hno (k - 1) (by omega)), map_at h (k - 1) (by omega)]
theorem idsI_mem {c d : Int} {V : CV} (h : cllB c d V = true) {z : Int} {Zp : Nat → Int} (hno : ∀ k, k < V.nW → ¬ V.W k 0 = z) (hz : Zp 0 = z) : ∀ y, y ∈ idsI V.W V.nW z Zp ↔ (putM (mapW V.W V.nW) z Zp y).isSome = true := fun y => by
  have hle := posW_le V.W z V.nW
  constructor
  · intro hy
    obtain ⟨k, hk, rfl⟩ := List.mem_map.1 hy
    rw [ins_map h hno hz k (List.mem_range.1 hk)]; rfl
  · intro hy
    by_cases e : y = z
    · refine List.mem_map.2 ⟨posW V.W z V.nW, List.mem_range.2 (by omega), ?_⟩
      simp [insW, hz, e]
    · simp only [putM, if_neg e] at hy
      obtain ⟨m, h1, rfl⟩ := mapW_in V.nW hy
      by_cases m1 : m < posW V.W z V.nW
      · exact List.mem_map.2 ⟨m, List.mem_range.2 (by omega), by simp [insW, m1]⟩
      · refine List.mem_map.2 ⟨m + 1, List.mem_range.2 (by omega), ?_⟩
        simp [insW, show ¬ m + 1 < posW V.W z V.nW by omega, show ¬ m + 1 = posW V.W z V.nW by omega]
theorem idsI_at {c d : Int} {V : CV} (h : cllB c d V = true) {z : Int} {Zp : Nat → Int} (hno : ∀ k, k < V.nW → ¬ V.W k 0 = z) (hz : Zp 0 = z) : ∀ k, k < (idsI V.W V.nW z Zp).length → insW V.W V.nW z Zp k = (putM (mapW V.W V.nW) z Zp (idsI V.W V.nW z Zp)[k]!).getD fun _ => 0 := fun k hk => by
  rw [idsI_len] at hk
  have e : (idsI V.W V.nW z Zp)[k]! = insW V.W V.nW z Zp k 0 := by simp [idsI, hk]
  rw [e, ins_map h hno hz k hk]; rfl

/-- The cell behind a parcel that came in, or as it was. -/
def CV.inn (c d : Int) (V : CV) (q : Nat) (pn pk pi pa pm ps pl pc : Int) : CV :=
  if takeB c d V (mapW V.W V.nW) q pn pk pi pa pc then (if pk = 1 then (V.took q pk pc).with (V.nW + 1) (insW V.W V.nW pi (zp pi pa pm ps pl)) else V.took q pk pc) else V
def inR (c d : Int) (V : CV) (side pn pk pi pa pm ps pl pc : Int) : CV × Bool :=
  if cllB c d V = false ∨ pclB c d pn pk pi pa pm ps pl pc = false ∨ sideF c d V.c side = -1 then (CV.zero, false) else (CV.inn c d V side.toNat pn pk pi pa pm ps pl pc, takeB c d V (mapW V.W V.nW) side.toNat pn pk pi pa pc)
theorem pcl_kind {c d pn pk i a n s l pc : Int} (h : pclB c d pn pk i a n s l pc = true) : (pk = 1 ∨ pk = 2) ∧ (0 ≤ pc ∧ pc ≤ 900) := by
  simp only [pclB, Bool.and_eq_true] at h
  obtain ⟨_, _, h⟩ := h
  split at h
  · rename_i e
    simp only [Bool.and_eq_true, beq_iff_eq] at h
    exact ⟨.inl e, by omega⟩
  · simp only [Bool.and_eq_true, beq_iff_eq, inB_true] at h
    exact ⟨.inr h.1, by omega⟩

end Go.Proofs.YtjmjffhommlbnaaGreat
