/- takeMap of the program; conditions: those typed. -/
import Derived.Test.YtlmoeacpkkkkcaaGreatDoorTF
namespace Go.Proofs.YtlmoeacpkkkkcaaGreatDoor
open Go.RowKit Go.Deep
set_option linter.unusedVariables false
set_option maxRecDepth 20000
/-- Two numbers that lie in a row. -/
def TwoI (w : World) (g : Nat) (a b : Int) : Prop := g < w.heap.size ∧ w.cell? ⟨g, 0, none⟩ = some (.int .i64 a) ∧ w.cell? ⟨g, 1, none⟩ = some (.int .i64 b)
theorem TwoI.below {w w' : World} {g : Nat} {a b : Int} (h : TwoI w g a b) (hb : Below w.heap.size w w') : TwoI w' g a b := ⟨Nat.lt_of_lt_of_le h.1 hb.size, (hb.cell (p := ⟨g, 0, none⟩) h.1).trans h.2.1, (hb.cell (p := ⟨g, 1, none⟩) h.1).trans h.2.2⟩
theorem behind2 (line word : ByteArray) (hl : line.size ≤ 1048576) (w : World) (hE : Env w) :
    Calls Tryz.prog 40 #[.string line, .string word, .int .i64 2] w fun e w' => ((behindOf line word 2 = [] ∧ e = .returned (.slice none 0 0)) ∨ ∃ g cap a b, behindOf line word 2 = [a, b] ∧ e = .returned (.slice (some ⟨g, 0, none⟩) 2 cap) ∧ w.heap.size ≤ g ∧ TwoI w' g a b) ∧ Below w.heap.size w w' := by
  refine (behind line word 2 hl (by omega) (by omega) w hE).mono ?_
  rintro e w' ⟨h | ⟨g, cap, h1, rfl, ho⟩, hb⟩
  · exact ⟨.inl h, hb⟩
  · obtain ⟨a, b, ez⟩ := len_two h1
    have c0 := int_cell ho 0 a (by rw [ez]; rfl)
    refine ⟨.inr ⟨g, cap, a, b, ez, rfl, ?_, World.block_lt_of_cell? w' _ c0, c0, int_cell ho 1 b (by rw [ez]; rfl)⟩, hb⟩
    rcases ho.2 with ⟨h, _⟩ | ⟨g', cap', cur, e, hg, _⟩
    · cases h
    · injection e with e1; injection e1 with e1; injection e1 with e1; omega
set_option maxHeartbeats 2000000 in
theorem takeMap (o : Nat) (c d s0 : Int) (sl : Value) (line : ByteArray) (hl : line.size ≤ 1048576) (w : World) (hE : Env w) (hO : Bk w o [.int .i64 c, .int .i64 d, .int .i64 s0, sl]) :
    Calls Tryz.prog 34 #[.pointer (some ⟨o, 0, none⟩), .string line] w fun e w' => ((behindOf line ⟨#[109, 97, 112]⟩ 2 = [] ∧ e = .returned (.bool false) ∧ Bk w' o [.int .i64 c, .int .i64 d, .int .i64 s0, sl]) ∨ ∃ a b, behindOf line ⟨#[109, 97, 112]⟩ 2 = [a, b] ∧ e = .returned (.bool (okB a b)) ∧ Bk w' o [.int .i64 a, .int .i64 b, .int .i64 s0, sl]) ∧ w.grownBy w' (some o) := by
  have HE := hid hE
  have HO := hid hO
  clear hE hO
  go_enter Tryz.func34, Tryz.ntmps34
  go_wp2_with fail
  refine (behind2 line ⟨#[109, 97, 112]⟩ hl _ HE.out).mono ?_
  rintro e w1 ⟨h, hb⟩
  have HO1 := hid (HO.out.below hb)
  have HG := hid (grown_below (r := some o) hb)
  have hol : o < w.heap.size := HO.out.1
  rcases h with ⟨h, rfl⟩ | ⟨g, cap, a, b, h, rfl, hg, h2⟩
  · have b0 : ∀ w : World, (binOp BinOp.eql 90 (.slice none 0 0) (.slice none 0 0)).run Tryz.prog w = .ok (.bool true) w := fun _ => by kernel_rfl
    clear hb
    go_wp2
    go_ret
    exact ⟨.inl ⟨h, rfl, HO1.out⟩, HG.out⟩
  · have b1 : ∀ w : World, (binOp BinOp.eql 90 (.slice (some ⟨g, 0, none⟩) 2 cap) (.slice none 0 0)).run Tryz.prog w = .ok (.bool false) w := fun _ => by kernel_rfl
    have H := hid h
    have hO := HO1.out
    have hsz := hb.size
    clear hb h
    go_upto_region 4 with fail
    have hGx : w1.grownBy w1 (some o) := World.grownBy.refl _ _
    refine wp_region_held_drew (S := fun w' => Below (o) w1 w') (by kernel_rfl) ((Below.refl _ _).drew) ?_
    intro hHeld
    obtain ⟨X0, hX0⟩ : ∃ X, X = w1.drew := ⟨_, rfl⟩
    have hz0 : w1.heap.size ≤ X0.heap.size := by rw [hX0]; exact Nat.le_refl _
    rw [← hX0] at hHeld ⊢
    replace hO := hO.below (show Below w1.heap.size w1 X0 by rw [hX0]; exact (Below.refl _ _).drew)
    replace h2 := h2.below (show Below w1.heap.size w1 X0 by rw [hX0]; exact (Below.refl _ _).drew)
    replace hGx := hGx.trans (grown_below (show Below w1.heap.size w1 X0 by rw [hX0]; exact (Below.refl _ _).drew))
    clear hX0
    refine wpAnyH_take (i := 0) (v := .pointer (some ⟨o, 0, none⟩)) rfl (by kernel_rfl) (by kernel_rfl) (by kernel_rfl) (fun _ _ _ h => h) (Or.inl ⟨by rfl, ?_⟩) (by assumption) ?_
    · intro wx hSw; obtain ⟨hcS, hfS⟩ := bcellN hSw; go_simp
    try simp only [Act.put, List.setIfInBounds_toArray, List.set_cons_zero, List.set_cons_succ, List.getElem_toArray, List.getElem_cons_zero]
    refine wpAnyH_take (i := 1) (v := .slice (some ⟨g, 0, none⟩) 2 cap) rfl (by kernel_rfl) (by kernel_rfl) (by kernel_rfl) (fun _ _ _ h => h) (Or.inl ⟨by rfl, ?_⟩) (by assumption) ?_
    · intro wx hSw; obtain ⟨hcS, hfS⟩ := bcellN hSw; go_simp
    try simp only [Act.put, List.setIfInBounds_toArray, List.set_cons_zero, List.set_cons_succ, List.getElem_toArray, List.getElem_cons_zero, List.getElem_cons_succ]
    refine wpAnyH_take (i := 4) (v := .slice (some ⟨g, 0, none⟩) 2 cap) rfl (by kernel_rfl) (by kernel_rfl) (by kernel_rfl) (fun _ _ _ h => h) (Or.inl ⟨by rfl, ?_⟩) (by assumption) ?_
    · intro wx hSw; obtain ⟨hcS, hfS⟩ := bcellN hSw; go_simp
    try simp only [Act.put, List.setIfInBounds_toArray, List.set_cons_zero, List.set_cons_succ, List.getElem_toArray, List.getElem_cons_zero, List.getElem_cons_succ]
    refine wpAnyH_take (i := 2) (v := .pointer (some ⟨g, 0, none⟩)) rfl (by kernel_rfl) (by kernel_rfl) (by kernel_rfl) (fun _ _ _ h => h) (Or.inl ⟨by rfl, ?_⟩) (by assumption) ?_
    · intro wx hSw; obtain ⟨hcS, hfS⟩ := bcellN hSw; go_simp
    try simp only [Act.put, List.setIfInBounds_toArray, List.set_cons_zero, List.set_cons_succ, List.getElem_toArray, List.getElem_cons_zero, List.getElem_cons_succ]
    refine wpAnyH_take (i := 5) (v := .pointer (some ⟨g, 1, none⟩)) rfl (by kernel_rfl) (by kernel_rfl) (by kernel_rfl) (fun _ _ _ h => h) (Or.inl ⟨by rfl, ?_⟩) (by assumption) ?_
    · intro wx hSw; obtain ⟨hcS, hfS⟩ := bcellN hSw; go_simp
    try simp only [Act.put, List.setIfInBounds_toArray, List.set_cons_zero, List.set_cons_succ, List.getElem_toArray, List.getElem_cons_zero, List.getElem_cons_succ]
    refine wpAnyH_ready (rs := [3, 6]) (by kernel_rfl) (by simp) ?_
    refine (AllReadyH.cons rfl (fun K hK => ?_) (AllReadyH.cons rfl (fun K hK => ?_) AllReadyH.nil))
    · have yq := h2.2.1
      go_simp
      clear yq
      refine hK.out _ _ hHeld (fun hNew => ?_)
      clear hK K hHeld
      have hHeld := hNew
      clear hNew
      try simp only [Act.put, List.setIfInBounds_toArray, List.set_cons_zero, List.set_cons_succ, List.getElem_toArray, List.getElem_cons_zero, List.getElem_cons_succ]
      refine wpAnyH_ready (rs := [6]) (by kernel_rfl) (by simp) ?_
      refine (AllReadyH.cons rfl (fun K hK => ?_) AllReadyH.nil)
      have yq := h2.2.2
      go_simp
      clear yq
      refine hK.out _ _ hHeld (fun hNew => ?_)
      clear hK K hHeld
      have hHeld := hNew
      clear hNew
      try simp only [Act.put, List.setIfInBounds_toArray, List.set_cons_zero, List.set_cons_succ, List.getElem_toArray, List.getElem_cons_zero, List.getElem_cons_succ]
      refine wpAnyH_take (i := 7) (v := .agg #[.int .i64 a, .int .i64 b]) rfl (by kernel_rfl) (by kernel_rfl) (by kernel_rfl) (fun _ _ _ h => h) (Or.inl ⟨by rfl, ?_⟩) (by assumption) ?_
      · intro wx hSw; obtain ⟨hcS, hfS⟩ := bcellN hSw; go_simp
      try simp only [Act.put, List.setIfInBounds_toArray, List.set_cons_zero, List.set_cons_succ, List.getElem_toArray, List.getElem_cons_zero, List.getElem_cons_succ]
      refine wpAnyH_take (i := 8) (v := .pointer (some ⟨o, 0, none⟩)) rfl (by kernel_rfl) (by kernel_rfl) (by kernel_rfl) (fun _ _ _ h => h) (Or.inl ⟨by rfl, ?_⟩) (by assumption) ?_
      · intro wx hSw; obtain ⟨hcS, hfS⟩ := bcellN hSw; go_simp
      try simp only [Act.put, List.setIfInBounds_toArray, List.set_cons_zero, List.set_cons_succ, List.getElem_toArray, List.getElem_cons_zero, List.getElem_cons_succ]
      refine wpAnyH_take (i := 9) (v := .pointer (some ⟨o, 0, none⟩)) rfl (by kernel_rfl) (by kernel_rfl) (by kernel_rfl) (fun _ _ _ h => h) (Or.inl ⟨by rfl, ?_⟩) (by assumption) ?_
      · intro wx hSw; obtain ⟨hcS, hfS⟩ := bcellN hSw; go_simp
      try simp only [Act.put, List.setIfInBounds_toArray, List.set_cons_zero, List.set_cons_succ, List.getElem_toArray, List.getElem_cons_zero, List.getElem_cons_succ]
      refine wpAnyH_ready (rs := [10]) (by kernel_rfl) (by simp) ?_
      refine (AllReadyH.cons rfl (fun K hK => ?_) AllReadyH.nil)
      have r0 := (hO.2 0 (by simp)).1
      have f0 := (hO.2 0 (by simp)).2
      have r1 := (hO.2 1 (by simp)).1
      have f1 := (hO.2 1 (by simp)).2
      simp only [List.getD, List.getElem?_cons_zero, List.getElem?_cons_succ, Option.getD_some] at r0 r1
      go_simp
      obtain ⟨XS, eS⟩ : ∃ X, X = (X0.setCell ⟨o, 0, none⟩ (.int .i64 a)).setCell ⟨o, 1, none⟩ (.int .i64 b) := ⟨_, rfl⟩
      rw [← eS]
      have hB6 : Below o w1 XS := by rw [eS]; exact Below.setCell (Below.setCell hHeld (Nat.le_refl _) _) (Nat.le_refl _) _
      have hO6 : Bk XS o [.int .i64 a, .int .i64 b, .int .i64 s0, sl] := by rw [eS]; exact Bk.set (j := 1) (Bk.set (j := 0) hO (by simp)) (by simp)
      have hG6 : X0.grownBy XS (some o) := by rw [eS]; exact (set_grown X0 o 0 _).1.trans (set_grown _ o 1 _).1
      clear eS r0 f0 r1 f1
      refine hK.out _ _ hB6 (fun hNew => ?_)
      clear hK K hHeld
      have hHeld := hNew
      clear hNew
      refine wpAnyH_done (by kernel_rfl) ?_ _
      have HO6 := hid hO6
      have HG6 := hid ((HG.out.trans hGx).trans hG6)
      have q0 := (hO6.2 0 (by simp)).1
      have q1 := (hO6.2 1 (by simp)).1
      simp only [List.getD, List.getElem?_cons_zero, List.getElem?_cons_succ, Option.getD_some] at q0 q1
      clear hO6 hG6 hO h2 hGx
      go_wp2_with fail
      refine (ok_impl a b _).mono ?_
      rintro e w3 ⟨rfl, hb⟩
      go_wp2
      go_ret
      exact ⟨.inr ⟨a, b, H.out, rfl, HO6.out.below hb⟩, HG6.out.trans (grown_below hb)⟩
    · have yq := h2.2.2
      go_simp
      clear yq
      refine hK.out _ _ hHeld (fun hNew => ?_)
      clear hK K hHeld
      have hHeld := hNew
      clear hNew
      try simp only [Act.put, List.setIfInBounds_toArray, List.set_cons_zero, List.set_cons_succ, List.getElem_toArray, List.getElem_cons_zero, List.getElem_cons_succ]
      refine wpAnyH_ready (rs := [3]) (by kernel_rfl) (by simp) ?_
      refine (AllReadyH.cons rfl (fun K hK => ?_) AllReadyH.nil)
      have yq := h2.2.1
      go_simp
      clear yq
      refine hK.out _ _ hHeld (fun hNew => ?_)
      clear hK K hHeld
      have hHeld := hNew
      clear hNew
      try simp only [Act.put, List.setIfInBounds_toArray, List.set_cons_zero, List.set_cons_succ, List.getElem_toArray, List.getElem_cons_zero, List.getElem_cons_succ]
      refine wpAnyH_take (i := 7) (v := .agg #[.int .i64 a, .int .i64 b]) rfl (by kernel_rfl) (by kernel_rfl) (by kernel_rfl) (fun _ _ _ h => h) (Or.inl ⟨by rfl, ?_⟩) (by assumption) ?_
      · intro wx hSw; obtain ⟨hcS, hfS⟩ := bcellN hSw; go_simp
      try simp only [Act.put, List.setIfInBounds_toArray, List.set_cons_zero, List.set_cons_succ, List.getElem_toArray, List.getElem_cons_zero, List.getElem_cons_succ]
      refine wpAnyH_take (i := 8) (v := .pointer (some ⟨o, 0, none⟩)) rfl (by kernel_rfl) (by kernel_rfl) (by kernel_rfl) (fun _ _ _ h => h) (Or.inl ⟨by rfl, ?_⟩) (by assumption) ?_
      · intro wx hSw; obtain ⟨hcS, hfS⟩ := bcellN hSw; go_simp
      try simp only [Act.put, List.setIfInBounds_toArray, List.set_cons_zero, List.set_cons_succ, List.getElem_toArray, List.getElem_cons_zero, List.getElem_cons_succ]
      refine wpAnyH_take (i := 9) (v := .pointer (some ⟨o, 0, none⟩)) rfl (by kernel_rfl) (by kernel_rfl) (by kernel_rfl) (fun _ _ _ h => h) (Or.inl ⟨by rfl, ?_⟩) (by assumption) ?_
      · intro wx hSw; obtain ⟨hcS, hfS⟩ := bcellN hSw; go_simp
      try simp only [Act.put, List.setIfInBounds_toArray, List.set_cons_zero, List.set_cons_succ, List.getElem_toArray, List.getElem_cons_zero, List.getElem_cons_succ]
      refine wpAnyH_ready (rs := [10]) (by kernel_rfl) (by simp) ?_
      refine (AllReadyH.cons rfl (fun K hK => ?_) AllReadyH.nil)
      have r0 := (hO.2 0 (by simp)).1
      have f0 := (hO.2 0 (by simp)).2
      have r1 := (hO.2 1 (by simp)).1
      have f1 := (hO.2 1 (by simp)).2
      simp only [List.getD, List.getElem?_cons_zero, List.getElem?_cons_succ, Option.getD_some] at r0 r1
      go_simp
      obtain ⟨XS, eS⟩ : ∃ X, X = (X0.setCell ⟨o, 0, none⟩ (.int .i64 a)).setCell ⟨o, 1, none⟩ (.int .i64 b) := ⟨_, rfl⟩
      rw [← eS]
      have hB6 : Below o w1 XS := by rw [eS]; exact Below.setCell (Below.setCell hHeld (Nat.le_refl _) _) (Nat.le_refl _) _
      have hO6 : Bk XS o [.int .i64 a, .int .i64 b, .int .i64 s0, sl] := by rw [eS]; exact Bk.set (j := 1) (Bk.set (j := 0) hO (by simp)) (by simp)
      have hG6 : X0.grownBy XS (some o) := by rw [eS]; exact (set_grown X0 o 0 _).1.trans (set_grown _ o 1 _).1
      clear eS r0 f0 r1 f1
      refine hK.out _ _ hB6 (fun hNew => ?_)
      clear hK K hHeld
      have hHeld := hNew
      clear hNew
      refine wpAnyH_done (by kernel_rfl) ?_ _
      have HO6 := hid hO6
      have HG6 := hid ((HG.out.trans hGx).trans hG6)
      have q0 := (hO6.2 0 (by simp)).1
      have q1 := (hO6.2 1 (by simp)).1
      simp only [List.getD, List.getElem?_cons_zero, List.getElem?_cons_succ, Option.getD_some] at q0 q1
      clear hO6 hG6 hO h2 hGx
      go_wp2_with fail
      refine (ok_impl a b _).mono ?_
      rintro e w3 ⟨rfl, hb⟩
      go_wp2
      go_ret
      exact ⟨.inr ⟨a, b, H.out, rfl, HO6.out.below hb⟩, HG6.out.trans (grown_below hb)⟩
end Go.Proofs.YtlmoeacpkkkkcaaGreatDoor
