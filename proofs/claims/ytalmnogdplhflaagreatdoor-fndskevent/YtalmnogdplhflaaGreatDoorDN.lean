/- numberEvent of the program, where it says yes; conditions: those typed. -/
import Derived.Test.YtalmnogdplhflaaGreatDoorDC
import Derived.Deep.DeepCutAuto
import Derived.Deep.MidRow
namespace Go.Proofs.YtalmnogdplhflaaGreatDoor
open Go.RowKit Go.Deep
set_option linter.unusedVariables false
set_option maxRecDepth 20000
theorem Bk.range {W : World} {b : Nat} {l : List Value} (h : Bk W b l) : W.rangeAt b 0 l := by
  intro j v hv
  obtain ⟨hj, rfl⟩ := List.getElem?_eq_some_iff.1 hv
  rw [Nat.zero_add]
  have g := (h.2 j hj).1
  rw [g, List.getD_eq_getElem?_getD, hv]; rfl
theorem put_cells (b : Nat) : ∀ (l : List Value) (k : Nat) (W : World), W.setCells b k l = putL b l k W
  | [], _, _ => rfl
  | v :: l, k, W => by rw [World.setCells, putL, put_cells b l]
def load23 (v : Value) : Sem Value := Instr.loadAt 25 v
theorem load23_eq (v : Value) : Instr.loadAt 25 v = load23 v := rfl
def store23 (p v : Value) : Sem Unit := Instr.storeAt 25 p v
theorem store23_eq (p v : Value) : Instr.storeAt 25 p v = store23 p v := rfl
theorem load23_bk {w : World} {b : Nat} {l : List Value} (h : Bk w b l) (hl : l.length = 5) : (load23 (.pointer (some ⟨b, 0, none⟩))).run Tryz.prog w = .ok (.agg l.toArray) w :=
  run_loadAt_mid w b 0 25 l _ (Bk.range h) Tryz.underlying25 rfl (by rw [hl]; kernel_rfl)
theorem store23_bk {w : World} {b : Nat} {l' : List Value} (h : Bk w b l') (hl : l'.length = 5) (cells : Array Value) (hs : cells.size = 5) (h1 : cells.all (·.oneCell') = true) :
    (store23 (.pointer (some ⟨b, 0, none⟩)) (.agg cells)).run Tryz.prog w = .ok () (putL b cells.toList 0 w) := by
  rw [← put_cells]
  refine run_storeAt_mid w b 0 25 cells (fun j hj => ?_) (by rw [hs]; kernel_rfl) h1
  rw [Nat.zero_add]
  have g := h.2 j (by omega)
  exact ⟨by rw [g.1]; rfl, g.2⟩
theorem results_mid2 {P : Program} {fn : Func} {p q : Tmp} {ty : TypeId} (h : fn.results = #[.cell p ty, .tmp q]) (tmps : Array Value) (w : World) (b : Nat) (cs : List Value) (d : TypeDesc) (v : Value)
    (hp : tmps.getD p undef = .pointer (some ⟨b, 0, none⟩)) (hq : tmps.getD q undef = v) (hc : w.rangeAt b 0 cs) (hu : P.underlying ty = some d) (hd : d.isRow = true) (hi : (P.info? ty).map (·.size) = some cs.length) :
    (results fn tmps).run P w = .ok (.tuple #[.agg cs.toArray, v]) w := by
  have hp' : tmps[p]?.getD undef = .pointer (some ⟨b, 0, none⟩) := by simpa using hp
  have hq' : tmps[q]?.getD undef = v := by simpa using hq
  simp [results, h, hp', hq', asAddr, run_loadVar_mid w b 0 ty cs d hc hu hd hi]
attribute [local go_sem ↓] load23_eq store23_eq
set_option maxHeartbeats 2000000 in
theorem nev_two_1 (a b : Int) (g cap : Nat) (hcap : 2 ≤ cap) (w : World) (h0 : w.cell? ⟨g, 0, none⟩ = some (.int .i64 a)) (h1 : w.cell? ⟨g, 1, none⟩ = some (.int .i64 b)) :
    Calls Tryz.prog 12 #[.int .i64 1, .slice (some ⟨g, 0, none⟩) 2 cap] w fun e w' => e = .returned (.tuple #[.agg #[.int .i64 (1), .int .i64 (a), .int .i64 (0), .int .i64 (b), .int .i64 (0)], .bool true]) ∧ Below w.heap.size w w' := by
  have hc' : (2 : Int) ≤ (cap : Int) := by omega
  have hc1' : ¬ (cap : Int) < 1 := by omega
  have hgl : g < w.heap.size := World.block_lt_of_cell? w _ h0
  have H0 := hid h0
  have H1 := hid h1
  clear h0 h1
  go_enter Tryz.func12, Tryz.ntmps12
  go_upto_region 1 with fail
  obtain ⟨wa, ea⟩ : ∃ y, y = w.alloc (.cells #[.int .i64 0, .int .i64 0, .int .i64 0, .int .i64 0, .int .i64 0] 25) := ⟨_, rfl⟩
  have hRa : Bk wa w.heap.size [.int .i64 0, .int .i64 0, .int .i64 0, .int .i64 0, .int .i64 0] := by rw [ea]; exact bk_new w 25 [.int .i64 0, .int .i64 0, .int .i64 0, .int .i64 0, .int .i64 0]
  have hBa : Below w.heap.size w wa := by rw [ea]; exact (Below.refl _ _).alloc (by simp) _
  have hza : wa.heap.size = w.heap.size + 1 := by rw [ea]; simp
  rw [← ea]
  clear ea
  go_wp2
  obtain ⟨wz, ez⟩ : ∃ y, y = wa.alloc (.cells #[.int .i64 0, .int .i64 0, .int .i64 0, .int .i64 0, .int .i64 0] 25) := ⟨_, rfl⟩
  have hZ : Bk wz (w.heap.size + 1) [.int .i64 0, .int .i64 0, .int .i64 0, .int .i64 0, .int .i64 0] := by rw [ez, ← hza]; exact bk_new wa 25 [.int .i64 0, .int .i64 0, .int .i64 0, .int .i64 0, .int .i64 0]
  have hbz : Below wa.heap.size wa wz := by rw [ez]; exact (Below.refl _ _).alloc (Nat.le_refl _) _
  rw [← ez]
  clear ez
  rw [store23_bk hZ rfl _ rfl (by kernel_rfl)]
  obtain ⟨w0, e0⟩ : ∃ y, y = putL (w.heap.size + 1) ((#[.int .i64 1, .int .i64 0, .int .i64 0, .int .i64 0, .int .i64 0] : Array Value).toList) 0 wz := ⟨_, rfl⟩
  have hE0 : Bk w0 (w.heap.size + 1) [.int .i64 1, .int .i64 0, .int .i64 0, .int .i64 0, .int .i64 0] := by rw [e0]; exact bk_put hZ rfl
  have hb0 : Below wa.heap.size wa w0 := by rw [e0]; exact below_put (by omega) _ _ hbz
  rw [← e0]
  clear e0 hZ hbz
  have hR0 := hRa.below hb0
  have hB0 := bthen hBa hb0
  clear hRa hBa hb0 hza
  have B1 : Hid (Below w.heap.size w w0) := hB0
  have R2 : Hid (Bk w0 w.heap.size [.int .i64 0, .int .i64 0, .int .i64 0, .int .i64 0, .int .i64 0]) := hR0
  have E3 : Hid (Bk w0 (w.heap.size + 1) [.int .i64 1, .int .i64 0, .int .i64 0, .int .i64 0, .int .i64 0]) := hE0
  clear hB0 hR0 hE0
  have hc0 : w0.cell? ⟨g, 0, none⟩ = some (.int .i64 a) := (B1.out.cell (p := ⟨g, 0, none⟩) hgl).trans H0.out
  have hc1 : w0.cell? ⟨g, 1, none⟩ = some (.int .i64 b) := (B1.out.cell (p := ⟨g, 1, none⟩) hgl).trans H1.out
  go_upto_region 13 with fail
  have hR := R2.out
  have hE := E3.out
  have hBB := B1.out
  refine wp_region_held_drew (S := fun w' => Below (w.heap.size) w0 w') (by kernel_rfl) ((Below.refl _ _).drew) ?_
  intro hHeld
  obtain ⟨X0, hX0⟩ : ∃ X, X = w0.drew := ⟨_, rfl⟩
  have hz0 : w0.heap.size ≤ X0.heap.size := by rw [hX0]; exact Nat.le_refl _
  rw [← hX0] at hHeld ⊢
  replace hR := hR.below (show Below w0.heap.size w0 X0 by rw [hX0]; exact (Below.refl _ _).drew)
  replace hE := hE.below (show Below w0.heap.size w0 X0 by rw [hX0]; exact (Below.refl _ _).drew)
  clear hX0
  refine wpAnyH_take (i := 0) (v := .slice (some ⟨g, 0, none⟩) 2 cap) rfl (by kernel_rfl) (by kernel_rfl) (by kernel_rfl) (fun _ _ _ h => h) (Or.inl ⟨by rfl, ?_⟩) (by assumption) ?_
  · intro wx hSw; obtain ⟨hcS, hfS⟩ := bcellN hSw; go_simp
  try simp only [Act.put, List.setIfInBounds_toArray, List.set_cons_zero, List.set_cons_succ, List.getElem_toArray, List.getElem_cons_zero]
  refine wpAnyH_take (i := 3) (v := .slice (some ⟨g, 0, none⟩) 2 cap) rfl (by kernel_rfl) (by kernel_rfl) (by kernel_rfl) (fun _ _ _ h => h) (Or.inl ⟨by rfl, ?_⟩) (by assumption) ?_
  · intro wx hSw; obtain ⟨hcS, hfS⟩ := bcellN hSw; go_simp
  try simp only [Act.put, List.setIfInBounds_toArray, List.set_cons_zero, List.set_cons_succ, List.getElem_toArray, List.getElem_cons_zero, List.getElem_cons_succ]
  refine wpAnyH_take (i := 1) (v := .pointer (some ⟨g, 1, none⟩)) rfl (by kernel_rfl) (by kernel_rfl) (by kernel_rfl) (fun _ _ _ h => h) (Or.inl ⟨by rfl, ?_⟩) (by assumption) ?_
  · intro wx hSw; obtain ⟨hcS, hfS⟩ := bcellN hSw; go_simp
  try simp only [Act.put, List.setIfInBounds_toArray, List.set_cons_zero, List.set_cons_succ, List.getElem_toArray, List.getElem_cons_zero, List.getElem_cons_succ]
  refine wpAnyH_take (i := 4) (v := .slice (some ⟨g, 0, none⟩) 1 cap) rfl (by kernel_rfl) (by kernel_rfl) (by kernel_rfl) (fun _ _ _ h => h) (Or.inl ⟨by rfl, ?_⟩) (by assumption) ?_
  · intro wx hSw; obtain ⟨hcS, hfS⟩ := bcellN hSw; go_simp
  try simp only [Act.put, List.setIfInBounds_toArray, List.set_cons_zero, List.set_cons_succ, List.getElem_toArray, List.getElem_cons_zero, List.getElem_cons_succ]
  refine wpAnyH_take (i := 2) (v := .int .i64 b) rfl (by kernel_rfl) (by kernel_rfl) (by kernel_rfl) (fun _ _ _ h => h) (Or.inl ⟨by rfl, ?_⟩) (by assumption) ?_
  · intro wx hSw; obtain ⟨hcS, hfS⟩ := bcellN hSw; rw [← hcS g 1 hgl] at hc1; go_simp
  try simp only [Act.put, List.setIfInBounds_toArray, List.set_cons_zero, List.set_cons_succ, List.getElem_toArray, List.getElem_cons_zero, List.getElem_cons_succ]
  refine wpAnyH_take (i := 5) (v := .pointer (some ⟨w.heap.size + 1, 3, none⟩)) rfl (by kernel_rfl) (by kernel_rfl) (by kernel_rfl) (fun _ _ _ h => h) (Or.inl ⟨by rfl, ?_⟩) (by assumption) ?_
  · intro wx hSw; obtain ⟨hcS, hfS⟩ := bcellN hSw; go_simp
  try simp only [Act.put, List.setIfInBounds_toArray, List.set_cons_zero, List.set_cons_succ, List.getElem_toArray, List.getElem_cons_zero, List.getElem_cons_succ]
  refine wpAnyH_ready (rs := [6]) (by kernel_rfl) (by simp) ?_
  refine (AllReadyH.cons rfl (fun K hK => ?_) AllReadyH.nil)
  have r3 := (hE.2 3 (by simp)).1
  have f3 := (hE.2 3 (by simp)).2
  simp only [List.getD, List.getElem?_cons_zero, List.getElem?_cons_succ, Option.getD_some] at r3
  go_simp
  obtain ⟨XS, eS⟩ : ∃ X, X = X0.setCell ⟨w.heap.size + 1, 3, none⟩ (.int .i64 b) := ⟨_, rfl⟩
  rw [← eS]
  have hB6 : Below w.heap.size w0 XS := by rw [eS]; exact Below.setCell hHeld (by simp) _
  have hE6 : Bk XS (w.heap.size + 1) [.int .i64 1, .int .i64 0, .int .i64 0, .int .i64 b, .int .i64 0] := by rw [eS]; exact Bk.set (j := 3) hE (by simp)
  have hR6 : Bk XS w.heap.size [.int .i64 0, .int .i64 0, .int .i64 0, .int .i64 0, .int .i64 0] := by rw [eS]; exact Bk.far hR (by omega)
  clear eS r3 f3
  refine hK.out _ _ hB6 (fun hNew => ?_)
  clear hK K hHeld
  have hHeld := hNew
  clear hNew
  try simp only [Act.put, List.setIfInBounds_toArray, List.set_cons_zero, List.set_cons_succ, List.getElem_toArray, List.getElem_cons_zero, List.getElem_cons_succ]
  refine wpAnyH_take (i := 7) (v := .slice (some ⟨g, 0, none⟩) 1 cap) rfl (by kernel_rfl) (by kernel_rfl) (by kernel_rfl) (fun _ _ _ h => h) (Or.inl ⟨by rfl, ?_⟩) (by assumption) ?_
  · intro wx hSw; obtain ⟨hcS, hfS⟩ := bcellN hSw; go_simp
  try simp only [Act.put, List.setIfInBounds_toArray, List.set_cons_zero, List.set_cons_succ, List.getElem_toArray, List.getElem_cons_zero, List.getElem_cons_succ]
  refine wpAnyH_done (by kernel_rfl) ?_ _
  have hBX := hBB.trans hHeld
  clear hR hE
  have HR6 := hid hR6
  have HE6 := hid hE6
  clear hR6 hE6
  have hd0 : XS.cell? ⟨g, 0, none⟩ = some (.int .i64 a) := (hHeld.cell (p := ⟨g, 0, none⟩) hgl).trans hc0
  have yE0 : XS.cell? ⟨(w.heap.size + 1), 0, none⟩ = some (.int .i64 1) := (HE6.out.2 0 (by simp)).1
  have zE0 : XS.frozen? ⟨(w.heap.size + 1), 0, none⟩ = false := (HE6.out.2 0 (by simp)).2
  have yE1 : XS.cell? ⟨(w.heap.size + 1), 1, none⟩ = some (.int .i64 0) := (HE6.out.2 1 (by simp)).1
  have zE1 : XS.frozen? ⟨(w.heap.size + 1), 1, none⟩ = false := (HE6.out.2 1 (by simp)).2
  have yE2 : XS.cell? ⟨(w.heap.size + 1), 2, none⟩ = some (.int .i64 0) := (HE6.out.2 2 (by simp)).1
  have zE2 : XS.frozen? ⟨(w.heap.size + 1), 2, none⟩ = false := (HE6.out.2 2 (by simp)).2
  have yE3 : XS.cell? ⟨(w.heap.size + 1), 3, none⟩ = some (.int .i64 b) := (HE6.out.2 3 (by simp)).1
  have zE3 : XS.frozen? ⟨(w.heap.size + 1), 3, none⟩ = false := (HE6.out.2 3 (by simp)).2
  have yE4 : XS.cell? ⟨(w.heap.size + 1), 4, none⟩ = some (.int .i64 0) := (HE6.out.2 4 (by simp)).1
  have zE4 : XS.frozen? ⟨(w.heap.size + 1), 4, none⟩ = false := (HE6.out.2 4 (by simp)).2
  have hlE : (w.heap.size + 1) < XS.heap.size := HE6.out.1
  clear hc0 hc1
  go_wp2
  obtain ⟨w1, e1⟩ : ∃ y, y = XS.setCell ⟨w.heap.size + 1, 1, none⟩ (.int .i64 a) := ⟨_, rfl⟩
  have E1 : Bk w1 (w.heap.size + 1) [.int .i64 1, .int .i64 a, .int .i64 0, .int .i64 b, .int .i64 0] := by rw [e1]; exact Bk.set (j := 1) (HE6.out) (by simp)
  have R1 : Bk w1 w.heap.size [.int .i64 0, .int .i64 0, .int .i64 0, .int .i64 0, .int .i64 0] := by rw [e1]; exact Bk.far (HR6.out) (by omega)
  have B1 : Below w.heap.size w w1 := by rw [e1]; exact Below.setCell (hBX) (by simp) _
  rw [← e1]
  clear e1
  rw [load23_bk E1 rfl]
  go_wp2
  rw [store23_bk R1 rfl _ rfl (by kernel_rfl)]
  obtain ⟨w9, e9⟩ : ∃ y, y = putL w.heap.size ((#[.int .i64 1, .int .i64 a, .int .i64 0, .int .i64 b, .int .i64 0] : Array Value).toList) 0 w1 := ⟨_, rfl⟩
  have R9 : Bk w9 w.heap.size [.int .i64 1, .int .i64 a, .int .i64 0, .int .i64 b, .int .i64 0] := by rw [e9]; exact bk_put R1 rfl
  have B9 : Below w.heap.size w w9 := by rw [e9]; exact below_put (Nat.le_refl _) _ _ B1
  rw [← e9]
  clear e9
  go_wp2
  have hr := fun tmps hp hq => results_mid2 (P := Tryz.prog) (fn := Tryz.f12) Tryz.results12 tmps w9 w.heap.size [.int .i64 1, .int .i64 a, .int .i64 0, .int .i64 b, .int .i64 0] _ (.bool true) hp hq (Bk.range R9) Tryz.underlying25 rfl (by kernel_rfl)
  exact bodyPost_ret (v := .tuple #[.agg #[.int .i64 1, .int .i64 a, .int .i64 0, .int .i64 b, .int .i64 0], .bool true]) (hr _ rfl rfl) rfl ⟨rfl, B9⟩
set_option maxHeartbeats 2000000 in
theorem nev_two_7 (a b : Int) (g cap : Nat) (hcap : 2 ≤ cap) (w : World) (h0 : w.cell? ⟨g, 0, none⟩ = some (.int .i64 a)) (h1 : w.cell? ⟨g, 1, none⟩ = some (.int .i64 b)) :
    Calls Tryz.prog 12 #[.int .i64 7, .slice (some ⟨g, 0, none⟩) 2 cap] w fun e w' => e = .returned (.tuple #[.agg #[.int .i64 (7), .int .i64 (a), .int .i64 (0), .int .i64 (b), .int .i64 (0)], .bool true]) ∧ Below w.heap.size w w' := by
  have hc' : (2 : Int) ≤ (cap : Int) := by omega
  have hc1' : ¬ (cap : Int) < 1 := by omega
  have hgl : g < w.heap.size := World.block_lt_of_cell? w _ h0
  have H0 := hid h0
  have H1 := hid h1
  clear h0 h1
  go_enter Tryz.func12, Tryz.ntmps12
  go_upto_region 1 with fail
  obtain ⟨wa, ea⟩ : ∃ y, y = w.alloc (.cells #[.int .i64 0, .int .i64 0, .int .i64 0, .int .i64 0, .int .i64 0] 25) := ⟨_, rfl⟩
  have hRa : Bk wa w.heap.size [.int .i64 0, .int .i64 0, .int .i64 0, .int .i64 0, .int .i64 0] := by rw [ea]; exact bk_new w 25 [.int .i64 0, .int .i64 0, .int .i64 0, .int .i64 0, .int .i64 0]
  have hBa : Below w.heap.size w wa := by rw [ea]; exact (Below.refl _ _).alloc (by simp) _
  have hza : wa.heap.size = w.heap.size + 1 := by rw [ea]; simp
  rw [← ea]
  clear ea
  go_wp2
  obtain ⟨wz, ez⟩ : ∃ y, y = wa.alloc (.cells #[.int .i64 0, .int .i64 0, .int .i64 0, .int .i64 0, .int .i64 0] 25) := ⟨_, rfl⟩
  have hZ : Bk wz (w.heap.size + 1) [.int .i64 0, .int .i64 0, .int .i64 0, .int .i64 0, .int .i64 0] := by rw [ez, ← hza]; exact bk_new wa 25 [.int .i64 0, .int .i64 0, .int .i64 0, .int .i64 0, .int .i64 0]
  have hbz : Below wa.heap.size wa wz := by rw [ez]; exact (Below.refl _ _).alloc (Nat.le_refl _) _
  rw [← ez]
  clear ez
  rw [store23_bk hZ rfl _ rfl (by kernel_rfl)]
  obtain ⟨w0, e0⟩ : ∃ y, y = putL (w.heap.size + 1) ((#[.int .i64 7, .int .i64 0, .int .i64 0, .int .i64 0, .int .i64 0] : Array Value).toList) 0 wz := ⟨_, rfl⟩
  have hE0 : Bk w0 (w.heap.size + 1) [.int .i64 7, .int .i64 0, .int .i64 0, .int .i64 0, .int .i64 0] := by rw [e0]; exact bk_put hZ rfl
  have hb0 : Below wa.heap.size wa w0 := by rw [e0]; exact below_put (by omega) _ _ hbz
  rw [← e0]
  clear e0 hZ hbz
  have hR0 := hRa.below hb0
  have hB0 := bthen hBa hb0
  clear hRa hBa hb0 hza
  have B1 : Hid (Below w.heap.size w w0) := hB0
  have R2 : Hid (Bk w0 w.heap.size [.int .i64 0, .int .i64 0, .int .i64 0, .int .i64 0, .int .i64 0]) := hR0
  have E3 : Hid (Bk w0 (w.heap.size + 1) [.int .i64 7, .int .i64 0, .int .i64 0, .int .i64 0, .int .i64 0]) := hE0
  clear hB0 hR0 hE0
  have hc0 : w0.cell? ⟨g, 0, none⟩ = some (.int .i64 a) := (B1.out.cell (p := ⟨g, 0, none⟩) hgl).trans H0.out
  have hc1 : w0.cell? ⟨g, 1, none⟩ = some (.int .i64 b) := (B1.out.cell (p := ⟨g, 1, none⟩) hgl).trans H1.out
  go_upto_region 13 with fail
  have hR := R2.out
  have hE := E3.out
  have hBB := B1.out
  refine wp_region_held_drew (S := fun w' => Below (w.heap.size) w0 w') (by kernel_rfl) ((Below.refl _ _).drew) ?_
  intro hHeld
  obtain ⟨X0, hX0⟩ : ∃ X, X = w0.drew := ⟨_, rfl⟩
  have hz0 : w0.heap.size ≤ X0.heap.size := by rw [hX0]; exact Nat.le_refl _
  rw [← hX0] at hHeld ⊢
  replace hR := hR.below (show Below w0.heap.size w0 X0 by rw [hX0]; exact (Below.refl _ _).drew)
  replace hE := hE.below (show Below w0.heap.size w0 X0 by rw [hX0]; exact (Below.refl _ _).drew)
  clear hX0
  refine wpAnyH_take (i := 0) (v := .slice (some ⟨g, 0, none⟩) 2 cap) rfl (by kernel_rfl) (by kernel_rfl) (by kernel_rfl) (fun _ _ _ h => h) (Or.inl ⟨by rfl, ?_⟩) (by assumption) ?_
  · intro wx hSw; obtain ⟨hcS, hfS⟩ := bcellN hSw; go_simp
  try simp only [Act.put, List.setIfInBounds_toArray, List.set_cons_zero, List.set_cons_succ, List.getElem_toArray, List.getElem_cons_zero]
  refine wpAnyH_take (i := 3) (v := .slice (some ⟨g, 0, none⟩) 2 cap) rfl (by kernel_rfl) (by kernel_rfl) (by kernel_rfl) (fun _ _ _ h => h) (Or.inl ⟨by rfl, ?_⟩) (by assumption) ?_
  · intro wx hSw; obtain ⟨hcS, hfS⟩ := bcellN hSw; go_simp
  try simp only [Act.put, List.setIfInBounds_toArray, List.set_cons_zero, List.set_cons_succ, List.getElem_toArray, List.getElem_cons_zero, List.getElem_cons_succ]
  refine wpAnyH_take (i := 1) (v := .pointer (some ⟨g, 1, none⟩)) rfl (by kernel_rfl) (by kernel_rfl) (by kernel_rfl) (fun _ _ _ h => h) (Or.inl ⟨by rfl, ?_⟩) (by assumption) ?_
  · intro wx hSw; obtain ⟨hcS, hfS⟩ := bcellN hSw; go_simp
  try simp only [Act.put, List.setIfInBounds_toArray, List.set_cons_zero, List.set_cons_succ, List.getElem_toArray, List.getElem_cons_zero, List.getElem_cons_succ]
  refine wpAnyH_take (i := 4) (v := .slice (some ⟨g, 0, none⟩) 1 cap) rfl (by kernel_rfl) (by kernel_rfl) (by kernel_rfl) (fun _ _ _ h => h) (Or.inl ⟨by rfl, ?_⟩) (by assumption) ?_
  · intro wx hSw; obtain ⟨hcS, hfS⟩ := bcellN hSw; go_simp
  try simp only [Act.put, List.setIfInBounds_toArray, List.set_cons_zero, List.set_cons_succ, List.getElem_toArray, List.getElem_cons_zero, List.getElem_cons_succ]
  refine wpAnyH_take (i := 2) (v := .int .i64 b) rfl (by kernel_rfl) (by kernel_rfl) (by kernel_rfl) (fun _ _ _ h => h) (Or.inl ⟨by rfl, ?_⟩) (by assumption) ?_
  · intro wx hSw; obtain ⟨hcS, hfS⟩ := bcellN hSw; rw [← hcS g 1 hgl] at hc1; go_simp
  try simp only [Act.put, List.setIfInBounds_toArray, List.set_cons_zero, List.set_cons_succ, List.getElem_toArray, List.getElem_cons_zero, List.getElem_cons_succ]
  refine wpAnyH_take (i := 5) (v := .pointer (some ⟨w.heap.size + 1, 3, none⟩)) rfl (by kernel_rfl) (by kernel_rfl) (by kernel_rfl) (fun _ _ _ h => h) (Or.inl ⟨by rfl, ?_⟩) (by assumption) ?_
  · intro wx hSw; obtain ⟨hcS, hfS⟩ := bcellN hSw; go_simp
  try simp only [Act.put, List.setIfInBounds_toArray, List.set_cons_zero, List.set_cons_succ, List.getElem_toArray, List.getElem_cons_zero, List.getElem_cons_succ]
  refine wpAnyH_ready (rs := [6]) (by kernel_rfl) (by simp) ?_
  refine (AllReadyH.cons rfl (fun K hK => ?_) AllReadyH.nil)
  have r3 := (hE.2 3 (by simp)).1
  have f3 := (hE.2 3 (by simp)).2
  simp only [List.getD, List.getElem?_cons_zero, List.getElem?_cons_succ, Option.getD_some] at r3
  go_simp
  obtain ⟨XS, eS⟩ : ∃ X, X = X0.setCell ⟨w.heap.size + 1, 3, none⟩ (.int .i64 b) := ⟨_, rfl⟩
  rw [← eS]
  have hB6 : Below w.heap.size w0 XS := by rw [eS]; exact Below.setCell hHeld (by simp) _
  have hE6 : Bk XS (w.heap.size + 1) [.int .i64 7, .int .i64 0, .int .i64 0, .int .i64 b, .int .i64 0] := by rw [eS]; exact Bk.set (j := 3) hE (by simp)
  have hR6 : Bk XS w.heap.size [.int .i64 0, .int .i64 0, .int .i64 0, .int .i64 0, .int .i64 0] := by rw [eS]; exact Bk.far hR (by omega)
  clear eS r3 f3
  refine hK.out _ _ hB6 (fun hNew => ?_)
  clear hK K hHeld
  have hHeld := hNew
  clear hNew
  try simp only [Act.put, List.setIfInBounds_toArray, List.set_cons_zero, List.set_cons_succ, List.getElem_toArray, List.getElem_cons_zero, List.getElem_cons_succ]
  refine wpAnyH_take (i := 7) (v := .slice (some ⟨g, 0, none⟩) 1 cap) rfl (by kernel_rfl) (by kernel_rfl) (by kernel_rfl) (fun _ _ _ h => h) (Or.inl ⟨by rfl, ?_⟩) (by assumption) ?_
  · intro wx hSw; obtain ⟨hcS, hfS⟩ := bcellN hSw; go_simp
  try simp only [Act.put, List.setIfInBounds_toArray, List.set_cons_zero, List.set_cons_succ, List.getElem_toArray, List.getElem_cons_zero, List.getElem_cons_succ]
  refine wpAnyH_done (by kernel_rfl) ?_ _
  have hBX := hBB.trans hHeld
  clear hR hE
  have HR6 := hid hR6
  have HE6 := hid hE6
  clear hR6 hE6
  have hd0 : XS.cell? ⟨g, 0, none⟩ = some (.int .i64 a) := (hHeld.cell (p := ⟨g, 0, none⟩) hgl).trans hc0
  have yE0 : XS.cell? ⟨(w.heap.size + 1), 0, none⟩ = some (.int .i64 7) := (HE6.out.2 0 (by simp)).1
  have zE0 : XS.frozen? ⟨(w.heap.size + 1), 0, none⟩ = false := (HE6.out.2 0 (by simp)).2
  have yE1 : XS.cell? ⟨(w.heap.size + 1), 1, none⟩ = some (.int .i64 0) := (HE6.out.2 1 (by simp)).1
  have zE1 : XS.frozen? ⟨(w.heap.size + 1), 1, none⟩ = false := (HE6.out.2 1 (by simp)).2
  have yE2 : XS.cell? ⟨(w.heap.size + 1), 2, none⟩ = some (.int .i64 0) := (HE6.out.2 2 (by simp)).1
  have zE2 : XS.frozen? ⟨(w.heap.size + 1), 2, none⟩ = false := (HE6.out.2 2 (by simp)).2
  have yE3 : XS.cell? ⟨(w.heap.size + 1), 3, none⟩ = some (.int .i64 b) := (HE6.out.2 3 (by simp)).1
  have zE3 : XS.frozen? ⟨(w.heap.size + 1), 3, none⟩ = false := (HE6.out.2 3 (by simp)).2
  have yE4 : XS.cell? ⟨(w.heap.size + 1), 4, none⟩ = some (.int .i64 0) := (HE6.out.2 4 (by simp)).1
  have zE4 : XS.frozen? ⟨(w.heap.size + 1), 4, none⟩ = false := (HE6.out.2 4 (by simp)).2
  have hlE : (w.heap.size + 1) < XS.heap.size := HE6.out.1
  clear hc0 hc1
  go_wp2
  obtain ⟨w1, e1⟩ : ∃ y, y = XS.setCell ⟨w.heap.size + 1, 1, none⟩ (.int .i64 a) := ⟨_, rfl⟩
  have E1 : Bk w1 (w.heap.size + 1) [.int .i64 7, .int .i64 a, .int .i64 0, .int .i64 b, .int .i64 0] := by rw [e1]; exact Bk.set (j := 1) (HE6.out) (by simp)
  have R1 : Bk w1 w.heap.size [.int .i64 0, .int .i64 0, .int .i64 0, .int .i64 0, .int .i64 0] := by rw [e1]; exact Bk.far (HR6.out) (by omega)
  have B1 : Below w.heap.size w w1 := by rw [e1]; exact Below.setCell (hBX) (by simp) _
  rw [← e1]
  clear e1
  rw [load23_bk E1 rfl]
  go_wp2
  rw [store23_bk R1 rfl _ rfl (by kernel_rfl)]
  obtain ⟨w9, e9⟩ : ∃ y, y = putL w.heap.size ((#[.int .i64 7, .int .i64 a, .int .i64 0, .int .i64 b, .int .i64 0] : Array Value).toList) 0 w1 := ⟨_, rfl⟩
  have R9 : Bk w9 w.heap.size [.int .i64 7, .int .i64 a, .int .i64 0, .int .i64 b, .int .i64 0] := by rw [e9]; exact bk_put R1 rfl
  have B9 : Below w.heap.size w w9 := by rw [e9]; exact below_put (Nat.le_refl _) _ _ B1
  rw [← e9]
  clear e9
  go_wp2
  have hr := fun tmps hp hq => results_mid2 (P := Tryz.prog) (fn := Tryz.f12) Tryz.results12 tmps w9 w.heap.size [.int .i64 7, .int .i64 a, .int .i64 0, .int .i64 b, .int .i64 0] _ (.bool true) hp hq (Bk.range R9) Tryz.underlying25 rfl (by kernel_rfl)
  exact bodyPost_ret (v := .tuple #[.agg #[.int .i64 7, .int .i64 a, .int .i64 0, .int .i64 b, .int .i64 0], .bool true]) (hr _ rfl rfl) rfl ⟨rfl, B9⟩
theorem nev_two_yes (k a b : Int) (hk : k = 1 ∨ k = 7) (g cap : Nat) (hcap : 2 ≤ cap) (w : World) (h0 : w.cell? ⟨g, 0, none⟩ = some (.int .i64 a)) (h1 : w.cell? ⟨g, 1, none⟩ = some (.int .i64 b)) :
    Calls Tryz.prog 12 #[.int .i64 k, .slice (some ⟨g, 0, none⟩) 2 cap] w fun e w' => e = .returned (.tuple #[.agg #[.int .i64 (k), .int .i64 (a), .int .i64 (0), .int .i64 (b), .int .i64 (0)], .bool true]) ∧ Below w.heap.size w w' := by
  rcases hk with rfl | rfl
  · exact nev_two_1 a b g cap hcap w h0 h1
  · exact nev_two_7 a b g cap hcap w h0 h1
set_option maxHeartbeats 2000000 in
theorem nev_one_3 (a : Int) (g cap : Nat) (w : World) (h0 : w.cell? ⟨g, 0, none⟩ = some (.int .i64 a)) :
    Calls Tryz.prog 12 #[.int .i64 3, .slice (some ⟨g, 0, none⟩) 1 cap] w fun e w' => e = .returned (.tuple #[.agg #[.int .i64 (3), .int .i64 (a), .int .i64 (0), .int .i64 (0), .int .i64 (0)], .bool true]) ∧ Below w.heap.size w w' := by
  have hgl : g < w.heap.size := World.block_lt_of_cell? w _ h0
  have H0 := hid h0
  clear h0
  go_enter Tryz.func12, Tryz.ntmps12
  go_upto_region 1 with fail
  obtain ⟨wa, ea⟩ : ∃ y, y = w.alloc (.cells #[.int .i64 0, .int .i64 0, .int .i64 0, .int .i64 0, .int .i64 0] 25) := ⟨_, rfl⟩
  have hRa : Bk wa w.heap.size [.int .i64 0, .int .i64 0, .int .i64 0, .int .i64 0, .int .i64 0] := by rw [ea]; exact bk_new w 25 [.int .i64 0, .int .i64 0, .int .i64 0, .int .i64 0, .int .i64 0]
  have hBa : Below w.heap.size w wa := by rw [ea]; exact (Below.refl _ _).alloc (by simp) _
  have hza : wa.heap.size = w.heap.size + 1 := by rw [ea]; simp
  rw [← ea]
  clear ea
  go_wp2
  obtain ⟨wz, ez⟩ : ∃ y, y = wa.alloc (.cells #[.int .i64 0, .int .i64 0, .int .i64 0, .int .i64 0, .int .i64 0] 25) := ⟨_, rfl⟩
  have hZ : Bk wz (w.heap.size + 1) [.int .i64 0, .int .i64 0, .int .i64 0, .int .i64 0, .int .i64 0] := by rw [ez, ← hza]; exact bk_new wa 25 [.int .i64 0, .int .i64 0, .int .i64 0, .int .i64 0, .int .i64 0]
  have hbz : Below wa.heap.size wa wz := by rw [ez]; exact (Below.refl _ _).alloc (Nat.le_refl _) _
  rw [← ez]
  clear ez
  rw [store23_bk hZ rfl _ rfl (by kernel_rfl)]
  obtain ⟨w0, e0⟩ : ∃ y, y = putL (w.heap.size + 1) ((#[.int .i64 3, .int .i64 0, .int .i64 0, .int .i64 0, .int .i64 0] : Array Value).toList) 0 wz := ⟨_, rfl⟩
  have hE0 : Bk w0 (w.heap.size + 1) [.int .i64 3, .int .i64 0, .int .i64 0, .int .i64 0, .int .i64 0] := by rw [e0]; exact bk_put hZ rfl
  have hb0 : Below wa.heap.size wa w0 := by rw [e0]; exact below_put (by omega) _ _ hbz
  rw [← e0]
  clear e0 hZ hbz
  have hR0 := hRa.below hb0
  have hB0 := bthen hBa hb0
  clear hRa hBa hb0 hza
  have B1 : Hid (Below w.heap.size w w0) := hB0
  have R2 : Hid (Bk w0 w.heap.size [.int .i64 0, .int .i64 0, .int .i64 0, .int .i64 0, .int .i64 0]) := hR0
  have E3 : Hid (Bk w0 (w.heap.size + 1) [.int .i64 3, .int .i64 0, .int .i64 0, .int .i64 0, .int .i64 0]) := hE0
  clear hB0 hR0 hE0
  have hc0 : w0.cell? ⟨g, 0, none⟩ = some (.int .i64 a) := (B1.out.cell (p := ⟨g, 0, none⟩) hgl).trans H0.out
  have yE0 : w0.cell? ⟨(w.heap.size + 1), 0, none⟩ = some (.int .i64 3) := (E3.out.2 0 (by simp)).1
  have zE0 : w0.frozen? ⟨(w.heap.size + 1), 0, none⟩ = false := (E3.out.2 0 (by simp)).2
  have yE1 : w0.cell? ⟨(w.heap.size + 1), 1, none⟩ = some (.int .i64 0) := (E3.out.2 1 (by simp)).1
  have zE1 : w0.frozen? ⟨(w.heap.size + 1), 1, none⟩ = false := (E3.out.2 1 (by simp)).2
  have yE2 : w0.cell? ⟨(w.heap.size + 1), 2, none⟩ = some (.int .i64 0) := (E3.out.2 2 (by simp)).1
  have zE2 : w0.frozen? ⟨(w.heap.size + 1), 2, none⟩ = false := (E3.out.2 2 (by simp)).2
  have yE3 : w0.cell? ⟨(w.heap.size + 1), 3, none⟩ = some (.int .i64 0) := (E3.out.2 3 (by simp)).1
  have zE3 : w0.frozen? ⟨(w.heap.size + 1), 3, none⟩ = false := (E3.out.2 3 (by simp)).2
  have yE4 : w0.cell? ⟨(w.heap.size + 1), 4, none⟩ = some (.int .i64 0) := (E3.out.2 4 (by simp)).1
  have zE4 : w0.frozen? ⟨(w.heap.size + 1), 4, none⟩ = false := (E3.out.2 4 (by simp)).2
  have hlE : (w.heap.size + 1) < w0.heap.size := E3.out.1
  go_wp2
  obtain ⟨w1, e1⟩ : ∃ y, y = w0.setCell ⟨w.heap.size + 1, 1, none⟩ (.int .i64 a) := ⟨_, rfl⟩
  have E1 : Bk w1 (w.heap.size + 1) [.int .i64 3, .int .i64 a, .int .i64 0, .int .i64 0, .int .i64 0] := by rw [e1]; exact Bk.set (j := 1) (E3.out) (by simp)
  have R1 : Bk w1 w.heap.size [.int .i64 0, .int .i64 0, .int .i64 0, .int .i64 0, .int .i64 0] := by rw [e1]; exact Bk.far (R2.out) (by omega)
  have B1 : Below w.heap.size w w1 := by rw [e1]; exact Below.setCell (B1.out) (by simp) _
  rw [← e1]
  clear e1
  rw [load23_bk E1 rfl]
  go_wp2
  rw [store23_bk R1 rfl _ rfl (by kernel_rfl)]
  obtain ⟨w9, e9⟩ : ∃ y, y = putL w.heap.size ((#[.int .i64 3, .int .i64 a, .int .i64 0, .int .i64 0, .int .i64 0] : Array Value).toList) 0 w1 := ⟨_, rfl⟩
  have R9 : Bk w9 w.heap.size [.int .i64 3, .int .i64 a, .int .i64 0, .int .i64 0, .int .i64 0] := by rw [e9]; exact bk_put R1 rfl
  have B9 : Below w.heap.size w w9 := by rw [e9]; exact below_put (Nat.le_refl _) _ _ B1
  rw [← e9]
  clear e9
  go_wp2
  have hr := fun tmps hp hq => results_mid2 (P := Tryz.prog) (fn := Tryz.f12) Tryz.results12 tmps w9 w.heap.size [.int .i64 3, .int .i64 a, .int .i64 0, .int .i64 0, .int .i64 0] _ (.bool true) hp hq (Bk.range R9) Tryz.underlying25 rfl (by kernel_rfl)
  exact bodyPost_ret (v := .tuple #[.agg #[.int .i64 3, .int .i64 a, .int .i64 0, .int .i64 0, .int .i64 0], .bool true]) (hr _ rfl rfl) rfl ⟨rfl, B9⟩
set_option maxHeartbeats 2000000 in
theorem nev_one_4 (a : Int) (g cap : Nat) (w : World) (h0 : w.cell? ⟨g, 0, none⟩ = some (.int .i64 a)) :
    Calls Tryz.prog 12 #[.int .i64 4, .slice (some ⟨g, 0, none⟩) 1 cap] w fun e w' => e = .returned (.tuple #[.agg #[.int .i64 (4), .int .i64 (a), .int .i64 (0), .int .i64 (0), .int .i64 (0)], .bool true]) ∧ Below w.heap.size w w' := by
  have hgl : g < w.heap.size := World.block_lt_of_cell? w _ h0
  have H0 := hid h0
  clear h0
  go_enter Tryz.func12, Tryz.ntmps12
  go_upto_region 1 with fail
  obtain ⟨wa, ea⟩ : ∃ y, y = w.alloc (.cells #[.int .i64 0, .int .i64 0, .int .i64 0, .int .i64 0, .int .i64 0] 25) := ⟨_, rfl⟩
  have hRa : Bk wa w.heap.size [.int .i64 0, .int .i64 0, .int .i64 0, .int .i64 0, .int .i64 0] := by rw [ea]; exact bk_new w 25 [.int .i64 0, .int .i64 0, .int .i64 0, .int .i64 0, .int .i64 0]
  have hBa : Below w.heap.size w wa := by rw [ea]; exact (Below.refl _ _).alloc (by simp) _
  have hza : wa.heap.size = w.heap.size + 1 := by rw [ea]; simp
  rw [← ea]
  clear ea
  go_wp2
  obtain ⟨wz, ez⟩ : ∃ y, y = wa.alloc (.cells #[.int .i64 0, .int .i64 0, .int .i64 0, .int .i64 0, .int .i64 0] 25) := ⟨_, rfl⟩
  have hZ : Bk wz (w.heap.size + 1) [.int .i64 0, .int .i64 0, .int .i64 0, .int .i64 0, .int .i64 0] := by rw [ez, ← hza]; exact bk_new wa 25 [.int .i64 0, .int .i64 0, .int .i64 0, .int .i64 0, .int .i64 0]
  have hbz : Below wa.heap.size wa wz := by rw [ez]; exact (Below.refl _ _).alloc (Nat.le_refl _) _
  rw [← ez]
  clear ez
  rw [store23_bk hZ rfl _ rfl (by kernel_rfl)]
  obtain ⟨w0, e0⟩ : ∃ y, y = putL (w.heap.size + 1) ((#[.int .i64 4, .int .i64 0, .int .i64 0, .int .i64 0, .int .i64 0] : Array Value).toList) 0 wz := ⟨_, rfl⟩
  have hE0 : Bk w0 (w.heap.size + 1) [.int .i64 4, .int .i64 0, .int .i64 0, .int .i64 0, .int .i64 0] := by rw [e0]; exact bk_put hZ rfl
  have hb0 : Below wa.heap.size wa w0 := by rw [e0]; exact below_put (by omega) _ _ hbz
  rw [← e0]
  clear e0 hZ hbz
  have hR0 := hRa.below hb0
  have hB0 := bthen hBa hb0
  clear hRa hBa hb0 hza
  have B1 : Hid (Below w.heap.size w w0) := hB0
  have R2 : Hid (Bk w0 w.heap.size [.int .i64 0, .int .i64 0, .int .i64 0, .int .i64 0, .int .i64 0]) := hR0
  have E3 : Hid (Bk w0 (w.heap.size + 1) [.int .i64 4, .int .i64 0, .int .i64 0, .int .i64 0, .int .i64 0]) := hE0
  clear hB0 hR0 hE0
  have hc0 : w0.cell? ⟨g, 0, none⟩ = some (.int .i64 a) := (B1.out.cell (p := ⟨g, 0, none⟩) hgl).trans H0.out
  have yE0 : w0.cell? ⟨(w.heap.size + 1), 0, none⟩ = some (.int .i64 4) := (E3.out.2 0 (by simp)).1
  have zE0 : w0.frozen? ⟨(w.heap.size + 1), 0, none⟩ = false := (E3.out.2 0 (by simp)).2
  have yE1 : w0.cell? ⟨(w.heap.size + 1), 1, none⟩ = some (.int .i64 0) := (E3.out.2 1 (by simp)).1
  have zE1 : w0.frozen? ⟨(w.heap.size + 1), 1, none⟩ = false := (E3.out.2 1 (by simp)).2
  have yE2 : w0.cell? ⟨(w.heap.size + 1), 2, none⟩ = some (.int .i64 0) := (E3.out.2 2 (by simp)).1
  have zE2 : w0.frozen? ⟨(w.heap.size + 1), 2, none⟩ = false := (E3.out.2 2 (by simp)).2
  have yE3 : w0.cell? ⟨(w.heap.size + 1), 3, none⟩ = some (.int .i64 0) := (E3.out.2 3 (by simp)).1
  have zE3 : w0.frozen? ⟨(w.heap.size + 1), 3, none⟩ = false := (E3.out.2 3 (by simp)).2
  have yE4 : w0.cell? ⟨(w.heap.size + 1), 4, none⟩ = some (.int .i64 0) := (E3.out.2 4 (by simp)).1
  have zE4 : w0.frozen? ⟨(w.heap.size + 1), 4, none⟩ = false := (E3.out.2 4 (by simp)).2
  have hlE : (w.heap.size + 1) < w0.heap.size := E3.out.1
  go_wp2
  obtain ⟨w1, e1⟩ : ∃ y, y = w0.setCell ⟨w.heap.size + 1, 1, none⟩ (.int .i64 a) := ⟨_, rfl⟩
  have E1 : Bk w1 (w.heap.size + 1) [.int .i64 4, .int .i64 a, .int .i64 0, .int .i64 0, .int .i64 0] := by rw [e1]; exact Bk.set (j := 1) (E3.out) (by simp)
  have R1 : Bk w1 w.heap.size [.int .i64 0, .int .i64 0, .int .i64 0, .int .i64 0, .int .i64 0] := by rw [e1]; exact Bk.far (R2.out) (by omega)
  have B1 : Below w.heap.size w w1 := by rw [e1]; exact Below.setCell (B1.out) (by simp) _
  rw [← e1]
  clear e1
  rw [load23_bk E1 rfl]
  go_wp2
  rw [store23_bk R1 rfl _ rfl (by kernel_rfl)]
  obtain ⟨w9, e9⟩ : ∃ y, y = putL w.heap.size ((#[.int .i64 4, .int .i64 a, .int .i64 0, .int .i64 0, .int .i64 0] : Array Value).toList) 0 w1 := ⟨_, rfl⟩
  have R9 : Bk w9 w.heap.size [.int .i64 4, .int .i64 a, .int .i64 0, .int .i64 0, .int .i64 0] := by rw [e9]; exact bk_put R1 rfl
  have B9 : Below w.heap.size w w9 := by rw [e9]; exact below_put (Nat.le_refl _) _ _ B1
  rw [← e9]
  clear e9
  go_wp2
  have hr := fun tmps hp hq => results_mid2 (P := Tryz.prog) (fn := Tryz.f12) Tryz.results12 tmps w9 w.heap.size [.int .i64 4, .int .i64 a, .int .i64 0, .int .i64 0, .int .i64 0] _ (.bool true) hp hq (Bk.range R9) Tryz.underlying25 rfl (by kernel_rfl)
  exact bodyPost_ret (v := .tuple #[.agg #[.int .i64 4, .int .i64 a, .int .i64 0, .int .i64 0, .int .i64 0], .bool true]) (hr _ rfl rfl) rfl ⟨rfl, B9⟩
set_option maxHeartbeats 2000000 in
theorem nev_one_5 (a : Int) (g cap : Nat) (w : World) (h0 : w.cell? ⟨g, 0, none⟩ = some (.int .i64 a)) :
    Calls Tryz.prog 12 #[.int .i64 5, .slice (some ⟨g, 0, none⟩) 1 cap] w fun e w' => e = .returned (.tuple #[.agg #[.int .i64 (5), .int .i64 (a), .int .i64 (0), .int .i64 (0), .int .i64 (0)], .bool true]) ∧ Below w.heap.size w w' := by
  have hgl : g < w.heap.size := World.block_lt_of_cell? w _ h0
  have H0 := hid h0
  clear h0
  go_enter Tryz.func12, Tryz.ntmps12
  go_upto_region 1 with fail
  obtain ⟨wa, ea⟩ : ∃ y, y = w.alloc (.cells #[.int .i64 0, .int .i64 0, .int .i64 0, .int .i64 0, .int .i64 0] 25) := ⟨_, rfl⟩
  have hRa : Bk wa w.heap.size [.int .i64 0, .int .i64 0, .int .i64 0, .int .i64 0, .int .i64 0] := by rw [ea]; exact bk_new w 25 [.int .i64 0, .int .i64 0, .int .i64 0, .int .i64 0, .int .i64 0]
  have hBa : Below w.heap.size w wa := by rw [ea]; exact (Below.refl _ _).alloc (by simp) _
  have hza : wa.heap.size = w.heap.size + 1 := by rw [ea]; simp
  rw [← ea]
  clear ea
  go_wp2
  obtain ⟨wz, ez⟩ : ∃ y, y = wa.alloc (.cells #[.int .i64 0, .int .i64 0, .int .i64 0, .int .i64 0, .int .i64 0] 25) := ⟨_, rfl⟩
  have hZ : Bk wz (w.heap.size + 1) [.int .i64 0, .int .i64 0, .int .i64 0, .int .i64 0, .int .i64 0] := by rw [ez, ← hza]; exact bk_new wa 25 [.int .i64 0, .int .i64 0, .int .i64 0, .int .i64 0, .int .i64 0]
  have hbz : Below wa.heap.size wa wz := by rw [ez]; exact (Below.refl _ _).alloc (Nat.le_refl _) _
  rw [← ez]
  clear ez
  rw [store23_bk hZ rfl _ rfl (by kernel_rfl)]
  obtain ⟨w0, e0⟩ : ∃ y, y = putL (w.heap.size + 1) ((#[.int .i64 5, .int .i64 0, .int .i64 0, .int .i64 0, .int .i64 0] : Array Value).toList) 0 wz := ⟨_, rfl⟩
  have hE0 : Bk w0 (w.heap.size + 1) [.int .i64 5, .int .i64 0, .int .i64 0, .int .i64 0, .int .i64 0] := by rw [e0]; exact bk_put hZ rfl
  have hb0 : Below wa.heap.size wa w0 := by rw [e0]; exact below_put (by omega) _ _ hbz
  rw [← e0]
  clear e0 hZ hbz
  have hR0 := hRa.below hb0
  have hB0 := bthen hBa hb0
  clear hRa hBa hb0 hza
  have B1 : Hid (Below w.heap.size w w0) := hB0
  have R2 : Hid (Bk w0 w.heap.size [.int .i64 0, .int .i64 0, .int .i64 0, .int .i64 0, .int .i64 0]) := hR0
  have E3 : Hid (Bk w0 (w.heap.size + 1) [.int .i64 5, .int .i64 0, .int .i64 0, .int .i64 0, .int .i64 0]) := hE0
  clear hB0 hR0 hE0
  have hc0 : w0.cell? ⟨g, 0, none⟩ = some (.int .i64 a) := (B1.out.cell (p := ⟨g, 0, none⟩) hgl).trans H0.out
  have yE0 : w0.cell? ⟨(w.heap.size + 1), 0, none⟩ = some (.int .i64 5) := (E3.out.2 0 (by simp)).1
  have zE0 : w0.frozen? ⟨(w.heap.size + 1), 0, none⟩ = false := (E3.out.2 0 (by simp)).2
  have yE1 : w0.cell? ⟨(w.heap.size + 1), 1, none⟩ = some (.int .i64 0) := (E3.out.2 1 (by simp)).1
  have zE1 : w0.frozen? ⟨(w.heap.size + 1), 1, none⟩ = false := (E3.out.2 1 (by simp)).2
  have yE2 : w0.cell? ⟨(w.heap.size + 1), 2, none⟩ = some (.int .i64 0) := (E3.out.2 2 (by simp)).1
  have zE2 : w0.frozen? ⟨(w.heap.size + 1), 2, none⟩ = false := (E3.out.2 2 (by simp)).2
  have yE3 : w0.cell? ⟨(w.heap.size + 1), 3, none⟩ = some (.int .i64 0) := (E3.out.2 3 (by simp)).1
  have zE3 : w0.frozen? ⟨(w.heap.size + 1), 3, none⟩ = false := (E3.out.2 3 (by simp)).2
  have yE4 : w0.cell? ⟨(w.heap.size + 1), 4, none⟩ = some (.int .i64 0) := (E3.out.2 4 (by simp)).1
  have zE4 : w0.frozen? ⟨(w.heap.size + 1), 4, none⟩ = false := (E3.out.2 4 (by simp)).2
  have hlE : (w.heap.size + 1) < w0.heap.size := E3.out.1
  go_wp2
  obtain ⟨w1, e1⟩ : ∃ y, y = w0.setCell ⟨w.heap.size + 1, 1, none⟩ (.int .i64 a) := ⟨_, rfl⟩
  have E1 : Bk w1 (w.heap.size + 1) [.int .i64 5, .int .i64 a, .int .i64 0, .int .i64 0, .int .i64 0] := by rw [e1]; exact Bk.set (j := 1) (E3.out) (by simp)
  have R1 : Bk w1 w.heap.size [.int .i64 0, .int .i64 0, .int .i64 0, .int .i64 0, .int .i64 0] := by rw [e1]; exact Bk.far (R2.out) (by omega)
  have B1 : Below w.heap.size w w1 := by rw [e1]; exact Below.setCell (B1.out) (by simp) _
  rw [← e1]
  clear e1
  rw [load23_bk E1 rfl]
  go_wp2
  rw [store23_bk R1 rfl _ rfl (by kernel_rfl)]
  obtain ⟨w9, e9⟩ : ∃ y, y = putL w.heap.size ((#[.int .i64 5, .int .i64 a, .int .i64 0, .int .i64 0, .int .i64 0] : Array Value).toList) 0 w1 := ⟨_, rfl⟩
  have R9 : Bk w9 w.heap.size [.int .i64 5, .int .i64 a, .int .i64 0, .int .i64 0, .int .i64 0] := by rw [e9]; exact bk_put R1 rfl
  have B9 : Below w.heap.size w w9 := by rw [e9]; exact below_put (Nat.le_refl _) _ _ B1
  rw [← e9]
  clear e9
  go_wp2
  have hr := fun tmps hp hq => results_mid2 (P := Tryz.prog) (fn := Tryz.f12) Tryz.results12 tmps w9 w.heap.size [.int .i64 5, .int .i64 a, .int .i64 0, .int .i64 0, .int .i64 0] _ (.bool true) hp hq (Bk.range R9) Tryz.underlying25 rfl (by kernel_rfl)
  exact bodyPost_ret (v := .tuple #[.agg #[.int .i64 5, .int .i64 a, .int .i64 0, .int .i64 0, .int .i64 0], .bool true]) (hr _ rfl rfl) rfl ⟨rfl, B9⟩
set_option maxHeartbeats 2000000 in
theorem nev_one_6 (a : Int) (g cap : Nat) (w : World) (h0 : w.cell? ⟨g, 0, none⟩ = some (.int .i64 a)) :
    Calls Tryz.prog 12 #[.int .i64 6, .slice (some ⟨g, 0, none⟩) 1 cap] w fun e w' => e = .returned (.tuple #[.agg #[.int .i64 (6), .int .i64 (a), .int .i64 (0), .int .i64 (0), .int .i64 (0)], .bool true]) ∧ Below w.heap.size w w' := by
  have hgl : g < w.heap.size := World.block_lt_of_cell? w _ h0
  have H0 := hid h0
  clear h0
  go_enter Tryz.func12, Tryz.ntmps12
  go_upto_region 1 with fail
  obtain ⟨wa, ea⟩ : ∃ y, y = w.alloc (.cells #[.int .i64 0, .int .i64 0, .int .i64 0, .int .i64 0, .int .i64 0] 25) := ⟨_, rfl⟩
  have hRa : Bk wa w.heap.size [.int .i64 0, .int .i64 0, .int .i64 0, .int .i64 0, .int .i64 0] := by rw [ea]; exact bk_new w 25 [.int .i64 0, .int .i64 0, .int .i64 0, .int .i64 0, .int .i64 0]
  have hBa : Below w.heap.size w wa := by rw [ea]; exact (Below.refl _ _).alloc (by simp) _
  have hza : wa.heap.size = w.heap.size + 1 := by rw [ea]; simp
  rw [← ea]
  clear ea
  go_wp2
  obtain ⟨wz, ez⟩ : ∃ y, y = wa.alloc (.cells #[.int .i64 0, .int .i64 0, .int .i64 0, .int .i64 0, .int .i64 0] 25) := ⟨_, rfl⟩
  have hZ : Bk wz (w.heap.size + 1) [.int .i64 0, .int .i64 0, .int .i64 0, .int .i64 0, .int .i64 0] := by rw [ez, ← hza]; exact bk_new wa 25 [.int .i64 0, .int .i64 0, .int .i64 0, .int .i64 0, .int .i64 0]
  have hbz : Below wa.heap.size wa wz := by rw [ez]; exact (Below.refl _ _).alloc (Nat.le_refl _) _
  rw [← ez]
  clear ez
  rw [store23_bk hZ rfl _ rfl (by kernel_rfl)]
  obtain ⟨w0, e0⟩ : ∃ y, y = putL (w.heap.size + 1) ((#[.int .i64 6, .int .i64 0, .int .i64 0, .int .i64 0, .int .i64 0] : Array Value).toList) 0 wz := ⟨_, rfl⟩
  have hE0 : Bk w0 (w.heap.size + 1) [.int .i64 6, .int .i64 0, .int .i64 0, .int .i64 0, .int .i64 0] := by rw [e0]; exact bk_put hZ rfl
  have hb0 : Below wa.heap.size wa w0 := by rw [e0]; exact below_put (by omega) _ _ hbz
  rw [← e0]
  clear e0 hZ hbz
  have hR0 := hRa.below hb0
  have hB0 := bthen hBa hb0
  clear hRa hBa hb0 hza
  have B1 : Hid (Below w.heap.size w w0) := hB0
  have R2 : Hid (Bk w0 w.heap.size [.int .i64 0, .int .i64 0, .int .i64 0, .int .i64 0, .int .i64 0]) := hR0
  have E3 : Hid (Bk w0 (w.heap.size + 1) [.int .i64 6, .int .i64 0, .int .i64 0, .int .i64 0, .int .i64 0]) := hE0
  clear hB0 hR0 hE0
  have hc0 : w0.cell? ⟨g, 0, none⟩ = some (.int .i64 a) := (B1.out.cell (p := ⟨g, 0, none⟩) hgl).trans H0.out
  have yE0 : w0.cell? ⟨(w.heap.size + 1), 0, none⟩ = some (.int .i64 6) := (E3.out.2 0 (by simp)).1
  have zE0 : w0.frozen? ⟨(w.heap.size + 1), 0, none⟩ = false := (E3.out.2 0 (by simp)).2
  have yE1 : w0.cell? ⟨(w.heap.size + 1), 1, none⟩ = some (.int .i64 0) := (E3.out.2 1 (by simp)).1
  have zE1 : w0.frozen? ⟨(w.heap.size + 1), 1, none⟩ = false := (E3.out.2 1 (by simp)).2
  have yE2 : w0.cell? ⟨(w.heap.size + 1), 2, none⟩ = some (.int .i64 0) := (E3.out.2 2 (by simp)).1
  have zE2 : w0.frozen? ⟨(w.heap.size + 1), 2, none⟩ = false := (E3.out.2 2 (by simp)).2
  have yE3 : w0.cell? ⟨(w.heap.size + 1), 3, none⟩ = some (.int .i64 0) := (E3.out.2 3 (by simp)).1
  have zE3 : w0.frozen? ⟨(w.heap.size + 1), 3, none⟩ = false := (E3.out.2 3 (by simp)).2
  have yE4 : w0.cell? ⟨(w.heap.size + 1), 4, none⟩ = some (.int .i64 0) := (E3.out.2 4 (by simp)).1
  have zE4 : w0.frozen? ⟨(w.heap.size + 1), 4, none⟩ = false := (E3.out.2 4 (by simp)).2
  have hlE : (w.heap.size + 1) < w0.heap.size := E3.out.1
  go_wp2
  obtain ⟨w1, e1⟩ : ∃ y, y = w0.setCell ⟨w.heap.size + 1, 1, none⟩ (.int .i64 a) := ⟨_, rfl⟩
  have E1 : Bk w1 (w.heap.size + 1) [.int .i64 6, .int .i64 a, .int .i64 0, .int .i64 0, .int .i64 0] := by rw [e1]; exact Bk.set (j := 1) (E3.out) (by simp)
  have R1 : Bk w1 w.heap.size [.int .i64 0, .int .i64 0, .int .i64 0, .int .i64 0, .int .i64 0] := by rw [e1]; exact Bk.far (R2.out) (by omega)
  have B1 : Below w.heap.size w w1 := by rw [e1]; exact Below.setCell (B1.out) (by simp) _
  rw [← e1]
  clear e1
  rw [load23_bk E1 rfl]
  go_wp2
  rw [store23_bk R1 rfl _ rfl (by kernel_rfl)]
  obtain ⟨w9, e9⟩ : ∃ y, y = putL w.heap.size ((#[.int .i64 6, .int .i64 a, .int .i64 0, .int .i64 0, .int .i64 0] : Array Value).toList) 0 w1 := ⟨_, rfl⟩
  have R9 : Bk w9 w.heap.size [.int .i64 6, .int .i64 a, .int .i64 0, .int .i64 0, .int .i64 0] := by rw [e9]; exact bk_put R1 rfl
  have B9 : Below w.heap.size w w9 := by rw [e9]; exact below_put (Nat.le_refl _) _ _ B1
  rw [← e9]
  clear e9
  go_wp2
  have hr := fun tmps hp hq => results_mid2 (P := Tryz.prog) (fn := Tryz.f12) Tryz.results12 tmps w9 w.heap.size [.int .i64 6, .int .i64 a, .int .i64 0, .int .i64 0, .int .i64 0] _ (.bool true) hp hq (Bk.range R9) Tryz.underlying25 rfl (by kernel_rfl)
  exact bodyPost_ret (v := .tuple #[.agg #[.int .i64 6, .int .i64 a, .int .i64 0, .int .i64 0, .int .i64 0], .bool true]) (hr _ rfl rfl) rfl ⟨rfl, B9⟩
set_option maxHeartbeats 2000000 in
theorem nev_one_8 (a : Int) (g cap : Nat) (w : World) (h0 : w.cell? ⟨g, 0, none⟩ = some (.int .i64 a)) :
    Calls Tryz.prog 12 #[.int .i64 8, .slice (some ⟨g, 0, none⟩) 1 cap] w fun e w' => e = .returned (.tuple #[.agg #[.int .i64 (8), .int .i64 (a), .int .i64 (0), .int .i64 (0), .int .i64 (0)], .bool true]) ∧ Below w.heap.size w w' := by
  have hgl : g < w.heap.size := World.block_lt_of_cell? w _ h0
  have H0 := hid h0
  clear h0
  go_enter Tryz.func12, Tryz.ntmps12
  go_upto_region 1 with fail
  obtain ⟨wa, ea⟩ : ∃ y, y = w.alloc (.cells #[.int .i64 0, .int .i64 0, .int .i64 0, .int .i64 0, .int .i64 0] 25) := ⟨_, rfl⟩
  have hRa : Bk wa w.heap.size [.int .i64 0, .int .i64 0, .int .i64 0, .int .i64 0, .int .i64 0] := by rw [ea]; exact bk_new w 25 [.int .i64 0, .int .i64 0, .int .i64 0, .int .i64 0, .int .i64 0]
  have hBa : Below w.heap.size w wa := by rw [ea]; exact (Below.refl _ _).alloc (by simp) _
  have hza : wa.heap.size = w.heap.size + 1 := by rw [ea]; simp
  rw [← ea]
  clear ea
  go_wp2
  obtain ⟨wz, ez⟩ : ∃ y, y = wa.alloc (.cells #[.int .i64 0, .int .i64 0, .int .i64 0, .int .i64 0, .int .i64 0] 25) := ⟨_, rfl⟩
  have hZ : Bk wz (w.heap.size + 1) [.int .i64 0, .int .i64 0, .int .i64 0, .int .i64 0, .int .i64 0] := by rw [ez, ← hza]; exact bk_new wa 25 [.int .i64 0, .int .i64 0, .int .i64 0, .int .i64 0, .int .i64 0]
  have hbz : Below wa.heap.size wa wz := by rw [ez]; exact (Below.refl _ _).alloc (Nat.le_refl _) _
  rw [← ez]
  clear ez
  rw [store23_bk hZ rfl _ rfl (by kernel_rfl)]
  obtain ⟨w0, e0⟩ : ∃ y, y = putL (w.heap.size + 1) ((#[.int .i64 8, .int .i64 0, .int .i64 0, .int .i64 0, .int .i64 0] : Array Value).toList) 0 wz := ⟨_, rfl⟩
  have hE0 : Bk w0 (w.heap.size + 1) [.int .i64 8, .int .i64 0, .int .i64 0, .int .i64 0, .int .i64 0] := by rw [e0]; exact bk_put hZ rfl
  have hb0 : Below wa.heap.size wa w0 := by rw [e0]; exact below_put (by omega) _ _ hbz
  rw [← e0]
  clear e0 hZ hbz
  have hR0 := hRa.below hb0
  have hB0 := bthen hBa hb0
  clear hRa hBa hb0 hza
  have B1 : Hid (Below w.heap.size w w0) := hB0
  have R2 : Hid (Bk w0 w.heap.size [.int .i64 0, .int .i64 0, .int .i64 0, .int .i64 0, .int .i64 0]) := hR0
  have E3 : Hid (Bk w0 (w.heap.size + 1) [.int .i64 8, .int .i64 0, .int .i64 0, .int .i64 0, .int .i64 0]) := hE0
  clear hB0 hR0 hE0
  have hc0 : w0.cell? ⟨g, 0, none⟩ = some (.int .i64 a) := (B1.out.cell (p := ⟨g, 0, none⟩) hgl).trans H0.out
  have yE0 : w0.cell? ⟨(w.heap.size + 1), 0, none⟩ = some (.int .i64 8) := (E3.out.2 0 (by simp)).1
  have zE0 : w0.frozen? ⟨(w.heap.size + 1), 0, none⟩ = false := (E3.out.2 0 (by simp)).2
  have yE1 : w0.cell? ⟨(w.heap.size + 1), 1, none⟩ = some (.int .i64 0) := (E3.out.2 1 (by simp)).1
  have zE1 : w0.frozen? ⟨(w.heap.size + 1), 1, none⟩ = false := (E3.out.2 1 (by simp)).2
  have yE2 : w0.cell? ⟨(w.heap.size + 1), 2, none⟩ = some (.int .i64 0) := (E3.out.2 2 (by simp)).1
  have zE2 : w0.frozen? ⟨(w.heap.size + 1), 2, none⟩ = false := (E3.out.2 2 (by simp)).2
  have yE3 : w0.cell? ⟨(w.heap.size + 1), 3, none⟩ = some (.int .i64 0) := (E3.out.2 3 (by simp)).1
  have zE3 : w0.frozen? ⟨(w.heap.size + 1), 3, none⟩ = false := (E3.out.2 3 (by simp)).2
  have yE4 : w0.cell? ⟨(w.heap.size + 1), 4, none⟩ = some (.int .i64 0) := (E3.out.2 4 (by simp)).1
  have zE4 : w0.frozen? ⟨(w.heap.size + 1), 4, none⟩ = false := (E3.out.2 4 (by simp)).2
  have hlE : (w.heap.size + 1) < w0.heap.size := E3.out.1
  go_wp2
  obtain ⟨w1, e1⟩ : ∃ y, y = w0.setCell ⟨w.heap.size + 1, 1, none⟩ (.int .i64 a) := ⟨_, rfl⟩
  have E1 : Bk w1 (w.heap.size + 1) [.int .i64 8, .int .i64 a, .int .i64 0, .int .i64 0, .int .i64 0] := by rw [e1]; exact Bk.set (j := 1) (E3.out) (by simp)
  have R1 : Bk w1 w.heap.size [.int .i64 0, .int .i64 0, .int .i64 0, .int .i64 0, .int .i64 0] := by rw [e1]; exact Bk.far (R2.out) (by omega)
  have B1 : Below w.heap.size w w1 := by rw [e1]; exact Below.setCell (B1.out) (by simp) _
  rw [← e1]
  clear e1
  rw [load23_bk E1 rfl]
  go_wp2
  rw [store23_bk R1 rfl _ rfl (by kernel_rfl)]
  obtain ⟨w9, e9⟩ : ∃ y, y = putL w.heap.size ((#[.int .i64 8, .int .i64 a, .int .i64 0, .int .i64 0, .int .i64 0] : Array Value).toList) 0 w1 := ⟨_, rfl⟩
  have R9 : Bk w9 w.heap.size [.int .i64 8, .int .i64 a, .int .i64 0, .int .i64 0, .int .i64 0] := by rw [e9]; exact bk_put R1 rfl
  have B9 : Below w.heap.size w w9 := by rw [e9]; exact below_put (Nat.le_refl _) _ _ B1
  rw [← e9]
  clear e9
  go_wp2
  have hr := fun tmps hp hq => results_mid2 (P := Tryz.prog) (fn := Tryz.f12) Tryz.results12 tmps w9 w.heap.size [.int .i64 8, .int .i64 a, .int .i64 0, .int .i64 0, .int .i64 0] _ (.bool true) hp hq (Bk.range R9) Tryz.underlying25 rfl (by kernel_rfl)
  exact bodyPost_ret (v := .tuple #[.agg #[.int .i64 8, .int .i64 a, .int .i64 0, .int .i64 0, .int .i64 0], .bool true]) (hr _ rfl rfl) rfl ⟨rfl, B9⟩
set_option maxHeartbeats 2000000 in
theorem nev_one_9 (a : Int) (g cap : Nat) (w : World) (h0 : w.cell? ⟨g, 0, none⟩ = some (.int .i64 a)) :
    Calls Tryz.prog 12 #[.int .i64 9, .slice (some ⟨g, 0, none⟩) 1 cap] w fun e w' => e = .returned (.tuple #[.agg #[.int .i64 (9), .int .i64 (a), .int .i64 (0), .int .i64 (0), .int .i64 (0)], .bool true]) ∧ Below w.heap.size w w' := by
  have hgl : g < w.heap.size := World.block_lt_of_cell? w _ h0
  have H0 := hid h0
  clear h0
  go_enter Tryz.func12, Tryz.ntmps12
  go_upto_region 1 with fail
  obtain ⟨wa, ea⟩ : ∃ y, y = w.alloc (.cells #[.int .i64 0, .int .i64 0, .int .i64 0, .int .i64 0, .int .i64 0] 25) := ⟨_, rfl⟩
  have hRa : Bk wa w.heap.size [.int .i64 0, .int .i64 0, .int .i64 0, .int .i64 0, .int .i64 0] := by rw [ea]; exact bk_new w 25 [.int .i64 0, .int .i64 0, .int .i64 0, .int .i64 0, .int .i64 0]
  have hBa : Below w.heap.size w wa := by rw [ea]; exact (Below.refl _ _).alloc (by simp) _
  have hza : wa.heap.size = w.heap.size + 1 := by rw [ea]; simp
  rw [← ea]
  clear ea
  go_wp2
  obtain ⟨wz, ez⟩ : ∃ y, y = wa.alloc (.cells #[.int .i64 0, .int .i64 0, .int .i64 0, .int .i64 0, .int .i64 0] 25) := ⟨_, rfl⟩
  have hZ : Bk wz (w.heap.size + 1) [.int .i64 0, .int .i64 0, .int .i64 0, .int .i64 0, .int .i64 0] := by rw [ez, ← hza]; exact bk_new wa 25 [.int .i64 0, .int .i64 0, .int .i64 0, .int .i64 0, .int .i64 0]
  have hbz : Below wa.heap.size wa wz := by rw [ez]; exact (Below.refl _ _).alloc (Nat.le_refl _) _
  rw [← ez]
  clear ez
  rw [store23_bk hZ rfl _ rfl (by kernel_rfl)]
  obtain ⟨w0, e0⟩ : ∃ y, y = putL (w.heap.size + 1) ((#[.int .i64 9, .int .i64 0, .int .i64 0, .int .i64 0, .int .i64 0] : Array Value).toList) 0 wz := ⟨_, rfl⟩
  have hE0 : Bk w0 (w.heap.size + 1) [.int .i64 9, .int .i64 0, .int .i64 0, .int .i64 0, .int .i64 0] := by rw [e0]; exact bk_put hZ rfl
  have hb0 : Below wa.heap.size wa w0 := by rw [e0]; exact below_put (by omega) _ _ hbz
  rw [← e0]
  clear e0 hZ hbz
  have hR0 := hRa.below hb0
  have hB0 := bthen hBa hb0
  clear hRa hBa hb0 hza
  have B1 : Hid (Below w.heap.size w w0) := hB0
  have R2 : Hid (Bk w0 w.heap.size [.int .i64 0, .int .i64 0, .int .i64 0, .int .i64 0, .int .i64 0]) := hR0
  have E3 : Hid (Bk w0 (w.heap.size + 1) [.int .i64 9, .int .i64 0, .int .i64 0, .int .i64 0, .int .i64 0]) := hE0
  clear hB0 hR0 hE0
  have hc0 : w0.cell? ⟨g, 0, none⟩ = some (.int .i64 a) := (B1.out.cell (p := ⟨g, 0, none⟩) hgl).trans H0.out
  have yE0 : w0.cell? ⟨(w.heap.size + 1), 0, none⟩ = some (.int .i64 9) := (E3.out.2 0 (by simp)).1
  have zE0 : w0.frozen? ⟨(w.heap.size + 1), 0, none⟩ = false := (E3.out.2 0 (by simp)).2
  have yE1 : w0.cell? ⟨(w.heap.size + 1), 1, none⟩ = some (.int .i64 0) := (E3.out.2 1 (by simp)).1
  have zE1 : w0.frozen? ⟨(w.heap.size + 1), 1, none⟩ = false := (E3.out.2 1 (by simp)).2
  have yE2 : w0.cell? ⟨(w.heap.size + 1), 2, none⟩ = some (.int .i64 0) := (E3.out.2 2 (by simp)).1
  have zE2 : w0.frozen? ⟨(w.heap.size + 1), 2, none⟩ = false := (E3.out.2 2 (by simp)).2
  have yE3 : w0.cell? ⟨(w.heap.size + 1), 3, none⟩ = some (.int .i64 0) := (E3.out.2 3 (by simp)).1
  have zE3 : w0.frozen? ⟨(w.heap.size + 1), 3, none⟩ = false := (E3.out.2 3 (by simp)).2
  have yE4 : w0.cell? ⟨(w.heap.size + 1), 4, none⟩ = some (.int .i64 0) := (E3.out.2 4 (by simp)).1
  have zE4 : w0.frozen? ⟨(w.heap.size + 1), 4, none⟩ = false := (E3.out.2 4 (by simp)).2
  have hlE : (w.heap.size + 1) < w0.heap.size := E3.out.1
  go_wp2
  obtain ⟨w1, e1⟩ : ∃ y, y = w0.setCell ⟨w.heap.size + 1, 1, none⟩ (.int .i64 a) := ⟨_, rfl⟩
  have E1 : Bk w1 (w.heap.size + 1) [.int .i64 9, .int .i64 a, .int .i64 0, .int .i64 0, .int .i64 0] := by rw [e1]; exact Bk.set (j := 1) (E3.out) (by simp)
  have R1 : Bk w1 w.heap.size [.int .i64 0, .int .i64 0, .int .i64 0, .int .i64 0, .int .i64 0] := by rw [e1]; exact Bk.far (R2.out) (by omega)
  have B1 : Below w.heap.size w w1 := by rw [e1]; exact Below.setCell (B1.out) (by simp) _
  rw [← e1]
  clear e1
  rw [load23_bk E1 rfl]
  go_wp2
  rw [store23_bk R1 rfl _ rfl (by kernel_rfl)]
  obtain ⟨w9, e9⟩ : ∃ y, y = putL w.heap.size ((#[.int .i64 9, .int .i64 a, .int .i64 0, .int .i64 0, .int .i64 0] : Array Value).toList) 0 w1 := ⟨_, rfl⟩
  have R9 : Bk w9 w.heap.size [.int .i64 9, .int .i64 a, .int .i64 0, .int .i64 0, .int .i64 0] := by rw [e9]; exact bk_put R1 rfl
  have B9 : Below w.heap.size w w9 := by rw [e9]; exact below_put (Nat.le_refl _) _ _ B1
  rw [← e9]
  clear e9
  go_wp2
  have hr := fun tmps hp hq => results_mid2 (P := Tryz.prog) (fn := Tryz.f12) Tryz.results12 tmps w9 w.heap.size [.int .i64 9, .int .i64 a, .int .i64 0, .int .i64 0, .int .i64 0] _ (.bool true) hp hq (Bk.range R9) Tryz.underlying25 rfl (by kernel_rfl)
  exact bodyPost_ret (v := .tuple #[.agg #[.int .i64 9, .int .i64 a, .int .i64 0, .int .i64 0, .int .i64 0], .bool true]) (hr _ rfl rfl) rfl ⟨rfl, B9⟩
theorem nev_one_yes (k a : Int) (hk : k = 3 ∨ k = 4 ∨ k = 5 ∨ k = 6 ∨ k = 8 ∨ k = 9) (g cap : Nat) (w : World) (h0 : w.cell? ⟨g, 0, none⟩ = some (.int .i64 a)) :
    Calls Tryz.prog 12 #[.int .i64 k, .slice (some ⟨g, 0, none⟩) 1 cap] w fun e w' => e = .returned (.tuple #[.agg #[.int .i64 (k), .int .i64 (a), .int .i64 (0), .int .i64 (0), .int .i64 (0)], .bool true]) ∧ Below w.heap.size w w' := by
  rcases hk with rfl | rfl | rfl | rfl | rfl | rfl
  · exact nev_one_3 a g cap w h0
  · exact nev_one_4 a g cap w h0
  · exact nev_one_5 a g cap w h0
  · exact nev_one_6 a g cap w h0
  · exact nev_one_8 a g cap w h0
  · exact nev_one_9 a g cap w h0
end Go.Proofs.YtalmnogdplhflaaGreatDoor
