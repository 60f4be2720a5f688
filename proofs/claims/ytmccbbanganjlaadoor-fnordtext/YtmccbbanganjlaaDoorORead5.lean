/- The walk of the program's OrdRead at a text whose third word names a kind; conditions: the library's variables are as its text lays them. -/
import Derived.Test.YtmccbbanganjlaaDoorORead3
import Derived.Test.YtmccbbanganjlaaDoorORead4
import Derived.Deep.RegionHeld3
namespace Go.Proofs.YtmccbbanganjlaaDoor
open Go.RowKit
set_option linter.unusedVariables false

theorem of_wordB {s x : ByteArray} {k : Nat} (h : x.data.toList = (words s.data.toList).getD k []) : x = wordB s k := (wordB_of h).symm

/-- The order that the program tries. -/
def oK (s : ByteArray) (f : Nat) : Int := ordK f
def oT (s : ByteArray) (f : Nat) : Int := ordT f (wordB s 3)
def oN (s : ByteArray) (f : Nat) : Int := ordN f (wordB s 3) (wordB s 4)
def oW (s : ByteArray) : Int := atoiV (wordB s 0).data.toList
def oS (s : ByteArray) : Int := atoiV (wordB s 1).data.toList

set_option maxRecDepth 20000 in
set_option maxHeartbeats 8000000 in
theorem oread_some (s : ByteArray) (h : (s.size : Int) ≤ 100) (f : Nat) (hf : readerOf (wordB s 2) = some f) (w : World) (hE : Env w) :
    Calls Tryd.prog 12 #[.string s] w fun e w' => (((ordText (oW s) (oS s) (oK s f) (oT s f) (oN s f)).toList = s.toList ∧ e = .returned (.tuple #[.agg #[.int .i64 (oW s), .int .i64 (oS s), .int .i64 (oK s f), .int .i64 (oT s f), .int .i64 (oN s f)], .bool true])) ∨ ((ordText (oW s) (oS s) (oK s f) (oT s f) (oN s f)).toList ≠ s.toList ∧ e = .returned (.tuple #[.agg #[.int .i64 0, .int .i64 0, .int .i64 0, .int .i64 0, .int .i64 0], .bool false]))) ∧ Below w.heap.size w w' := by
  obtain ⟨i0, hi, hz0, hz1, hz2⟩ := info_parts Tryd.info9
  have HE : Hid (Env (w.alloc (.cells #[.int .i64 0, .int .i64 0, .int .i64 0, .int .i64 0, .int .i64 0] 24))) := hE.on ((Below.refl _ _).alloc (by simp) _)
  clear hE
  go_enter Tryd.func12, Tryd.ntmps12
  go_wp2_with fail
  refine (split_eq s (by omega) _ HE.out).mono ?_
  rintro e w1 ⟨ps, hps, rfl, hw1⟩
  have hpl : ps.length ≤ 101 := by
    have h1 := congrArg List.length hps
    rw [List.length_map] at h1
    have h2 := wlen s.data.toList
    rw [size_len] at h2
    omega
  have e0 : ((w.alloc (.cells #[.int .i64 0, .int .i64 0, .int .i64 0, .int .i64 0, .int .i64 0] 24))).heap.size = w.heap.size + 1 := by simp
  have HO : Hid (w1.ownsRow (w.heap.size + 1) 9 1 (.slice (some ⟨w.heap.size + 1, 0, none⟩) ps.length ps.length) ps.length (ps.map Value.string)) := by
    have := World.ownsRow_lit (base := w.heap.size + 1) (e := 9) (size := 1) (w.alloc (.cells #[.int .i64 0, .int .i64 0, .int .i64 0, .int .i64 0, .int .i64 0] 24)) (ps.map Value.string).toArray ps.length (by simp) (by unfold maxLen; omega) (by simp)
    rw [e0] at this
    rw [hw1]
    exact this
  clear e0
  have B1 : Below ((w.alloc (.cells #[.int .i64 0, .int .i64 0, .int .i64 0, .int .i64 0, .int .i64 0] 24))).heap.size (w.alloc (.cells #[.int .i64 0, .int .i64 0, .int .i64 0, .int .i64 0, .int .i64 0] 24)) w1 := by rw [hw1]; exact (Below.refl _ _).alloc (Nat.le_refl _) _
  have HPS : Hid (ps.map (fun x => x.data.toList) = words s.data.toList) := hps
  clear hps hw1
  have hsz1 : w.heap.size + 1 ≤ w1.heap.size := by have := B1.size; simpa using this
  obtain ⟨G, W2, hz9, hcl, hbz, hsz2⟩ := zeros9 (w.heap.size + 1) (w.heap.size + 1) ps.length _ (by omega) w1 HO.out
  have B2 := bthen B1 hbz
  have HCL : Hid (∀ k x, (ps.map Value.string ++ E5)[k]? = some x → W2.cell? ⟨w1.heap.size, k, none⟩ = some x) := hcl
  clear hcl hbz HO
  go_wp2_with (at_builtin; refine Lib.wpList_append_run _ rfl _ _ _ _ rfl _ _ rfl rfl _ _ (hz9 _) ?_)
  obtain ⟨x0, y0, t0, z0⟩ := word_at HPS.out (by omega) 0 (by omega)
  obtain ⟨x1, y1, t1, z1⟩ := word_at HPS.out (by omega) 1 (by omega)
  obtain ⟨x2, y2, t2, z2⟩ := word_at HPS.out (by omega) 2 (by omega)
  obtain ⟨x3, y3, t3, z3⟩ := word_at HPS.out (by omega) 3 (by omega)
  obtain ⟨x4, y4, t4, z4⟩ := word_at HPS.out (by omega) 4 (by omega)
  have hx2w := wordB_of t2
  have d0 := HCL.out 0 _ y0
  have d1 := HCL.out 1 _ y1
  have d2 := HCL.out 2 _ y2
  have d3 := HCL.out 3 _ y3
  have d4 := HCL.out 4 _ y4
  clear y0 y1 y2 y3 y4 HCL hz9
  have hlt2 : w1.heap.size < W2.heap.size := by omega
  have HQ : Hid (oW s = atoiV x0.data.toList ∧ oS s = atoiV x1.data.toList ∧ oK s f = ordK f ∧ oT s f = ordT f x3 ∧ oN s f = ordN f x3 x4) := by
    unfold oW oS oK oT oN
    rw [← of_wordB t0, ← of_wordB t1, ← of_wordB t3, ← of_wordB t4]
    exact ⟨rfl, rfl, rfl, rfl, rfl⟩
  have hr : readerOf x2 = some f := by rw [← hx2w]; exact hf
  clear hf hx2w t0 t1 t2 t3 t4 HPS
  have HR : Hid (readerOf x2 = some f) := hr
  have hcf := reader_call x2 f hr
  have BW : Hid (Below (w.alloc (.cells #[.int .i64 0, .int .i64 0, .int .i64 0, .int .i64 0, .int .i64 0] 24)).heap.size (w.alloc (.cells #[.int .i64 0, .int .i64 0, .int .i64 0, .int .i64 0, .int .i64 0] 24)) W2) := B2
  clear hr B1 B2 hsz2
  refine wp_region_held_drew (S := fun w' => (∀ b o, b < W2.heap.size → w'.cell? ⟨b, o, none⟩ = W2.cell? ⟨b, o, none⟩) ∧ W2.heap.size ≤ w'.heap.size) (by kernel_rfl) ⟨fun _ _ _ => rfl, Nat.le_refl _⟩ ?_
  intro hHeld
  refine wpAnyH_take (i := 1) (v := .slice (some ⟨w1.heap.size, 0, none⟩) (ps.length + 5) G) rfl (by kernel_rfl) (by kernel_rfl) (by kernel_rfl) (fun _ _ _ h => h) (Or.inl ⟨by rfl, ?_⟩) (by assumption) ?_
  · intro wx hSw; first | (go_simp; done) | (go_simp; intro hh; omega)
  try simp only [Act.put, List.setIfInBounds_toArray, List.set_cons_zero, List.set_cons_succ, List.getElem_toArray, List.getElem_cons_zero, List.getElem_cons_succ]
  refine wpAnyH_take (i := 2) (v := .pointer (some ⟨w1.heap.size, 2, none⟩)) rfl (by kernel_rfl) (by kernel_rfl) (by kernel_rfl) (fun _ _ _ h => h) (Or.inl ⟨by rfl, ?_⟩) (by assumption) ?_
  · intro wx hSw; first | (go_simp; done) | (go_simp; intro hh; omega)
  try simp only [Act.put, List.setIfInBounds_toArray, List.set_cons_zero, List.set_cons_succ, List.getElem_toArray, List.getElem_cons_zero, List.getElem_cons_succ]
  refine wpAnyH_take (i := 3) (v := .string x2) rfl (by kernel_rfl) (by kernel_rfl) (by kernel_rfl) (fun _ _ _ h => h) (Or.inl ⟨by rfl, ?_⟩) (by assumption) ?_
  · intro wx hSw; first | (go_simp; done) | (go_simp; intro hh; omega)
  try simp only [Act.put, List.setIfInBounds_toArray, List.set_cons_zero, List.set_cons_succ, List.getElem_toArray, List.getElem_cons_zero, List.getElem_cons_succ]
  refine wpAnyH_ready (rs := [0]) (by kernel_rfl) (by simp) ?_
  refine AllReadyH.cons rfl (fun K hK => ?_) AllReadyH.nil
  go_simp
  go_wp2_with (go_at_call 33; refine (readers _).mono ?_; rintro e w3 ⟨rfl, rfl⟩)
  have hb3 : Below W2.drew.heap.size W2.drew ((W2.alloc (.map TAB 6)).drew) := (Below.refl _ _).alloc (Nat.le_refl _) _
  have hmb : ((W2.alloc (.map TAB 6)).drew).heap[W2.heap.size]? = some (.map TAB 6) := (MapKept.heap_alloc W2 _).1
  refine hK.out _ _ (keepS (by assumption) hb3) (fun hHeld => ?_)
  clear hK K
  try simp only [Act.put, List.setIfInBounds_toArray, List.set_cons_zero, List.set_cons_succ, List.getElem_toArray, List.getElem_cons_zero, List.getElem_cons_succ]
  generalize (W2.alloc (.map TAB 6)).drew = w3 at *
  have hlk : (Instr.lookup 64 (.map (some W2.heap.size)) (.string x2) true).run Tryd.prog w3 = .ok (.tuple #[.func (.func f) #[] #[], .bool true]) w3 := look_yes w3 _ hmb x2 f HR.out
  clear hmb
  refine wpAnyH_ready (rs := [4]) (by kernel_rfl) (by simp) ?_
  refine AllReadyH.cons rfl (fun K hK => ?_) AllReadyH.nil
  go_simp
  refine hK.out _ _ (by assumption) (fun hHeld => ?_)
  clear hK K
  try simp only [Act.put, List.setIfInBounds_toArray, List.set_cons_zero, List.set_cons_succ, List.getElem_toArray, List.getElem_cons_zero, List.getElem_cons_succ]
  refine wpAnyH_take (i := 5) (v := .tuple #[.func (.func f) #[] #[], .bool true]) rfl (by kernel_rfl) (by kernel_rfl) (by kernel_rfl) (fun _ _ _ h => h) (Or.inl ⟨by rfl, ?_⟩) (by assumption) ?_
  · intro wx hSw; first | (go_simp; done) | (go_simp; intro hh; omega)
  try simp only [Act.put, List.setIfInBounds_toArray, List.set_cons_zero, List.set_cons_succ, List.getElem_toArray, List.getElem_cons_zero, List.getElem_cons_succ]
  refine wpAnyH_take (i := 6) (v := .func (.func f) #[] #[]) rfl (by kernel_rfl) (by kernel_rfl) (by kernel_rfl) (fun _ _ _ h => h) (Or.inl ⟨by rfl, ?_⟩) (by assumption) ?_
  · intro wx hSw; first | (go_simp; done) | (go_simp; intro hh; omega)
  try simp only [Act.put, List.setIfInBounds_toArray, List.set_cons_zero, List.set_cons_succ, List.getElem_toArray, List.getElem_cons_zero, List.getElem_cons_succ]
  refine wpAnyH_take (i := 7) (v := .bool true) rfl (by kernel_rfl) (by kernel_rfl) (by kernel_rfl) (fun _ _ _ h => h) (Or.inl ⟨by rfl, ?_⟩) (by assumption) ?_
  · intro wx hSw; first | (go_simp; done) | (go_simp; intro hh; omega)
  try simp only [Act.put, List.setIfInBounds_toArray, List.set_cons_zero, List.set_cons_succ, List.getElem_toArray, List.getElem_cons_zero, List.getElem_cons_succ]
  refine wpAnyH_take (i := 8) (v := .func (.func f) #[] #[]) rfl (by kernel_rfl) (by kernel_rfl) (by kernel_rfl) (fun _ _ _ h => h) (Or.inl ⟨by rfl, ?_⟩) (by assumption) ?_
  · intro wx hSw; first | (go_simp; done) | (go_simp; intro hh; omega)
  try simp only [Act.put, List.setIfInBounds_toArray, List.set_cons_zero, List.set_cons_succ, List.getElem_toArray, List.getElem_cons_zero, List.getElem_cons_succ]
  refine wpAnyH_take (i := 9) (v := .bool true) rfl (by kernel_rfl) (by kernel_rfl) (by kernel_rfl) (fun _ _ _ h => h) (Or.inl ⟨by rfl, ?_⟩) (by assumption) ?_
  · intro wx hSw; first | (go_simp; done) | (go_simp; intro hh; omega)
  try simp only [Act.put, List.setIfInBounds_toArray, List.set_cons_zero, List.set_cons_succ, List.getElem_toArray, List.getElem_cons_zero, List.getElem_cons_succ]
  refine wpAnyH_done (by kernel_rfl) ?_ _
  have hcm := (bcell hb3).1
  have e0 : w3.cell? ⟨w1.heap.size, 0, none⟩ = some (.string x0) := (hcm _ 0 hlt2).trans d0
  have e1 : w3.cell? ⟨w1.heap.size, 1, none⟩ = some (.string x1) := (hcm _ 1 hlt2).trans d1
  have e3 : w3.cell? ⟨w1.heap.size, 3, none⟩ = some (.string x3) := (hcm _ 3 hlt2).trans d3
  have e4 : w3.cell? ⟨w1.heap.size, 4, none⟩ = some (.string x4) := (hcm _ 4 hlt2).trans d4
  have hlt3 : w1.heap.size < w3.heap.size := Nat.lt_of_lt_of_le hlt2 hb3.size
  have BW3 : Hid (Below (w.alloc (.cells #[.int .i64 0, .int .i64 0, .int .i64 0, .int .i64 0, .int .i64 0] 24)).heap.size (w.alloc (.cells #[.int .i64 0, .int .i64 0, .int .i64 0, .int .i64 0, .int .i64 0] 24)) w3) := bthen BW.out (bthen ((Below.refl _ _).drew) hb3)
  have HE3 : Hid (Env w3) := HE.out.on BW3.out
  clear hcm hlk hHeld hb3 d0 d1 d2 d3 d4 hlt2 BW
  go_wp2
  refine wp_region_held_drew (S := fun w' => (∀ b o, b < w3.heap.size → w'.cell? ⟨b, o, none⟩ = w3.cell? ⟨b, o, none⟩) ∧ w3.heap.size ≤ w'.heap.size) (by kernel_rfl) ⟨fun _ _ _ => rfl, Nat.le_refl _⟩ ?_
  intro hHeld
  have Bc : Below w3.heap.size w3 w3.drew := (Below.refl _ _).drew
  generalize w3.drew = wy at *
  refine wpAnyH_take (i := 0) (v := .slice (some ⟨w1.heap.size, 0, none⟩) (ps.length + 5) G) rfl (by kernel_rfl) (by kernel_rfl) (by kernel_rfl) (fun _ _ _ h => h) (Or.inl ⟨by rfl, ?_⟩) (by assumption) ?_
  · intro wx hSw; first | (go_simp; done) | (go_simp; intro hh; omega)
  try simp only [Act.put, List.setIfInBounds_toArray, List.set_cons_zero, List.set_cons_succ, List.getElem_toArray, List.getElem_cons_zero]
  refine wpAnyH_take (i := 1) (v := .pointer (some ⟨w1.heap.size, 0, none⟩)) rfl (by kernel_rfl) (by kernel_rfl) (by kernel_rfl) (fun _ _ _ h => h) (Or.inl ⟨by rfl, ?_⟩) (by assumption) ?_
  · intro wx hSw; first | (go_simp; done) | (go_simp; intro hh; omega)
  try simp only [Act.put, List.setIfInBounds_toArray, List.set_cons_zero, List.set_cons_succ, List.getElem_toArray, List.getElem_cons_zero, List.getElem_cons_succ]
  refine wpAnyH_take (i := 2) (v := .string x0) rfl (by kernel_rfl) (by kernel_rfl) (by kernel_rfl) (fun _ _ _ h => h) (Or.inl ⟨by rfl, ?_⟩) (by assumption) ?_
  · intro wx hSw; first | (go_simp; done) | (go_simp; intro hh; omega)
  try simp only [Act.put, List.setIfInBounds_toArray, List.set_cons_zero, List.set_cons_succ, List.getElem_toArray, List.getElem_cons_zero, List.getElem_cons_succ]
  refine wpAnyH_take (i := 4) (v := .slice (some ⟨w1.heap.size, 0, none⟩) (ps.length + 5) G) rfl (by kernel_rfl) (by kernel_rfl) (by kernel_rfl) (fun _ _ _ h => h) (Or.inl ⟨by rfl, ?_⟩) (by assumption) ?_
  · intro wx hSw; first | (go_simp; done) | (go_simp; intro hh; omega)
  try simp only [Act.put, List.setIfInBounds_toArray, List.set_cons_zero, List.set_cons_succ, List.getElem_toArray, List.getElem_cons_zero, List.getElem_cons_succ]
  refine wpAnyH_take (i := 5) (v := .pointer (some ⟨w1.heap.size, 1, none⟩)) rfl (by kernel_rfl) (by kernel_rfl) (by kernel_rfl) (fun _ _ _ h => h) (Or.inl ⟨by rfl, ?_⟩) (by assumption) ?_
  · intro wx hSw; first | (go_simp; done) | (go_simp; intro hh; omega)
  try simp only [Act.put, List.setIfInBounds_toArray, List.set_cons_zero, List.set_cons_succ, List.getElem_toArray, List.getElem_cons_zero, List.getElem_cons_succ]
  refine wpAnyH_take (i := 6) (v := .string x1) rfl (by kernel_rfl) (by kernel_rfl) (by kernel_rfl) (fun _ _ _ h => h) (Or.inl ⟨by rfl, ?_⟩) (by assumption) ?_
  · intro wx hSw; first | (go_simp; done) | (go_simp; intro hh; omega)
  try simp only [Act.put, List.setIfInBounds_toArray, List.set_cons_zero, List.set_cons_succ, List.getElem_toArray, List.getElem_cons_zero, List.getElem_cons_succ]
  refine wpAnyH_take (i := 8) (v := .func (.func f) #[] #[]) rfl (by kernel_rfl) (by kernel_rfl) (by kernel_rfl) (fun _ _ _ h => h) (Or.inl ⟨by rfl, ?_⟩) (by assumption) ?_
  · intro wx hSw; first | (go_simp; done) | (go_simp; intro hh; omega)
  try simp only [Act.put, List.setIfInBounds_toArray, List.set_cons_zero, List.set_cons_succ, List.getElem_toArray, List.getElem_cons_zero, List.getElem_cons_succ]
  refine wpAnyH_take (i := 9) (v := .slice (some ⟨w1.heap.size, 0, none⟩) (ps.length + 5) G) rfl (by kernel_rfl) (by kernel_rfl) (by kernel_rfl) (fun _ _ _ h => h) (Or.inl ⟨by rfl, ?_⟩) (by assumption) ?_
  · intro wx hSw; first | (go_simp; done) | (go_simp; intro hh; omega)
  try simp only [Act.put, List.setIfInBounds_toArray, List.set_cons_zero, List.set_cons_succ, List.getElem_toArray, List.getElem_cons_zero, List.getElem_cons_succ]
  refine wpAnyH_take (i := 10) (v := .pointer (some ⟨w1.heap.size, 3, none⟩)) rfl (by kernel_rfl) (by kernel_rfl) (by kernel_rfl) (fun _ _ _ h => h) (Or.inl ⟨by rfl, ?_⟩) (by assumption) ?_
  · intro wx hSw; first | (go_simp; done) | (go_simp; intro hh; omega)
  try simp only [Act.put, List.setIfInBounds_toArray, List.set_cons_zero, List.set_cons_succ, List.getElem_toArray, List.getElem_cons_zero, List.getElem_cons_succ]
  refine wpAnyH_take (i := 11) (v := .string x3) rfl (by kernel_rfl) (by kernel_rfl) (by kernel_rfl) (fun _ _ _ h => h) (Or.inl ⟨by rfl, ?_⟩) (by assumption) ?_
  · intro wx hSw; first | (go_simp; done) | (go_simp; intro hh; omega)
  try simp only [Act.put, List.setIfInBounds_toArray, List.set_cons_zero, List.set_cons_succ, List.getElem_toArray, List.getElem_cons_zero, List.getElem_cons_succ]
  refine wpAnyH_take (i := 12) (v := .slice (some ⟨w1.heap.size, 0, none⟩) (ps.length + 5) G) rfl (by kernel_rfl) (by kernel_rfl) (by kernel_rfl) (fun _ _ _ h => h) (Or.inl ⟨by rfl, ?_⟩) (by assumption) ?_
  · intro wx hSw; first | (go_simp; done) | (go_simp; intro hh; omega)
  try simp only [Act.put, List.setIfInBounds_toArray, List.set_cons_zero, List.set_cons_succ, List.getElem_toArray, List.getElem_cons_zero, List.getElem_cons_succ]
  refine wpAnyH_take (i := 13) (v := .pointer (some ⟨w1.heap.size, 4, none⟩)) rfl (by kernel_rfl) (by kernel_rfl) (by kernel_rfl) (fun _ _ _ h => h) (Or.inl ⟨by rfl, ?_⟩) (by assumption) ?_
  · intro wx hSw; first | (go_simp; done) | (go_simp; intro hh; omega)
  try simp only [Act.put, List.setIfInBounds_toArray, List.set_cons_zero, List.set_cons_succ, List.getElem_toArray, List.getElem_cons_zero, List.getElem_cons_succ]
  refine wpAnyH_take (i := 14) (v := .string x4) rfl (by kernel_rfl) (by kernel_rfl) (by kernel_rfl) (fun _ _ _ h => h) (Or.inl ⟨by rfl, ?_⟩) (by assumption) ?_
  · intro wx hSw; first | (go_simp; done) | (go_simp; intro hh; omega)
  try simp only [Act.put, List.setIfInBounds_toArray, List.set_cons_zero, List.set_cons_succ, List.getElem_toArray, List.getElem_cons_zero, List.getElem_cons_succ]
  refine wpAnyH_ready (rs := [3, 17]) (by kernel_rfl) (by simp) ?_
  refine AllReadyH.cons rfl (fun K hK => ?_) (AllReadyH.cons rfl (fun K hK => ?_) AllReadyH.nil)
  · skip
    go_simp
    go_wp2_with fail
    refine (loose x0 z0 _ (HE3.out.on Bc)).mono ?_
    rintro e wa ⟨rfl, hbwa⟩
    refine hK.out _ _ (keepS (by assumption) hbwa) (fun hHeld => ?_)
    clear hK K
    try simp only [Act.put, List.setIfInBounds_toArray, List.set_cons_zero, List.set_cons_succ, List.getElem_toArray, List.getElem_cons_zero, List.getElem_cons_succ]
    replace Bc := bthen Bc hbwa
    clear hbwa
    refine wpAnyH_ready (rs := [7, 17]) (by kernel_rfl) (by simp) ?_
    refine AllReadyH.cons rfl (fun K hK => ?_) (AllReadyH.cons rfl (fun K hK => ?_) AllReadyH.nil)
    · skip
      go_simp
      go_wp2_with fail
      refine (loose x1 z1 _ (HE3.out.on Bc)).mono ?_
      rintro e wb ⟨rfl, hbwb⟩
      refine hK.out _ _ (keepS (by assumption) hbwb) (fun hHeld => ?_)
      clear hK K
      try simp only [Act.put, List.setIfInBounds_toArray, List.set_cons_zero, List.set_cons_succ, List.getElem_toArray, List.getElem_cons_zero, List.getElem_cons_succ]
      replace Bc := bthen Bc hbwb
      clear hbwb
      refine wpAnyH_ready (rs := [15, 17]) (by kernel_rfl) (by simp) ?_
      refine AllReadyH.cons rfl (fun K hK => ?_) (AllReadyH.cons rfl (fun K hK => ?_) AllReadyH.nil)
      · skip
        go_simp
        go_wp2_with fail
        refine (read_any x2 x3 x4 f HR.out z3 z4 _ (HE3.out.on Bc)).mono ?_
        rintro e wc ⟨rfl, hbwc⟩
        refine hK.out _ _ (keepS (by assumption) hbwc) (fun hHeld => ?_)
        clear hK K
        try simp only [Act.put, List.setIfInBounds_toArray, List.set_cons_zero, List.set_cons_succ, List.getElem_toArray, List.getElem_cons_zero, List.getElem_cons_succ]
        replace Bc := bthen Bc hbwc
        clear hbwc
        refine wpAnyH_ready (rs := [16, 17]) (by kernel_rfl) (by simp) ?_
        refine AllReadyH.cons rfl (fun K hK => ?_) (AllReadyH.cons rfl (fun K hK => ?_) AllReadyH.nil)
        · skip
          go_simp
          go_wp2_with fail
          refine (order_R x2 x3 x4 f HR.out _ _ _).mono ?_
          rintro e wd ⟨rfl, hbwd⟩
          refine hK.out _ _ (keepS (by assumption) hbwd) (fun hHeld => ?_)
          clear hK K
          try simp only [Act.put, List.setIfInBounds_toArray, List.set_cons_zero, List.set_cons_succ, List.getElem_toArray, List.getElem_cons_zero, List.getElem_cons_succ]
          replace Bc := bthen Bc hbwd
          clear hbwd
          refine wpAnyH_ready (rs := [17]) (by kernel_rfl) (by simp) ?_
          refine AllReadyH.cons rfl (fun K hK => ?_) AllReadyH.nil
          go_simp
          have BA : Below wd.heap.size wd (wd.alloc (.cells #[.int .i64 0, .int .i64 0, .int .i64 0, .int .i64 0, .int .i64 0] 24)) := (Below.refl _ _).alloc (Nat.le_refl _) _
          refine hK.out _ _ (keepS (by assumption) BA) (fun hHeld => ?_)
          clear hK K
          try simp only [Act.put, List.setIfInBounds_toArray, List.set_cons_zero, List.set_cons_succ, List.getElem_toArray, List.getElem_cons_zero, List.getElem_cons_succ]
          have a0 : (wd.alloc (.cells #[.int .i64 0, .int .i64 0, .int .i64 0, .int .i64 0, .int .i64 0] 24)).cell? ⟨wd.heap.size, 0, none⟩ = some (.int .i64 0) := by simp
          have b0 : (wd.alloc (.cells #[.int .i64 0, .int .i64 0, .int .i64 0, .int .i64 0, .int .i64 0] 24)).frozen? ⟨wd.heap.size, 0, none⟩ = false := by simp
          have a1 : (wd.alloc (.cells #[.int .i64 0, .int .i64 0, .int .i64 0, .int .i64 0, .int .i64 0] 24)).cell? ⟨wd.heap.size, 1, none⟩ = some (.int .i64 0) := by simp
          have b1 : (wd.alloc (.cells #[.int .i64 0, .int .i64 0, .int .i64 0, .int .i64 0, .int .i64 0] 24)).frozen? ⟨wd.heap.size, 1, none⟩ = false := by simp
          have a2 : (wd.alloc (.cells #[.int .i64 0, .int .i64 0, .int .i64 0, .int .i64 0, .int .i64 0] 24)).cell? ⟨wd.heap.size, 2, none⟩ = some (.int .i64 0) := by simp
          have b2 : (wd.alloc (.cells #[.int .i64 0, .int .i64 0, .int .i64 0, .int .i64 0, .int .i64 0] 24)).frozen? ⟨wd.heap.size, 2, none⟩ = false := by simp
          have a3 : (wd.alloc (.cells #[.int .i64 0, .int .i64 0, .int .i64 0, .int .i64 0, .int .i64 0] 24)).cell? ⟨wd.heap.size, 3, none⟩ = some (.int .i64 0) := by simp
          have b3 : (wd.alloc (.cells #[.int .i64 0, .int .i64 0, .int .i64 0, .int .i64 0, .int .i64 0] 24)).frozen? ⟨wd.heap.size, 3, none⟩ = false := by simp
          have a4 : (wd.alloc (.cells #[.int .i64 0, .int .i64 0, .int .i64 0, .int .i64 0, .int .i64 0] 24)).cell? ⟨wd.heap.size, 4, none⟩ = some (.int .i64 0) := by simp
          have b4 : (wd.alloc (.cells #[.int .i64 0, .int .i64 0, .int .i64 0, .int .i64 0, .int .i64 0] 24)).frozen? ⟨wd.heap.size, 4, none⟩ = false := by simp
          have hGle : w3.heap.size ≤ wd.heap.size := Bc.size
          have hGlt : wd.heap.size < (wd.alloc (.cells #[.int .i64 0, .int .i64 0, .int .i64 0, .int .i64 0, .int .i64 0] 24)).heap.size := by simp
          replace Bc := bthen Bc BA
          clear BA
          generalize hgg : wd.heap.size = gg at *
          generalize (wd.alloc (.cells #[.int .i64 0, .int .i64 0, .int .i64 0, .int .i64 0, .int .i64 0] 24)) = wz at *
          clear hgg
          refine wpAnyH_ready (rs := [18]) (by kernel_rfl) (by simp) ?_
          refine AllReadyH.cons rfl (fun K hK => ?_) AllReadyH.nil
          go_simp
          have BS : Below w3.heap.size w3 (((((wz.setCell ⟨gg, 0, none⟩ (.int .i64 (atoiV x0.data.toList))).setCell ⟨gg, 1, none⟩ (.int .i64 (atoiV x1.data.toList))).setCell ⟨gg, 2, none⟩ (.int .i64 (ordK f))).setCell ⟨gg, 3, none⟩ (.int .i64 (ordT f x3))).setCell ⟨gg, 4, none⟩ (.int .i64 (ordN f x3 x4))) := by
            iterate 5 (refine Below.setCell ?_ hGle _)
            exact Bc
          refine hK.out _ _ ⟨fun b o hb => BS.cell (p := ⟨b, o, none⟩) hb, BS.size⟩ (fun hHeld => ?_)
          clear hK K
          try simp only [Act.put, List.setIfInBounds_toArray, List.set_cons_zero, List.set_cons_succ, List.getElem_toArray, List.getElem_cons_zero, List.getElem_cons_succ]
          refine wpAnyH_done (by kernel_rfl) ?_ _
          have v0 : ((((((wz.setCell ⟨gg, 0, none⟩ (.int .i64 (atoiV x0.data.toList))).setCell ⟨gg, 1, none⟩ (.int .i64 (atoiV x1.data.toList))).setCell ⟨gg, 2, none⟩ (.int .i64 (ordK f))).setCell ⟨gg, 3, none⟩ (.int .i64 (ordT f x3))).setCell ⟨gg, 4, none⟩ (.int .i64 (ordN f x3 x4)))).cell? ⟨gg, 0, none⟩ = some (.int .i64 (atoiV x0.data.toList)) := by simp [go_sem, a0]
          have v1 : ((((((wz.setCell ⟨gg, 0, none⟩ (.int .i64 (atoiV x0.data.toList))).setCell ⟨gg, 1, none⟩ (.int .i64 (atoiV x1.data.toList))).setCell ⟨gg, 2, none⟩ (.int .i64 (ordK f))).setCell ⟨gg, 3, none⟩ (.int .i64 (ordT f x3))).setCell ⟨gg, 4, none⟩ (.int .i64 (ordN f x3 x4)))).cell? ⟨gg, 1, none⟩ = some (.int .i64 (atoiV x1.data.toList)) := by simp [go_sem, a1]
          have v2 : ((((((wz.setCell ⟨gg, 0, none⟩ (.int .i64 (atoiV x0.data.toList))).setCell ⟨gg, 1, none⟩ (.int .i64 (atoiV x1.data.toList))).setCell ⟨gg, 2, none⟩ (.int .i64 (ordK f))).setCell ⟨gg, 3, none⟩ (.int .i64 (ordT f x3))).setCell ⟨gg, 4, none⟩ (.int .i64 (ordN f x3 x4)))).cell? ⟨gg, 2, none⟩ = some (.int .i64 (ordK f)) := by simp [go_sem, a2]
          have v3 : ((((((wz.setCell ⟨gg, 0, none⟩ (.int .i64 (atoiV x0.data.toList))).setCell ⟨gg, 1, none⟩ (.int .i64 (atoiV x1.data.toList))).setCell ⟨gg, 2, none⟩ (.int .i64 (ordK f))).setCell ⟨gg, 3, none⟩ (.int .i64 (ordT f x3))).setCell ⟨gg, 4, none⟩ (.int .i64 (ordN f x3 x4)))).cell? ⟨gg, 3, none⟩ = some (.int .i64 (ordT f x3)) := by simp [go_sem, a3]
          have v4 : ((((((wz.setCell ⟨gg, 0, none⟩ (.int .i64 (atoiV x0.data.toList))).setCell ⟨gg, 1, none⟩ (.int .i64 (atoiV x1.data.toList))).setCell ⟨gg, 2, none⟩ (.int .i64 (ordK f))).setCell ⟨gg, 3, none⟩ (.int .i64 (ordT f x3))).setCell ⟨gg, 4, none⟩ (.int .i64 (ordN f x3 x4)))).cell? ⟨gg, 4, none⟩ = some (.int .i64 (ordN f x3 x4)) := by simp [go_sem, a4]
          have hGS : gg < ((((((wz.setCell ⟨gg, 0, none⟩ (.int .i64 (atoiV x0.data.toList))).setCell ⟨gg, 1, none⟩ (.int .i64 (atoiV x1.data.toList))).setCell ⟨gg, 2, none⟩ (.int .i64 (ordK f))).setCell ⟨gg, 3, none⟩ (.int .i64 (ordT f x3))).setCell ⟨gg, 4, none⟩ (.int .i64 (ordN f x3 x4)))).heap.size := by simpa [World.setCell] using hGlt
          generalize (((((wz.setCell ⟨gg, 0, none⟩ (.int .i64 (atoiV x0.data.toList))).setCell ⟨gg, 1, none⟩ (.int .i64 (atoiV x1.data.toList))).setCell ⟨gg, 2, none⟩ (.int .i64 (ordK f))).setCell ⟨gg, 3, none⟩ (.int .i64 (ordT f x3))).setCell ⟨gg, 4, none⟩ (.int .i64 (ordN f x3 x4))) = W5 at *
          clear a0 a1 a2 a3 a4 b0 b1 b2 b3 b4 hGlt
          generalize gg = GG at *
          go_wp2_with fail
          refine (ordText_impl _ _ _ _ _ _ (HE3.out.on BS).tab).mono ?_
          rintro e w6 ⟨rfl, hb6⟩
          obtain ⟨hc6, hf6⟩ := bcell (bthen (bthen BW3.out BS) hb6)
          have hcv := (bcell hb6).1
          have r0 : w6.cell? ⟨w.heap.size, 0, none⟩ = some (.int .i64 0) := (hc6 _ 0 (by simp)).trans (by simp)
          have s0 : w6.frozen? ⟨w.heap.size, 0, none⟩ = false := (hf6 _ 0 (by simp)).trans (by simp)
          replace v0 := (hcv _ 0 hGS).trans v0
          have r1 : w6.cell? ⟨w.heap.size, 1, none⟩ = some (.int .i64 0) := (hc6 _ 1 (by simp)).trans (by simp)
          have s1 : w6.frozen? ⟨w.heap.size, 1, none⟩ = false := (hf6 _ 1 (by simp)).trans (by simp)
          replace v1 := (hcv _ 1 hGS).trans v1
          have r2 : w6.cell? ⟨w.heap.size, 2, none⟩ = some (.int .i64 0) := (hc6 _ 2 (by simp)).trans (by simp)
          have s2 : w6.frozen? ⟨w.heap.size, 2, none⟩ = false := (hf6 _ 2 (by simp)).trans (by simp)
          replace v2 := (hcv _ 2 hGS).trans v2
          have r3 : w6.cell? ⟨w.heap.size, 3, none⟩ = some (.int .i64 0) := (hc6 _ 3 (by simp)).trans (by simp)
          have s3 : w6.frozen? ⟨w.heap.size, 3, none⟩ = false := (hf6 _ 3 (by simp)).trans (by simp)
          replace v3 := (hcv _ 3 hGS).trans v3
          have r4 : w6.cell? ⟨w.heap.size, 4, none⟩ = some (.int .i64 0) := (hc6 _ 4 (by simp)).trans (by simp)
          have s4 : w6.frozen? ⟨w.heap.size, 4, none⟩ = false := (hf6 _ 4 (by simp)).trans (by simp)
          replace v4 := (hcv _ 4 hGS).trans v4
          have HB6 : Hid (Below w.heap.size w w6) := bthen ((Below.refl _ _).alloc (by simp) _) (bthen (bthen BW3.out BS) hb6)
          obtain ⟨q0, q1, q2, q3, q4⟩ := HQ.out
          clear hc6 hf6 hcv hb6 BS hHeld
          by_cases ht : (ordText (atoiV x0.data.toList) (atoiV x1.data.toList) (ordK f) (ordT f x3) (ordN f x3 x4)).toList = s.toList
          · have ht' : ((ordText (atoiV x0.data.toList) (atoiV x1.data.toList) (ordK f) (ordT f x3) (ordN f x3 x4)).toList == s.toList) = true := by simpa using ht
            have HT : Hid ((ordText (oW s) (oS s) (oK s f) (oT s f) (oN s f)).toList = s.toList) := by unfold Hid; rw [q0, q1, q2, q3, q4]; exact ht
            have HQ2 := HQ
            clear ht q0 q1 q2 q3 q4
            go_wp2
            exact bodyPost_ret (v := .tuple #[.agg #[.int .i64 (atoiV x0.data.toList), .int .i64 (atoiV x1.data.toList), .int .i64 (ordK f), .int .i64 (ordT f x3), .int .i64 (ordN f x3 x4)], .bool true]) (by simp [results, Tryd.results12, go_sem, r0, r1, r2, r3, r4]) rfl ⟨.inl ⟨HT.out, by obtain ⟨q0, q1, q2, q3, q4⟩ := HQ2.out; rw [q0, q1, q2, q3, q4]⟩, by (iterate 5 (refine Below.setCell ?_ (by simp) _)); exact HB6.out⟩
          · have ht' : ((ordText (atoiV x0.data.toList) (atoiV x1.data.toList) (ordK f) (ordT f x3) (ordN f x3 x4)).toList == s.toList) = false := by simpa using ht
            have HT : Hid ((ordText (oW s) (oS s) (oK s f) (oT s f) (oN s f)).toList ≠ s.toList) := by unfold Hid; rw [q0, q1, q2, q3, q4]; exact ht
            clear ht q0 q1 q2 q3 q4
            go_wp2
            exact bodyPost_ret (v := .tuple #[.agg #[.int .i64 0, .int .i64 0, .int .i64 0, .int .i64 0, .int .i64 0], .bool false]) (by simp [results, Tryd.results12, go_sem, r0, r1, r2, r3, r4]) rfl ⟨.inr ⟨HT.out, rfl⟩, by (iterate 5 (refine Below.setCell ?_ (by simp) _)); exact HB6.out⟩
        · skip
          go_simp
          have BA : Below wc.heap.size wc (wc.alloc (.cells #[.int .i64 0, .int .i64 0, .int .i64 0, .int .i64 0, .int .i64 0] 24)) := (Below.refl _ _).alloc (Nat.le_refl _) _
          refine hK.out _ _ (keepS (by assumption) BA) (fun hHeld => ?_)
          clear hK K
          try simp only [Act.put, List.setIfInBounds_toArray, List.set_cons_zero, List.set_cons_succ, List.getElem_toArray, List.getElem_cons_zero, List.getElem_cons_succ]
          have a0 : (wc.alloc (.cells #[.int .i64 0, .int .i64 0, .int .i64 0, .int .i64 0, .int .i64 0] 24)).cell? ⟨wc.heap.size, 0, none⟩ = some (.int .i64 0) := by simp
          have b0 : (wc.alloc (.cells #[.int .i64 0, .int .i64 0, .int .i64 0, .int .i64 0, .int .i64 0] 24)).frozen? ⟨wc.heap.size, 0, none⟩ = false := by simp
          have a1 : (wc.alloc (.cells #[.int .i64 0, .int .i64 0, .int .i64 0, .int .i64 0, .int .i64 0] 24)).cell? ⟨wc.heap.size, 1, none⟩ = some (.int .i64 0) := by simp
          have b1 : (wc.alloc (.cells #[.int .i64 0, .int .i64 0, .int .i64 0, .int .i64 0, .int .i64 0] 24)).frozen? ⟨wc.heap.size, 1, none⟩ = false := by simp
          have a2 : (wc.alloc (.cells #[.int .i64 0, .int .i64 0, .int .i64 0, .int .i64 0, .int .i64 0] 24)).cell? ⟨wc.heap.size, 2, none⟩ = some (.int .i64 0) := by simp
          have b2 : (wc.alloc (.cells #[.int .i64 0, .int .i64 0, .int .i64 0, .int .i64 0, .int .i64 0] 24)).frozen? ⟨wc.heap.size, 2, none⟩ = false := by simp
          have a3 : (wc.alloc (.cells #[.int .i64 0, .int .i64 0, .int .i64 0, .int .i64 0, .int .i64 0] 24)).cell? ⟨wc.heap.size, 3, none⟩ = some (.int .i64 0) := by simp
          have b3 : (wc.alloc (.cells #[.int .i64 0, .int .i64 0, .int .i64 0, .int .i64 0, .int .i64 0] 24)).frozen? ⟨wc.heap.size, 3, none⟩ = false := by simp
          have a4 : (wc.alloc (.cells #[.int .i64 0, .int .i64 0, .int .i64 0, .int .i64 0, .int .i64 0] 24)).cell? ⟨wc.heap.size, 4, none⟩ = some (.int .i64 0) := by simp
          have b4 : (wc.alloc (.cells #[.int .i64 0, .int .i64 0, .int .i64 0, .int .i64 0, .int .i64 0] 24)).frozen? ⟨wc.heap.size, 4, none⟩ = false := by simp
          have hGle : w3.heap.size ≤ wc.heap.size := Bc.size
          have hGlt : wc.heap.size < (wc.alloc (.cells #[.int .i64 0, .int .i64 0, .int .i64 0, .int .i64 0, .int .i64 0] 24)).heap.size := by simp
          replace Bc := bthen Bc BA
          clear BA
          generalize hgg : wc.heap.size = gg at *
          generalize (wc.alloc (.cells #[.int .i64 0, .int .i64 0, .int .i64 0, .int .i64 0, .int .i64 0] 24)) = wz at *
          clear hgg
          refine wpAnyH_ready (rs := [16]) (by kernel_rfl) (by simp) ?_
          refine AllReadyH.cons rfl (fun K hK => ?_) AllReadyH.nil
          go_simp
          go_wp2_with fail
          refine (order_R x2 x3 x4 f HR.out _ _ _).mono ?_
          rintro e wd ⟨rfl, hbwd⟩
          refine hK.out _ _ (keepS (by assumption) hbwd) (fun hHeld => ?_)
          clear hK K
          try simp only [Act.put, List.setIfInBounds_toArray, List.set_cons_zero, List.set_cons_succ, List.getElem_toArray, List.getElem_cons_zero, List.getElem_cons_succ]
          replace Bc := bthen Bc hbwd
          replace a0 := (hbwd.cell (p := ⟨gg, 0, none⟩) hGlt).trans a0
          replace b0 := (hbwd.frozen (p := ⟨gg, 0, none⟩) hGlt).trans b0
          replace a1 := (hbwd.cell (p := ⟨gg, 1, none⟩) hGlt).trans a1
          replace b1 := (hbwd.frozen (p := ⟨gg, 1, none⟩) hGlt).trans b1
          replace a2 := (hbwd.cell (p := ⟨gg, 2, none⟩) hGlt).trans a2
          replace b2 := (hbwd.frozen (p := ⟨gg, 2, none⟩) hGlt).trans b2
          replace a3 := (hbwd.cell (p := ⟨gg, 3, none⟩) hGlt).trans a3
          replace b3 := (hbwd.frozen (p := ⟨gg, 3, none⟩) hGlt).trans b3
          replace a4 := (hbwd.cell (p := ⟨gg, 4, none⟩) hGlt).trans a4
          replace b4 := (hbwd.frozen (p := ⟨gg, 4, none⟩) hGlt).trans b4
          replace hGlt := Nat.lt_of_lt_of_le hGlt hbwd.size
          clear hbwd
          refine wpAnyH_ready (rs := [18]) (by kernel_rfl) (by simp) ?_
          refine AllReadyH.cons rfl (fun K hK => ?_) AllReadyH.nil
          go_simp
          have BS : Below w3.heap.size w3 (((((wd.setCell ⟨gg, 0, none⟩ (.int .i64 (atoiV x0.data.toList))).setCell ⟨gg, 1, none⟩ (.int .i64 (atoiV x1.data.toList))).setCell ⟨gg, 2, none⟩ (.int .i64 (ordK f))).setCell ⟨gg, 3, none⟩ (.int .i64 (ordT f x3))).setCell ⟨gg, 4, none⟩ (.int .i64 (ordN f x3 x4))) := by
            iterate 5 (refine Below.setCell ?_ hGle _)
            exact Bc
          refine hK.out _ _ ⟨fun b o hb => BS.cell (p := ⟨b, o, none⟩) hb, BS.size⟩ (fun hHeld => ?_)
          clear hK K
          try simp only [Act.put, List.setIfInBounds_toArray, List.set_cons_zero, List.set_cons_succ, List.getElem_toArray, List.getElem_cons_zero, List.getElem_cons_succ]
          refine wpAnyH_done (by kernel_rfl) ?_ _
          have v0 : ((((((wd.setCell ⟨gg, 0, none⟩ (.int .i64 (atoiV x0.data.toList))).setCell ⟨gg, 1, none⟩ (.int .i64 (atoiV x1.data.toList))).setCell ⟨gg, 2, none⟩ (.int .i64 (ordK f))).setCell ⟨gg, 3, none⟩ (.int .i64 (ordT f x3))).setCell ⟨gg, 4, none⟩ (.int .i64 (ordN f x3 x4)))).cell? ⟨gg, 0, none⟩ = some (.int .i64 (atoiV x0.data.toList)) := by simp [go_sem, a0]
          have v1 : ((((((wd.setCell ⟨gg, 0, none⟩ (.int .i64 (atoiV x0.data.toList))).setCell ⟨gg, 1, none⟩ (.int .i64 (atoiV x1.data.toList))).setCell ⟨gg, 2, none⟩ (.int .i64 (ordK f))).setCell ⟨gg, 3, none⟩ (.int .i64 (ordT f x3))).setCell ⟨gg, 4, none⟩ (.int .i64 (ordN f x3 x4)))).cell? ⟨gg, 1, none⟩ = some (.int .i64 (atoiV x1.data.toList)) := by simp [go_sem, a1]
          have v2 : ((((((wd.setCell ⟨gg, 0, none⟩ (.int .i64 (atoiV x0.data.toList))).setCell ⟨gg, 1, none⟩ (.int .i64 (atoiV x1.data.toList))).setCell ⟨gg, 2, none⟩ (.int .i64 (ordK f))).setCell ⟨gg, 3, none⟩ (.int .i64 (ordT f x3))).setCell ⟨gg, 4, none⟩ (.int .i64 (ordN f x3 x4)))).cell? ⟨gg, 2, none⟩ = some (.int .i64 (ordK f)) := by simp [go_sem, a2]
          have v3 : ((((((wd.setCell ⟨gg, 0, none⟩ (.int .i64 (atoiV x0.data.toList))).setCell ⟨gg, 1, none⟩ (.int .i64 (atoiV x1.data.toList))).setCell ⟨gg, 2, none⟩ (.int .i64 (ordK f))).setCell ⟨gg, 3, none⟩ (.int .i64 (ordT f x3))).setCell ⟨gg, 4, none⟩ (.int .i64 (ordN f x3 x4)))).cell? ⟨gg, 3, none⟩ = some (.int .i64 (ordT f x3)) := by simp [go_sem, a3]
          have v4 : ((((((wd.setCell ⟨gg, 0, none⟩ (.int .i64 (atoiV x0.data.toList))).setCell ⟨gg, 1, none⟩ (.int .i64 (atoiV x1.data.toList))).setCell ⟨gg, 2, none⟩ (.int .i64 (ordK f))).setCell ⟨gg, 3, none⟩ (.int .i64 (ordT f x3))).setCell ⟨gg, 4, none⟩ (.int .i64 (ordN f x3 x4)))).cell? ⟨gg, 4, none⟩ = some (.int .i64 (ordN f x3 x4)) := by simp [go_sem, a4]
          have hGS : gg < ((((((wd.setCell ⟨gg, 0, none⟩ (.int .i64 (atoiV x0.data.toList))).setCell ⟨gg, 1, none⟩ (.int .i64 (atoiV x1.data.toList))).setCell ⟨gg, 2, none⟩ (.int .i64 (ordK f))).setCell ⟨gg, 3, none⟩ (.int .i64 (ordT f x3))).setCell ⟨gg, 4, none⟩ (.int .i64 (ordN f x3 x4)))).heap.size := by simpa [World.setCell] using hGlt
          generalize (((((wd.setCell ⟨gg, 0, none⟩ (.int .i64 (atoiV x0.data.toList))).setCell ⟨gg, 1, none⟩ (.int .i64 (atoiV x1.data.toList))).setCell ⟨gg, 2, none⟩ (.int .i64 (ordK f))).setCell ⟨gg, 3, none⟩ (.int .i64 (ordT f x3))).setCell ⟨gg, 4, none⟩ (.int .i64 (ordN f x3 x4))) = W5 at *
          clear a0 a1 a2 a3 a4 b0 b1 b2 b3 b4 hGlt
          generalize gg = GG at *
          go_wp2_with fail
          refine (ordText_impl _ _ _ _ _ _ (HE3.out.on BS).tab).mono ?_
          rintro e w6 ⟨rfl, hb6⟩
          obtain ⟨hc6, hf6⟩ := bcell (bthen (bthen BW3.out BS) hb6)
          have hcv := (bcell hb6).1
          have r0 : w6.cell? ⟨w.heap.size, 0, none⟩ = some (.int .i64 0) := (hc6 _ 0 (by simp)).trans (by simp)
          have s0 : w6.frozen? ⟨w.heap.size, 0, none⟩ = false := (hf6 _ 0 (by simp)).trans (by simp)
          replace v0 := (hcv _ 0 hGS).trans v0
          have r1 : w6.cell? ⟨w.heap.size, 1, none⟩ = some (.int .i64 0) := (hc6 _ 1 (by simp)).trans (by simp)
          have s1 : w6.frozen? ⟨w.heap.size, 1, none⟩ = false := (hf6 _ 1 (by simp)).trans (by simp)
          replace v1 := (hcv _ 1 hGS).trans v1
          have r2 : w6.cell? ⟨w.heap.size, 2, none⟩ = some (.int .i64 0) := (hc6 _ 2 (by simp)).trans (by simp)
          have s2 : w6.frozen? ⟨w.heap.size, 2, none⟩ = false := (hf6 _ 2 (by simp)).trans (by simp)
          replace v2 := (hcv _ 2 hGS).trans v2
          have r3 : w6.cell? ⟨w.heap.size, 3, none⟩ = some (.int .i64 0) := (hc6 _ 3 (by simp)).trans (by simp)
          have s3 : w6.frozen? ⟨w.heap.size, 3, none⟩ = false := (hf6 _ 3 (by simp)).trans (by simp)
          replace v3 := (hcv _ 3 hGS).trans v3
          have r4 : w6.cell? ⟨w.heap.size, 4, none⟩ = some (.int .i64 0) := (hc6 _ 4 (by simp)).trans (by simp)
          have s4 : w6.frozen? ⟨w.heap.size, 4, none⟩ = false := (hf6 _ 4 (by simp)).trans (by simp)
          replace v4 := (hcv _ 4 hGS).trans v4
          have HB6 : Hid (Below w.heap.size w w6) := bthen ((Below.refl _ _).alloc (by simp) _) (bthen (bthen BW3.out BS) hb6)
          obtain ⟨q0, q1, q2, q3, q4⟩ := HQ.out
          clear hc6 hf6 hcv hb6 BS hHeld
          by_cases ht : (ordText (atoiV x0.data.toList) (atoiV x1.data.toList) (ordK f) (ordT f x3) (ordN f x3 x4)).toList = s.toList
          · have ht' : ((ordText (atoiV x0.data.toList) (atoiV x1.data.toList) (ordK f) (ordT f x3) (ordN f x3 x4)).toList == s.toList) = true := by simpa using ht
            have HT : Hid ((ordText (oW s) (oS s) (oK s f) (oT s f) (oN s f)).toList = s.toList) := by unfold Hid; rw [q0, q1, q2, q3, q4]; exact ht
            have HQ2 := HQ
            clear ht q0 q1 q2 q3 q4
            go_wp2
            exact bodyPost_ret (v := .tuple #[.agg #[.int .i64 (atoiV x0.data.toList), .int .i64 (atoiV x1.data.toList), .int .i64 (ordK f), .int .i64 (ordT f x3), .int .i64 (ordN f x3 x4)], .bool true]) (by simp [results, Tryd.results12, go_sem, r0, r1, r2, r3, r4]) rfl ⟨.inl ⟨HT.out, by obtain ⟨q0, q1, q2, q3, q4⟩ := HQ2.out; rw [q0, q1, q2, q3, q4]⟩, by (iterate 5 (refine Below.setCell ?_ (by simp) _)); exact HB6.out⟩
          · have ht' : ((ordText (atoiV x0.data.toList) (atoiV x1.data.toList) (ordK f) (ordT f x3) (ordN f x3 x4)).toList == s.toList) = false := by simpa using ht
            have HT : Hid ((ordText (oW s) (oS s) (oK s f) (oT s f) (oN s f)).toList ≠ s.toList) := by unfold Hid; rw [q0, q1, q2, q3, q4]; exact ht
            clear ht q0 q1 q2 q3 q4
            go_wp2
            exact bodyPost_ret (v := .tuple #[.agg #[.int .i64 0, .int .i64 0, .int .i64 0, .int .i64 0, .int .i64 0], .bool false]) (by simp [results, Tryd.results12, go_sem, r0, r1, r2, r3, r4]) rfl ⟨.inr ⟨HT.out, rfl⟩, by (iterate 5 (refine Below.setCell ?_ (by simp) _)); exact HB6.out⟩
      · skip
        go_simp
        have BA : Below wb.heap.size wb (wb.alloc (.cells #[.int .i64 0, .int .i64 0, .int .i64 0, .int .i64 0, .int .i64 0] 24)) := (Below.refl _ _).alloc (Nat.le_refl _) _
        refine hK.out _ _ (keepS (by assumption) BA) (fun hHeld => ?_)
        clear hK K
        try simp only [Act.put, List.setIfInBounds_toArray, List.set_cons_zero, List.set_cons_succ, List.getElem_toArray, List.getElem_cons_zero, List.getElem_cons_succ]
        have a0 : (wb.alloc (.cells #[.int .i64 0, .int .i64 0, .int .i64 0, .int .i64 0, .int .i64 0] 24)).cell? ⟨wb.heap.size, 0, none⟩ = some (.int .i64 0) := by simp
        have b0 : (wb.alloc (.cells #[.int .i64 0, .int .i64 0, .int .i64 0, .int .i64 0, .int .i64 0] 24)).frozen? ⟨wb.heap.size, 0, none⟩ = false := by simp
        have a1 : (wb.alloc (.cells #[.int .i64 0, .int .i64 0, .int .i64 0, .int .i64 0, .int .i64 0] 24)).cell? ⟨wb.heap.size, 1, none⟩ = some (.int .i64 0) := by simp
        have b1 : (wb.alloc (.cells #[.int .i64 0, .int .i64 0, .int .i64 0, .int .i64 0, .int .i64 0] 24)).frozen? ⟨wb.heap.size, 1, none⟩ = false := by simp
        have a2 : (wb.alloc (.cells #[.int .i64 0, .int .i64 0, .int .i64 0, .int .i64 0, .int .i64 0] 24)).cell? ⟨wb.heap.size, 2, none⟩ = some (.int .i64 0) := by simp
        have b2 : (wb.alloc (.cells #[.int .i64 0, .int .i64 0, .int .i64 0, .int .i64 0, .int .i64 0] 24)).frozen? ⟨wb.heap.size, 2, none⟩ = false := by simp
        have a3 : (wb.alloc (.cells #[.int .i64 0, .int .i64 0, .int .i64 0, .int .i64 0, .int .i64 0] 24)).cell? ⟨wb.heap.size, 3, none⟩ = some (.int .i64 0) := by simp
        have b3 : (wb.alloc (.cells #[.int .i64 0, .int .i64 0, .int .i64 0, .int .i64 0, .int .i64 0] 24)).frozen? ⟨wb.heap.size, 3, none⟩ = false := by simp
        have a4 : (wb.alloc (.cells #[.int .i64 0, .int .i64 0, .int .i64 0, .int .i64 0, .int .i64 0] 24)).cell? ⟨wb.heap.size, 4, none⟩ = some (.int .i64 0) := by simp
        have b4 : (wb.alloc (.cells #[.int .i64 0, .int .i64 0, .int .i64 0, .int .i64 0, .int .i64 0] 24)).frozen? ⟨wb.heap.size, 4, none⟩ = false := by simp
        have hGle : w3.heap.size ≤ wb.heap.size := Bc.size
        have hGlt : wb.heap.size < (wb.alloc (.cells #[.int .i64 0, .int .i64 0, .int .i64 0, .int .i64 0, .int .i64 0] 24)).heap.size := by simp
        replace Bc := bthen Bc BA
        clear BA
        generalize hgg : wb.heap.size = gg at *
        generalize (wb.alloc (.cells #[.int .i64 0, .int .i64 0, .int .i64 0, .int .i64 0, .int .i64 0] 24)) = wz at *
        clear hgg
        refine wpAnyH_ready (rs := [15]) (by kernel_rfl) (by simp) ?_
        refine AllReadyH.cons rfl (fun K hK => ?_) AllReadyH.nil
        go_simp
        go_wp2_with fail
        refine (read_any x2 x3 x4 f HR.out z3 z4 _ (HE3.out.on Bc)).mono ?_
        rintro e wc ⟨rfl, hbwc⟩
        refine hK.out _ _ (keepS (by assumption) hbwc) (fun hHeld => ?_)
        clear hK K
        try simp only [Act.put, List.setIfInBounds_toArray, List.set_cons_zero, List.set_cons_succ, List.getElem_toArray, List.getElem_cons_zero, List.getElem_cons_succ]
        replace Bc := bthen Bc hbwc
        replace a0 := (hbwc.cell (p := ⟨gg, 0, none⟩) hGlt).trans a0
        replace b0 := (hbwc.frozen (p := ⟨gg, 0, none⟩) hGlt).trans b0
        replace a1 := (hbwc.cell (p := ⟨gg, 1, none⟩) hGlt).trans a1
        replace b1 := (hbwc.frozen (p := ⟨gg, 1, none⟩) hGlt).trans b1
        replace a2 := (hbwc.cell (p := ⟨gg, 2, none⟩) hGlt).trans a2
        replace b2 := (hbwc.frozen (p := ⟨gg, 2, none⟩) hGlt).trans b2
        replace a3 := (hbwc.cell (p := ⟨gg, 3, none⟩) hGlt).trans a3
        replace b3 := (hbwc.frozen (p := ⟨gg, 3, none⟩) hGlt).trans b3
        replace a4 := (hbwc.cell (p := ⟨gg, 4, none⟩) hGlt).trans a4
        replace b4 := (hbwc.frozen (p := ⟨gg, 4, none⟩) hGlt).trans b4
        replace hGlt := Nat.lt_of_lt_of_le hGlt hbwc.size
        clear hbwc
        refine wpAnyH_ready (rs := [16]) (by kernel_rfl) (by simp) ?_
        refine AllReadyH.cons rfl (fun K hK => ?_) AllReadyH.nil
        go_simp
        go_wp2_with fail
        refine (order_R x2 x3 x4 f HR.out _ _ _).mono ?_
        rintro e wd ⟨rfl, hbwd⟩
        refine hK.out _ _ (keepS (by assumption) hbwd) (fun hHeld => ?_)
        clear hK K
        try simp only [Act.put, List.setIfInBounds_toArray, List.set_cons_zero, List.set_cons_succ, List.getElem_toArray, List.getElem_cons_zero, List.getElem_cons_succ]
        replace Bc := bthen Bc hbwd
        replace a0 := (hbwd.cell (p := ⟨gg, 0, none⟩) hGlt).trans a0
        replace b0 := (hbwd.frozen (p := ⟨gg, 0, none⟩) hGlt).trans b0
        replace a1 := (hbwd.cell (p := ⟨gg, 1, none⟩) hGlt).trans a1
        replace b1 := (hbwd.frozen (p := ⟨gg, 1, none⟩) hGlt).trans b1
        replace a2 := (hbwd.cell (p := ⟨gg, 2, none⟩) hGlt).trans a2
        replace b2 := (hbwd.frozen (p := ⟨gg, 2, none⟩) hGlt).trans b2
        replace a3 := (hbwd.cell (p := ⟨gg, 3, none⟩) hGlt).trans a3
        replace b3 := (hbwd.frozen (p := ⟨gg, 3, none⟩) hGlt).trans b3
        replace a4 := (hbwd.cell (p := ⟨gg, 4, none⟩) hGlt).trans a4
        replace b4 := (hbwd.frozen (p := ⟨gg, 4, none⟩) hGlt).trans b4
        replace hGlt := Nat.lt_of_lt_of_le hGlt hbwd.size
        clear hbwd
        refine wpAnyH_ready (rs := [18]) (by kernel_rfl) (by simp) ?_
        refine AllReadyH.cons rfl (fun K hK => ?_) AllReadyH.nil
        go_simp
        have BS : Below w3.heap.size w3 (((((wd.setCell ⟨gg, 0, none⟩ (.int .i64 (atoiV x0.data.toList))).setCell ⟨gg, 1, none⟩ (.int .i64 (atoiV x1.data.toList))).setCell ⟨gg, 2, none⟩ (.int .i64 (ordK f))).setCell ⟨gg, 3, none⟩ (.int .i64 (ordT f x3))).setCell ⟨gg, 4, none⟩ (.int .i64 (ordN f x3 x4))) := by
          iterate 5 (refine Below.setCell ?_ hGle _)
          exact Bc
        refine hK.out _ _ ⟨fun b o hb => BS.cell (p := ⟨b, o, none⟩) hb, BS.size⟩ (fun hHeld => ?_)
        clear hK K
        try simp only [Act.put, List.setIfInBounds_toArray, List.set_cons_zero, List.set_cons_succ, List.getElem_toArray, List.getElem_cons_zero, List.getElem_cons_succ]
        refine wpAnyH_done (by kernel_rfl) ?_ _
        have v0 : ((((((wd.setCell ⟨gg, 0, none⟩ (.int .i64 (atoiV x0.data.toList))).setCell ⟨gg, 1, none⟩ (.int .i64 (atoiV x1.data.toList))).setCell ⟨gg, 2, none⟩ (.int .i64 (ordK f))).setCell ⟨gg, 3, none⟩ (.int .i64 (ordT f x3))).setCell ⟨gg, 4, none⟩ (.int .i64 (ordN f x3 x4)))).cell? ⟨gg, 0, none⟩ = some (.int .i64 (atoiV x0.data.toList)) := by simp [go_sem, a0]
        have v1 : ((((((wd.setCell ⟨gg, 0, none⟩ (.int .i64 (atoiV x0.data.toList))).setCell ⟨gg, 1, none⟩ (.int .i64 (atoiV x1.data.toList))).setCell ⟨gg, 2, none⟩ (.int .i64 (ordK f))).setCell ⟨gg, 3, none⟩ (.int .i64 (ordT f x3))).setCell ⟨gg, 4, none⟩ (.int .i64 (ordN f x3 x4)))).cell? ⟨gg, 1, none⟩ = some (.int .i64 (atoiV x1.data.toList)) := by simp [go_sem, a1]
        have v2 : ((((((wd.setCell ⟨gg, 0, none⟩ (.int .i64 (atoiV x0.data.toList))).setCell ⟨gg, 1, none⟩ (.int .i64 (atoiV x1.data.toList))).setCell ⟨gg, 2, none⟩ (.int .i64 (ordK f))).setCell ⟨gg, 3, none⟩ (.int .i64 (ordT f x3))).setCell ⟨gg, 4, none⟩ (.int .i64 (ordN f x3 x4)))).cell? ⟨gg, 2, none⟩ = some (.int .i64 (ordK f)) := by simp [go_sem, a2]
        have v3 : ((((((wd.setCell ⟨gg, 0, none⟩ (.int .i64 (atoiV x0.data.toList))).setCell ⟨gg, 1, none⟩ (.int .i64 (atoiV x1.data.toList))).setCell ⟨gg, 2, none⟩ (.int .i64 (ordK f))).setCell ⟨gg, 3, none⟩ (.int .i64 (ordT f x3))).setCell ⟨gg, 4, none⟩ (.int .i64 (ordN f x3 x4)))).cell? ⟨gg, 3, none⟩ = some (.int .i64 (ordT f x3)) := by simp [go_sem, a3]
        have v4 : ((((((wd.setCell ⟨gg, 0, none⟩ (.int .i64 (atoiV x0.data.toList))).setCell ⟨gg, 1, none⟩ (.int .i64 (atoiV x1.data.toList))).setCell ⟨gg, 2, none⟩ (.int .i64 (ordK f))).setCell ⟨gg, 3, none⟩ (.int .i64 (ordT f x3))).setCell ⟨gg, 4, none⟩ (.int .i64 (ordN f x3 x4)))).cell? ⟨gg, 4, none⟩ = some (.int .i64 (ordN f x3 x4)) := by simp [go_sem, a4]
        have hGS : gg < ((((((wd.setCell ⟨gg, 0, none⟩ (.int .i64 (atoiV x0.data.toList))).setCell ⟨gg, 1, none⟩ (.int .i64 (atoiV x1.data.toList))).setCell ⟨gg, 2, none⟩ (.int .i64 (ordK f))).setCell ⟨gg, 3, none⟩ (.int .i64 (ordT f x3))).setCell ⟨gg, 4, none⟩ (.int .i64 (ordN f x3 x4)))).heap.size := by simpa [World.setCell] using hGlt
        generalize (((((wd.setCell ⟨gg, 0, none⟩ (.int .i64 (atoiV x0.data.toList))).setCell ⟨gg, 1, none⟩ (.int .i64 (atoiV x1.data.toList))).setCell ⟨gg, 2, none⟩ (.int .i64 (ordK f))).setCell ⟨gg, 3, none⟩ (.int .i64 (ordT f x3))).setCell ⟨gg, 4, none⟩ (.int .i64 (ordN f x3 x4))) = W5 at *
        clear a0 a1 a2 a3 a4 b0 b1 b2 b3 b4 hGlt
        generalize gg = GG at *
        go_wp2_with fail
        refine (ordText_impl _ _ _ _ _ _ (HE3.out.on BS).tab).mono ?_
        rintro e w6 ⟨rfl, hb6⟩
        obtain ⟨hc6, hf6⟩ := bcell (bthen (bthen BW3.out BS) hb6)
        have hcv := (bcell hb6).1
        have r0 : w6.cell? ⟨w.heap.size, 0, none⟩ = some (.int .i64 0) := (hc6 _ 0 (by simp)).trans (by simp)
        have s0 : w6.frozen? ⟨w.heap.size, 0, none⟩ = false := (hf6 _ 0 (by simp)).trans (by simp)
        replace v0 := (hcv _ 0 hGS).trans v0
        have r1 : w6.cell? ⟨w.heap.size, 1, none⟩ = some (.int .i64 0) := (hc6 _ 1 (by simp)).trans (by simp)
        have s1 : w6.frozen? ⟨w.heap.size, 1, none⟩ = false := (hf6 _ 1 (by simp)).trans (by simp)
        replace v1 := (hcv _ 1 hGS).trans v1
        have r2 : w6.cell? ⟨w.heap.size, 2, none⟩ = some (.int .i64 0) := (hc6 _ 2 (by simp)).trans (by simp)
        have s2 : w6.frozen? ⟨w.heap.size, 2, none⟩ = false := (hf6 _ 2 (by simp)).trans (by simp)
        replace v2 := (hcv _ 2 hGS).trans v2
        have r3 : w6.cell? ⟨w.heap.size, 3, none⟩ = some (.int .i64 0) := (hc6 _ 3 (by simp)).trans (by simp)
        have s3 : w6.frozen? ⟨w.heap.size, 3, none⟩ = false := (hf6 _ 3 (by simp)).trans (by simp)
        replace v3 := (hcv _ 3 hGS).trans v3
        have r4 : w6.cell? ⟨w.heap.size, 4, none⟩ = some (.int .i64 0) := (hc6 _ 4 (by simp)).trans (by simp)
        have s4 : w6.frozen? ⟨w.heap.size, 4, none⟩ = false := (hf6 _ 4 (by simp)).trans (by simp)
        replace v4 := (hcv _ 4 hGS).trans v4
        have HB6 : Hid (Below w.heap.size w w6) := bthen ((Below.refl _ _).alloc (by simp) _) (bthen (bthen BW3.out BS) hb6)
        obtain ⟨q0, q1, q2, q3, q4⟩ := HQ.out
        clear hc6 hf6 hcv hb6 BS hHeld
        by_cases ht : (ordText (atoiV x0.data.toList) (atoiV x1.data.toList) (ordK f) (ordT f x3) (ordN f x3 x4)).toList = s.toList
        · have ht' : ((ordText (atoiV x0.data.toList) (atoiV x1.data.toList) (ordK f) (ordT f x3) (ordN f x3 x4)).toList == s.toList) = true := by simpa using ht
          have HT : Hid ((ordText (oW s) (oS s) (oK s f) (oT s f) (oN s f)).toList = s.toList) := by unfold Hid; rw [q0, q1, q2, q3, q4]; exact ht
          have HQ2 := HQ
          clear ht q0 q1 q2 q3 q4
          go_wp2
          exact bodyPost_ret (v := .tuple #[.agg #[.int .i64 (atoiV x0.data.toList), .int .i64 (atoiV x1.data.toList), .int .i64 (ordK f), .int .i64 (ordT f x3), .int .i64 (ordN f x3 x4)], .bool true]) (by simp [results, Tryd.results12, go_sem, r0, r1, r2, r3, r4]) rfl ⟨.inl ⟨HT.out, by obtain ⟨q0, q1, q2, q3, q4⟩ := HQ2.out; rw [q0, q1, q2, q3, q4]⟩, by (iterate 5 (refine Below.setCell ?_ (by simp) _)); exact HB6.out⟩
        · have ht' : ((ordText (atoiV x0.data.toList) (atoiV x1.data.toList) (ordK f) (ordT f x3) (ordN f x3 x4)).toList == s.toList) = false := by simpa using ht
          have HT : Hid ((ordText (oW s) (oS s) (oK s f) (oT s f) (oN s f)).toList ≠ s.toList) := by unfold Hid; rw [q0, q1, q2, q3, q4]; exact ht
          clear ht q0 q1 q2 q3 q4
          go_wp2
          exact bodyPost_ret (v := .tuple #[.agg #[.int .i64 0, .int .i64 0, .int .i64 0, .int .i64 0, .int .i64 0], .bool false]) (by simp [results, Tryd.results12, go_sem, r0, r1, r2, r3, r4]) rfl ⟨.inr ⟨HT.out, rfl⟩, by (iterate 5 (refine Below.setCell ?_ (by simp) _)); exact HB6.out⟩
    · skip
      go_simp
      have BA : Below wa.heap.size wa (wa.alloc (.cells #[.int .i64 0, .int .i64 0, .int .i64 0, .int .i64 0, .int .i64 0] 24)) := (Below.refl _ _).alloc (Nat.le_refl _) _
      refine hK.out _ _ (keepS (by assumption) BA) (fun hHeld => ?_)
      clear hK K
      try simp only [Act.put, List.setIfInBounds_toArray, List.set_cons_zero, List.set_cons_succ, List.getElem_toArray, List.getElem_cons_zero, List.getElem_cons_succ]
      have a0 : (wa.alloc (.cells #[.int .i64 0, .int .i64 0, .int .i64 0, .int .i64 0, .int .i64 0] 24)).cell? ⟨wa.heap.size, 0, none⟩ = some (.int .i64 0) := by simp
      have b0 : (wa.alloc (.cells #[.int .i64 0, .int .i64 0, .int .i64 0, .int .i64 0, .int .i64 0] 24)).frozen? ⟨wa.heap.size, 0, none⟩ = false := by simp
      have a1 : (wa.alloc (.cells #[.int .i64 0, .int .i64 0, .int .i64 0, .int .i64 0, .int .i64 0] 24)).cell? ⟨wa.heap.size, 1, none⟩ = some (.int .i64 0) := by simp
      have b1 : (wa.alloc (.cells #[.int .i64 0, .int .i64 0, .int .i64 0, .int .i64 0, .int .i64 0] 24)).frozen? ⟨wa.heap.size, 1, none⟩ = false := by simp
      have a2 : (wa.alloc (.cells #[.int .i64 0, .int .i64 0, .int .i64 0, .int .i64 0, .int .i64 0] 24)).cell? ⟨wa.heap.size, 2, none⟩ = some (.int .i64 0) := by simp
      have b2 : (wa.alloc (.cells #[.int .i64 0, .int .i64 0, .int .i64 0, .int .i64 0, .int .i64 0] 24)).frozen? ⟨wa.heap.size, 2, none⟩ = false := by simp
      have a3 : (wa.alloc (.cells #[.int .i64 0, .int .i64 0, .int .i64 0, .int .i64 0, .int .i64 0] 24)).cell? ⟨wa.heap.size, 3, none⟩ = some (.int .i64 0) := by simp
      have b3 : (wa.alloc (.cells #[.int .i64 0, .int .i64 0, .int .i64 0, .int .i64 0, .int .i64 0] 24)).frozen? ⟨wa.heap.size, 3, none⟩ = false := by simp
      have a4 : (wa.alloc (.cells #[.int .i64 0, .int .i64 0, .int .i64 0, .int .i64 0, .int .i64 0] 24)).cell? ⟨wa.heap.size, 4, none⟩ = some (.int .i64 0) := by simp
      have b4 : (wa.alloc (.cells #[.int .i64 0, .int .i64 0, .int .i64 0, .int .i64 0, .int .i64 0] 24)).frozen? ⟨wa.heap.size, 4, none⟩ = false := by simp
      have hGle : w3.heap.size ≤ wa.heap.size := Bc.size
      have hGlt : wa.heap.size < (wa.alloc (.cells #[.int .i64 0, .int .i64 0, .int .i64 0, .int .i64 0, .int .i64 0] 24)).heap.size := by simp
      replace Bc := bthen Bc BA
      clear BA
      generalize hgg : wa.heap.size = gg at *
      generalize (wa.alloc (.cells #[.int .i64 0, .int .i64 0, .int .i64 0, .int .i64 0, .int .i64 0] 24)) = wz at *
      clear hgg
      refine wpAnyH_ready (rs := [7]) (by kernel_rfl) (by simp) ?_
      refine AllReadyH.cons rfl (fun K hK => ?_) AllReadyH.nil
      go_simp
      go_wp2_with fail
      refine (loose x1 z1 _ (HE3.out.on Bc)).mono ?_
      rintro e wb ⟨rfl, hbwb⟩
      refine hK.out _ _ (keepS (by assumption) hbwb) (fun hHeld => ?_)
      clear hK K
      try simp only [Act.put, List.setIfInBounds_toArray, List.set_cons_zero, List.set_cons_succ, List.getElem_toArray, List.getElem_cons_zero, List.getElem_cons_succ]
      replace Bc := bthen Bc hbwb
      replace a0 := (hbwb.cell (p := ⟨gg, 0, none⟩) hGlt).trans a0
      replace b0 := (hbwb.frozen (p := ⟨gg, 0, none⟩) hGlt).trans b0
      replace a1 := (hbwb.cell (p := ⟨gg, 1, none⟩) hGlt).trans a1
      replace b1 := (hbwb.frozen (p := ⟨gg, 1, none⟩) hGlt).trans b1
      replace a2 := (hbwb.cell (p := ⟨gg, 2, none⟩) hGlt).trans a2
      replace b2 := (hbwb.frozen (p := ⟨gg, 2, none⟩) hGlt).trans b2
      replace a3 := (hbwb.cell (p := ⟨gg, 3, none⟩) hGlt).trans a3
      replace b3 := (hbwb.frozen (p := ⟨gg, 3, none⟩) hGlt).trans b3
      replace a4 := (hbwb.cell (p := ⟨gg, 4, none⟩) hGlt).trans a4
      replace b4 := (hbwb.frozen (p := ⟨gg, 4, none⟩) hGlt).trans b4
      replace hGlt := Nat.lt_of_lt_of_le hGlt hbwb.size
      clear hbwb
      refine wpAnyH_ready (rs := [15]) (by kernel_rfl) (by simp) ?_
      refine AllReadyH.cons rfl (fun K hK => ?_) AllReadyH.nil
      go_simp
      go_wp2_with fail
      refine (read_any x2 x3 x4 f HR.out z3 z4 _ (HE3.out.on Bc)).mono ?_
      rintro e wc ⟨rfl, hbwc⟩
      refine hK.out _ _ (keepS (by assumption) hbwc) (fun hHeld => ?_)
      clear hK K
      try simp only [Act.put, List.setIfInBounds_toArray, List.set_cons_zero, List.set_cons_succ, List.getElem_toArray, List.getElem_cons_zero, List.getElem_cons_succ]
      replace Bc := bthen Bc hbwc
      replace a0 := (hbwc.cell (p := ⟨gg, 0, none⟩) hGlt).trans a0
      replace b0 := (hbwc.frozen (p := ⟨gg, 0, none⟩) hGlt).trans b0
      replace a1 := (hbwc.cell (p := ⟨gg, 1, none⟩) hGlt).trans a1
      replace b1 := (hbwc.frozen (p := ⟨gg, 1, none⟩) hGlt).trans b1
      replace a2 := (hbwc.cell (p := ⟨gg, 2, none⟩) hGlt).trans a2
      replace b2 := (hbwc.frozen (p := ⟨gg, 2, none⟩) hGlt).trans b2
      replace a3 := (hbwc.cell (p := ⟨gg, 3, none⟩) hGlt).trans a3
      replace b3 := (hbwc.frozen (p := ⟨gg, 3, none⟩) hGlt).trans b3
      replace a4 := (hbwc.cell (p := ⟨gg, 4, none⟩) hGlt).trans a4
      replace b4 := (hbwc.frozen (p := ⟨gg, 4, none⟩) hGlt).trans b4
      replace hGlt := Nat.lt_of_lt_of_le hGlt hbwc.size
      clear hbwc
      refine wpAnyH_ready (rs := [16]) (by kernel_rfl) (by simp) ?_
      refine AllReadyH.cons rfl (fun K hK => ?_) AllReadyH.nil
      go_simp
      go_wp2_with fail
      refine (order_R x2 x3 x4 f HR.out _ _ _).mono ?_
      rintro e wd ⟨rfl, hbwd⟩
      refine hK.out _ _ (keepS (by assumption) hbwd) (fun hHeld => ?_)
      clear hK K
      try simp only [Act.put, List.setIfInBounds_toArray, List.set_cons_zero, List.set_cons_succ, List.getElem_toArray, List.getElem_cons_zero, List.getElem_cons_succ]
      replace Bc := bthen Bc hbwd
      replace a0 := (hbwd.cell (p := ⟨gg, 0, none⟩) hGlt).trans a0
      replace b0 := (hbwd.frozen (p := ⟨gg, 0, none⟩) hGlt).trans b0
      replace a1 := (hbwd.cell (p := ⟨gg, 1, none⟩) hGlt).trans a1
      replace b1 := (hbwd.frozen (p := ⟨gg, 1, none⟩) hGlt).trans b1
      replace a2 := (hbwd.cell (p := ⟨gg, 2, none⟩) hGlt).trans a2
      replace b2 := (hbwd.frozen (p := ⟨gg, 2, none⟩) hGlt).trans b2
      replace a3 := (hbwd.cell (p := ⟨gg, 3, none⟩) hGlt).trans a3
      replace b3 := (hbwd.frozen (p := ⟨gg, 3, none⟩) hGlt).trans b3
      replace a4 := (hbwd.cell (p := ⟨gg, 4, none⟩) hGlt).trans a4
      replace b4 := (hbwd.frozen (p := ⟨gg, 4, none⟩) hGlt).trans b4
      replace hGlt := Nat.lt_of_lt_of_le hGlt hbwd.size
      clear hbwd
      refine wpAnyH_ready (rs := [18]) (by kernel_rfl) (by simp) ?_
      refine AllReadyH.cons rfl (fun K hK => ?_) AllReadyH.nil
      go_simp
      have BS : Below w3.heap.size w3 (((((wd.setCell ⟨gg, 0, none⟩ (.int .i64 (atoiV x0.data.toList))).setCell ⟨gg, 1, none⟩ (.int .i64 (atoiV x1.data.toList))).setCell ⟨gg, 2, none⟩ (.int .i64 (ordK f))).setCell ⟨gg, 3, none⟩ (.int .i64 (ordT f x3))).setCell ⟨gg, 4, none⟩ (.int .i64 (ordN f x3 x4))) := by
        iterate 5 (refine Below.setCell ?_ hGle _)
        exact Bc
      refine hK.out _ _ ⟨fun b o hb => BS.cell (p := ⟨b, o, none⟩) hb, BS.size⟩ (fun hHeld => ?_)
      clear hK K
      try simp only [Act.put, List.setIfInBounds_toArray, List.set_cons_zero, List.set_cons_succ, List.getElem_toArray, List.getElem_cons_zero, List.getElem_cons_succ]
      refine wpAnyH_done (by kernel_rfl) ?_ _
      have v0 : ((((((wd.setCell ⟨gg, 0, none⟩ (.int .i64 (atoiV x0.data.toList))).setCell ⟨gg, 1, none⟩ (.int .i64 (atoiV x1.data.toList))).setCell ⟨gg, 2, none⟩ (.int .i64 (ordK f))).setCell ⟨gg, 3, none⟩ (.int .i64 (ordT f x3))).setCell ⟨gg, 4, none⟩ (.int .i64 (ordN f x3 x4)))).cell? ⟨gg, 0, none⟩ = some (.int .i64 (atoiV x0.data.toList)) := by simp [go_sem, a0]
      have v1 : ((((((wd.setCell ⟨gg, 0, none⟩ (.int .i64 (atoiV x0.data.toList))).setCell ⟨gg, 1, none⟩ (.int .i64 (atoiV x1.data.toList))).setCell ⟨gg, 2, none⟩ (.int .i64 (ordK f))).setCell ⟨gg, 3, none⟩ (.int .i64 (ordT f x3))).setCell ⟨gg, 4, none⟩ (.int .i64 (ordN f x3 x4)))).cell? ⟨gg, 1, none⟩ = some (.int .i64 (atoiV x1.data.toList)) := by simp [go_sem, a1]
      have v2 : ((((((wd.setCell ⟨gg, 0, none⟩ (.int .i64 (atoiV x0.data.toList))).setCell ⟨gg, 1, none⟩ (.int .i64 (atoiV x1.data.toList))).setCell ⟨gg, 2, none⟩ (.int .i64 (ordK f))).setCell ⟨gg, 3, none⟩ (.int .i64 (ordT f x3))).setCell ⟨gg, 4, none⟩ (.int .i64 (ordN f x3 x4)))).cell? ⟨gg, 2, none⟩ = some (.int .i64 (ordK f)) := by simp [go_sem, a2]
      have v3 : ((((((wd.setCell ⟨gg, 0, none⟩ (.int .i64 (atoiV x0.data.toList))).setCell ⟨gg, 1, none⟩ (.int .i64 (atoiV x1.data.toList))).setCell ⟨gg, 2, none⟩ (.int .i64 (ordK f))).setCell ⟨gg, 3, none⟩ (.int .i64 (ordT f x3))).setCell ⟨gg, 4, none⟩ (.int .i64 (ordN f x3 x4)))).cell? ⟨gg, 3, none⟩ = some (.int .i64 (ordT f x3)) := by simp [go_sem, a3]
      have v4 : ((((((wd.setCell ⟨gg, 0, none⟩ (.int .i64 (atoiV x0.data.toList))).setCell ⟨gg, 1, none⟩ (.int .i64 (atoiV x1.data.toList))).setCell ⟨gg, 2, none⟩ (.int .i64 (ordK f))).setCell ⟨gg, 3, none⟩ (.int .i64 (ordT f x3))).setCell ⟨gg, 4, none⟩ (.int .i64 (ordN f x3 x4)))).cell? ⟨gg, 4, none⟩ = some (.int .i64 (ordN f x3 x4)) := by simp [go_sem, a4]
      have hGS : gg < ((((((wd.setCell ⟨gg, 0, none⟩ (.int .i64 (atoiV x0.data.toList))).setCell ⟨gg, 1, none⟩ (.int .i64 (atoiV x1.data.toList))).setCell ⟨gg, 2, none⟩ (.int .i64 (ordK f))).setCell ⟨gg, 3, none⟩ (.int .i64 (ordT f x3))).setCell ⟨gg, 4, none⟩ (.int .i64 (ordN f x3 x4)))).heap.size := by simpa [World.setCell] using hGlt
      generalize (((((wd.setCell ⟨gg, 0, none⟩ (.int .i64 (atoiV x0.data.toList))).setCell ⟨gg, 1, none⟩ (.int .i64 (atoiV x1.data.toList))).setCell ⟨gg, 2, none⟩ (.int .i64 (ordK f))).setCell ⟨gg, 3, none⟩ (.int .i64 (ordT f x3))).setCell ⟨gg, 4, none⟩ (.int .i64 (ordN f x3 x4))) = W5 at *
      clear a0 a1 a2 a3 a4 b0 b1 b2 b3 b4 hGlt
      generalize gg = GG at *
      go_wp2_with fail
      refine (ordText_impl _ _ _ _ _ _ (HE3.out.on BS).tab).mono ?_
      rintro e w6 ⟨rfl, hb6⟩
      obtain ⟨hc6, hf6⟩ := bcell (bthen (bthen BW3.out BS) hb6)
      have hcv := (bcell hb6).1
      have r0 : w6.cell? ⟨w.heap.size, 0, none⟩ = some (.int .i64 0) := (hc6 _ 0 (by simp)).trans (by simp)
      have s0 : w6.frozen? ⟨w.heap.size, 0, none⟩ = false := (hf6 _ 0 (by simp)).trans (by simp)
      replace v0 := (hcv _ 0 hGS).trans v0
      have r1 : w6.cell? ⟨w.heap.size, 1, none⟩ = some (.int .i64 0) := (hc6 _ 1 (by simp)).trans (by simp)
      have s1 : w6.frozen? ⟨w.heap.size, 1, none⟩ = false := (hf6 _ 1 (by simp)).trans (by simp)
      replace v1 := (hcv _ 1 hGS).trans v1
      have r2 : w6.cell? ⟨w.heap.size, 2, none⟩ = some (.int .i64 0) := (hc6 _ 2 (by simp)).trans (by simp)
      have s2 : w6.frozen? ⟨w.heap.size, 2, none⟩ = false := (hf6 _ 2 (by simp)).trans (by simp)
      replace v2 := (hcv _ 2 hGS).trans v2
      have r3 : w6.cell? ⟨w.heap.size, 3, none⟩ = some (.int .i64 0) := (hc6 _ 3 (by simp)).trans (by simp)
      have s3 : w6.frozen? ⟨w.heap.size, 3, none⟩ = false := (hf6 _ 3 (by simp)).trans (by simp)
      replace v3 := (hcv _ 3 hGS).trans v3
      have r4 : w6.cell? ⟨w.heap.size, 4, none⟩ = some (.int .i64 0) := (hc6 _ 4 (by simp)).trans (by simp)
      have s4 : w6.frozen? ⟨w.heap.size, 4, none⟩ = false := (hf6 _ 4 (by simp)).trans (by simp)
      replace v4 := (hcv _ 4 hGS).trans v4
      have HB6 : Hid (Below w.heap.size w w6) := bthen ((Below.refl _ _).alloc (by simp) _) (bthen (bthen BW3.out BS) hb6)
      obtain ⟨q0, q1, q2, q3, q4⟩ := HQ.out
      clear hc6 hf6 hcv hb6 BS hHeld
      by_cases ht : (ordText (atoiV x0.data.toList) (atoiV x1.data.toList) (ordK f) (ordT f x3) (ordN f x3 x4)).toList = s.toList
      · have ht' : ((ordText (atoiV x0.data.toList) (atoiV x1.data.toList) (ordK f) (ordT f x3) (ordN f x3 x4)).toList == s.toList) = true := by simpa using ht
        have HT : Hid ((ordText (oW s) (oS s) (oK s f) (oT s f) (oN s f)).toList = s.toList) := by unfold Hid; rw [q0, q1, q2, q3, q4]; exact ht
        have HQ2 := HQ
        clear ht q0 q1 q2 q3 q4
        go_wp2
        exact bodyPost_ret (v := .tuple #[.agg #[.int .i64 (atoiV x0.data.toList), .int .i64 (atoiV x1.data.toList), .int .i64 (ordK f), .int .i64 (ordT f x3), .int .i64 (ordN f x3 x4)], .bool true]) (by simp [results, Tryd.results12, go_sem, r0, r1, r2, r3, r4]) rfl ⟨.inl ⟨HT.out, by obtain ⟨q0, q1, q2, q3, q4⟩ := HQ2.out; rw [q0, q1, q2, q3, q4]⟩, by (iterate 5 (refine Below.setCell ?_ (by simp) _)); exact HB6.out⟩
      · have ht' : ((ordText (atoiV x0.data.toList) (atoiV x1.data.toList) (ordK f) (ordT f x3) (ordN f x3 x4)).toList == s.toList) = false := by simpa using ht
        have HT : Hid ((ordText (oW s) (oS s) (oK s f) (oT s f) (oN s f)).toList ≠ s.toList) := by unfold Hid; rw [q0, q1, q2, q3, q4]; exact ht
        clear ht q0 q1 q2 q3 q4
        go_wp2
        exact bodyPost_ret (v := .tuple #[.agg #[.int .i64 0, .int .i64 0, .int .i64 0, .int .i64 0, .int .i64 0], .bool false]) (by simp [results, Tryd.results12, go_sem, r0, r1, r2, r3, r4]) rfl ⟨.inr ⟨HT.out, rfl⟩, by (iterate 5 (refine Below.setCell ?_ (by simp) _)); exact HB6.out⟩
  · skip
    go_simp
    have BA : Below wy.heap.size wy (wy.alloc (.cells #[.int .i64 0, .int .i64 0, .int .i64 0, .int .i64 0, .int .i64 0] 24)) := (Below.refl _ _).alloc (Nat.le_refl _) _
    refine hK.out _ _ (keepS (by assumption) BA) (fun hHeld => ?_)
    clear hK K
    try simp only [Act.put, List.setIfInBounds_toArray, List.set_cons_zero, List.set_cons_succ, List.getElem_toArray, List.getElem_cons_zero, List.getElem_cons_succ]
    have a0 : (wy.alloc (.cells #[.int .i64 0, .int .i64 0, .int .i64 0, .int .i64 0, .int .i64 0] 24)).cell? ⟨wy.heap.size, 0, none⟩ = some (.int .i64 0) := by simp
    have b0 : (wy.alloc (.cells #[.int .i64 0, .int .i64 0, .int .i64 0, .int .i64 0, .int .i64 0] 24)).frozen? ⟨wy.heap.size, 0, none⟩ = false := by simp
    have a1 : (wy.alloc (.cells #[.int .i64 0, .int .i64 0, .int .i64 0, .int .i64 0, .int .i64 0] 24)).cell? ⟨wy.heap.size, 1, none⟩ = some (.int .i64 0) := by simp
    have b1 : (wy.alloc (.cells #[.int .i64 0, .int .i64 0, .int .i64 0, .int .i64 0, .int .i64 0] 24)).frozen? ⟨wy.heap.size, 1, none⟩ = false := by simp
    have a2 : (wy.alloc (.cells #[.int .i64 0, .int .i64 0, .int .i64 0, .int .i64 0, .int .i64 0] 24)).cell? ⟨wy.heap.size, 2, none⟩ = some (.int .i64 0) := by simp
    have b2 : (wy.alloc (.cells #[.int .i64 0, .int .i64 0, .int .i64 0, .int .i64 0, .int .i64 0] 24)).frozen? ⟨wy.heap.size, 2, none⟩ = false := by simp
    have a3 : (wy.alloc (.cells #[.int .i64 0, .int .i64 0, .int .i64 0, .int .i64 0, .int .i64 0] 24)).cell? ⟨wy.heap.size, 3, none⟩ = some (.int .i64 0) := by simp
    have b3 : (wy.alloc (.cells #[.int .i64 0, .int .i64 0, .int .i64 0, .int .i64 0, .int .i64 0] 24)).frozen? ⟨wy.heap.size, 3, none⟩ = false := by simp
    have a4 : (wy.alloc (.cells #[.int .i64 0, .int .i64 0, .int .i64 0, .int .i64 0, .int .i64 0] 24)).cell? ⟨wy.heap.size, 4, none⟩ = some (.int .i64 0) := by simp
    have b4 : (wy.alloc (.cells #[.int .i64 0, .int .i64 0, .int .i64 0, .int .i64 0, .int .i64 0] 24)).frozen? ⟨wy.heap.size, 4, none⟩ = false := by simp
    have hGle : w3.heap.size ≤ wy.heap.size := Bc.size
    have hGlt : wy.heap.size < (wy.alloc (.cells #[.int .i64 0, .int .i64 0, .int .i64 0, .int .i64 0, .int .i64 0] 24)).heap.size := by simp
    replace Bc := bthen Bc BA
    clear BA
    generalize hgg : wy.heap.size = gg at *
    generalize (wy.alloc (.cells #[.int .i64 0, .int .i64 0, .int .i64 0, .int .i64 0, .int .i64 0] 24)) = wz at *
    clear hgg
    refine wpAnyH_ready (rs := [3]) (by kernel_rfl) (by simp) ?_
    refine AllReadyH.cons rfl (fun K hK => ?_) AllReadyH.nil
    go_simp
    go_wp2_with fail
    refine (loose x0 z0 _ (HE3.out.on Bc)).mono ?_
    rintro e wa ⟨rfl, hbwa⟩
    refine hK.out _ _ (keepS (by assumption) hbwa) (fun hHeld => ?_)
    clear hK K
    try simp only [Act.put, List.setIfInBounds_toArray, List.set_cons_zero, List.set_cons_succ, List.getElem_toArray, List.getElem_cons_zero, List.getElem_cons_succ]
    replace Bc := bthen Bc hbwa
    replace a0 := (hbwa.cell (p := ⟨gg, 0, none⟩) hGlt).trans a0
    replace b0 := (hbwa.frozen (p := ⟨gg, 0, none⟩) hGlt).trans b0
    replace a1 := (hbwa.cell (p := ⟨gg, 1, none⟩) hGlt).trans a1
    replace b1 := (hbwa.frozen (p := ⟨gg, 1, none⟩) hGlt).trans b1
    replace a2 := (hbwa.cell (p := ⟨gg, 2, none⟩) hGlt).trans a2
    replace b2 := (hbwa.frozen (p := ⟨gg, 2, none⟩) hGlt).trans b2
    replace a3 := (hbwa.cell (p := ⟨gg, 3, none⟩) hGlt).trans a3
    replace b3 := (hbwa.frozen (p := ⟨gg, 3, none⟩) hGlt).trans b3
    replace a4 := (hbwa.cell (p := ⟨gg, 4, none⟩) hGlt).trans a4
    replace b4 := (hbwa.frozen (p := ⟨gg, 4, none⟩) hGlt).trans b4
    replace hGlt := Nat.lt_of_lt_of_le hGlt hbwa.size
    clear hbwa
    refine wpAnyH_ready (rs := [7]) (by kernel_rfl) (by simp) ?_
    refine AllReadyH.cons rfl (fun K hK => ?_) AllReadyH.nil
    go_simp
    go_wp2_with fail
    refine (loose x1 z1 _ (HE3.out.on Bc)).mono ?_
    rintro e wb ⟨rfl, hbwb⟩
    refine hK.out _ _ (keepS (by assumption) hbwb) (fun hHeld => ?_)
    clear hK K
    try simp only [Act.put, List.setIfInBounds_toArray, List.set_cons_zero, List.set_cons_succ, List.getElem_toArray, List.getElem_cons_zero, List.getElem_cons_succ]
    replace Bc := bthen Bc hbwb
    replace a0 := (hbwb.cell (p := ⟨gg, 0, none⟩) hGlt).trans a0
    replace b0 := (hbwb.frozen (p := ⟨gg, 0, none⟩) hGlt).trans b0
    replace a1 := (hbwb.cell (p := ⟨gg, 1, none⟩) hGlt).trans a1
    replace b1 := (hbwb.frozen (p := ⟨gg, 1, none⟩) hGlt).trans b1
    replace a2 := (hbwb.cell (p := ⟨gg, 2, none⟩) hGlt).trans a2
    replace b2 := (hbwb.frozen (p := ⟨gg, 2, none⟩) hGlt).trans b2
    replace a3 := (hbwb.cell (p := ⟨gg, 3, none⟩) hGlt).trans a3
    replace b3 := (hbwb.frozen (p := ⟨gg, 3, none⟩) hGlt).trans b3
    replace a4 := (hbwb.cell (p := ⟨gg, 4, none⟩) hGlt).trans a4
    replace b4 := (hbwb.frozen (p := ⟨gg, 4, none⟩) hGlt).trans b4
    replace hGlt := Nat.lt_of_lt_of_le hGlt hbwb.size
    clear hbwb
    refine wpAnyH_ready (rs := [15]) (by kernel_rfl) (by simp) ?_
    refine AllReadyH.cons rfl (fun K hK => ?_) AllReadyH.nil
    go_simp
    go_wp2_with fail
    refine (read_any x2 x3 x4 f HR.out z3 z4 _ (HE3.out.on Bc)).mono ?_
    rintro e wc ⟨rfl, hbwc⟩
    refine hK.out _ _ (keepS (by assumption) hbwc) (fun hHeld => ?_)
    clear hK K
    try simp only [Act.put, List.setIfInBounds_toArray, List.set_cons_zero, List.set_cons_succ, List.getElem_toArray, List.getElem_cons_zero, List.getElem_cons_succ]
    replace Bc := bthen Bc hbwc
    replace a0 := (hbwc.cell (p := ⟨gg, 0, none⟩) hGlt).trans a0
    replace b0 := (hbwc.frozen (p := ⟨gg, 0, none⟩) hGlt).trans b0
    replace a1 := (hbwc.cell (p := ⟨gg, 1, none⟩) hGlt).trans a1
    replace b1 := (hbwc.frozen (p := ⟨gg, 1, none⟩) hGlt).trans b1
    replace a2 := (hbwc.cell (p := ⟨gg, 2, none⟩) hGlt).trans a2
    replace b2 := (hbwc.frozen (p := ⟨gg, 2, none⟩) hGlt).trans b2
    replace a3 := (hbwc.cell (p := ⟨gg, 3, none⟩) hGlt).trans a3
    replace b3 := (hbwc.frozen (p := ⟨gg, 3, none⟩) hGlt).trans b3
    replace a4 := (hbwc.cell (p := ⟨gg, 4, none⟩) hGlt).trans a4
    replace b4 := (hbwc.frozen (p := ⟨gg, 4, none⟩) hGlt).trans b4
    replace hGlt := Nat.lt_of_lt_of_le hGlt hbwc.size
    clear hbwc
    refine wpAnyH_ready (rs := [16]) (by kernel_rfl) (by simp) ?_
    refine AllReadyH.cons rfl (fun K hK => ?_) AllReadyH.nil
    go_simp
    go_wp2_with fail
    refine (order_R x2 x3 x4 f HR.out _ _ _).mono ?_
    rintro e wd ⟨rfl, hbwd⟩
    refine hK.out _ _ (keepS (by assumption) hbwd) (fun hHeld => ?_)
    clear hK K
    try simp only [Act.put, List.setIfInBounds_toArray, List.set_cons_zero, List.set_cons_succ, List.getElem_toArray, List.getElem_cons_zero, List.getElem_cons_succ]
    replace Bc := bthen Bc hbwd
    replace a0 := (hbwd.cell (p := ⟨gg, 0, none⟩) hGlt).trans a0
    replace b0 := (hbwd.frozen (p := ⟨gg, 0, none⟩) hGlt).trans b0
    replace a1 := (hbwd.cell (p := ⟨gg, 1, none⟩) hGlt).trans a1
    replace b1 := (hbwd.frozen (p := ⟨gg, 1, none⟩) hGlt).trans b1
    replace a2 := (hbwd.cell (p := ⟨gg, 2, none⟩) hGlt).trans a2
    replace b2 := (hbwd.frozen (p := ⟨gg, 2, none⟩) hGlt).trans b2
    replace a3 := (hbwd.cell (p := ⟨gg, 3, none⟩) hGlt).trans a3
    replace b3 := (hbwd.frozen (p := ⟨gg, 3, none⟩) hGlt).trans b3
    replace a4 := (hbwd.cell (p := ⟨gg, 4, none⟩) hGlt).trans a4
    replace b4 := (hbwd.frozen (p := ⟨gg, 4, none⟩) hGlt).trans b4
    replace hGlt := Nat.lt_of_lt_of_le hGlt hbwd.size
    clear hbwd
    refine wpAnyH_ready (rs := [18]) (by kernel_rfl) (by simp) ?_
    refine AllReadyH.cons rfl (fun K hK => ?_) AllReadyH.nil
    go_simp
    have BS : Below w3.heap.size w3 (((((wd.setCell ⟨gg, 0, none⟩ (.int .i64 (atoiV x0.data.toList))).setCell ⟨gg, 1, none⟩ (.int .i64 (atoiV x1.data.toList))).setCell ⟨gg, 2, none⟩ (.int .i64 (ordK f))).setCell ⟨gg, 3, none⟩ (.int .i64 (ordT f x3))).setCell ⟨gg, 4, none⟩ (.int .i64 (ordN f x3 x4))) := by
      iterate 5 (refine Below.setCell ?_ hGle _)
      exact Bc
    refine hK.out _ _ ⟨fun b o hb => BS.cell (p := ⟨b, o, none⟩) hb, BS.size⟩ (fun hHeld => ?_)
    clear hK K
    try simp only [Act.put, List.setIfInBounds_toArray, List.set_cons_zero, List.set_cons_succ, List.getElem_toArray, List.getElem_cons_zero, List.getElem_cons_succ]
    refine wpAnyH_done (by kernel_rfl) ?_ _
    have v0 : ((((((wd.setCell ⟨gg, 0, none⟩ (.int .i64 (atoiV x0.data.toList))).setCell ⟨gg, 1, none⟩ (.int .i64 (atoiV x1.data.toList))).setCell ⟨gg, 2, none⟩ (.int .i64 (ordK f))).setCell ⟨gg, 3, none⟩ (.int .i64 (ordT f x3))).setCell ⟨gg, 4, none⟩ (.int .i64 (ordN f x3 x4)))).cell? ⟨gg, 0, none⟩ = some (.int .i64 (atoiV x0.data.toList)) := by simp [go_sem, a0]
    have v1 : ((((((wd.setCell ⟨gg, 0, none⟩ (.int .i64 (atoiV x0.data.toList))).setCell ⟨gg, 1, none⟩ (.int .i64 (atoiV x1.data.toList))).setCell ⟨gg, 2, none⟩ (.int .i64 (ordK f))).setCell ⟨gg, 3, none⟩ (.int .i64 (ordT f x3))).setCell ⟨gg, 4, none⟩ (.int .i64 (ordN f x3 x4)))).cell? ⟨gg, 1, none⟩ = some (.int .i64 (atoiV x1.data.toList)) := by simp [go_sem, a1]
    have v2 : ((((((wd.setCell ⟨gg, 0, none⟩ (.int .i64 (atoiV x0.data.toList))).setCell ⟨gg, 1, none⟩ (.int .i64 (atoiV x1.data.toList))).setCell ⟨gg, 2, none⟩ (.int .i64 (ordK f))).setCell ⟨gg, 3, none⟩ (.int .i64 (ordT f x3))).setCell ⟨gg, 4, none⟩ (.int .i64 (ordN f x3 x4)))).cell? ⟨gg, 2, none⟩ = some (.int .i64 (ordK f)) := by simp [go_sem, a2]
    have v3 : ((((((wd.setCell ⟨gg, 0, none⟩ (.int .i64 (atoiV x0.data.toList))).setCell ⟨gg, 1, none⟩ (.int .i64 (atoiV x1.data.toList))).setCell ⟨gg, 2, none⟩ (.int .i64 (ordK f))).setCell ⟨gg, 3, none⟩ (.int .i64 (ordT f x3))).setCell ⟨gg, 4, none⟩ (.int .i64 (ordN f x3 x4)))).cell? ⟨gg, 3, none⟩ = some (.int .i64 (ordT f x3)) := by simp [go_sem, a3]
    have v4 : ((((((wd.setCell ⟨gg, 0, none⟩ (.int .i64 (atoiV x0.data.toList))).setCell ⟨gg, 1, none⟩ (.int .i64 (atoiV x1.data.toList))).setCell ⟨gg, 2, none⟩ (.int .i64 (ordK f))).setCell ⟨gg, 3, none⟩ (.int .i64 (ordT f x3))).setCell ⟨gg, 4, none⟩ (.int .i64 (ordN f x3 x4)))).cell? ⟨gg, 4, none⟩ = some (.int .i64 (ordN f x3 x4)) := by simp [go_sem, a4]
    have hGS : gg < ((((((wd.setCell ⟨gg, 0, none⟩ (.int .i64 (atoiV x0.data.toList))).setCell ⟨gg, 1, none⟩ (.int .i64 (atoiV x1.data.toList))).setCell ⟨gg, 2, none⟩ (.int .i64 (ordK f))).setCell ⟨gg, 3, none⟩ (.int .i64 (ordT f x3))).setCell ⟨gg, 4, none⟩ (.int .i64 (ordN f x3 x4)))).heap.size := by simpa [World.setCell] using hGlt
    generalize (((((wd.setCell ⟨gg, 0, none⟩ (.int .i64 (atoiV x0.data.toList))).setCell ⟨gg, 1, none⟩ (.int .i64 (atoiV x1.data.toList))).setCell ⟨gg, 2, none⟩ (.int .i64 (ordK f))).setCell ⟨gg, 3, none⟩ (.int .i64 (ordT f x3))).setCell ⟨gg, 4, none⟩ (.int .i64 (ordN f x3 x4))) = W5 at *
    clear a0 a1 a2 a3 a4 b0 b1 b2 b3 b4 hGlt
    generalize gg = GG at *
    go_wp2_with fail
    refine (ordText_impl _ _ _ _ _ _ (HE3.out.on BS).tab).mono ?_
    rintro e w6 ⟨rfl, hb6⟩
    obtain ⟨hc6, hf6⟩ := bcell (bthen (bthen BW3.out BS) hb6)
    have hcv := (bcell hb6).1
    have r0 : w6.cell? ⟨w.heap.size, 0, none⟩ = some (.int .i64 0) := (hc6 _ 0 (by simp)).trans (by simp)
    have s0 : w6.frozen? ⟨w.heap.size, 0, none⟩ = false := (hf6 _ 0 (by simp)).trans (by simp)
    replace v0 := (hcv _ 0 hGS).trans v0
    have r1 : w6.cell? ⟨w.heap.size, 1, none⟩ = some (.int .i64 0) := (hc6 _ 1 (by simp)).trans (by simp)
    have s1 : w6.frozen? ⟨w.heap.size, 1, none⟩ = false := (hf6 _ 1 (by simp)).trans (by simp)
    replace v1 := (hcv _ 1 hGS).trans v1
    have r2 : w6.cell? ⟨w.heap.size, 2, none⟩ = some (.int .i64 0) := (hc6 _ 2 (by simp)).trans (by simp)
    have s2 : w6.frozen? ⟨w.heap.size, 2, none⟩ = false := (hf6 _ 2 (by simp)).trans (by simp)
    replace v2 := (hcv _ 2 hGS).trans v2
    have r3 : w6.cell? ⟨w.heap.size, 3, none⟩ = some (.int .i64 0) := (hc6 _ 3 (by simp)).trans (by simp)
    have s3 : w6.frozen? ⟨w.heap.size, 3, none⟩ = false := (hf6 _ 3 (by simp)).trans (by simp)
    replace v3 := (hcv _ 3 hGS).trans v3
    have r4 : w6.cell? ⟨w.heap.size, 4, none⟩ = some (.int .i64 0) := (hc6 _ 4 (by simp)).trans (by simp)
    have s4 : w6.frozen? ⟨w.heap.size, 4, none⟩ = false := (hf6 _ 4 (by simp)).trans (by simp)
    replace v4 := (hcv _ 4 hGS).trans v4
    have HB6 : Hid (Below w.heap.size w w6) := bthen ((Below.refl _ _).alloc (by simp) _) (bthen (bthen BW3.out BS) hb6)
    obtain ⟨q0, q1, q2, q3, q4⟩ := HQ.out
    clear hc6 hf6 hcv hb6 BS hHeld
    by_cases ht : (ordText (atoiV x0.data.toList) (atoiV x1.data.toList) (ordK f) (ordT f x3) (ordN f x3 x4)).toList = s.toList
    · have ht' : ((ordText (atoiV x0.data.toList) (atoiV x1.data.toList) (ordK f) (ordT f x3) (ordN f x3 x4)).toList == s.toList) = true := by simpa using ht
      have HT : Hid ((ordText (oW s) (oS s) (oK s f) (oT s f) (oN s f)).toList = s.toList) := by unfold Hid; rw [q0, q1, q2, q3, q4]; exact ht
      have HQ2 := HQ
      clear ht q0 q1 q2 q3 q4
      go_wp2
      exact bodyPost_ret (v := .tuple #[.agg #[.int .i64 (atoiV x0.data.toList), .int .i64 (atoiV x1.data.toList), .int .i64 (ordK f), .int .i64 (ordT f x3), .int .i64 (ordN f x3 x4)], .bool true]) (by simp [results, Tryd.results12, go_sem, r0, r1, r2, r3, r4]) rfl ⟨.inl ⟨HT.out, by obtain ⟨q0, q1, q2, q3, q4⟩ := HQ2.out; rw [q0, q1, q2, q3, q4]⟩, by (iterate 5 (refine Below.setCell ?_ (by simp) _)); exact HB6.out⟩
    · have ht' : ((ordText (atoiV x0.data.toList) (atoiV x1.data.toList) (ordK f) (ordT f x3) (ordN f x3 x4)).toList == s.toList) = false := by simpa using ht
      have HT : Hid ((ordText (oW s) (oS s) (oK s f) (oT s f) (oN s f)).toList ≠ s.toList) := by unfold Hid; rw [q0, q1, q2, q3, q4]; exact ht
      clear ht q0 q1 q2 q3 q4
      go_wp2
      exact bodyPost_ret (v := .tuple #[.agg #[.int .i64 0, .int .i64 0, .int .i64 0, .int .i64 0, .int .i64 0], .bool false]) (by simp [results, Tryd.results12, go_sem, r0, r1, r2, r3, r4]) rfl ⟨.inr ⟨HT.out, rfl⟩, by (iterate 5 (refine Below.setCell ?_ (by simp) _)); exact HB6.out⟩
end Go.Proofs.YtmccbbanganjlaaDoor
