/- The walk of the program's OrdRead; conditions: the library's variables are as its text lays them. -/
import Derived.Test.YtmccbbanganjlaaDoorORead2
import Derived.Laws.OwnMore
import Derived.Deep.RegionWith
import Derived.Deep.DeepCutAuto
import Derived.Lib.AppendZerosOnto
namespace Go.Proofs.YtmccbbanganjlaaDoor
open Go.RowKit
set_option linter.unusedVariables false

theorem split_eq (s : ByteArray) (hs : s.size ≤ 100) (w : World) (hE : Env w) :
    Calls Tryd.prog 32 #[.string s, .string ⟨#[32]⟩] w fun e w' => ∃ ps : List ByteArray, ps.map (fun x => x.data.toList) = words s.data.toList ∧
      e = .returned (.slice (some ⟨w.heap.size, 0, none⟩) ps.length ps.length) ∧ w' = w.alloc (.cells (ps.map Value.string).toArray 9) := by
  obtain ⟨⟨m, hm⟩, _⟩ := hE w (Below.refl _ _)
  have hlen : Lib.countB s ⟨#[32]⟩ + 1 = (Lib.splitB ⟨#[32]⟩ 0 (Lib.countB s ⟨#[32]⟩) s).length := by
    have h1 := pieces_len s
    have h2 : (words s.data.toList).length = s.data.toList.count 32 + 1 := wcount s.data.toList
    have h3 : Lib.countB s ⟨#[32]⟩ = s.data.toList.count 32 := by rw [← Lib.count_one]
    omega
  refine (Tryd.strings_Split s ⟨#[32]⟩ m w (by omega) hm (by decide)).mono ?_
  rintro e w' ⟨rfl, rfl⟩
  exact ⟨_, pieces s, by rw [hlen], rfl⟩

def E5 : List Value := [.string ⟨#[]⟩, .string ⟨#[]⟩, .string ⟨#[]⟩, .string ⟨#[]⟩, .string ⟨#[]⟩]

theorem zeros9 (base g n : Nat) (xs : List Value) (hn : n ≤ 1000) (w : World) (ho : w.ownsRow base 9 1 (.slice (some ⟨g, 0, none⟩) n n) n xs) :
    ∃ G W1, (∀ ty, (Builtin.append_ #[60, 3] ty #[.slice (some ⟨g, 0, none⟩) n n, .int .i64 5]).run Tryd.prog w = .ok (.slice (some ⟨w.heap.size, 0, none⟩) (n + 5) G) W1) ∧
      (∀ k x, (xs ++ E5)[k]? = some x → W1.cell? ⟨w.heap.size, k, none⟩ = some x) ∧ Below w.heap.size w W1 ∧ W1.heap.size = w.heap.size + 1 := by
  obtain ⟨i5, hi5, hz50, hz51, hz52⟩ := info_parts Tryd.info9
  have hxl : xs.length = n := by rw [ho.1]; omega
  have hold : (Builtin.firstCells i5.size n (.slice (some ⟨g, 0, none⟩) n n)).run Tryd.prog w.drew = .ok xs.toArray w.drew := by
    rw [hz51]
    exact run_firstCells_some w.drew 1 n ⟨g, 0, none⟩ n n xs (by rw [hxl]; omega) (fun j v hj => ho.cells (g := g) rfl j v hj)
  have h := Lib.run_append_grow_zeros (P := Tryd.prog) w 60 3 0 9 i5 _ .i64 .i64 Tryd.underlying60 Tryd.underlying3 hi5 hz50 (some ⟨g, 0, none⟩) n n xs hold 5 (by omega) (by omega) (by omega) (by omega) (by rw [hz52]; omega) (by rw [hz52]; exact growslice_fits (by omega) (by omega))
  refine ⟨_, _, fun ty => h, ?_, (Below.refl _ _).drew.alloc (Nat.le_refl _) _, by simp⟩
  intro k x hx
  have hz : (Builtin.zeroCells (Value.string ⟨#[]⟩).cells 5).toList = E5 := by kernel_rfl
  have hlt : k < (xs ++ E5).length := (List.getElem?_eq_some_iff.1 hx).1
  simp only [World.cell?]
  have hh := heap_alloc_new w.drew (.cells (xs.toArray ++ Builtin.zeroCells (Value.string ⟨#[]⟩).cells 5 ++ Builtin.zeroCells (Value.string ⟨#[]⟩).cells (grownCap w (n + 5) n 9 - (n + 5))) 9)
  rw [show w.drew.heap.size = w.heap.size from rfl] at hh
  rw [hh]
  simp only [Option.isSome_none, Bool.false_eq_true, if_false]
  rw [← Array.getElem?_toList, Array.toList_append, Array.toList_append, hz]
  rw [List.getElem?_append_left (by simpa using hlt)]
  exact hx

/-- The k-th word, or the empty one. -/
def wordB (s : ByteArray) (k : Nat) : ByteArray := ⟨((words s.data.toList).getD k []).toArray⟩
theorem wordB_of {s x : ByteArray} {k : Nat} (h : x.data.toList = (words s.data.toList).getD k []) : wordB s k = x := by
  unfold wordB
  rw [← h]

theorem word_at {s : ByteArray} {ps : List ByteArray} (hps : ps.map (fun x => x.data.toList) = words s.data.toList) (hs : s.size ≤ 100) (k : Nat) (hk : k < 5) :
    ∃ x : ByteArray, (ps.map Value.string ++ E5)[k]? = some (.string x) ∧ x.data.toList = (words s.data.toList).getD k [] ∧ x.size ≤ 1000 := by
  by_cases h : k < ps.length
  · refine ⟨ps[k], ?_, ?_, ?_⟩
    · rw [List.getElem?_append_left (by simpa using h)]
      simp [h]
    · rw [← hps]
      simp [List.getD, h]
    · have hm : ps[k].data.toList ∈ words s.data.toList := by rw [← hps]; exact List.mem_map.2 ⟨_, List.getElem_mem h, rfl⟩
      have := word_len s.data.toList _ hm
      rw [size_len, size_len] at this
      omega
  · refine ⟨⟨#[]⟩, ?_, ?_, by decide +kernel⟩
    · rw [List.getElem?_append_right (by simpa using Nat.le_of_not_lt h)]
      have : k - (ps.map Value.string).length < 5 := by omega
      generalize k - (ps.map Value.string).length = j at *
      match j, this with
      | 0, _ => rfl
      | 1, _ => rfl
      | 2, _ => rfl
      | 3, _ => rfl
      | 4, _ => rfl
    · have hl : (words s.data.toList).length ≤ k := by rw [← hps, List.length_map]; omega
      rw [List.getD_eq_getElem?_getD, List.getElem?_eq_none hl]
      rfl

set_option maxRecDepth 20000 in
set_option maxHeartbeats 2000000 in
theorem oread_none (s : ByteArray) (h : (s.size : Int) ≤ 100) (hno : readerOf (wordB s 2) = none) (w : World) (hE : Env w) :
    Calls Tryd.prog 12 #[.string s] w fun e w' => e = .returned (.tuple #[.agg #[.int .i64 0, .int .i64 0, .int .i64 0, .int .i64 0, .int .i64 0], .bool false]) ∧ Below w.heap.size w w' := by
  obtain ⟨i0, hi, hz0, hz1, hz2⟩ := info_parts Tryd.info9
  have HE : Hid (Env (w.alloc (.cells #[.int .i64 0, .int .i64 0, .int .i64 0, .int .i64 0, .int .i64 0] 24))) := hE.on ((Below.refl _ _).alloc (by simp) _)
  clear hE
  go_enter Tryd.func12, Tryd.ntmps12
  go_wp2_with fail
  refine (split_eq s (by omega) _ HE.out).mono ?_
  rintro e w1 ⟨ps, hps, rfl, hw1⟩
  have hpl : ps.length ≤ 101 := by
    have h1 := congrArg List.length hps
    rw [List.length_map] at h1
    have h2 := wlen s.data.toList
    rw [size_len] at h2
    omega
  have e0 : ((w.alloc (.cells #[.int .i64 0, .int .i64 0, .int .i64 0, .int .i64 0, .int .i64 0] 24))).heap.size = w.heap.size + 1 := by simp
  have HO : Hid (w1.ownsRow (w.heap.size + 1) 9 1 (.slice (some ⟨w.heap.size + 1, 0, none⟩) ps.length ps.length) ps.length (ps.map Value.string)) := by
    have := World.ownsRow_lit (base := w.heap.size + 1) (e := 9) (size := 1) (w.alloc (.cells #[.int .i64 0, .int .i64 0, .int .i64 0, .int .i64 0, .int .i64 0] 24)) (ps.map Value.string).toArray ps.length (by simp) (by unfold maxLen; omega) (by simp)
    rw [e0] at this
    rw [hw1]
    exact this
  clear e0
  have B1 : Below ((w.alloc (.cells #[.int .i64 0, .int .i64 0, .int .i64 0, .int .i64 0, .int .i64 0] 24))).heap.size (w.alloc (.cells #[.int .i64 0, .int .i64 0, .int .i64 0, .int .i64 0, .int .i64 0] 24)) w1 := by rw [hw1]; exact (Below.refl _ _).alloc (Nat.le_refl _) _
  have HPS : Hid (ps.map (fun x => x.data.toList) = words s.data.toList) := hps
  clear hps hw1
  have hsz1 : w.heap.size + 1 ≤ w1.heap.size := by have := B1.size; simpa using this
  obtain ⟨G, W2, hz9, hcl, hbz, hsz2⟩ := zeros9 (w.heap.size + 1) (w.heap.size + 1) ps.length _ (by omega) w1 HO.out
  have B2 := bthen B1 hbz
  have HCL : Hid (∀ k x, (ps.map Value.string ++ E5)[k]? = some x → W2.cell? ⟨w1.heap.size, k, none⟩ = some x) := hcl
  clear hcl hbz HO
  go_wp2_with (at_builtin; refine Lib.wpList_append_run _ rfl _ _ _ _ rfl _ _ rfl rfl _ _ (hz9 _) ?_)
  obtain ⟨x0, y0, t0, z0⟩ := word_at HPS.out (by omega) 0 (by omega)
  obtain ⟨x1, y1, t1, z1⟩ := word_at HPS.out (by omega) 1 (by omega)
  obtain ⟨x2, y2, t2, z2⟩ := word_at HPS.out (by omega) 2 (by omega)
  obtain ⟨x3, y3, t3, z3⟩ := word_at HPS.out (by omega) 3 (by omega)
  obtain ⟨x4, y4, t4, z4⟩ := word_at HPS.out (by omega) 4 (by omega)
  have hx2w := wordB_of t2
  have d0 := HCL.out 0 _ y0
  have d1 := HCL.out 1 _ y1
  have d2 := HCL.out 2 _ y2
  have d3 := HCL.out 3 _ y3
  have d4 := HCL.out 4 _ y4
  clear y0 y1 y2 y3 y4 HCL hz9
  have hlt2 : w1.heap.size < W2.heap.size := by omega
  have hmb : ((W2.alloc (.map TAB 6)).drew).heap[w1.heap.size + 1]? = some (.map TAB 6) := by rw [← hsz2]; exact (MapKept.heap_alloc W2 _).1
  have HBm : Hid (Below w.heap.size w ((W2.alloc (.map TAB 6)).drew)) := ((bthen ((Below.refl _ _).alloc (by simp) _) B2).alloc (by omega) _).drew
  have BM : Below W2.heap.size W2 ((W2.alloc (.map TAB 6)).drew) := ((Below.refl _ _).alloc (Nat.le_refl _) _).drew
  obtain ⟨hcb, hfb⟩ := bcell (bthen B2 BM)
  have r0 : ((W2.alloc (.map TAB 6)).drew).cell? ⟨w.heap.size, 0, none⟩ = some (.int .i64 0) := (hcb _ 0 (by simp)).trans (by simp)
  have r1 : ((W2.alloc (.map TAB 6)).drew).cell? ⟨w.heap.size, 1, none⟩ = some (.int .i64 0) := (hcb _ 1 (by simp)).trans (by simp)
  have r2 : ((W2.alloc (.map TAB 6)).drew).cell? ⟨w.heap.size, 2, none⟩ = some (.int .i64 0) := (hcb _ 2 (by simp)).trans (by simp)
  have r3 : ((W2.alloc (.map TAB 6)).drew).cell? ⟨w.heap.size, 3, none⟩ = some (.int .i64 0) := (hcb _ 3 (by simp)).trans (by simp)
  have r4 : ((W2.alloc (.map TAB 6)).drew).cell? ⟨w.heap.size, 4, none⟩ = some (.int .i64 0) := (hcb _ 4 (by simp)).trans (by simp)
  have s0 : ((W2.alloc (.map TAB 6)).drew).frozen? ⟨w.heap.size, 0, none⟩ = false := (hfb _ 0 (by simp)).trans (by simp)
  have s1 : ((W2.alloc (.map TAB 6)).drew).frozen? ⟨w.heap.size, 1, none⟩ = false := (hfb _ 1 (by simp)).trans (by simp)
  have s2 : ((W2.alloc (.map TAB 6)).drew).frozen? ⟨w.heap.size, 2, none⟩ = false := (hfb _ 2 (by simp)).trans (by simp)
  have s3 : ((W2.alloc (.map TAB 6)).drew).frozen? ⟨w.heap.size, 3, none⟩ = false := (hfb _ 3 (by simp)).trans (by simp)
  have s4 : ((W2.alloc (.map TAB 6)).drew).frozen? ⟨w.heap.size, 4, none⟩ = false := (hfb _ 4 (by simp)).trans (by simp)
  have RR : Hid ((((W2.alloc (.map TAB 6)).drew).cell? ⟨w.heap.size, 0, none⟩ = some (.int .i64 0) ∧ ((W2.alloc (.map TAB 6)).drew).cell? ⟨w.heap.size, 1, none⟩ = some (.int .i64 0) ∧ ((W2.alloc (.map TAB 6)).drew).cell? ⟨w.heap.size, 2, none⟩ = some (.int .i64 0) ∧ ((W2.alloc (.map TAB 6)).drew).cell? ⟨w.heap.size, 3, none⟩ = some (.int .i64 0) ∧ ((W2.alloc (.map TAB 6)).drew).cell? ⟨w.heap.size, 4, none⟩ = some (.int .i64 0)) ∧ ((W2.alloc (.map TAB 6)).drew).frozen? ⟨w.heap.size, 0, none⟩ = false ∧ ((W2.alloc (.map TAB 6)).drew).frozen? ⟨w.heap.size, 1, none⟩ = false ∧ ((W2.alloc (.map TAB 6)).drew).frozen? ⟨w.heap.size, 2, none⟩ = false ∧ ((W2.alloc (.map TAB 6)).drew).frozen? ⟨w.heap.size, 3, none⟩ = false ∧ ((W2.alloc (.map TAB 6)).drew).frozen? ⟨w.heap.size, 4, none⟩ = false) := ⟨⟨r0, r1, r2, r3, r4⟩, s0, s1, s2, s3, s4⟩
  clear r0 r1 r2 r3 r4 s0 s1 s2 s3 s4 hcb hfb
  have hr : readerOf x2 = none := by rw [← hx2w]; exact hno
  clear hno
  · skip
    have hlk : (Instr.lookup 64 (.map (some (w1.heap.size + 1))) (.string x2) true).run Tryd.prog ((W2.alloc (.map TAB 6)).drew) = .ok (.tuple #[.nilFunc, .bool false]) ((W2.alloc (.map TAB 6)).drew) := look_no _ _ hmb x2 hr
    clear hmb BM B1 B2
    go_region_with (go_at_call 33; refine (readers _).mono ?_; rintro e w3 ⟨rfl, rfl⟩)
    all_goals
      simp only [Act.put, List.setIfInBounds_toArray, List.set_cons_zero, List.set_cons_succ, List.getElem_toArray, List.getElem_cons_zero, List.getElem_cons_succ]
      obtain ⟨⟨r0, r1, r2, r3, r4⟩, s0, s1, s2, s3, s4⟩ := RR.out
      clear RR hlk
      generalize (W2.alloc (.map TAB 6)).drew = W3 at *
      go_wp2
      exact bodyPost_ret (v := .tuple #[.agg #[.int .i64 0, .int .i64 0, .int .i64 0, .int .i64 0, .int .i64 0], .bool false]) (by simp [results, Tryd.results12, go_sem, r0, r1, r2, r3, r4]) rfl ⟨rfl, by (iterate 5 (refine Below.setCell ?_ (by simp) _)); exact HBm.out⟩
end Go.Proofs.YtmccbbanganjlaaDoor
