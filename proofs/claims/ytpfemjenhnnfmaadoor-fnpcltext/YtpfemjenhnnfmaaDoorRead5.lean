/- The walk of the program's WlkRead: a text's walker and true, or nothing and false; conditions: the library's variables are as its text lays them. -/
import Derived.Test.YtpfemjenhnnfmaaDoorRead4
import Derived.Deep.RegionHeld3
namespace Go.Proofs.YtpfemjenhnnfmaaDoor
open Go.RowKit
set_option linter.unusedVariables false
set_option maxRecDepth 20000

theorem cell_lt5 {W : World} {b o : Nat} {u : Value} (c : W.cell? ⟨b, o, none⟩ = some u) : b < W.heap.size := World.block_lt_of_cell? W _ c

/-- A block of five noughts, none of them frozen. -/
def FiveZ (W : World) (g : Nat) : Prop := g < W.heap.size ∧ ∀ j, j < 5 → W.cell? ⟨g, j, none⟩ = some (.int .i64 0) ∧ W.frozen? ⟨g, j, none⟩ = false
theorem FiveZ.new (W : World) : FiveZ (W.alloc (.cells #[.int .i64 0, .int .i64 0, .int .i64 0, .int .i64 0, .int .i64 0] 24)) W.heap.size := by
  refine ⟨by simp, fun j hj => ?_⟩
  match j, hj with
  | 0, _ => simp
  | 1, _ => simp
  | 2, _ => simp
  | 3, _ => simp
  | 4, _ => simp
theorem FiveZ.below {W W' : World} {g : Nat} (h : FiveZ W g) (hb : Below W.heap.size W W') : FiveZ W' g :=
  ⟨Nat.lt_of_lt_of_le h.1 hb.size, fun j hj => ⟨(hb.cell (p := ⟨g, j, none⟩) h.1).trans (h.2 j hj).1, (hb.frozen (p := ⟨g, j, none⟩) h.1).trans (h.2 j hj).2⟩⟩
theorem FiveZ.all {W : World} {g : Nat} (h : FiveZ W g) : W.cell? ⟨g, 0, none⟩ = some (.int .i64 0) ∧ W.cell? ⟨g, 1, none⟩ = some (.int .i64 0) ∧ W.cell? ⟨g, 2, none⟩ = some (.int .i64 0) ∧ W.cell? ⟨g, 3, none⟩ = some (.int .i64 0) ∧ W.cell? ⟨g, 4, none⟩ = some (.int .i64 0) ∧ W.frozen? ⟨g, 0, none⟩ = false ∧ W.frozen? ⟨g, 1, none⟩ = false ∧ W.frozen? ⟨g, 2, none⟩ = false ∧ W.frozen? ⟨g, 3, none⟩ = false ∧ W.frozen? ⟨g, 4, none⟩ = false :=
  ⟨(h.2 0 (by omega)).1, (h.2 1 (by omega)).1, (h.2 2 (by omega)).1, (h.2 3 (by omega)).1, (h.2 4 (by omega)).1, (h.2 0 (by omega)).2, (h.2 1 (by omega)).2, (h.2 2 (by omega)).2, (h.2 3 (by omega)).2, (h.2 4 (by omega)).2⟩
theorem ten {α : Type} : ∀ l : List α, l.length = 10 → ∃ a b c d e f g h i j, l = [a, b, c, d, e, f, g, h, i, j]
  | [a, b, c, d, e, f, g, h, i, j], _ => ⟨a, b, c, d, e, f, g, h, i, j, rfl⟩
theorem piece_size {s : ByteArray} (hs : s.size ≤ 100) {ps : List ByteArray} (h : ps.map (fun x => x.data.toList) = words s.data.toList) (x : ByteArray) (hx : x ∈ ps) : x.size ≤ 1000 := by
  have := word_len s.data.toList x.data.toList (by rw [← h]; exact List.mem_map.2 ⟨x, hx, rfl⟩)
  rw [size_len, size_len] at this
  omega

set_option maxHeartbeats 8000000 in
theorem read_impl (s : ByteArray) (w : World) (hE : Env w) :
    Calls Tryd.prog 33 #[.string s] w fun e w' => ((vOk s ∧ e = .returned (.tuple #[.agg #[.int .i64 (vF s 1), .int .i64 (vF s 3), .int .i64 (vF s 5), .int .i64 (vF s 7), .int .i64 (vF s 9)], .bool true])) ∨ (¬ vOk s ∧ e = .returned (.tuple #[.agg #[.int .i64 0, .int .i64 0, .int .i64 0, .int .i64 0, .int .i64 0], .bool false]))) ∧ Below w.heap.size w w' := by
  by_cases hs : s.size ≤ 100
  · have HE : Hid (Env (w.alloc (.cells #[.int .i64 0, .int .i64 0, .int .i64 0, .int .i64 0, .int .i64 0] 24))) := hE.on ((Below.refl _ _).alloc (by simp) _)
    clear hE
    have hs' : (s.size : Int) ≤ 100 := by omega
    go_enter Tryd.func33, Tryd.ntmps33
    go_wp2_with fail
    refine (split_any s hs _ HE.out).mono ?_
    rintro e w1 ⟨ps, hps, rfl, hcell, hb1, hz1'⟩
    have hz1 : w1.heap.size = w.heap.size + 2 := by simpa using hz1'
    have E1 : Hid (Env w1) := HE.out.on hb1
    have Bw1 : Below w.heap.size w w1 := bthen ((Below.refl _ _).alloc (by simp) _) hb1
    have c0 : w1.cell? ⟨w.heap.size, 0, none⟩ = some (.int .i64 0) := (hb1.cell (p := ⟨w.heap.size, 0, none⟩) (by simp)).trans (by simp)
    have f0 : w1.frozen? ⟨w.heap.size, 0, none⟩ = false := (hb1.frozen (p := ⟨w.heap.size, 0, none⟩) (by simp)).trans (by simp)
    have c1 : w1.cell? ⟨w.heap.size, 1, none⟩ = some (.int .i64 0) := (hb1.cell (p := ⟨w.heap.size, 1, none⟩) (by simp)).trans (by simp)
    have f1 : w1.frozen? ⟨w.heap.size, 1, none⟩ = false := (hb1.frozen (p := ⟨w.heap.size, 1, none⟩) (by simp)).trans (by simp)
    have c2 : w1.cell? ⟨w.heap.size, 2, none⟩ = some (.int .i64 0) := (hb1.cell (p := ⟨w.heap.size, 2, none⟩) (by simp)).trans (by simp)
    have f2 : w1.frozen? ⟨w.heap.size, 2, none⟩ = false := (hb1.frozen (p := ⟨w.heap.size, 2, none⟩) (by simp)).trans (by simp)
    have c3 : w1.cell? ⟨w.heap.size, 3, none⟩ = some (.int .i64 0) := (hb1.cell (p := ⟨w.heap.size, 3, none⟩) (by simp)).trans (by simp)
    have f3 : w1.frozen? ⟨w.heap.size, 3, none⟩ = false := (hb1.frozen (p := ⟨w.heap.size, 3, none⟩) (by simp)).trans (by simp)
    have c4 : w1.cell? ⟨w.heap.size, 4, none⟩ = some (.int .i64 0) := (hb1.cell (p := ⟨w.heap.size, 4, none⟩) (by simp)).trans (by simp)
    have f4 : w1.frozen? ⟨w.heap.size, 4, none⟩ = false := (hb1.frozen (p := ⟨w.heap.size, 4, none⟩) (by simp)).trans (by simp)
    have hn : ps.length = (words s.data.toList).length := by rw [← hps, List.length_map]
    have hZ := piece_size hs hps
    have hcell' : ∀ k x, ps[k]? = some x → w1.cell? ⟨w.heap.size + 1, k, none⟩ = some (.string x) := by simpa using hcell
    clear HE hb1 hcell hz1'
    by_cases h10 : ps.length = 10
    · have HW : Hid (True ∧ (words s.data.toList).length = 10) := ⟨trivial, by omega⟩
      obtain ⟨p0, p1, p2, p3, p4, p5, p6, p7, p8, p9, rfl⟩ := ten ps h10
      have HV : Hid (vF s 1 = atoiV p1.data.toList ∧ vF s 3 = atoiV p3.data.toList ∧ vF s 5 = atoiV p5.data.toList ∧ vF s 7 = atoiV p7.data.toList ∧ vF s 9 = atoiV p9.data.toList) := by
        unfold vF
        rw [← hps]
        exact ⟨rfl, rfl, rfl, rfl, rfl⟩
      have e1 := hcell' 1 p1 rfl
      have z1 := hZ p1 (by simp)
      have e3 := hcell' 3 p3 rfl
      have z3 := hZ p3 (by simp)
      have e5 := hcell' 5 p5 rfl
      have z5 := hZ p5 (by simp)
      have e7 := hcell' 7 p7 rfl
      have z7 := hZ p7 (by simp)
      have e9 := hcell' 9 p9 rfl
      have z9 := hZ p9 (by simp)
      clear hcell' hps hn h10 hZ
      go_wp2
      refine wp_region_held_drew (S := fun W => Below w1.heap.size w1 W) (by kernel_rfl) (Below.drew (Below.refl _ _)) ?_
      intro hHeld
      have BW0 := hHeld
      generalize w1.drew = W0 at *
      refine wpAnyH_take (i := 0) (v := .slice (some ⟨w.heap.size + 1, 0, none⟩) 10 10) rfl (by kernel_rfl) (by kernel_rfl) (by kernel_rfl) (fun _ _ _ h => h) (Or.inl ⟨by rfl, ?_⟩) (by assumption) ?_
      · intro wx hSw; go_simp
      try simp only [Act.put, List.setIfInBounds_toArray, List.set_cons_zero, List.set_cons_succ, List.getElem_toArray, List.getElem_cons_zero]
      refine wpAnyH_take (i := 1) (v := .pointer (some ⟨w.heap.size + 1, 1, none⟩)) rfl (by kernel_rfl) (by kernel_rfl) (by kernel_rfl) (fun _ _ _ h => h) (Or.inl ⟨by rfl, ?_⟩) (by assumption) ?_
      · intro wx hSw; go_simp
      try simp only [Act.put, List.setIfInBounds_toArray, List.set_cons_zero, List.set_cons_succ, List.getElem_toArray, List.getElem_cons_zero, List.getElem_cons_succ]
      refine wpAnyH_take (i := 2) (v := .string p1) rfl (by kernel_rfl) (by kernel_rfl) (by kernel_rfl) (fun _ _ _ h => h) (Or.inl ⟨by rfl, ?_⟩) (by assumption) ?_
      · intro wx hSw; have hx := (hSw.cell (p := ⟨w.heap.size + 1, 1, none⟩) (by show w.heap.size + 1 < w1.heap.size; omega)).trans e1; clear hSw; go_simp
      try simp only [Act.put, List.setIfInBounds_toArray, List.set_cons_zero, List.set_cons_succ, List.getElem_toArray, List.getElem_cons_zero, List.getElem_cons_succ]
      refine wpAnyH_take (i := 4) (v := .slice (some ⟨w.heap.size + 1, 0, none⟩) 10 10) rfl (by kernel_rfl) (by kernel_rfl) (by kernel_rfl) (fun _ _ _ h => h) (Or.inl ⟨by rfl, ?_⟩) (by assumption) ?_
      · intro wx hSw; go_simp
      try simp only [Act.put, List.setIfInBounds_toArray, List.set_cons_zero, List.set_cons_succ, List.getElem_toArray, List.getElem_cons_zero, List.getElem_cons_succ]
      refine wpAnyH_take (i := 5) (v := .pointer (some ⟨w.heap.size + 1, 3, none⟩)) rfl (by kernel_rfl) (by kernel_rfl) (by kernel_rfl) (fun _ _ _ h => h) (Or.inl ⟨by rfl, ?_⟩) (by assumption) ?_
      · intro wx hSw; go_simp
      try simp only [Act.put, List.setIfInBounds_toArray, List.set_cons_zero, List.set_cons_succ, List.getElem_toArray, List.getElem_cons_zero, List.getElem_cons_succ]
      refine wpAnyH_take (i := 6) (v := .string p3) rfl (by kernel_rfl) (by kernel_rfl) (by kernel_rfl) (fun _ _ _ h => h) (Or.inl ⟨by rfl, ?_⟩) (by assumption) ?_
      · intro wx hSw; have hx := (hSw.cell (p := ⟨w.heap.size + 1, 3, none⟩) (by show w.heap.size + 1 < w1.heap.size; omega)).trans e3; clear hSw; go_simp
      try simp only [Act.put, List.setIfInBounds_toArray, List.set_cons_zero, List.set_cons_succ, List.getElem_toArray, List.getElem_cons_zero, List.getElem_cons_succ]
      refine wpAnyH_take (i := 8) (v := .slice (some ⟨w.heap.size + 1, 0, none⟩) 10 10) rfl (by kernel_rfl) (by kernel_rfl) (by kernel_rfl) (fun _ _ _ h => h) (Or.inl ⟨by rfl, ?_⟩) (by assumption) ?_
      · intro wx hSw; go_simp
      try simp only [Act.put, List.setIfInBounds_toArray, List.set_cons_zero, List.set_cons_succ, List.getElem_toArray, List.getElem_cons_zero, List.getElem_cons_succ]
      refine wpAnyH_take (i := 9) (v := .pointer (some ⟨w.heap.size + 1, 5, none⟩)) rfl (by kernel_rfl) (by kernel_rfl) (by kernel_rfl) (fun _ _ _ h => h) (Or.inl ⟨by rfl, ?_⟩) (by assumption) ?_
      · intro wx hSw; go_simp
      try simp only [Act.put, List.setIfInBounds_toArray, List.set_cons_zero, List.set_cons_succ, List.getElem_toArray, List.getElem_cons_zero, List.getElem_cons_succ]
      refine wpAnyH_take (i := 10) (v := .string p5) rfl (by kernel_rfl) (by kernel_rfl) (by kernel_rfl) (fun _ _ _ h => h) (Or.inl ⟨by rfl, ?_⟩) (by assumption) ?_
      · intro wx hSw; have hx := (hSw.cell (p := ⟨w.heap.size + 1, 5, none⟩) (by show w.heap.size + 1 < w1.heap.size; omega)).trans e5; clear hSw; go_simp
      try simp only [Act.put, List.setIfInBounds_toArray, List.set_cons_zero, List.set_cons_succ, List.getElem_toArray, List.getElem_cons_zero, List.getElem_cons_succ]
      refine wpAnyH_take (i := 12) (v := .slice (some ⟨w.heap.size + 1, 0, none⟩) 10 10) rfl (by kernel_rfl) (by kernel_rfl) (by kernel_rfl) (fun _ _ _ h => h) (Or.inl ⟨by rfl, ?_⟩) (by assumption) ?_
      · intro wx hSw; go_simp
      try simp only [Act.put, List.setIfInBounds_toArray, List.set_cons_zero, List.set_cons_succ, List.getElem_toArray, List.getElem_cons_zero, List.getElem_cons_succ]
      refine wpAnyH_take (i := 13) (v := .pointer (some ⟨w.heap.size + 1, 7, none⟩)) rfl (by kernel_rfl) (by kernel_rfl) (by kernel_rfl) (fun _ _ _ h => h) (Or.inl ⟨by rfl, ?_⟩) (by assumption) ?_
      · intro wx hSw; go_simp
      try simp only [Act.put, List.setIfInBounds_toArray, List.set_cons_zero, List.set_cons_succ, List.getElem_toArray, List.getElem_cons_zero, List.getElem_cons_succ]
      refine wpAnyH_take (i := 14) (v := .string p7) rfl (by kernel_rfl) (by kernel_rfl) (by kernel_rfl) (fun _ _ _ h => h) (Or.inl ⟨by rfl, ?_⟩) (by assumption) ?_
      · intro wx hSw; have hx := (hSw.cell (p := ⟨w.heap.size + 1, 7, none⟩) (by show w.heap.size + 1 < w1.heap.size; omega)).trans e7; clear hSw; go_simp
      try simp only [Act.put, List.setIfInBounds_toArray, List.set_cons_zero, List.set_cons_succ, List.getElem_toArray, List.getElem_cons_zero, List.getElem_cons_succ]
      refine wpAnyH_take (i := 16) (v := .slice (some ⟨w.heap.size + 1, 0, none⟩) 10 10) rfl (by kernel_rfl) (by kernel_rfl) (by kernel_rfl) (fun _ _ _ h => h) (Or.inl ⟨by rfl, ?_⟩) (by assumption) ?_
      · intro wx hSw; go_simp
      try simp only [Act.put, List.setIfInBounds_toArray, List.set_cons_zero, List.set_cons_succ, List.getElem_toArray, List.getElem_cons_zero, List.getElem_cons_succ]
      refine wpAnyH_take (i := 17) (v := .pointer (some ⟨w.heap.size + 1, 9, none⟩)) rfl (by kernel_rfl) (by kernel_rfl) (by kernel_rfl) (fun _ _ _ h => h) (Or.inl ⟨by rfl, ?_⟩) (by assumption) ?_
      · intro wx hSw; go_simp
      try simp only [Act.put, List.setIfInBounds_toArray, List.set_cons_zero, List.set_cons_succ, List.getElem_toArray, List.getElem_cons_zero, List.getElem_cons_succ]
      refine wpAnyH_take (i := 18) (v := .string p9) rfl (by kernel_rfl) (by kernel_rfl) (by kernel_rfl) (fun _ _ _ h => h) (Or.inl ⟨by rfl, ?_⟩) (by assumption) ?_
      · intro wx hSw; have hx := (hSw.cell (p := ⟨w.heap.size + 1, 9, none⟩) (by show w.heap.size + 1 < w1.heap.size; omega)).trans e9; clear hSw; go_simp
      try simp only [Act.put, List.setIfInBounds_toArray, List.set_cons_zero, List.set_cons_succ, List.getElem_toArray, List.getElem_cons_zero, List.getElem_cons_succ]
      refine wpAnyH_ready (rs := [3, 21]) (by kernel_rfl) (by simp) ?_
      refine AllReadyH.cons rfl (fun K hK => ?_) (AllReadyH.cons rfl (fun K hK => ?_) AllReadyH.nil)
      · go_simp
        go_wp2_with (go_at_call 18; refine (loose p1 z1 _ (E1.out.on BW0)).mono ?_; rintro e W1 ⟨rfl, hb3⟩)
        have BW2 : Below w1.heap.size w1 W1 := BW0.trans (hb3.mono BW0.size)
        refine hK.out _ _ BW2 (fun hHeld => ?_)
        clear hK hb3 BW0
        try simp only [Act.put, List.setIfInBounds_toArray, List.set_cons_zero, List.set_cons_succ, List.getElem_toArray, List.getElem_cons_zero, List.getElem_cons_succ]
        refine wpAnyH_ready (rs := [7, 21]) (by kernel_rfl) (by simp) ?_
        refine AllReadyH.cons rfl (fun K hK => ?_) (AllReadyH.cons rfl (fun K hK => ?_) AllReadyH.nil)
        · go_simp
          go_wp2_with (go_at_call 18; refine (loose p3 z3 _ (E1.out.on BW2)).mono ?_; rintro e W4 ⟨rfl, hb6⟩)
          have BW5 : Below w1.heap.size w1 W4 := BW2.trans (hb6.mono BW2.size)
          refine hK.out _ _ BW5 (fun hHeld => ?_)
          clear hK hb6 BW2
          try simp only [Act.put, List.setIfInBounds_toArray, List.set_cons_zero, List.set_cons_succ, List.getElem_toArray, List.getElem_cons_zero, List.getElem_cons_succ]
          refine wpAnyH_ready (rs := [11, 21]) (by kernel_rfl) (by simp) ?_
          refine AllReadyH.cons rfl (fun K hK => ?_) (AllReadyH.cons rfl (fun K hK => ?_) AllReadyH.nil)
          · go_simp
            go_wp2_with (go_at_call 18; refine (loose p5 z5 _ (E1.out.on BW5)).mono ?_; rintro e W7 ⟨rfl, hb9⟩)
            have BW8 : Below w1.heap.size w1 W7 := BW5.trans (hb9.mono BW5.size)
            refine hK.out _ _ BW8 (fun hHeld => ?_)
            clear hK hb9 BW5
            try simp only [Act.put, List.setIfInBounds_toArray, List.set_cons_zero, List.set_cons_succ, List.getElem_toArray, List.getElem_cons_zero, List.getElem_cons_succ]
            refine wpAnyH_ready (rs := [15, 21]) (by kernel_rfl) (by simp) ?_
            refine AllReadyH.cons rfl (fun K hK => ?_) (AllReadyH.cons rfl (fun K hK => ?_) AllReadyH.nil)
            · go_simp
              go_wp2_with (go_at_call 18; refine (loose p7 z7 _ (E1.out.on BW8)).mono ?_; rintro e W10 ⟨rfl, hb12⟩)
              have BW11 : Below w1.heap.size w1 W10 := BW8.trans (hb12.mono BW8.size)
              refine hK.out _ _ BW11 (fun hHeld => ?_)
              clear hK hb12 BW8
              try simp only [Act.put, List.setIfInBounds_toArray, List.set_cons_zero, List.set_cons_succ, List.getElem_toArray, List.getElem_cons_zero, List.getElem_cons_succ]
              refine wpAnyH_ready (rs := [19, 21]) (by kernel_rfl) (by simp) ?_
              refine AllReadyH.cons rfl (fun K hK => ?_) (AllReadyH.cons rfl (fun K hK => ?_) AllReadyH.nil)
              · go_simp
                go_wp2_with (go_at_call 18; refine (loose p9 z9 _ (E1.out.on BW11)).mono ?_; rintro e W13 ⟨rfl, hb15⟩)
                have BW14 : Below w1.heap.size w1 W13 := BW11.trans (hb15.mono BW11.size)
                refine hK.out _ _ BW14 (fun hHeld => ?_)
                clear hK hb15 BW11
                try simp only [Act.put, List.setIfInBounds_toArray, List.set_cons_zero, List.set_cons_succ, List.getElem_toArray, List.getElem_cons_zero, List.getElem_cons_succ]
                refine wpAnyH_take (i := 20) (v := .agg #[.int .i64 (atoiV p1.data.toList), .int .i64 (atoiV p3.data.toList), .int .i64 (atoiV p5.data.toList), .int .i64 (atoiV p7.data.toList), .int .i64 (atoiV p9.data.toList)]) rfl (by kernel_rfl) (by kernel_rfl) (by kernel_rfl) (fun _ _ _ h => h) (Or.inl ⟨by rfl, ?_⟩) (by assumption) ?_
                · intro wx hSw; go_simp
                try simp only [Act.put, List.setIfInBounds_toArray, List.set_cons_zero, List.set_cons_succ, List.getElem_toArray, List.getElem_cons_zero, List.getElem_cons_succ]
                refine wpAnyH_ready (rs := [21]) (by kernel_rfl) (by simp) ?_
                refine AllReadyH.cons rfl (fun K hK => ?_) AllReadyH.nil
                · have FZ18 : FiveZ (W13.alloc (.cells #[.int .i64 0, .int .i64 0, .int .i64 0, .int .i64 0, .int .i64 0] 24)) W13.heap.size := FiveZ.new _
                  have BW17 := BW14.alloc BW14.size (.cells #[.int .i64 0, .int .i64 0, .int .i64 0, .int .i64 0, .int .i64 0] 24)
                  have hg19 : w1.heap.size ≤ W13.heap.size := BW14.size
                  go_simp
                  refine hK.out _ _ BW17 (fun hHeld => ?_)
                  clear hK BW14
                  try simp only [Act.put, List.setIfInBounds_toArray, List.set_cons_zero, List.set_cons_succ, List.getElem_toArray, List.getElem_cons_zero, List.getElem_cons_succ]
                  generalize W13.alloc (.cells #[.int .i64 0, .int .i64 0, .int .i64 0, .int .i64 0, .int .i64 0] 24) = W16 at *
                  refine wpAnyH_ready (rs := [22]) (by kernel_rfl) (by simp) ?_
                  refine AllReadyH.cons rfl (fun K hK => ?_) AllReadyH.nil
                  · obtain ⟨z0, z1, z2, z3, z4, y0, y1, y2, y3, y4⟩ := FZ18.all
                    go_simp
                    go_wp2
                    obtain ⟨q0, q1, q2, q3, q4⟩ := put5_cells z0 z1 z2 z3 z4 (.int .i64 (atoiV p1.data.toList)) (.int .i64 (atoiV p3.data.toList)) (.int .i64 (atoiV p5.data.toList)) (.int .i64 (atoiV p7.data.toList)) (.int .i64 (atoiV p9.data.toList))
                    refine hK.out _ _ (put5_below BW17 hg19 (.int .i64 (atoiV p1.data.toList)) (.int .i64 (atoiV p3.data.toList)) (.int .i64 (atoiV p5.data.toList)) (.int .i64 (atoiV p7.data.toList)) (.int .i64 (atoiV p9.data.toList))) (fun hHeld => ?_)
                    have BW5 := put5_below BW17 hg19 (.int .i64 (atoiV p1.data.toList)) (.int .i64 (atoiV p3.data.toList)) (.int .i64 (atoiV p5.data.toList)) (.int .i64 (atoiV p7.data.toList)) (.int .i64 (atoiV p9.data.toList))
                    clear hK z0 z1 z2 z3 z4 y0 y1 y2 y3 y4 FZ18 BW17
                    try simp only [Act.put, List.setIfInBounds_toArray, List.set_cons_zero, List.set_cons_succ, List.getElem_toArray, List.getElem_cons_zero, List.getElem_cons_succ]
                    refine wpAnyH_done (by kernel_rfl) ?_ _
                    unfold put5 at q0 q1 q2 q3 q4 BW5 hHeld
                    generalize (((((W16.setCell ⟨W13.heap.size, 0, none⟩ (.int .i64 (atoiV p1.data.toList))).setCell ⟨W13.heap.size, 1, none⟩ (.int .i64 (atoiV p3.data.toList))).setCell ⟨W13.heap.size, 2, none⟩ (.int .i64 (atoiV p5.data.toList))).setCell ⟨W13.heap.size, 3, none⟩ (.int .i64 (atoiV p7.data.toList))).setCell ⟨W13.heap.size, 4, none⟩ (.int .i64 (atoiV p9.data.toList))) = W5 at *
                    have hgw : w.heap.size < W13.heap.size := by have := hz1; omega
                    have d0 : W5.cell? ⟨w.heap.size, 0, none⟩ = some (.int .i64 0) := (BW5.cell (p := ⟨w.heap.size, 0, none⟩) (by show w.heap.size < w1.heap.size; omega)).trans c0
                    have f0' : W5.frozen? ⟨w.heap.size, 0, none⟩ = false := (BW5.frozen (p := ⟨w.heap.size, 0, none⟩) (by show w.heap.size < w1.heap.size; omega)).trans f0
                    have d1 : W5.cell? ⟨w.heap.size, 1, none⟩ = some (.int .i64 0) := (BW5.cell (p := ⟨w.heap.size, 1, none⟩) (by show w.heap.size < w1.heap.size; omega)).trans c1
                    have f1' : W5.frozen? ⟨w.heap.size, 1, none⟩ = false := (BW5.frozen (p := ⟨w.heap.size, 1, none⟩) (by show w.heap.size < w1.heap.size; omega)).trans f1
                    have d2 : W5.cell? ⟨w.heap.size, 2, none⟩ = some (.int .i64 0) := (BW5.cell (p := ⟨w.heap.size, 2, none⟩) (by show w.heap.size < w1.heap.size; omega)).trans c2
                    have f2' : W5.frozen? ⟨w.heap.size, 2, none⟩ = false := (BW5.frozen (p := ⟨w.heap.size, 2, none⟩) (by show w.heap.size < w1.heap.size; omega)).trans f2
                    have d3 : W5.cell? ⟨w.heap.size, 3, none⟩ = some (.int .i64 0) := (BW5.cell (p := ⟨w.heap.size, 3, none⟩) (by show w.heap.size < w1.heap.size; omega)).trans c3
                    have f3' : W5.frozen? ⟨w.heap.size, 3, none⟩ = false := (BW5.frozen (p := ⟨w.heap.size, 3, none⟩) (by show w.heap.size < w1.heap.size; omega)).trans f3
                    have d4 : W5.cell? ⟨w.heap.size, 4, none⟩ = some (.int .i64 0) := (BW5.cell (p := ⟨w.heap.size, 4, none⟩) (by show w.heap.size < w1.heap.size; omega)).trans c4
                    have f4' : W5.frozen? ⟨w.heap.size, 4, none⟩ = false := (BW5.frozen (p := ⟨w.heap.size, 4, none⟩) (by show w.heap.size < w1.heap.size; omega)).trans f4
                    go_wp2_with fail
                    refine (text_impl _ _ _ _ _ _ ((E1.out.on BW5).tab)).mono ?_
                    rintro e W6 ⟨rfl, hb6⟩
                    have hw6 : w.heap.size < W5.heap.size := by have := BW5.size; omega
                    have hg6 : W13.heap.size < W5.heap.size := cell_lt5 q0
                    replace d0 := (hb6.cell (p := ⟨w.heap.size, 0, none⟩) hw6).trans d0
                    replace f0' := (hb6.frozen (p := ⟨w.heap.size, 0, none⟩) hw6).trans f0'
                    replace q0 := (hb6.cell (p := ⟨W13.heap.size, 0, none⟩) hg6).trans q0
                    replace d1 := (hb6.cell (p := ⟨w.heap.size, 1, none⟩) hw6).trans d1
                    replace f1' := (hb6.frozen (p := ⟨w.heap.size, 1, none⟩) hw6).trans f1'
                    replace q1 := (hb6.cell (p := ⟨W13.heap.size, 1, none⟩) hg6).trans q1
                    replace d2 := (hb6.cell (p := ⟨w.heap.size, 2, none⟩) hw6).trans d2
                    replace f2' := (hb6.frozen (p := ⟨w.heap.size, 2, none⟩) hw6).trans f2'
                    replace q2 := (hb6.cell (p := ⟨W13.heap.size, 2, none⟩) hg6).trans q2
                    replace d3 := (hb6.cell (p := ⟨w.heap.size, 3, none⟩) hw6).trans d3
                    replace f3' := (hb6.frozen (p := ⟨w.heap.size, 3, none⟩) hw6).trans f3'
                    replace q3 := (hb6.cell (p := ⟨W13.heap.size, 3, none⟩) hg6).trans q3
                    replace d4 := (hb6.cell (p := ⟨w.heap.size, 4, none⟩) hw6).trans d4
                    replace f4' := (hb6.frozen (p := ⟨w.heap.size, 4, none⟩) hw6).trans f4'
                    replace q4 := (hb6.cell (p := ⟨W13.heap.size, 4, none⟩) hg6).trans q4
                    have B6 : Below w.heap.size w W6 := (Bw1.trans (BW5.mono (Nat.le_of_lt (by omega)))).trans (hb6.mono (Nat.le_of_lt hw6))
                    clear hb6 BW5 hHeld
                    by_cases he : (textOf (atoiV p1.data.toList) (atoiV p3.data.toList) (atoiV p5.data.toList) (atoiV p7.data.toList) (atoiV p9.data.toList)) = s
                    · have he' : ((textOf (atoiV p1.data.toList) (atoiV p3.data.toList) (atoiV p5.data.toList) (atoiV p7.data.toList) (atoiV p9.data.toList)).toList == s.toList) = true := by rw [he]; simp
                      have HY : Hid (vOk s) := ⟨hs, HW.out.2, by unfold vText; rw [HV.out.1, HV.out.2.1, HV.out.2.2.1, HV.out.2.2.2.1, HV.out.2.2.2.2]; exact he⟩
                      clear he
                      go_wp2
                      obtain ⟨r0, r1, r2, r3, r4⟩ := put5_cells d0 d1 d2 d3 d4 (.int .i64 (atoiV p1.data.toList)) (.int .i64 (atoiV p3.data.toList)) (.int .i64 (atoiV p5.data.toList)) (.int .i64 (atoiV p7.data.toList)) (.int .i64 (atoiV p9.data.toList))
                      unfold put5 at r0 r1 r2 r3 r4
                      refine bodyPost_ret (v := .tuple #[.agg #[.int .i64 (atoiV p1.data.toList), .int .i64 (atoiV p3.data.toList), .int .i64 (atoiV p5.data.toList), .int .i64 (atoiV p7.data.toList), .int .i64 (atoiV p9.data.toList)], .bool true]) ?_ rfl ⟨.inl ⟨HY.out, ?_⟩, put5_below B6 (Nat.le_refl _) (.int .i64 (atoiV p1.data.toList)) (.int .i64 (atoiV p3.data.toList)) (.int .i64 (atoiV p5.data.toList)) (.int .i64 (atoiV p7.data.toList)) (.int .i64 (atoiV p9.data.toList))⟩
                      · simp [results, Tryd.results33, go_sem, r0, r1, r2, r3, r4]
                      · rw [HV.out.1, HV.out.2.1, HV.out.2.2.1, HV.out.2.2.2.1, HV.out.2.2.2.2]
                    · have he' : ((textOf (atoiV p1.data.toList) (atoiV p3.data.toList) (atoiV p5.data.toList) (atoiV p7.data.toList) (atoiV p9.data.toList)).toList == s.toList) = false := beq_eq_false_iff_ne.2 (fun e => he (text_inj e))
                      have HY : Hid (¬ vOk s) := fun h => he (by have := h.2.2; unfold vText at this; rw [HV.out.1, HV.out.2.1, HV.out.2.2.1, HV.out.2.2.2.1, HV.out.2.2.2.2] at this; exact this)
                      clear he
                      go_wp2
                      obtain ⟨r0, r1, r2, r3, r4⟩ := put5_cells d0 d1 d2 d3 d4 (.int .i64 0) (.int .i64 0) (.int .i64 0) (.int .i64 0) (.int .i64 0)
                      unfold put5 at r0 r1 r2 r3 r4
                      refine bodyPost_ret (v := .tuple #[.agg #[.int .i64 0, .int .i64 0, .int .i64 0, .int .i64 0, .int .i64 0], .bool false]) ?_ rfl ⟨.inr ⟨HY.out, rfl⟩, put5_below B6 (Nat.le_refl _) (.int .i64 0) (.int .i64 0) (.int .i64 0) (.int .i64 0) (.int .i64 0)⟩
                      simp [results, Tryd.results33, go_sem, r0, r1, r2, r3, r4]
              · have FZ22 : FiveZ (W10.alloc (.cells #[.int .i64 0, .int .i64 0, .int .i64 0, .int .i64 0, .int .i64 0] 24)) W10.heap.size := FiveZ.new _
                have BW21 := BW11.alloc BW11.size (.cells #[.int .i64 0, .int .i64 0, .int .i64 0, .int .i64 0, .int .i64 0] 24)
                have hg23 : w1.heap.size ≤ W10.heap.size := BW11.size
                go_simp
                refine hK.out _ _ BW21 (fun hHeld => ?_)
                clear hK BW11
                try simp only [Act.put, List.setIfInBounds_toArray, List.set_cons_zero, List.set_cons_succ, List.getElem_toArray, List.getElem_cons_zero, List.getElem_cons_succ]
                generalize W10.alloc (.cells #[.int .i64 0, .int .i64 0, .int .i64 0, .int .i64 0, .int .i64 0] 24) = W20 at *
                refine wpAnyH_ready (rs := [19]) (by kernel_rfl) (by simp) ?_
                refine AllReadyH.cons rfl (fun K hK => ?_) AllReadyH.nil
                · go_simp
                  go_wp2_with (go_at_call 18; refine (loose p9 z9 _ (E1.out.on BW21)).mono ?_; rintro e W24 ⟨rfl, hb26⟩)
                  have BW25 : Below w1.heap.size w1 W24 := BW21.trans (hb26.mono BW21.size)
                  have FZ27 := FZ22.below hb26
                  refine hK.out _ _ BW25 (fun hHeld => ?_)
                  clear hK hb26 BW21 FZ22
                  try simp only [Act.put, List.setIfInBounds_toArray, List.set_cons_zero, List.set_cons_succ, List.getElem_toArray, List.getElem_cons_zero, List.getElem_cons_succ]
                  refine wpAnyH_take (i := 20) (v := .agg #[.int .i64 (atoiV p1.data.toList), .int .i64 (atoiV p3.data.toList), .int .i64 (atoiV p5.data.toList), .int .i64 (atoiV p7.data.toList), .int .i64 (atoiV p9.data.toList)]) rfl (by kernel_rfl) (by kernel_rfl) (by kernel_rfl) (fun _ _ _ h => h) (Or.inl ⟨by rfl, ?_⟩) (by assumption) ?_
                  · intro wx hSw; go_simp
                  try simp only [Act.put, List.setIfInBounds_toArray, List.set_cons_zero, List.set_cons_succ, List.getElem_toArray, List.getElem_cons_zero, List.getElem_cons_succ]
                  refine wpAnyH_ready (rs := [22]) (by kernel_rfl) (by simp) ?_
                  refine AllReadyH.cons rfl (fun K hK => ?_) AllReadyH.nil
                  · obtain ⟨z0, z1, z2, z3, z4, y0, y1, y2, y3, y4⟩ := FZ27.all
                    go_simp
                    go_wp2
                    obtain ⟨q0, q1, q2, q3, q4⟩ := put5_cells z0 z1 z2 z3 z4 (.int .i64 (atoiV p1.data.toList)) (.int .i64 (atoiV p3.data.toList)) (.int .i64 (atoiV p5.data.toList)) (.int .i64 (atoiV p7.data.toList)) (.int .i64 (atoiV p9.data.toList))
                    refine hK.out _ _ (put5_below BW25 hg23 (.int .i64 (atoiV p1.data.toList)) (.int .i64 (atoiV p3.data.toList)) (.int .i64 (atoiV p5.data.toList)) (.int .i64 (atoiV p7.data.toList)) (.int .i64 (atoiV p9.data.toList))) (fun hHeld => ?_)
                    have BW5 := put5_below BW25 hg23 (.int .i64 (atoiV p1.data.toList)) (.int .i64 (atoiV p3.data.toList)) (.int .i64 (atoiV p5.data.toList)) (.int .i64 (atoiV p7.data.toList)) (.int .i64 (atoiV p9.data.toList))
                    clear hK z0 z1 z2 z3 z4 y0 y1 y2 y3 y4 FZ27 BW25
                    try simp only [Act.put, List.setIfInBounds_toArray, List.set_cons_zero, List.set_cons_succ, List.getElem_toArray, List.getElem_cons_zero, List.getElem_cons_succ]
                    refine wpAnyH_done (by kernel_rfl) ?_ _
                    unfold put5 at q0 q1 q2 q3 q4 BW5 hHeld
                    generalize (((((W24.setCell ⟨W10.heap.size, 0, none⟩ (.int .i64 (atoiV p1.data.toList))).setCell ⟨W10.heap.size, 1, none⟩ (.int .i64 (atoiV p3.data.toList))).setCell ⟨W10.heap.size, 2, none⟩ (.int .i64 (atoiV p5.data.toList))).setCell ⟨W10.heap.size, 3, none⟩ (.int .i64 (atoiV p7.data.toList))).setCell ⟨W10.heap.size, 4, none⟩ (.int .i64 (atoiV p9.data.toList))) = W5 at *
                    have hgw : w.heap.size < W10.heap.size := by have := hz1; omega
                    have d0 : W5.cell? ⟨w.heap.size, 0, none⟩ = some (.int .i64 0) := (BW5.cell (p := ⟨w.heap.size, 0, none⟩) (by show w.heap.size < w1.heap.size; omega)).trans c0
                    have f0' : W5.frozen? ⟨w.heap.size, 0, none⟩ = false := (BW5.frozen (p := ⟨w.heap.size, 0, none⟩) (by show w.heap.size < w1.heap.size; omega)).trans f0
                    have d1 : W5.cell? ⟨w.heap.size, 1, none⟩ = some (.int .i64 0) := (BW5.cell (p := ⟨w.heap.size, 1, none⟩) (by show w.heap.size < w1.heap.size; omega)).trans c1
                    have f1' : W5.frozen? ⟨w.heap.size, 1, none⟩ = false := (BW5.frozen (p := ⟨w.heap.size, 1, none⟩) (by show w.heap.size < w1.heap.size; omega)).trans f1
                    have d2 : W5.cell? ⟨w.heap.size, 2, none⟩ = some (.int .i64 0) := (BW5.cell (p := ⟨w.heap.size, 2, none⟩) (by show w.heap.size < w1.heap.size; omega)).trans c2
                    have f2' : W5.frozen? ⟨w.heap.size, 2, none⟩ = false := (BW5.frozen (p := ⟨w.heap.size, 2, none⟩) (by show w.heap.size < w1.heap.size; omega)).trans f2
                    have d3 : W5.cell? ⟨w.heap.size, 3, none⟩ = some (.int .i64 0) := (BW5.cell (p := ⟨w.heap.size, 3, none⟩) (by show w.heap.size < w1.heap.size; omega)).trans c3
                    have f3' : W5.frozen? ⟨w.heap.size, 3, none⟩ = false := (BW5.frozen (p := ⟨w.heap.size, 3, none⟩) (by show w.heap.size < w1.heap.size; omega)).trans f3
                    have d4 : W5.cell? ⟨w.heap.size, 4, none⟩ = some (.int .i64 0) := (BW5.cell (p := ⟨w.heap.size, 4, none⟩) (by show w.heap.size < w1.heap.size; omega)).trans c4
                    have f4' : W5.frozen? ⟨w.heap.size, 4, none⟩ = false := (BW5.frozen (p := ⟨w.heap.size, 4, none⟩) (by show w.heap.size < w1.heap.size; omega)).trans f4
                    go_wp2_with fail
                    refine (text_impl _ _ _ _ _ _ ((E1.out.on BW5).tab)).mono ?_
                    rintro e W6 ⟨rfl, hb6⟩
                    have hw6 : w.heap.size < W5.heap.size := by have := BW5.size; omega
                    have hg6 : W10.heap.size < W5.heap.size := cell_lt5 q0
                    replace d0 := (hb6.cell (p := ⟨w.heap.size, 0, none⟩) hw6).trans d0
                    replace f0' := (hb6.frozen (p := ⟨w.heap.size, 0, none⟩) hw6).trans f0'
                    replace q0 := (hb6.cell (p := ⟨W10.heap.size, 0, none⟩) hg6).trans q0
                    replace d1 := (hb6.cell (p := ⟨w.heap.size, 1, none⟩) hw6).trans d1
                    replace f1' := (hb6.frozen (p := ⟨w.heap.size, 1, none⟩) hw6).trans f1'
                    replace q1 := (hb6.cell (p := ⟨W10.heap.size, 1, none⟩) hg6).trans q1
                    replace d2 := (hb6.cell (p := ⟨w.heap.size, 2, none⟩) hw6).trans d2
                    replace f2' := (hb6.frozen (p := ⟨w.heap.size, 2, none⟩) hw6).trans f2'
                    replace q2 := (hb6.cell (p := ⟨W10.heap.size, 2, none⟩) hg6).trans q2
                    replace d3 := (hb6.cell (p := ⟨w.heap.size, 3, none⟩) hw6).trans d3
                    replace f3' := (hb6.frozen (p := ⟨w.heap.size, 3, none⟩) hw6).trans f3'
                    replace q3 := (hb6.cell (p := ⟨W10.heap.size, 3, none⟩) hg6).trans q3
                    replace d4 := (hb6.cell (p := ⟨w.heap.size, 4, none⟩) hw6).trans d4
                    replace f4' := (hb6.frozen (p := ⟨w.heap.size, 4, none⟩) hw6).trans f4'
                    replace q4 := (hb6.cell (p := ⟨W10.heap.size, 4, none⟩) hg6).trans q4
                    have B6 : Below w.heap.size w W6 := (Bw1.trans (BW5.mono (Nat.le_of_lt (by omega)))).trans (hb6.mono (Nat.le_of_lt hw6))
                    clear hb6 BW5 hHeld
                    by_cases he : (textOf (atoiV p1.data.toList) (atoiV p3.data.toList) (atoiV p5.data.toList) (atoiV p7.data.toList) (atoiV p9.data.toList)) = s
                    · have he' : ((textOf (atoiV p1.data.toList) (atoiV p3.data.toList) (atoiV p5.data.toList) (atoiV p7.data.toList) (atoiV p9.data.toList)).toList == s.toList) = true := by rw [he]; simp
                      have HY : Hid (vOk s) := ⟨hs, HW.out.2, by unfold vText; rw [HV.out.1, HV.out.2.1, HV.out.2.2.1, HV.out.2.2.2.1, HV.out.2.2.2.2]; exact he⟩
                      clear he
                      go_wp2
                      obtain ⟨r0, r1, r2, r3, r4⟩ := put5_cells d0 d1 d2 d3 d4 (.int .i64 (atoiV p1.data.toList)) (.int .i64 (atoiV p3.data.toList)) (.int .i64 (atoiV p5.data.toList)) (.int .i64 (atoiV p7.data.toList)) (.int .i64 (atoiV p9.data.toList))
                      unfold put5 at r0 r1 r2 r3 r4
                      refine bodyPost_ret (v := .tuple #[.agg #[.int .i64 (atoiV p1.data.toList), .int .i64 (atoiV p3.data.toList), .int .i64 (atoiV p5.data.toList), .int .i64 (atoiV p7.data.toList), .int .i64 (atoiV p9.data.toList)], .bool true]) ?_ rfl ⟨.inl ⟨HY.out, ?_⟩, put5_below B6 (Nat.le_refl _) (.int .i64 (atoiV p1.data.toList)) (.int .i64 (atoiV p3.data.toList)) (.int .i64 (atoiV p5.data.toList)) (.int .i64 (atoiV p7.data.toList)) (.int .i64 (atoiV p9.data.toList))⟩
                      · simp [results, Tryd.results33, go_sem, r0, r1, r2, r3, r4]
                      · rw [HV.out.1, HV.out.2.1, HV.out.2.2.1, HV.out.2.2.2.1, HV.out.2.2.2.2]
                    · have he' : ((textOf (atoiV p1.data.toList) (atoiV p3.data.toList) (atoiV p5.data.toList) (atoiV p7.data.toList) (atoiV p9.data.toList)).toList == s.toList) = false := beq_eq_false_iff_ne.2 (fun e => he (text_inj e))
                      have HY : Hid (¬ vOk s) := fun h => he (by have := h.2.2; unfold vText at this; rw [HV.out.1, HV.out.2.1, HV.out.2.2.1, HV.out.2.2.2.1, HV.out.2.2.2.2] at this; exact this)
                      clear he
                      go_wp2
                      obtain ⟨r0, r1, r2, r3, r4⟩ := put5_cells d0 d1 d2 d3 d4 (.int .i64 0) (.int .i64 0) (.int .i64 0) (.int .i64 0) (.int .i64 0)
                      unfold put5 at r0 r1 r2 r3 r4
                      refine bodyPost_ret (v := .tuple #[.agg #[.int .i64 0, .int .i64 0, .int .i64 0, .int .i64 0, .int .i64 0], .bool false]) ?_ rfl ⟨.inr ⟨HY.out, rfl⟩, put5_below B6 (Nat.le_refl _) (.int .i64 0) (.int .i64 0) (.int .i64 0) (.int .i64 0) (.int .i64 0)⟩
                      simp [results, Tryd.results33, go_sem, r0, r1, r2, r3, r4]
            · have FZ30 : FiveZ (W7.alloc (.cells #[.int .i64 0, .int .i64 0, .int .i64 0, .int .i64 0, .int .i64 0] 24)) W7.heap.size := FiveZ.new _
              have BW29 := BW8.alloc BW8.size (.cells #[.int .i64 0, .int .i64 0, .int .i64 0, .int .i64 0, .int .i64 0] 24)
              have hg31 : w1.heap.size ≤ W7.heap.size := BW8.size
              go_simp
              refine hK.out _ _ BW29 (fun hHeld => ?_)
              clear hK BW8
              try simp only [Act.put, List.setIfInBounds_toArray, List.set_cons_zero, List.set_cons_succ, List.getElem_toArray, List.getElem_cons_zero, List.getElem_cons_succ]
              generalize W7.alloc (.cells #[.int .i64 0, .int .i64 0, .int .i64 0, .int .i64 0, .int .i64 0] 24) = W28 at *
              refine wpAnyH_ready (rs := [15]) (by kernel_rfl) (by simp) ?_
              refine AllReadyH.cons rfl (fun K hK => ?_) AllReadyH.nil
              · go_simp
                go_wp2_with (go_at_call 18; refine (loose p7 z7 _ (E1.out.on BW29)).mono ?_; rintro e W32 ⟨rfl, hb34⟩)
                have BW33 : Below w1.heap.size w1 W32 := BW29.trans (hb34.mono BW29.size)
                have FZ35 := FZ30.below hb34
                refine hK.out _ _ BW33 (fun hHeld => ?_)
                clear hK hb34 BW29 FZ30
                try simp only [Act.put, List.setIfInBounds_toArray, List.set_cons_zero, List.set_cons_succ, List.getElem_toArray, List.getElem_cons_zero, List.getElem_cons_succ]
                refine wpAnyH_ready (rs := [19]) (by kernel_rfl) (by simp) ?_
                refine AllReadyH.cons rfl (fun K hK => ?_) AllReadyH.nil
                · go_simp
                  go_wp2_with (go_at_call 18; refine (loose p9 z9 _ (E1.out.on BW33)).mono ?_; rintro e W36 ⟨rfl, hb38⟩)
                  have BW37 : Below w1.heap.size w1 W36 := BW33.trans (hb38.mono BW33.size)
                  have FZ39 := FZ35.below hb38
                  refine hK.out _ _ BW37 (fun hHeld => ?_)
                  clear hK hb38 BW33 FZ35
                  try simp only [Act.put, List.setIfInBounds_toArray, List.set_cons_zero, List.set_cons_succ, List.getElem_toArray, List.getElem_cons_zero, List.getElem_cons_succ]
                  refine wpAnyH_take (i := 20) (v := .agg #[.int .i64 (atoiV p1.data.toList), .int .i64 (atoiV p3.data.toList), .int .i64 (atoiV p5.data.toList), .int .i64 (atoiV p7.data.toList), .int .i64 (atoiV p9.data.toList)]) rfl (by kernel_rfl) (by kernel_rfl) (by kernel_rfl) (fun _ _ _ h => h) (Or.inl ⟨by rfl, ?_⟩) (by assumption) ?_
                  · intro wx hSw; go_simp
                  try simp only [Act.put, List.setIfInBounds_toArray, List.set_cons_zero, List.set_cons_succ, List.getElem_toArray, List.getElem_cons_zero, List.getElem_cons_succ]
                  refine wpAnyH_ready (rs := [22]) (by kernel_rfl) (by simp) ?_
                  refine AllReadyH.cons rfl (fun K hK => ?_) AllReadyH.nil
                  · obtain ⟨z0, z1, z2, z3, z4, y0, y1, y2, y3, y4⟩ := FZ39.all
                    go_simp
                    go_wp2
                    obtain ⟨q0, q1, q2, q3, q4⟩ := put5_cells z0 z1 z2 z3 z4 (.int .i64 (atoiV p1.data.toList)) (.int .i64 (atoiV p3.data.toList)) (.int .i64 (atoiV p5.data.toList)) (.int .i64 (atoiV p7.data.toList)) (.int .i64 (atoiV p9.data.toList))
                    refine hK.out _ _ (put5_below BW37 hg31 (.int .i64 (atoiV p1.data.toList)) (.int .i64 (atoiV p3.data.toList)) (.int .i64 (atoiV p5.data.toList)) (.int .i64 (atoiV p7.data.toList)) (.int .i64 (atoiV p9.data.toList))) (fun hHeld => ?_)
                    have BW5 := put5_below BW37 hg31 (.int .i64 (atoiV p1.data.toList)) (.int .i64 (atoiV p3.data.toList)) (.int .i64 (atoiV p5.data.toList)) (.int .i64 (atoiV p7.data.toList)) (.int .i64 (atoiV p9.data.toList))
                    clear hK z0 z1 z2 z3 z4 y0 y1 y2 y3 y4 FZ39 BW37
                    try simp only [Act.put, List.setIfInBounds_toArray, List.set_cons_zero, List.set_cons_succ, List.getElem_toArray, List.getElem_cons_zero, List.getElem_cons_succ]
                    refine wpAnyH_done (by kernel_rfl) ?_ _
                    unfold put5 at q0 q1 q2 q3 q4 BW5 hHeld
                    generalize (((((W36.setCell ⟨W7.heap.size, 0, none⟩ (.int .i64 (atoiV p1.data.toList))).setCell ⟨W7.heap.size, 1, none⟩ (.int .i64 (atoiV p3.data.toList))).setCell ⟨W7.heap.size, 2, none⟩ (.int .i64 (atoiV p5.data.toList))).setCell ⟨W7.heap.size, 3, none⟩ (.int .i64 (atoiV p7.data.toList))).setCell ⟨W7.heap.size, 4, none⟩ (.int .i64 (atoiV p9.data.toList))) = W5 at *
                    have hgw : w.heap.size < W7.heap.size := by have := hz1; omega
                    have d0 : W5.cell? ⟨w.heap.size, 0, none⟩ = some (.int .i64 0) := (BW5.cell (p := ⟨w.heap.size, 0, none⟩) (by show w.heap.size < w1.heap.size; omega)).trans c0
                    have f0' : W5.frozen? ⟨w.heap.size, 0, none⟩ = false := (BW5.frozen (p := ⟨w.heap.size, 0, none⟩) (by show w.heap.size < w1.heap.size; omega)).trans f0
                    have d1 : W5.cell? ⟨w.heap.size, 1, none⟩ = some (.int .i64 0) := (BW5.cell (p := ⟨w.heap.size, 1, none⟩) (by show w.heap.size < w1.heap.size; omega)).trans c1
                    have f1' : W5.frozen? ⟨w.heap.size, 1, none⟩ = false := (BW5.frozen (p := ⟨w.heap.size, 1, none⟩) (by show w.heap.size < w1.heap.size; omega)).trans f1
                    have d2 : W5.cell? ⟨w.heap.size, 2, none⟩ = some (.int .i64 0) := (BW5.cell (p := ⟨w.heap.size, 2, none⟩) (by show w.heap.size < w1.heap.size; omega)).trans c2
                    have f2' : W5.frozen? ⟨w.heap.size, 2, none⟩ = false := (BW5.frozen (p := ⟨w.heap.size, 2, none⟩) (by show w.heap.size < w1.heap.size; omega)).trans f2
                    have d3 : W5.cell? ⟨w.heap.size, 3, none⟩ = some (.int .i64 0) := (BW5.cell (p := ⟨w.heap.size, 3, none⟩) (by show w.heap.size < w1.heap.size; omega)).trans c3
                    have f3' : W5.frozen? ⟨w.heap.size, 3, none⟩ = false := (BW5.frozen (p := ⟨w.heap.size, 3, none⟩) (by show w.heap.size < w1.heap.size; omega)).trans f3
                    have d4 : W5.cell? ⟨w.heap.size, 4, none⟩ = some (.int .i64 0) := (BW5.cell (p := ⟨w.heap.size, 4, none⟩) (by show w.heap.size < w1.heap.size; omega)).trans c4
                    have f4' : W5.frozen? ⟨w.heap.size, 4, none⟩ = false := (BW5.frozen (p := ⟨w.heap.size, 4, none⟩) (by show w.heap.size < w1.heap.size; omega)).trans f4
                    go_wp2_with fail
                    refine (text_impl _ _ _ _ _ _ ((E1.out.on BW5).tab)).mono ?_
                    rintro e W6 ⟨rfl, hb6⟩
                    have hw6 : w.heap.size < W5.heap.size := by have := BW5.size; omega
                    have hg6 : W7.heap.size < W5.heap.size := cell_lt5 q0
                    replace d0 := (hb6.cell (p := ⟨w.heap.size, 0, none⟩) hw6).trans d0
                    replace f0' := (hb6.frozen (p := ⟨w.heap.size, 0, none⟩) hw6).trans f0'
                    replace q0 := (hb6.cell (p := ⟨W7.heap.size, 0, none⟩) hg6).trans q0
                    replace d1 := (hb6.cell (p := ⟨w.heap.size, 1, none⟩) hw6).trans d1
                    replace f1' := (hb6.frozen (p := ⟨w.heap.size, 1, none⟩) hw6).trans f1'
                    replace q1 := (hb6.cell (p := ⟨W7.heap.size, 1, none⟩) hg6).trans q1
                    replace d2 := (hb6.cell (p := ⟨w.heap.size, 2, none⟩) hw6).trans d2
                    replace f2' := (hb6.frozen (p := ⟨w.heap.size, 2, none⟩) hw6).trans f2'
                    replace q2 := (hb6.cell (p := ⟨W7.heap.size, 2, none⟩) hg6).trans q2
                    replace d3 := (hb6.cell (p := ⟨w.heap.size, 3, none⟩) hw6).trans d3
                    replace f3' := (hb6.frozen (p := ⟨w.heap.size, 3, none⟩) hw6).trans f3'
                    replace q3 := (hb6.cell (p := ⟨W7.heap.size, 3, none⟩) hg6).trans q3
                    replace d4 := (hb6.cell (p := ⟨w.heap.size, 4, none⟩) hw6).trans d4
                    replace f4' := (hb6.frozen (p := ⟨w.heap.size, 4, none⟩) hw6).trans f4'
                    replace q4 := (hb6.cell (p := ⟨W7.heap.size, 4, none⟩) hg6).trans q4
                    have B6 : Below w.heap.size w W6 := (Bw1.trans (BW5.mono (Nat.le_of_lt (by omega)))).trans (hb6.mono (Nat.le_of_lt hw6))
                    clear hb6 BW5 hHeld
                    by_cases he : (textOf (atoiV p1.data.toList) (atoiV p3.data.toList) (atoiV p5.data.toList) (atoiV p7.data.toList) (atoiV p9.data.toList)) = s
                    · have he' : ((textOf (atoiV p1.data.toList) (atoiV p3.data.toList) (atoiV p5.data.toList) (atoiV p7.data.toList) (atoiV p9.data.toList)).toList == s.toList) = true := by rw [he]; simp
                      have HY : Hid (vOk s) := ⟨hs, HW.out.2, by unfold vText; rw [HV.out.1, HV.out.2.1, HV.out.2.2.1, HV.out.2.2.2.1, HV.out.2.2.2.2]; exact he⟩
                      clear he
                      go_wp2
                      obtain ⟨r0, r1, r2, r3, r4⟩ := put5_cells d0 d1 d2 d3 d4 (.int .i64 (atoiV p1.data.toList)) (.int .i64 (atoiV p3.data.toList)) (.int .i64 (atoiV p5.data.toList)) (.int .i64 (atoiV p7.data.toList)) (.int .i64 (atoiV p9.data.toList))
                      unfold put5 at r0 r1 r2 r3 r4
                      refine bodyPost_ret (v := .tuple #[.agg #[.int .i64 (atoiV p1.data.toList), .int .i64 (atoiV p3.data.toList), .int .i64 (atoiV p5.data.toList), .int .i64 (atoiV p7.data.toList), .int .i64 (atoiV p9.data.toList)], .bool true]) ?_ rfl ⟨.inl ⟨HY.out, ?_⟩, put5_below B6 (Nat.le_refl _) (.int .i64 (atoiV p1.data.toList)) (.int .i64 (atoiV p3.data.toList)) (.int .i64 (atoiV p5.data.toList)) (.int .i64 (atoiV p7.data.toList)) (.int .i64 (atoiV p9.data.toList))⟩
                      · simp [results, Tryd.results33, go_sem, r0, r1, r2, r3, r4]
                      · rw [HV.out.1, HV.out.2.1, HV.out.2.2.1, HV.out.2.2.2.1, HV.out.2.2.2.2]
                    · have he' : ((textOf (atoiV p1.data.toList) (atoiV p3.data.toList) (atoiV p5.data.toList) (atoiV p7.data.toList) (atoiV p9.data.toList)).toList == s.toList) = false := beq_eq_false_iff_ne.2 (fun e => he (text_inj e))
                      have HY : Hid (¬ vOk s) := fun h => he (by have := h.2.2; unfold vText at this; rw [HV.out.1, HV.out.2.1, HV.out.2.2.1, HV.out.2.2.2.1, HV.out.2.2.2.2] at this; exact this)
                      clear he
                      go_wp2
                      obtain ⟨r0, r1, r2, r3, r4⟩ := put5_cells d0 d1 d2 d3 d4 (.int .i64 0) (.int .i64 0) (.int .i64 0) (.int .i64 0) (.int .i64 0)
                      unfold put5 at r0 r1 r2 r3 r4
                      refine bodyPost_ret (v := .tuple #[.agg #[.int .i64 0, .int .i64 0, .int .i64 0, .int .i64 0, .int .i64 0], .bool false]) ?_ rfl ⟨.inr ⟨HY.out, rfl⟩, put5_below B6 (Nat.le_refl _) (.int .i64 0) (.int .i64 0) (.int .i64 0) (.int .i64 0) (.int .i64 0)⟩
                      simp [results, Tryd.results33, go_sem, r0, r1, r2, r3, r4]
          · have FZ42 : FiveZ (W4.alloc (.cells #[.int .i64 0, .int .i64 0, .int .i64 0, .int .i64 0, .int .i64 0] 24)) W4.heap.size := FiveZ.new _
            have BW41 := BW5.alloc BW5.size (.cells #[.int .i64 0, .int .i64 0, .int .i64 0, .int .i64 0, .int .i64 0] 24)
            have hg43 : w1.heap.size ≤ W4.heap.size := BW5.size
            go_simp
            refine hK.out _ _ BW41 (fun hHeld => ?_)
            clear hK BW5
            try simp only [Act.put, List.setIfInBounds_toArray, List.set_cons_zero, List.set_cons_succ, List.getElem_toArray, List.getElem_cons_zero, List.getElem_cons_succ]
            generalize W4.alloc (.cells #[.int .i64 0, .int .i64 0, .int .i64 0, .int .i64 0, .int .i64 0] 24) = W40 at *
            refine wpAnyH_ready (rs := [11]) (by kernel_rfl) (by simp) ?_
            refine AllReadyH.cons rfl (fun K hK => ?_) AllReadyH.nil
            · go_simp
              go_wp2_with (go_at_call 18; refine (loose p5 z5 _ (E1.out.on BW41)).mono ?_; rintro e W44 ⟨rfl, hb46⟩)
              have BW45 : Below w1.heap.size w1 W44 := BW41.trans (hb46.mono BW41.size)
              have FZ47 := FZ42.below hb46
              refine hK.out _ _ BW45 (fun hHeld => ?_)
              clear hK hb46 BW41 FZ42
              try simp only [Act.put, List.setIfInBounds_toArray, List.set_cons_zero, List.set_cons_succ, List.getElem_toArray, List.getElem_cons_zero, List.getElem_cons_succ]
              refine wpAnyH_ready (rs := [15]) (by kernel_rfl) (by simp) ?_
              refine AllReadyH.cons rfl (fun K hK => ?_) AllReadyH.nil
              · go_simp
                go_wp2_with (go_at_call 18; refine (loose p7 z7 _ (E1.out.on BW45)).mono ?_; rintro e W48 ⟨rfl, hb50⟩)
                have BW49 : Below w1.heap.size w1 W48 := BW45.trans (hb50.mono BW45.size)
                have FZ51 := FZ47.below hb50
                refine hK.out _ _ BW49 (fun hHeld => ?_)
                clear hK hb50 BW45 FZ47
                try simp only [Act.put, List.setIfInBounds_toArray, List.set_cons_zero, List.set_cons_succ, List.getElem_toArray, List.getElem_cons_zero, List.getElem_cons_succ]
                refine wpAnyH_ready (rs := [19]) (by kernel_rfl) (by simp) ?_
                refine AllReadyH.cons rfl (fun K hK => ?_) AllReadyH.nil
                · go_simp
                  go_wp2_with (go_at_call 18; refine (loose p9 z9 _ (E1.out.on BW49)).mono ?_; rintro e W52 ⟨rfl, hb54⟩)
                  have BW53 : Below w1.heap.size w1 W52 := BW49.trans (hb54.mono BW49.size)
                  have FZ55 := FZ51.below hb54
                  refine hK.out _ _ BW53 (fun hHeld => ?_)
                  clear hK hb54 BW49 FZ51
                  try simp only [Act.put, List.setIfInBounds_toArray, List.set_cons_zero, List.set_cons_succ, List.getElem_toArray, List.getElem_cons_zero, List.getElem_cons_succ]
                  refine wpAnyH_take (i := 20) (v := .agg #[.int .i64 (atoiV p1.data.toList), .int .i64 (atoiV p3.data.toList), .int .i64 (atoiV p5.data.toList), .int .i64 (atoiV p7.data.toList), .int .i64 (atoiV p9.data.toList)]) rfl (by kernel_rfl) (by kernel_rfl) (by kernel_rfl) (fun _ _ _ h => h) (Or.inl ⟨by rfl, ?_⟩) (by assumption) ?_
                  · intro wx hSw; go_simp
                  try simp only [Act.put, List.setIfInBounds_toArray, List.set_cons_zero, List.set_cons_succ, List.getElem_toArray, List.getElem_cons_zero, List.getElem_cons_succ]
                  refine wpAnyH_ready (rs := [22]) (by kernel_rfl) (by simp) ?_
                  refine AllReadyH.cons rfl (fun K hK => ?_) AllReadyH.nil
                  · obtain ⟨z0, z1, z2, z3, z4, y0, y1, y2, y3, y4⟩ := FZ55.all
                    go_simp
                    go_wp2
                    obtain ⟨q0, q1, q2, q3, q4⟩ := put5_cells z0 z1 z2 z3 z4 (.int .i64 (atoiV p1.data.toList)) (.int .i64 (atoiV p3.data.toList)) (.int .i64 (atoiV p5.data.toList)) (.int .i64 (atoiV p7.data.toList)) (.int .i64 (atoiV p9.data.toList))
                    refine hK.out _ _ (put5_below BW53 hg43 (.int .i64 (atoiV p1.data.toList)) (.int .i64 (atoiV p3.data.toList)) (.int .i64 (atoiV p5.data.toList)) (.int .i64 (atoiV p7.data.toList)) (.int .i64 (atoiV p9.data.toList))) (fun hHeld => ?_)
                    have BW5 := put5_below BW53 hg43 (.int .i64 (atoiV p1.data.toList)) (.int .i64 (atoiV p3.data.toList)) (.int .i64 (atoiV p5.data.toList)) (.int .i64 (atoiV p7.data.toList)) (.int .i64 (atoiV p9.data.toList))
                    clear hK z0 z1 z2 z3 z4 y0 y1 y2 y3 y4 FZ55 BW53
                    try simp only [Act.put, List.setIfInBounds_toArray, List.set_cons_zero, List.set_cons_succ, List.getElem_toArray, List.getElem_cons_zero, List.getElem_cons_succ]
                    refine wpAnyH_done (by kernel_rfl) ?_ _
                    unfold put5 at q0 q1 q2 q3 q4 BW5 hHeld
                    generalize (((((W52.setCell ⟨W4.heap.size, 0, none⟩ (.int .i64 (atoiV p1.data.toList))).setCell ⟨W4.heap.size, 1, none⟩ (.int .i64 (atoiV p3.data.toList))).setCell ⟨W4.heap.size, 2, none⟩ (.int .i64 (atoiV p5.data.toList))).setCell ⟨W4.heap.size, 3, none⟩ (.int .i64 (atoiV p7.data.toList))).setCell ⟨W4.heap.size, 4, none⟩ (.int .i64 (atoiV p9.data.toList))) = W5 at *
                    have hgw : w.heap.size < W4.heap.size := by have := hz1; omega
                    have d0 : W5.cell? ⟨w.heap.size, 0, none⟩ = some (.int .i64 0) := (BW5.cell (p := ⟨w.heap.size, 0, none⟩) (by show w.heap.size < w1.heap.size; omega)).trans c0
                    have f0' : W5.frozen? ⟨w.heap.size, 0, none⟩ = false := (BW5.frozen (p := ⟨w.heap.size, 0, none⟩) (by show w.heap.size < w1.heap.size; omega)).trans f0
                    have d1 : W5.cell? ⟨w.heap.size, 1, none⟩ = some (.int .i64 0) := (BW5.cell (p := ⟨w.heap.size, 1, none⟩) (by show w.heap.size < w1.heap.size; omega)).trans c1
                    have f1' : W5.frozen? ⟨w.heap.size, 1, none⟩ = false := (BW5.frozen (p := ⟨w.heap.size, 1, none⟩) (by show w.heap.size < w1.heap.size; omega)).trans f1
                    have d2 : W5.cell? ⟨w.heap.size, 2, none⟩ = some (.int .i64 0) := (BW5.cell (p := ⟨w.heap.size, 2, none⟩) (by show w.heap.size < w1.heap.size; omega)).trans c2
                    have f2' : W5.frozen? ⟨w.heap.size, 2, none⟩ = false := (BW5.frozen (p := ⟨w.heap.size, 2, none⟩) (by show w.heap.size < w1.heap.size; omega)).trans f2
                    have d3 : W5.cell? ⟨w.heap.size, 3, none⟩ = some (.int .i64 0) := (BW5.cell (p := ⟨w.heap.size, 3, none⟩) (by show w.heap.size < w1.heap.size; omega)).trans c3
                    have f3' : W5.frozen? ⟨w.heap.size, 3, none⟩ = false := (BW5.frozen (p := ⟨w.heap.size, 3, none⟩) (by show w.heap.size < w1.heap.size; omega)).trans f3
                    have d4 : W5.cell? ⟨w.heap.size, 4, none⟩ = some (.int .i64 0) := (BW5.cell (p := ⟨w.heap.size, 4, none⟩) (by show w.heap.size < w1.heap.size; omega)).trans c4
                    have f4' : W5.frozen? ⟨w.heap.size, 4, none⟩ = false := (BW5.frozen (p := ⟨w.heap.size, 4, none⟩) (by show w.heap.size < w1.heap.size; omega)).trans f4
                    go_wp2_with fail
                    refine (text_impl _ _ _ _ _ _ ((E1.out.on BW5).tab)).mono ?_
                    rintro e W6 ⟨rfl, hb6⟩
                    have hw6 : w.heap.size < W5.heap.size := by have := BW5.size; omega
                    have hg6 : W4.heap.size < W5.heap.size := cell_lt5 q0
                    replace d0 := (hb6.cell (p := ⟨w.heap.size, 0, none⟩) hw6).trans d0
                    replace f0' := (hb6.frozen (p := ⟨w.heap.size, 0, none⟩) hw6).trans f0'
                    replace q0 := (hb6.cell (p := ⟨W4.heap.size, 0, none⟩) hg6).trans q0
                    replace d1 := (hb6.cell (p := ⟨w.heap.size, 1, none⟩) hw6).trans d1
                    replace f1' := (hb6.frozen (p := ⟨w.heap.size, 1, none⟩) hw6).trans f1'
                    replace q1 := (hb6.cell (p := ⟨W4.heap.size, 1, none⟩) hg6).trans q1
                    replace d2 := (hb6.cell (p := ⟨w.heap.size, 2, none⟩) hw6).trans d2
                    replace f2' := (hb6.frozen (p := ⟨w.heap.size, 2, none⟩) hw6).trans f2'
                    replace q2 := (hb6.cell (p := ⟨W4.heap.size, 2, none⟩) hg6).trans q2
                    replace d3 := (hb6.cell (p := ⟨w.heap.size, 3, none⟩) hw6).trans d3
                    replace f3' := (hb6.frozen (p := ⟨w.heap.size, 3, none⟩) hw6).trans f3'
                    replace q3 := (hb6.cell (p := ⟨W4.heap.size, 3, none⟩) hg6).trans q3
                    replace d4 := (hb6.cell (p := ⟨w.heap.size, 4, none⟩) hw6).trans d4
                    replace f4' := (hb6.frozen (p := ⟨w.heap.size, 4, none⟩) hw6).trans f4'
                    replace q4 := (hb6.cell (p := ⟨W4.heap.size, 4, none⟩) hg6).trans q4
                    have B6 : Below w.heap.size w W6 := (Bw1.trans (BW5.mono (Nat.le_of_lt (by omega)))).trans (hb6.mono (Nat.le_of_lt hw6))
                    clear hb6 BW5 hHeld
                    by_cases he : (textOf (atoiV p1.data.toList) (atoiV p3.data.toList) (atoiV p5.data.toList) (atoiV p7.data.toList) (atoiV p9.data.toList)) = s
                    · have he' : ((textOf (atoiV p1.data.toList) (atoiV p3.data.toList) (atoiV p5.data.toList) (atoiV p7.data.toList) (atoiV p9.data.toList)).toList == s.toList) = true := by rw [he]; simp
                      have HY : Hid (vOk s) := ⟨hs, HW.out.2, by unfold vText; rw [HV.out.1, HV.out.2.1, HV.out.2.2.1, HV.out.2.2.2.1, HV.out.2.2.2.2]; exact he⟩
                      clear he
                      go_wp2
                      obtain ⟨r0, r1, r2, r3, r4⟩ := put5_cells d0 d1 d2 d3 d4 (.int .i64 (atoiV p1.data.toList)) (.int .i64 (atoiV p3.data.toList)) (.int .i64 (atoiV p5.data.toList)) (.int .i64 (atoiV p7.data.toList)) (.int .i64 (atoiV p9.data.toList))
                      unfold put5 at r0 r1 r2 r3 r4
                      refine bodyPost_ret (v := .tuple #[.agg #[.int .i64 (atoiV p1.data.toList), .int .i64 (atoiV p3.data.toList), .int .i64 (atoiV p5.data.toList), .int .i64 (atoiV p7.data.toList), .int .i64 (atoiV p9.data.toList)], .bool true]) ?_ rfl ⟨.inl ⟨HY.out, ?_⟩, put5_below B6 (Nat.le_refl _) (.int .i64 (atoiV p1.data.toList)) (.int .i64 (atoiV p3.data.toList)) (.int .i64 (atoiV p5.data.toList)) (.int .i64 (atoiV p7.data.toList)) (.int .i64 (atoiV p9.data.toList))⟩
                      · simp [results, Tryd.results33, go_sem, r0, r1, r2, r3, r4]
                      · rw [HV.out.1, HV.out.2.1, HV.out.2.2.1, HV.out.2.2.2.1, HV.out.2.2.2.2]
                    · have he' : ((textOf (atoiV p1.data.toList) (atoiV p3.data.toList) (atoiV p5.data.toList) (atoiV p7.data.toList) (atoiV p9.data.toList)).toList == s.toList) = false := beq_eq_false_iff_ne.2 (fun e => he (text_inj e))
                      have HY : Hid (¬ vOk s) := fun h => he (by have := h.2.2; unfold vText at this; rw [HV.out.1, HV.out.2.1, HV.out.2.2.1, HV.out.2.2.2.1, HV.out.2.2.2.2] at this; exact this)
                      clear he
                      go_wp2
                      obtain ⟨r0, r1, r2, r3, r4⟩ := put5_cells d0 d1 d2 d3 d4 (.int .i64 0) (.int .i64 0) (.int .i64 0) (.int .i64 0) (.int .i64 0)
                      unfold put5 at r0 r1 r2 r3 r4
                      refine bodyPost_ret (v := .tuple #[.agg #[.int .i64 0, .int .i64 0, .int .i64 0, .int .i64 0, .int .i64 0], .bool false]) ?_ rfl ⟨.inr ⟨HY.out, rfl⟩, put5_below B6 (Nat.le_refl _) (.int .i64 0) (.int .i64 0) (.int .i64 0) (.int .i64 0) (.int .i64 0)⟩
                      simp [results, Tryd.results33, go_sem, r0, r1, r2, r3, r4]
        · have FZ58 : FiveZ (W1.alloc (.cells #[.int .i64 0, .int .i64 0, .int .i64 0, .int .i64 0, .int .i64 0] 24)) W1.heap.size := FiveZ.new _
          have BW57 := BW2.alloc BW2.size (.cells #[.int .i64 0, .int .i64 0, .int .i64 0, .int .i64 0, .int .i64 0] 24)
          have hg59 : w1.heap.size ≤ W1.heap.size := BW2.size
          go_simp
          refine hK.out _ _ BW57 (fun hHeld => ?_)
          clear hK BW2
          try simp only [Act.put, List.setIfInBounds_toArray, List.set_cons_zero, List.set_cons_succ, List.getElem_toArray, List.getElem_cons_zero, List.getElem_cons_succ]
          generalize W1.alloc (.cells #[.int .i64 0, .int .i64 0, .int .i64 0, .int .i64 0, .int .i64 0] 24) = W56 at *
          refine wpAnyH_ready (rs := [7]) (by kernel_rfl) (by simp) ?_
          refine AllReadyH.cons rfl (fun K hK => ?_) AllReadyH.nil
          · go_simp
            go_wp2_with (go_at_call 18; refine (loose p3 z3 _ (E1.out.on BW57)).mono ?_; rintro e W60 ⟨rfl, hb62⟩)
            have BW61 : Below w1.heap.size w1 W60 := BW57.trans (hb62.mono BW57.size)
            have FZ63 := FZ58.below hb62
            refine hK.out _ _ BW61 (fun hHeld => ?_)
            clear hK hb62 BW57 FZ58
            try simp only [Act.put, List.setIfInBounds_toArray, List.set_cons_zero, List.set_cons_succ, List.getElem_toArray, List.getElem_cons_zero, List.getElem_cons_succ]
            refine wpAnyH_ready (rs := [11]) (by kernel_rfl) (by simp) ?_
            refine AllReadyH.cons rfl (fun K hK => ?_) AllReadyH.nil
            · go_simp
              go_wp2_with (go_at_call 18; refine (loose p5 z5 _ (E1.out.on BW61)).mono ?_; rintro e W64 ⟨rfl, hb66⟩)
              have BW65 : Below w1.heap.size w1 W64 := BW61.trans (hb66.mono BW61.size)
              have FZ67 := FZ63.below hb66
              refine hK.out _ _ BW65 (fun hHeld => ?_)
              clear hK hb66 BW61 FZ63
              try simp only [Act.put, List.setIfInBounds_toArray, List.set_cons_zero, List.set_cons_succ, List.getElem_toArray, List.getElem_cons_zero, List.getElem_cons_succ]
              refine wpAnyH_ready (rs := [15]) (by kernel_rfl) (by simp) ?_
              refine AllReadyH.cons rfl (fun K hK => ?_) AllReadyH.nil
              · go_simp
                go_wp2_with (go_at_call 18; refine (loose p7 z7 _ (E1.out.on BW65)).mono ?_; rintro e W68 ⟨rfl, hb70⟩)
                have BW69 : Below w1.heap.size w1 W68 := BW65.trans (hb70.mono BW65.size)
                have FZ71 := FZ67.below hb70
                refine hK.out _ _ BW69 (fun hHeld => ?_)
                clear hK hb70 BW65 FZ67
                try simp only [Act.put, List.setIfInBounds_toArray, List.set_cons_zero, List.set_cons_succ, List.getElem_toArray, List.getElem_cons_zero, List.getElem_cons_succ]
                refine wpAnyH_ready (rs := [19]) (by kernel_rfl) (by simp) ?_
                refine AllReadyH.cons rfl (fun K hK => ?_) AllReadyH.nil
                · go_simp
                  go_wp2_with (go_at_call 18; refine (loose p9 z9 _ (E1.out.on BW69)).mono ?_; rintro e W72 ⟨rfl, hb74⟩)
                  have BW73 : Below w1.heap.size w1 W72 := BW69.trans (hb74.mono BW69.size)
                  have FZ75 := FZ71.below hb74
                  refine hK.out _ _ BW73 (fun hHeld => ?_)
                  clear hK hb74 BW69 FZ71
                  try simp only [Act.put, List.setIfInBounds_toArray, List.set_cons_zero, List.set_cons_succ, List.getElem_toArray, List.getElem_cons_zero, List.getElem_cons_succ]
                  refine wpAnyH_take (i := 20) (v := .agg #[.int .i64 (atoiV p1.data.toList), .int .i64 (atoiV p3.data.toList), .int .i64 (atoiV p5.data.toList), .int .i64 (atoiV p7.data.toList), .int .i64 (atoiV p9.data.toList)]) rfl (by kernel_rfl) (by kernel_rfl) (by kernel_rfl) (fun _ _ _ h => h) (Or.inl ⟨by rfl, ?_⟩) (by assumption) ?_
                  · intro wx hSw; go_simp
                  try simp only [Act.put, List.setIfInBounds_toArray, List.set_cons_zero, List.set_cons_succ, List.getElem_toArray, List.getElem_cons_zero, List.getElem_cons_succ]
                  refine wpAnyH_ready (rs := [22]) (by kernel_rfl) (by simp) ?_
                  refine AllReadyH.cons rfl (fun K hK => ?_) AllReadyH.nil
                  · obtain ⟨z0, z1, z2, z3, z4, y0, y1, y2, y3, y4⟩ := FZ75.all
                    go_simp
                    go_wp2
                    obtain ⟨q0, q1, q2, q3, q4⟩ := put5_cells z0 z1 z2 z3 z4 (.int .i64 (atoiV p1.data.toList)) (.int .i64 (atoiV p3.data.toList)) (.int .i64 (atoiV p5.data.toList)) (.int .i64 (atoiV p7.data.toList)) (.int .i64 (atoiV p9.data.toList))
                    refine hK.out _ _ (put5_below BW73 hg59 (.int .i64 (atoiV p1.data.toList)) (.int .i64 (atoiV p3.data.toList)) (.int .i64 (atoiV p5.data.toList)) (.int .i64 (atoiV p7.data.toList)) (.int .i64 (atoiV p9.data.toList))) (fun hHeld => ?_)
                    have BW5 := put5_below BW73 hg59 (.int .i64 (atoiV p1.data.toList)) (.int .i64 (atoiV p3.data.toList)) (.int .i64 (atoiV p5.data.toList)) (.int .i64 (atoiV p7.data.toList)) (.int .i64 (atoiV p9.data.toList))
                    clear hK z0 z1 z2 z3 z4 y0 y1 y2 y3 y4 FZ75 BW73
                    try simp only [Act.put, List.setIfInBounds_toArray, List.set_cons_zero, List.set_cons_succ, List.getElem_toArray, List.getElem_cons_zero, List.getElem_cons_succ]
                    refine wpAnyH_done (by kernel_rfl) ?_ _
                    unfold put5 at q0 q1 q2 q3 q4 BW5 hHeld
                    generalize (((((W72.setCell ⟨W1.heap.size, 0, none⟩ (.int .i64 (atoiV p1.data.toList))).setCell ⟨W1.heap.size, 1, none⟩ (.int .i64 (atoiV p3.data.toList))).setCell ⟨W1.heap.size, 2, none⟩ (.int .i64 (atoiV p5.data.toList))).setCell ⟨W1.heap.size, 3, none⟩ (.int .i64 (atoiV p7.data.toList))).setCell ⟨W1.heap.size, 4, none⟩ (.int .i64 (atoiV p9.data.toList))) = W5 at *
                    have hgw : w.heap.size < W1.heap.size := by have := hz1; omega
                    have d0 : W5.cell? ⟨w.heap.size, 0, none⟩ = some (.int .i64 0) := (BW5.cell (p := ⟨w.heap.size, 0, none⟩) (by show w.heap.size < w1.heap.size; omega)).trans c0
                    have f0' : W5.frozen? ⟨w.heap.size, 0, none⟩ = false := (BW5.frozen (p := ⟨w.heap.size, 0, none⟩) (by show w.heap.size < w1.heap.size; omega)).trans f0
                    have d1 : W5.cell? ⟨w.heap.size, 1, none⟩ = some (.int .i64 0) := (BW5.cell (p := ⟨w.heap.size, 1, none⟩) (by show w.heap.size < w1.heap.size; omega)).trans c1
                    have f1' : W5.frozen? ⟨w.heap.size, 1, none⟩ = false := (BW5.frozen (p := ⟨w.heap.size, 1, none⟩) (by show w.heap.size < w1.heap.size; omega)).trans f1
                    have d2 : W5.cell? ⟨w.heap.size, 2, none⟩ = some (.int .i64 0) := (BW5.cell (p := ⟨w.heap.size, 2, none⟩) (by show w.heap.size < w1.heap.size; omega)).trans c2
                    have f2' : W5.frozen? ⟨w.heap.size, 2, none⟩ = false := (BW5.frozen (p := ⟨w.heap.size, 2, none⟩) (by show w.heap.size < w1.heap.size; omega)).trans f2
                    have d3 : W5.cell? ⟨w.heap.size, 3, none⟩ = some (.int .i64 0) := (BW5.cell (p := ⟨w.heap.size, 3, none⟩) (by show w.heap.size < w1.heap.size; omega)).trans c3
                    have f3' : W5.frozen? ⟨w.heap.size, 3, none⟩ = false := (BW5.frozen (p := ⟨w.heap.size, 3, none⟩) (by show w.heap.size < w1.heap.size; omega)).trans f3
                    have d4 : W5.cell? ⟨w.heap.size, 4, none⟩ = some (.int .i64 0) := (BW5.cell (p := ⟨w.heap.size, 4, none⟩) (by show w.heap.size < w1.heap.size; omega)).trans c4
                    have f4' : W5.frozen? ⟨w.heap.size, 4, none⟩ = false := (BW5.frozen (p := ⟨w.heap.size, 4, none⟩) (by show w.heap.size < w1.heap.size; omega)).trans f4
                    go_wp2_with fail
                    refine (text_impl _ _ _ _ _ _ ((E1.out.on BW5).tab)).mono ?_
                    rintro e W6 ⟨rfl, hb6⟩
                    have hw6 : w.heap.size < W5.heap.size := by have := BW5.size; omega
                    have hg6 : W1.heap.size < W5.heap.size := cell_lt5 q0
                    replace d0 := (hb6.cell (p := ⟨w.heap.size, 0, none⟩) hw6).trans d0
                    replace f0' := (hb6.frozen (p := ⟨w.heap.size, 0, none⟩) hw6).trans f0'
                    replace q0 := (hb6.cell (p := ⟨W1.heap.size, 0, none⟩) hg6).trans q0
                    replace d1 := (hb6.cell (p := ⟨w.heap.size, 1, none⟩) hw6).trans d1
                    replace f1' := (hb6.frozen (p := ⟨w.heap.size, 1, none⟩) hw6).trans f1'
                    replace q1 := (hb6.cell (p := ⟨W1.heap.size, 1, none⟩) hg6).trans q1
                    replace d2 := (hb6.cell (p := ⟨w.heap.size, 2, none⟩) hw6).trans d2
                    replace f2' := (hb6.frozen (p := ⟨w.heap.size, 2, none⟩) hw6).trans f2'
                    replace q2 := (hb6.cell (p := ⟨W1.heap.size, 2, none⟩) hg6).trans q2
                    replace d3 := (hb6.cell (p := ⟨w.heap.size, 3, none⟩) hw6).trans d3
                    replace f3' := (hb6.frozen (p := ⟨w.heap.size, 3, none⟩) hw6).trans f3'
                    replace q3 := (hb6.cell (p := ⟨W1.heap.size, 3, none⟩) hg6).trans q3
                    replace d4 := (hb6.cell (p := ⟨w.heap.size, 4, none⟩) hw6).trans d4
                    replace f4' := (hb6.frozen (p := ⟨w.heap.size, 4, none⟩) hw6).trans f4'
                    replace q4 := (hb6.cell (p := ⟨W1.heap.size, 4, none⟩) hg6).trans q4
                    have B6 : Below w.heap.size w W6 := (Bw1.trans (BW5.mono (Nat.le_of_lt (by omega)))).trans (hb6.mono (Nat.le_of_lt hw6))
                    clear hb6 BW5 hHeld
                    by_cases he : (textOf (atoiV p1.data.toList) (atoiV p3.data.toList) (atoiV p5.data.toList) (atoiV p7.data.toList) (atoiV p9.data.toList)) = s
                    · have he' : ((textOf (atoiV p1.data.toList) (atoiV p3.data.toList) (atoiV p5.data.toList) (atoiV p7.data.toList) (atoiV p9.data.toList)).toList == s.toList) = true := by rw [he]; simp
                      have HY : Hid (vOk s) := ⟨hs, HW.out.2, by unfold vText; rw [HV.out.1, HV.out.2.1, HV.out.2.2.1, HV.out.2.2.2.1, HV.out.2.2.2.2]; exact he⟩
                      clear he
                      go_wp2
                      obtain ⟨r0, r1, r2, r3, r4⟩ := put5_cells d0 d1 d2 d3 d4 (.int .i64 (atoiV p1.data.toList)) (.int .i64 (atoiV p3.data.toList)) (.int .i64 (atoiV p5.data.toList)) (.int .i64 (atoiV p7.data.toList)) (.int .i64 (atoiV p9.data.toList))
                      unfold put5 at r0 r1 r2 r3 r4
                      refine bodyPost_ret (v := .tuple #[.agg #[.int .i64 (atoiV p1.data.toList), .int .i64 (atoiV p3.data.toList), .int .i64 (atoiV p5.data.toList), .int .i64 (atoiV p7.data.toList), .int .i64 (atoiV p9.data.toList)], .bool true]) ?_ rfl ⟨.inl ⟨HY.out, ?_⟩, put5_below B6 (Nat.le_refl _) (.int .i64 (atoiV p1.data.toList)) (.int .i64 (atoiV p3.data.toList)) (.int .i64 (atoiV p5.data.toList)) (.int .i64 (atoiV p7.data.toList)) (.int .i64 (atoiV p9.data.toList))⟩
                      · simp [results, Tryd.results33, go_sem, r0, r1, r2, r3, r4]
                      · rw [HV.out.1, HV.out.2.1, HV.out.2.2.1, HV.out.2.2.2.1, HV.out.2.2.2.2]
                    · have he' : ((textOf (atoiV p1.data.toList) (atoiV p3.data.toList) (atoiV p5.data.toList) (atoiV p7.data.toList) (atoiV p9.data.toList)).toList == s.toList) = false := beq_eq_false_iff_ne.2 (fun e => he (text_inj e))
                      have HY : Hid (¬ vOk s) := fun h => he (by have := h.2.2; unfold vText at this; rw [HV.out.1, HV.out.2.1, HV.out.2.2.1, HV.out.2.2.2.1, HV.out.2.2.2.2] at this; exact this)
                      clear he
                      go_wp2
                      obtain ⟨r0, r1, r2, r3, r4⟩ := put5_cells d0 d1 d2 d3 d4 (.int .i64 0) (.int .i64 0) (.int .i64 0) (.int .i64 0) (.int .i64 0)
                      unfold put5 at r0 r1 r2 r3 r4
                      refine bodyPost_ret (v := .tuple #[.agg #[.int .i64 0, .int .i64 0, .int .i64 0, .int .i64 0, .int .i64 0], .bool false]) ?_ rfl ⟨.inr ⟨HY.out, rfl⟩, put5_below B6 (Nat.le_refl _) (.int .i64 0) (.int .i64 0) (.int .i64 0) (.int .i64 0) (.int .i64 0)⟩
                      simp [results, Tryd.results33, go_sem, r0, r1, r2, r3, r4]
      · have FZ78 : FiveZ (W0.alloc (.cells #[.int .i64 0, .int .i64 0, .int .i64 0, .int .i64 0, .int .i64 0] 24)) W0.heap.size := FiveZ.new _
        have BW77 := BW0.alloc BW0.size (.cells #[.int .i64 0, .int .i64 0, .int .i64 0, .int .i64 0, .int .i64 0] 24)
        have hg79 : w1.heap.size ≤ W0.heap.size := BW0.size
        go_simp
        refine hK.out _ _ BW77 (fun hHeld => ?_)
        clear hK BW0
        try simp only [Act.put, List.setIfInBounds_toArray, List.set_cons_zero, List.set_cons_succ, List.getElem_toArray, List.getElem_cons_zero, List.getElem_cons_succ]
        generalize W0.alloc (.cells #[.int .i64 0, .int .i64 0, .int .i64 0, .int .i64 0, .int .i64 0] 24) = W76 at *
        refine wpAnyH_ready (rs := [3]) (by kernel_rfl) (by simp) ?_
        refine AllReadyH.cons rfl (fun K hK => ?_) AllReadyH.nil
        · go_simp
          go_wp2_with (go_at_call 18; refine (loose p1 z1 _ (E1.out.on BW77)).mono ?_; rintro e W80 ⟨rfl, hb82⟩)
          have BW81 : Below w1.heap.size w1 W80 := BW77.trans (hb82.mono BW77.size)
          have FZ83 := FZ78.below hb82
          refine hK.out _ _ BW81 (fun hHeld => ?_)
          clear hK hb82 BW77 FZ78
          try simp only [Act.put, List.setIfInBounds_toArray, List.set_cons_zero, List.set_cons_succ, List.getElem_toArray, List.getElem_cons_zero, List.getElem_cons_succ]
          refine wpAnyH_ready (rs := [7]) (by kernel_rfl) (by simp) ?_
          refine AllReadyH.cons rfl (fun K hK => ?_) AllReadyH.nil
          · go_simp
            go_wp2_with (go_at_call 18; refine (loose p3 z3 _ (E1.out.on BW81)).mono ?_; rintro e W84 ⟨rfl, hb86⟩)
            have BW85 : Below w1.heap.size w1 W84 := BW81.trans (hb86.mono BW81.size)
            have FZ87 := FZ83.below hb86
            refine hK.out _ _ BW85 (fun hHeld => ?_)
            clear hK hb86 BW81 FZ83
            try simp only [Act.put, List.setIfInBounds_toArray, List.set_cons_zero, List.set_cons_succ, List.getElem_toArray, List.getElem_cons_zero, List.getElem_cons_succ]
            refine wpAnyH_ready (rs := [11]) (by kernel_rfl) (by simp) ?_
            refine AllReadyH.cons rfl (fun K hK => ?_) AllReadyH.nil
            · go_simp
              go_wp2_with (go_at_call 18; refine (loose p5 z5 _ (E1.out.on BW85)).mono ?_; rintro e W88 ⟨rfl, hb90⟩)
              have BW89 : Below w1.heap.size w1 W88 := BW85.trans (hb90.mono BW85.size)
              have FZ91 := FZ87.below hb90
              refine hK.out _ _ BW89 (fun hHeld => ?_)
              clear hK hb90 BW85 FZ87
              try simp only [Act.put, List.setIfInBounds_toArray, List.set_cons_zero, List.set_cons_succ, List.getElem_toArray, List.getElem_cons_zero, List.getElem_cons_succ]
              refine wpAnyH_ready (rs := [15]) (by kernel_rfl) (by simp) ?_
              refine AllReadyH.cons rfl (fun K hK => ?_) AllReadyH.nil
              · go_simp
                go_wp2_with (go_at_call 18; refine (loose p7 z7 _ (E1.out.on BW89)).mono ?_; rintro e W92 ⟨rfl, hb94⟩)
                have BW93 : Below w1.heap.size w1 W92 := BW89.trans (hb94.mono BW89.size)
                have FZ95 := FZ91.below hb94
                refine hK.out _ _ BW93 (fun hHeld => ?_)
                clear hK hb94 BW89 FZ91
                try simp only [Act.put, List.setIfInBounds_toArray, List.set_cons_zero, List.set_cons_succ, List.getElem_toArray, List.getElem_cons_zero, List.getElem_cons_succ]
                refine wpAnyH_ready (rs := [19]) (by kernel_rfl) (by simp) ?_
                refine AllReadyH.cons rfl (fun K hK => ?_) AllReadyH.nil
                · go_simp
                  go_wp2_with (go_at_call 18; refine (loose p9 z9 _ (E1.out.on BW93)).mono ?_; rintro e W96 ⟨rfl, hb98⟩)
                  have BW97 : Below w1.heap.size w1 W96 := BW93.trans (hb98.mono BW93.size)
                  have FZ99 := FZ95.below hb98
                  refine hK.out _ _ BW97 (fun hHeld => ?_)
                  clear hK hb98 BW93 FZ95
                  try simp only [Act.put, List.setIfInBounds_toArray, List.set_cons_zero, List.set_cons_succ, List.getElem_toArray, List.getElem_cons_zero, List.getElem_cons_succ]
                  refine wpAnyH_take (i := 20) (v := .agg #[.int .i64 (atoiV p1.data.toList), .int .i64 (atoiV p3.data.toList), .int .i64 (atoiV p5.data.toList), .int .i64 (atoiV p7.data.toList), .int .i64 (atoiV p9.data.toList)]) rfl (by kernel_rfl) (by kernel_rfl) (by kernel_rfl) (fun _ _ _ h => h) (Or.inl ⟨by rfl, ?_⟩) (by assumption) ?_
                  · intro wx hSw; go_simp
                  try simp only [Act.put, List.setIfInBounds_toArray, List.set_cons_zero, List.set_cons_succ, List.getElem_toArray, List.getElem_cons_zero, List.getElem_cons_succ]
                  refine wpAnyH_ready (rs := [22]) (by kernel_rfl) (by simp) ?_
                  refine AllReadyH.cons rfl (fun K hK => ?_) AllReadyH.nil
                  · obtain ⟨z0, z1, z2, z3, z4, y0, y1, y2, y3, y4⟩ := FZ99.all
                    go_simp
                    go_wp2
                    obtain ⟨q0, q1, q2, q3, q4⟩ := put5_cells z0 z1 z2 z3 z4 (.int .i64 (atoiV p1.data.toList)) (.int .i64 (atoiV p3.data.toList)) (.int .i64 (atoiV p5.data.toList)) (.int .i64 (atoiV p7.data.toList)) (.int .i64 (atoiV p9.data.toList))
                    refine hK.out _ _ (put5_below BW97 hg79 (.int .i64 (atoiV p1.data.toList)) (.int .i64 (atoiV p3.data.toList)) (.int .i64 (atoiV p5.data.toList)) (.int .i64 (atoiV p7.data.toList)) (.int .i64 (atoiV p9.data.toList))) (fun hHeld => ?_)
                    have BW5 := put5_below BW97 hg79 (.int .i64 (atoiV p1.data.toList)) (.int .i64 (atoiV p3.data.toList)) (.int .i64 (atoiV p5.data.toList)) (.int .i64 (atoiV p7.data.toList)) (.int .i64 (atoiV p9.data.toList))
                    clear hK z0 z1 z2 z3 z4 y0 y1 y2 y3 y4 FZ99 BW97
                    try simp only [Act.put, List.setIfInBounds_toArray, List.set_cons_zero, List.set_cons_succ, List.getElem_toArray, List.getElem_cons_zero, List.getElem_cons_succ]
                    refine wpAnyH_done (by kernel_rfl) ?_ _
                    unfold put5 at q0 q1 q2 q3 q4 BW5 hHeld
                    generalize (((((W96.setCell ⟨W0.heap.size, 0, none⟩ (.int .i64 (atoiV p1.data.toList))).setCell ⟨W0.heap.size, 1, none⟩ (.int .i64 (atoiV p3.data.toList))).setCell ⟨W0.heap.size, 2, none⟩ (.int .i64 (atoiV p5.data.toList))).setCell ⟨W0.heap.size, 3, none⟩ (.int .i64 (atoiV p7.data.toList))).setCell ⟨W0.heap.size, 4, none⟩ (.int .i64 (atoiV p9.data.toList))) = W5 at *
                    have hgw : w.heap.size < W0.heap.size := by have := hz1; omega
                    have d0 : W5.cell? ⟨w.heap.size, 0, none⟩ = some (.int .i64 0) := (BW5.cell (p := ⟨w.heap.size, 0, none⟩) (by show w.heap.size < w1.heap.size; omega)).trans c0
                    have f0' : W5.frozen? ⟨w.heap.size, 0, none⟩ = false := (BW5.frozen (p := ⟨w.heap.size, 0, none⟩) (by show w.heap.size < w1.heap.size; omega)).trans f0
                    have d1 : W5.cell? ⟨w.heap.size, 1, none⟩ = some (.int .i64 0) := (BW5.cell (p := ⟨w.heap.size, 1, none⟩) (by show w.heap.size < w1.heap.size; omega)).trans c1
                    have f1' : W5.frozen? ⟨w.heap.size, 1, none⟩ = false := (BW5.frozen (p := ⟨w.heap.size, 1, none⟩) (by show w.heap.size < w1.heap.size; omega)).trans f1
                    have d2 : W5.cell? ⟨w.heap.size, 2, none⟩ = some (.int .i64 0) := (BW5.cell (p := ⟨w.heap.size, 2, none⟩) (by show w.heap.size < w1.heap.size; omega)).trans c2
                    have f2' : W5.frozen? ⟨w.heap.size, 2, none⟩ = false := (BW5.frozen (p := ⟨w.heap.size, 2, none⟩) (by show w.heap.size < w1.heap.size; omega)).trans f2
                    have d3 : W5.cell? ⟨w.heap.size, 3, none⟩ = some (.int .i64 0) := (BW5.cell (p := ⟨w.heap.size, 3, none⟩) (by show w.heap.size < w1.heap.size; omega)).trans c3
                    have f3' : W5.frozen? ⟨w.heap.size, 3, none⟩ = false := (BW5.frozen (p := ⟨w.heap.size, 3, none⟩) (by show w.heap.size < w1.heap.size; omega)).trans f3
                    have d4 : W5.cell? ⟨w.heap.size, 4, none⟩ = some (.int .i64 0) := (BW5.cell (p := ⟨w.heap.size, 4, none⟩) (by show w.heap.size < w1.heap.size; omega)).trans c4
                    have f4' : W5.frozen? ⟨w.heap.size, 4, none⟩ = false := (BW5.frozen (p := ⟨w.heap.size, 4, none⟩) (by show w.heap.size < w1.heap.size; omega)).trans f4
                    go_wp2_with fail
                    refine (text_impl _ _ _ _ _ _ ((E1.out.on BW5).tab)).mono ?_
                    rintro e W6 ⟨rfl, hb6⟩
                    have hw6 : w.heap.size < W5.heap.size := by have := BW5.size; omega
                    have hg6 : W0.heap.size < W5.heap.size := cell_lt5 q0
                    replace d0 := (hb6.cell (p := ⟨w.heap.size, 0, none⟩) hw6).trans d0
                    replace f0' := (hb6.frozen (p := ⟨w.heap.size, 0, none⟩) hw6).trans f0'
                    replace q0 := (hb6.cell (p := ⟨W0.heap.size, 0, none⟩) hg6).trans q0
                    replace d1 := (hb6.cell (p := ⟨w.heap.size, 1, none⟩) hw6).trans d1
                    replace f1' := (hb6.frozen (p := ⟨w.heap.size, 1, none⟩) hw6).trans f1'
                    replace q1 := (hb6.cell (p := ⟨W0.heap.size, 1, none⟩) hg6).trans q1
                    replace d2 := (hb6.cell (p := ⟨w.heap.size, 2, none⟩) hw6).trans d2
                    replace f2' := (hb6.frozen (p := ⟨w.heap.size, 2, none⟩) hw6).trans f2'
                    replace q2 := (hb6.cell (p := ⟨W0.heap.size, 2, none⟩) hg6).trans q2
                    replace d3 := (hb6.cell (p := ⟨w.heap.size, 3, none⟩) hw6).trans d3
                    replace f3' := (hb6.frozen (p := ⟨w.heap.size, 3, none⟩) hw6).trans f3'
                    replace q3 := (hb6.cell (p := ⟨W0.heap.size, 3, none⟩) hg6).trans q3
                    replace d4 := (hb6.cell (p := ⟨w.heap.size, 4, none⟩) hw6).trans d4
                    replace f4' := (hb6.frozen (p := ⟨w.heap.size, 4, none⟩) hw6).trans f4'
                    replace q4 := (hb6.cell (p := ⟨W0.heap.size, 4, none⟩) hg6).trans q4
                    have B6 : Below w.heap.size w W6 := (Bw1.trans (BW5.mono (Nat.le_of_lt (by omega)))).trans (hb6.mono (Nat.le_of_lt hw6))
                    clear hb6 BW5 hHeld
                    by_cases he : (textOf (atoiV p1.data.toList) (atoiV p3.data.toList) (atoiV p5.data.toList) (atoiV p7.data.toList) (atoiV p9.data.toList)) = s
                    · have he' : ((textOf (atoiV p1.data.toList) (atoiV p3.data.toList) (atoiV p5.data.toList) (atoiV p7.data.toList) (atoiV p9.data.toList)).toList == s.toList) = true := by rw [he]; simp
                      have HY : Hid (vOk s) := ⟨hs, HW.out.2, by unfold vText; rw [HV.out.1, HV.out.2.1, HV.out.2.2.1, HV.out.2.2.2.1, HV.out.2.2.2.2]; exact he⟩
                      clear he
                      go_wp2
                      obtain ⟨r0, r1, r2, r3, r4⟩ := put5_cells d0 d1 d2 d3 d4 (.int .i64 (atoiV p1.data.toList)) (.int .i64 (atoiV p3.data.toList)) (.int .i64 (atoiV p5.data.toList)) (.int .i64 (atoiV p7.data.toList)) (.int .i64 (atoiV p9.data.toList))
                      unfold put5 at r0 r1 r2 r3 r4
                      refine bodyPost_ret (v := .tuple #[.agg #[.int .i64 (atoiV p1.data.toList), .int .i64 (atoiV p3.data.toList), .int .i64 (atoiV p5.data.toList), .int .i64 (atoiV p7.data.toList), .int .i64 (atoiV p9.data.toList)], .bool true]) ?_ rfl ⟨.inl ⟨HY.out, ?_⟩, put5_below B6 (Nat.le_refl _) (.int .i64 (atoiV p1.data.toList)) (.int .i64 (atoiV p3.data.toList)) (.int .i64 (atoiV p5.data.toList)) (.int .i64 (atoiV p7.data.toList)) (.int .i64 (atoiV p9.data.toList))⟩
                      · simp [results, Tryd.results33, go_sem, r0, r1, r2, r3, r4]
                      · rw [HV.out.1, HV.out.2.1, HV.out.2.2.1, HV.out.2.2.2.1, HV.out.2.2.2.2]
                    · have he' : ((textOf (atoiV p1.data.toList) (atoiV p3.data.toList) (atoiV p5.data.toList) (atoiV p7.data.toList) (atoiV p9.data.toList)).toList == s.toList) = false := beq_eq_false_iff_ne.2 (fun e => he (text_inj e))
                      have HY : Hid (¬ vOk s) := fun h => he (by have := h.2.2; unfold vText at this; rw [HV.out.1, HV.out.2.1, HV.out.2.2.1, HV.out.2.2.2.1, HV.out.2.2.2.2] at this; exact this)
                      clear he
                      go_wp2
                      obtain ⟨r0, r1, r2, r3, r4⟩ := put5_cells d0 d1 d2 d3 d4 (.int .i64 0) (.int .i64 0) (.int .i64 0) (.int .i64 0) (.int .i64 0)
                      unfold put5 at r0 r1 r2 r3 r4
                      refine bodyPost_ret (v := .tuple #[.agg #[.int .i64 0, .int .i64 0, .int .i64 0, .int .i64 0, .int .i64 0], .bool false]) ?_ rfl ⟨.inr ⟨HY.out, rfl⟩, put5_below B6 (Nat.le_refl _) (.int .i64 0) (.int .i64 0) (.int .i64 0) (.int .i64 0) (.int .i64 0)⟩
                      simp [results, Tryd.results33, go_sem, r0, r1, r2, r3, r4]
    · have hne : ¬ (words s.data.toList).length = 10 := by omega
      have HY : Hid (¬ vOk s) := fun h => hne h.2.1
      have hne' : ((ps.length : Int) != 10) = true := by simp; omega
      clear hne hn hZ hcell' hps E1
      go_wp2
      obtain ⟨r0, r1, r2, r3, r4⟩ := put5_cells c0 c1 c2 c3 c4 (.int .i64 0) (.int .i64 0) (.int .i64 0) (.int .i64 0) (.int .i64 0)
      unfold put5 at r0 r1 r2 r3 r4
      refine bodyPost_ret (v := .tuple #[.agg #[.int .i64 0, .int .i64 0, .int .i64 0, .int .i64 0, .int .i64 0], .bool false]) ?_ rfl ⟨.inr ⟨HY.out, rfl⟩, put5_below Bw1 (Nat.le_refl _) (.int .i64 0) (.int .i64 0) (.int .i64 0) (.int .i64 0) (.int .i64 0)⟩
      simp [results, Tryd.results33, go_sem, r0, r1, r2, r3, r4]
  · have HY : Hid (¬ vOk s) := fun h => hs h.1
    have hs' : (100 : Int) < (s.size : Int) := by omega
    clear hE
    go_enter Tryd.func33, Tryd.ntmps33
    go_wp2
    exact bodyPost_ret (v := .tuple #[.agg #[.int .i64 0, .int .i64 0, .int .i64 0, .int .i64 0, .int .i64 0], .bool false]) (by simp [results, Tryd.results33, go_sem]) rfl ⟨.inr ⟨HY.out, rfl⟩, (Below.refl _ _).alloc (by simp) _⟩
end Go.Proofs.YtpfemjenhnnfmaaDoor
