/- CllOk of the program at a cell that was made anew; conditions: those typed. -/
import Derived.Test.YtjllgmkficjiaaaCE1
import Derived.Test.YtjllgmkficjiaaaCE2
import Derived.Test.YtjllgmkficjiaaaCE3
import Derived.Deep.RegionHeld3
namespace Go.Proofs.Ytjllgmkficjiaaa
open Go.RowKit Go.Deep
set_option linter.unusedVariables false

theorem bk_new (W : World) (t : TypeId) (l : List Value) : Bk (W.alloc (.cells l.toArray t)) W.heap.size l := ⟨by simp, fun i hi => by
  have e : l.getD i undef = l[i] := by simp [List.getD, List.getElem?_eq_getElem hi]
  rw [e]; simp [hi]⟩
/-- The lists of a cell that was made anew. -/
structure New (w : World) (aW : Option Addr) (nW : Nat) (W : Nat → Nat → Int) (gO gX gI : Nat) (s0 s1 : Option Addr) (t0 t1 : Nat) : Prop where
  hW : nW = 0 ∨ ∃ g, aW = some ⟨g, 0, none⟩ ∧ g < w.heap.size ∧ ∀ k j, k < nW → j < 5 → w.cell? ⟨g, 0 + k * 5 + j, none⟩ = some (.int .i64 (W k j))
  lO : gO < w.heap.size
  lX : gX < w.heap.size
  lI : gI < w.heap.size
  o0 : w.cell? ⟨gO, 0, none⟩ = some (.slice s0 0 t0)
  o1 : w.cell? ⟨gO, 1, none⟩ = some (.slice s1 0 t1)
  x0 : w.cell? ⟨gX, 0, none⟩ = some (.int .i64 0)
  x1 : w.cell? ⟨gX, 1, none⟩ = some (.int .i64 0)
  i0 : w.cell? ⟨gI, 0, none⟩ = some (.int .i64 0)
  i1 : w.cell? ⟨gI, 1, none⟩ = some (.int .i64 0)
theorem New.below {w w' : World} {aW : Option Addr} {nW : Nat} {W : Nat → Nat → Int} {gO gX gI : Nat} {s0 s1 : Option Addr} {t0 t1 : Nat} (h : New w aW nW W gO gX gI s0 s1 t0 t1) (hb : Below w.heap.size w w') : New w' aW nW W gO gX gI s0 s1 t0 t1 where
  hW := by
    rcases h.hW with q | ⟨g, e, hg, hr⟩
    · exact .inl q
    · exact .inr ⟨g, e, Nat.lt_of_lt_of_le hg hb.size, fun k j hk hj => (hb.cell (p := ⟨g, _, none⟩) hg).trans (hr k j hk hj)⟩
  lO := Nat.lt_of_lt_of_le h.lO hb.size
  lX := Nat.lt_of_lt_of_le h.lX hb.size
  lI := Nat.lt_of_lt_of_le h.lI hb.size
  o0 := (hb.cell (p := ⟨gO, 0, none⟩) h.lO).trans h.o0
  o1 := (hb.cell (p := ⟨gO, 1, none⟩) h.lO).trans h.o1
  x0 := (hb.cell (p := ⟨gX, 0, none⟩) h.lX).trans h.x0
  x1 := (hb.cell (p := ⟨gX, 1, none⟩) h.lX).trans h.x1
  i0 := (hb.cell (p := ⟨gI, 0, none⟩) h.lI).trans h.i0
  i1 := (hb.cell (p := ⟨gI, 1, none⟩) h.lI).trans h.i1
theorem listOk0 (c d : Int) (a : Option Addr) (cap : Nat) (w : World) :
    Calls Try.prog 17 #[.agg #[.int .i64 c, .int .i64 d], .slice a 0 cap] w fun e w' => e = .returned (.bool true) ∧ Below w.heap.size w w' := by
  go_enter Try.func17, Try.ntmps17
  go_wp2
  refine wp_loop_rounds 1 ?_
  rw [rounds_succ]
  go_wp2
  go_ret
  exact ⟨rfl, (Below.refl _ _).alloc (by simp) _⟩
theorem listOk_any (c d : Int) (a : Option Addr) (n cap : Nat) (Z : Nat → Nat → Int) (hn : n ≤ 1048576) (w : World) (h : n = 0 ∨ ∃ g, a = some ⟨g, 0, none⟩ ∧ g < w.heap.size ∧ ∀ k j, k < n → j < 5 → w.cell? ⟨g, 0 + k * 5 + j, none⟩ = some (.int .i64 (Z k j))) :
    Calls Try.prog 17 #[.agg #[.int .i64 c, .int .i64 d], .slice a n cap] w fun e w' => e = .returned (.bool (allB c d Z n)) ∧ Below w.heap.size w w' := by
  rcases h with rfl | ⟨g, rfl, hg, hr⟩
  · exact listOk0 c d a cap w
  · exact listOk_impl c d g 0 n cap Z hn w hg hr
theorem plist0 (c d : Int) (a : Option Addr) (cap : Nat) (h0 : okB c d = true) (w : World) :
    Calls Try.prog 34 #[.agg #[.int .i64 c, .int .i64 d], .slice a 0 cap, .int .i64 0] w fun e w' => e = .returned (.bool true) ∧ Below w.heap.size w w' := by
  go_enter Try.func34, Try.ntmps34
  go_wp2_with fail
  refine (ok_impl _ _ _).mono ?_
  rintro e w1 ⟨rfl, hb1⟩
  rw [h0]
  have B1 : Below w.heap.size w w1 := bthen ((Below.refl _ _).alloc (by simp) _) hb1
  clear hb1
  go_wp2_with fail
  refine (in_impl _ _ _ _).mono ?_
  rintro e w2 ⟨rfl, e2⟩
  rw [show inB 0 0 5000 = true from rfl, e2]
  clear e2
  go_wp2
  refine wp_loop_rounds 1 ?_
  rw [rounds_succ]
  go_wp2
  go_ret
  exact ⟨rfl, B1⟩

set_option maxHeartbeats 4000000 in
theorem walkersOk_new (c d k : Int) (aW : Option Addr) (nW cW : Nat) (W : Nat → Nat → Int) (gO cO gX cX gI cI : Nat) (s0 s1 : Option Addr) (t0 t1 : Nat) (hn : nW ≤ 1048576) (hal : allB c d W nW = true) (hc : ∀ i, i < nW → cellF c d (W i 1) = k) (w : World) (h : New w aW nW W gO gX gI s0 s1 t0 t1) :
    Calls Try.prog 26 #[.agg #[.int .i64 k, .slice aW nW cW, .int .i64 0, .slice (some ⟨gO, 0, none⟩) 2 cO, .slice (some ⟨gX, 0, none⟩) 2 cX, .slice (some ⟨gI, 0, none⟩) 2 cI], .agg #[.int .i64 c, .int .i64 d]] w fun e w' => e = .returned (.bool true) ∧ Below w.heap.size w w' := by
  have HN : Hid (New w aW nW W gO gX gI s0 s1 t0 t1) := h
  have HC : Hid (∀ i, i < nW → cellF c d (W i 1) = k) := hc
  clear h hc
  go_enter Try.func26, Try.ntmps26
  go_wp2_with fail
  obtain ⟨w0, e0⟩ : ∃ w0, w0 = (w.alloc (.cells #[.int .i64 k, .slice aW nW cW, .int .i64 0, .slice (some ⟨gO, 0, none⟩) 2 cO, .slice (some ⟨gX, 0, none⟩) 2 cX, .slice (some ⟨gI, 0, none⟩) 2 cI] 31)).alloc (.cells #[.int .i64 c, .int .i64 d] 24) := ⟨_, rfl⟩
  have B1 : Hid (Below w.heap.size w w0) := by rw [e0]; exact ((Below.refl _ _).alloc (by simp) _).alloc (by simp) _
  have A2 : Hid (Bk w0 w.heap.size [.int .i64 k, .slice aW nW cW, .int .i64 0, .slice (some ⟨gO, 0, none⟩) 2 cO, .slice (some ⟨gX, 0, none⟩) 2 cX, .slice (some ⟨gI, 0, none⟩) 2 cI]) := by rw [e0]; exact (bk_new w 31 [.int .i64 k, .slice aW nW cW, .int .i64 0, .slice (some ⟨gO, 0, none⟩) 2 cO, .slice (some ⟨gX, 0, none⟩) 2 cX, .slice (some ⟨gI, 0, none⟩) 2 cI]).below ((Below.refl _ _).alloc (Nat.le_refl _) _)
  have M3 : Hid (Bk w0 (w.heap.size + 1) [.int .i64 c, .int .i64 d]) := by rw [e0]; have := bk_new (w.alloc (.cells #[.int .i64 k, .slice aW nW cW, .int .i64 0, .slice (some ⟨gO, 0, none⟩) 2 cO, .slice (some ⟨gX, 0, none⟩) 2 cX, .slice (some ⟨gI, 0, none⟩) 2 cI] 31)) 24 [.int .i64 c, .int .i64 d]; rwa [show (w.alloc (.cells #[.int .i64 k, .slice aW nW cW, .int .i64 0, .slice (some ⟨gO, 0, none⟩) 2 cO, .slice (some ⟨gX, 0, none⟩) 2 cX, .slice (some ⟨gI, 0, none⟩) 2 cI] 31)).heap.size = w.heap.size + 1 by simp] at this
  rw [← e0]
  clear e0
  go_loopw [10] (fun i wr => ∃ q : Nat, q ≤ nW ∧ i = .int .i64 q ∧ Below w.heap.size w wr ∧ Bk wr w.heap.size [.int .i64 k, .slice aW nW cW, .int .i64 0, .slice (some ⟨gO, 0, none⟩) 2 cO, .slice (some ⟨gX, 0, none⟩) 2 cX, .slice (some ⟨gI, 0, none⟩) 2 cI] ∧ Bk wr (w.heap.size + 1) [.int .i64 c, .int .i64 d]) (fun i _ => nW - (intOf i).toNat)
  case atStart => exact ⟨0, Nat.zero_le _, rfl, B1.out, A2.out, M3.out⟩
  case round =>
    clear B1 A2 M3
    obtain ⟨q, hq, rfl, hbel, hA, hM⟩ := hrel
    have B4 : Hid (Below w.heap.size w wr) := hbel
    have A5 : Hid (Bk wr w.heap.size [.int .i64 k, .slice aW nW cW, .int .i64 0, .slice (some ⟨gO, 0, none⟩) 2 cO, .slice (some ⟨gX, 0, none⟩) 2 cX, .slice (some ⟨gI, 0, none⟩) 2 cI]) := hA
    have M6 : Hid (Bk wr (w.heap.size + 1) [.int .i64 c, .int .i64 d]) := hM
    clear hbel hA hM
    by_cases hqn : q < nW
    · have hqn' : (q : Int) < nW := by omega
      obtain ⟨b, rfl, hb, hr⟩ : ∃ g, aW = some ⟨g, 0, none⟩ ∧ g < w.heap.size ∧ ∀ k j, k < nW → j < 5 → w.cell? ⟨g, 0 + k * 5 + j, none⟩ = some (.int .i64 (W k j)) := by
        rcases HN.out.hW with h | h
        · omega
        · exact h
      have c0 : wr.cell? ⟨b, q * 5, none⟩ = some (.int .i64 (W q 0)) := by
        have h2 := hr q 0 hqn (by omega)
        rw [Nat.zero_add] at h2
        exact (B4.out.cell (by exact hb)).trans h2
      have c1 : wr.cell? ⟨b, q * 5 + 1, none⟩ = some (.int .i64 (W q 1)) := by
        have h2 := hr q 1 hqn (by omega)
        rw [Nat.zero_add] at h2
        exact (B4.out.cell (by exact hb)).trans h2
      have c2 : wr.cell? ⟨b, q * 5 + 2, none⟩ = some (.int .i64 (W q 2)) := by
        have h2 := hr q 2 hqn (by omega)
        rw [Nat.zero_add] at h2
        exact (B4.out.cell (by exact hb)).trans h2
      have c3 : wr.cell? ⟨b, q * 5 + 3, none⟩ = some (.int .i64 (W q 3)) := by
        have h2 := hr q 3 hqn (by omega)
        rw [Nat.zero_add] at h2
        exact (B4.out.cell (by exact hb)).trans h2
      have c4 : wr.cell? ⟨b, q * 5 + 4, none⟩ = some (.int .i64 (W q 4)) := by
        have h2 := hr q 4 hqn (by omega)
        rw [Nat.zero_add] at h2
        exact (B4.out.cell (by exact hb)).trans h2
      clear hr
      have hcq := HC.out q hqn
      have yA0 : wr.cell? ⟨w.heap.size, 0, none⟩ = some (.int .i64 k) := (A5.out.2 0 (by simp)).1
      have yA1 : wr.cell? ⟨w.heap.size, 1, none⟩ = some (.slice (some ⟨b, 0, none⟩) nW cW) := (A5.out.2 1 (by simp)).1
      have yA2 : wr.cell? ⟨w.heap.size, 2, none⟩ = some (.int .i64 0) := (A5.out.2 2 (by simp)).1
      have yA3 : wr.cell? ⟨w.heap.size, 3, none⟩ = some (.slice (some ⟨gO, 0, none⟩) 2 cO) := (A5.out.2 3 (by simp)).1
      have yA4 : wr.cell? ⟨w.heap.size, 4, none⟩ = some (.slice (some ⟨gX, 0, none⟩) 2 cX) := (A5.out.2 4 (by simp)).1
      have yA5 : wr.cell? ⟨w.heap.size, 5, none⟩ = some (.slice (some ⟨gI, 0, none⟩) 2 cI) := (A5.out.2 5 (by simp)).1
      have hlA : w.heap.size < wr.heap.size := A5.out.1
      have yM0 : wr.cell? ⟨(w.heap.size + 1), 0, none⟩ = some (.int .i64 c) := (M6.out.2 0 (by simp)).1
      have yM1 : wr.cell? ⟨(w.heap.size + 1), 1, none⟩ = some (.int .i64 d) := (M6.out.2 1 (by simp)).1
      have hlM : (w.heap.size + 1) < wr.heap.size := M6.out.1
      go_wp2
      obtain ⟨u1, e1⟩ : ∃ u1, u1 = wr.alloc (.cells #[.int .i64 (W q 0), .int .i64 (W q 1), .int .i64 (W q 2), .int .i64 (W q 3), .int .i64 (W q 4)] 46) := ⟨_, rfl⟩
      rw [← e1]
      have hb1 : Below wr.heap.size wr u1 := by rw [e1]; exact (Below.refl _ _).alloc (Nat.le_refl _) _
      have X1 : Bk u1 wr.heap.size [.int .i64 (W q 0), .int .i64 (W q 1), .int .i64 (W q 2), .int .i64 (W q 3), .int .i64 (W q 4)] := by rw [e1]; exact bk_new wr 46 [.int .i64 (W q 0), .int .i64 (W q 1), .int .i64 (W q 2), .int .i64 (W q 3), .int .i64 (W q 4)]
      clear e1
      clear yA0 yA1 yA2 yA3 yA4 yA5 hlA yM0 yM1 hlM
      clear c0 c1 c2 c3 c4
      have B7 : Hid (Below w.heap.size w u1) := bthen B4.out hb1
      have A7 : Hid (Bk u1 w.heap.size [.int .i64 k, .slice (some ⟨b, 0, none⟩) nW cW, .int .i64 0, .slice (some ⟨gO, 0, none⟩) 2 cO, .slice (some ⟨gX, 0, none⟩) 2 cX, .slice (some ⟨gI, 0, none⟩) 2 cI]) := A5.out.below hb1
      have M7 : Hid (Bk u1 (w.heap.size + 1) [.int .i64 c, .int .i64 d]) := M6.out.below hb1
      clear B4 A5 M6
      clear hb1
      generalize wr.heap.size = gq at *
      have Q8 : Hid (Bk u1 gq [.int .i64 (W q 0), .int .i64 (W q 1), .int .i64 (W q 2), .int .i64 (W q 3), .int .i64 (W q 4)]) := X1
      clear X1
      have yA0 : u1.cell? ⟨w.heap.size, 0, none⟩ = some (.int .i64 k) := (A7.out.2 0 (by simp)).1
      have yA1 : u1.cell? ⟨w.heap.size, 1, none⟩ = some (.slice (some ⟨b, 0, none⟩) nW cW) := (A7.out.2 1 (by simp)).1
      have yA2 : u1.cell? ⟨w.heap.size, 2, none⟩ = some (.int .i64 0) := (A7.out.2 2 (by simp)).1
      have yA3 : u1.cell? ⟨w.heap.size, 3, none⟩ = some (.slice (some ⟨gO, 0, none⟩) 2 cO) := (A7.out.2 3 (by simp)).1
      have yA4 : u1.cell? ⟨w.heap.size, 4, none⟩ = some (.slice (some ⟨gX, 0, none⟩) 2 cX) := (A7.out.2 4 (by simp)).1
      have yA5 : u1.cell? ⟨w.heap.size, 5, none⟩ = some (.slice (some ⟨gI, 0, none⟩) 2 cI) := (A7.out.2 5 (by simp)).1
      have hlA : w.heap.size < u1.heap.size := A7.out.1
      have yM0 : u1.cell? ⟨(w.heap.size + 1), 0, none⟩ = some (.int .i64 c) := (M7.out.2 0 (by simp)).1
      have yM1 : u1.cell? ⟨(w.heap.size + 1), 1, none⟩ = some (.int .i64 d) := (M7.out.2 1 (by simp)).1
      have hlM : (w.heap.size + 1) < u1.heap.size := M7.out.1
      have yQ0 : u1.cell? ⟨gq, 0, none⟩ = some (.int .i64 (W q 0)) := (Q8.out.2 0 (by simp)).1
      have yQ1 : u1.cell? ⟨gq, 1, none⟩ = some (.int .i64 (W q 1)) := (Q8.out.2 1 (by simp)).1
      have yQ2 : u1.cell? ⟨gq, 2, none⟩ = some (.int .i64 (W q 2)) := (Q8.out.2 2 (by simp)).1
      have yQ3 : u1.cell? ⟨gq, 3, none⟩ = some (.int .i64 (W q 3)) := (Q8.out.2 3 (by simp)).1
      have yQ4 : u1.cell? ⟨gq, 4, none⟩ = some (.int .i64 (W q 4)) := (Q8.out.2 4 (by simp)).1
      have hlQ : gq < u1.heap.size := Q8.out.1
      refine wp_region_held_drew (S := fun w' => (∀ b o, b < u1.heap.size → w'.cell? ⟨b, o, none⟩ = u1.cell? ⟨b, o, none⟩) ∧ u1.heap.size ≤ w'.heap.size) (by kernel_rfl) ⟨fun _ _ _ => rfl, Nat.le_refl _⟩ ?_
      intro hHeld
      refine wpAnyH_take (i := 0) (v := .agg #[.int .i64 c, .int .i64 d]) rfl (by kernel_rfl) (by kernel_rfl) (by kernel_rfl) (fun _ _ _ h => h) (Or.inl ⟨by rfl, ?_⟩) (by assumption) ?_
      · intro wx hSw; go_simp
      try simp only [Act.put, List.setIfInBounds_toArray, List.set_cons_zero, List.set_cons_succ, List.getElem_toArray, List.getElem_cons_zero]
      refine wpAnyH_take (i := 1) (v := .pointer (some ⟨gq, 1, none⟩)) rfl (by kernel_rfl) (by kernel_rfl) (by kernel_rfl) (fun _ _ _ h => h) (Or.inl ⟨by rfl, ?_⟩) (by assumption) ?_
      · intro wx hSw; go_simp
      try simp only [Act.put, List.setIfInBounds_toArray, List.set_cons_zero, List.set_cons_succ, List.getElem_toArray, List.getElem_cons_zero, List.getElem_cons_succ]
      refine wpAnyH_take (i := 2) (v := .int .i64 (W q 1)) rfl (by kernel_rfl) (by kernel_rfl) (by kernel_rfl) (fun _ _ _ h => h) (Or.inl ⟨by rfl, ?_⟩) (by assumption) ?_
      · intro wx hSw; go_simp
      try simp only [Act.put, List.setIfInBounds_toArray, List.set_cons_zero, List.set_cons_succ, List.getElem_toArray, List.getElem_cons_zero, List.getElem_cons_succ]
      refine wpAnyH_take (i := 4) (v := .pointer (some ⟨w.heap.size, 0, none⟩)) rfl (by kernel_rfl) (by kernel_rfl) (by kernel_rfl) (fun _ _ _ h => h) (Or.inl ⟨by rfl, ?_⟩) (by assumption) ?_
      · intro wx hSw; go_simp
      try simp only [Act.put, List.setIfInBounds_toArray, List.set_cons_zero, List.set_cons_succ, List.getElem_toArray, List.getElem_cons_zero, List.getElem_cons_succ]
      refine wpAnyH_take (i := 5) (v := .int .i64 k) rfl (by kernel_rfl) (by kernel_rfl) (by kernel_rfl) (fun _ _ _ h => h) (Or.inl ⟨by rfl, ?_⟩) (by assumption) ?_
      · intro wx hSw; go_simp
      try simp only [Act.put, List.setIfInBounds_toArray, List.set_cons_zero, List.set_cons_succ, List.getElem_toArray, List.getElem_cons_zero, List.getElem_cons_succ]
      refine wpAnyH_ready (rs := [3]) (by kernel_rfl) (by simp) ?_
      refine AllReadyH.cons rfl (fun K hK => ?_) AllReadyH.nil
      go_simp
      go_wp2_with fail
      refine (plcCell_impl _ _ _ _).mono ?_
      rintro e x1 ⟨rfl, hx1⟩
      rw [hcq]
      refine hK.out _ _ (keepS (by assumption) hx1) (fun hNew => ?_)
      clear hK K hHeld
      have hHeld := hNew
      clear hNew
      try simp only [Act.put, List.setIfInBounds_toArray, List.set_cons_zero, List.set_cons_succ, List.getElem_toArray, List.getElem_cons_zero, List.getElem_cons_succ]
      refine wpAnyH_take (i := 6) (v := .bool false) rfl (by kernel_rfl) (by kernel_rfl) (by kernel_rfl) (fun _ _ _ h => h) (Or.inl ⟨by rfl, ?_⟩) (by assumption) ?_
      · intro wx hSw; go_simp <;> first | omega | (exact IntWalk.i64_in _ (by omega)) | go_num
      try simp only [Act.put, List.setIfInBounds_toArray, List.set_cons_zero, List.set_cons_succ, List.getElem_toArray, List.getElem_cons_zero, List.getElem_cons_succ]
      refine wpAnyH_done (by kernel_rfl) ?_ _
      clear hHeld
      have hz : Below u1.heap.size u1 x1 := by repeat (first | exact Below.refl _ _ | refine bthen ?_ (by assumption) | apply Below.drew)
      clear yA0 yA1 yA2 yA3 yA4 yA5 hlA yM0 yM1 hlM yQ0 yQ1 yQ2 yQ3 yQ4 hlQ
      skip
      skip
      go_wp2
      go_roundw
      case rel => exact ⟨q + 1, by omega, by go_num, bthen B7.out (by repeat (first | exact Below.refl _ _ | refine bthen ?_ (by assumption) | apply Below.drew)), A7.out.below (by repeat (first | exact Below.refl _ _ | refine bthen ?_ (by assumption) | apply Below.drew)), M7.out.below (by repeat (first | exact Below.refl _ _ | refine bthen ?_ (by assumption) | apply Below.drew))⟩
      case measure => simp [intOf]; omega
    · have hqq : q = nW := by omega
      clear hqq
      have hqn' : ¬ (q : Int) < nW := by omega
      have yA0 : wr.cell? ⟨w.heap.size, 0, none⟩ = some (.int .i64 k) := (A5.out.2 0 (by simp)).1
      have yA1 : wr.cell? ⟨w.heap.size, 1, none⟩ = some (.slice aW nW cW) := (A5.out.2 1 (by simp)).1
      have yA2 : wr.cell? ⟨w.heap.size, 2, none⟩ = some (.int .i64 0) := (A5.out.2 2 (by simp)).1
      have yA3 : wr.cell? ⟨w.heap.size, 3, none⟩ = some (.slice (some ⟨gO, 0, none⟩) 2 cO) := (A5.out.2 3 (by simp)).1
      have yA4 : wr.cell? ⟨w.heap.size, 4, none⟩ = some (.slice (some ⟨gX, 0, none⟩) 2 cX) := (A5.out.2 4 (by simp)).1
      have yA5 : wr.cell? ⟨w.heap.size, 5, none⟩ = some (.slice (some ⟨gI, 0, none⟩) 2 cI) := (A5.out.2 5 (by simp)).1
      have hlA : w.heap.size < wr.heap.size := A5.out.1
      have yM0 : wr.cell? ⟨(w.heap.size + 1), 0, none⟩ = some (.int .i64 c) := (M6.out.2 0 (by simp)).1
      have yM1 : wr.cell? ⟨(w.heap.size + 1), 1, none⟩ = some (.int .i64 d) := (M6.out.2 1 (by simp)).1
      have hlM : (w.heap.size + 1) < wr.heap.size := M6.out.1
      go_wp2_with fail
      refine (listOk_any c d aW nW cW W hn _ ((HN.out.below B4.out).hW)).mono ?_
      rintro e w3 ⟨rfl, hb3⟩
      clear yA0 yA1 yA2 yA3 yA4 yA5 hlA yM0 yM1 hlM
      have B9 : Hid (Below w.heap.size w w3) := bthen B4.out hb3
      have A9 : Hid (Bk w3 w.heap.size [.int .i64 k, .slice aW nW cW, .int .i64 0, .slice (some ⟨gO, 0, none⟩) 2 cO, .slice (some ⟨gX, 0, none⟩) 2 cX, .slice (some ⟨gI, 0, none⟩) 2 cI]) := A5.out.below hb3
      have M9 : Hid (Bk w3 (w.heap.size + 1) [.int .i64 c, .int .i64 d]) := M6.out.below hb3
      clear B4 A5 M6
      clear hb3
      rw [hal]
      go_wp2
      go_ret
      exact ⟨rfl, B9.out⟩

set_option maxHeartbeats 4000000 in
theorem sideOk_new0 (c d k : Int) (aW : Option Addr) (nW cW : Nat) (W : Nat → Nat → Int) (gO cO gX cX gI cI : Nat) (s0 s1 : Option Addr) (t0 t1 : Nat) (hh : hasB c d k = true) (w : World) (h : New w aW nW W gO gX gI s0 s1 t0 t1) :
    Calls Try.prog 28 #[.agg #[.int .i64 k, .slice aW nW cW, .int .i64 0, .slice (some ⟨gO, 0, none⟩) 2 cO, .slice (some ⟨gX, 0, none⟩) 2 cX, .slice (some ⟨gI, 0, none⟩) 2 cI], .agg #[.int .i64 c, .int .i64 d], .int .i64 0] w fun e w' => e = .returned (.bool true) ∧ Below w.heap.size w w' := by
  have HN : Hid (New w aW nW W gO gX gI s0 s1 t0 t1) := h
  clear h
  have h0 : okB c d = true := by simp only [hasB, Bool.and_eq_true] at hh; exact hh.1
  go_enter Try.func28, Try.ntmps28
  go_wp2_with fail
  obtain ⟨w0, e0⟩ : ∃ w0, w0 = (w.alloc (.cells #[.int .i64 k, .slice aW nW cW, .int .i64 0, .slice (some ⟨gO, 0, none⟩) 2 cO, .slice (some ⟨gX, 0, none⟩) 2 cX, .slice (some ⟨gI, 0, none⟩) 2 cI] 31)).alloc (.cells #[.int .i64 c, .int .i64 d] 24) := ⟨_, rfl⟩
  have B1 : Hid (Below w.heap.size w w0) := by rw [e0]; exact ((Below.refl _ _).alloc (by simp) _).alloc (by simp) _
  have A2 : Hid (Bk w0 w.heap.size [.int .i64 k, .slice aW nW cW, .int .i64 0, .slice (some ⟨gO, 0, none⟩) 2 cO, .slice (some ⟨gX, 0, none⟩) 2 cX, .slice (some ⟨gI, 0, none⟩) 2 cI]) := by rw [e0]; exact (bk_new w 31 [.int .i64 k, .slice aW nW cW, .int .i64 0, .slice (some ⟨gO, 0, none⟩) 2 cO, .slice (some ⟨gX, 0, none⟩) 2 cX, .slice (some ⟨gI, 0, none⟩) 2 cI]).below ((Below.refl _ _).alloc (Nat.le_refl _) _)
  have M3 : Hid (Bk w0 (w.heap.size + 1) [.int .i64 c, .int .i64 d]) := by rw [e0]; have := bk_new (w.alloc (.cells #[.int .i64 k, .slice aW nW cW, .int .i64 0, .slice (some ⟨gO, 0, none⟩) 2 cO, .slice (some ⟨gX, 0, none⟩) 2 cX, .slice (some ⟨gI, 0, none⟩) 2 cI] 31)) 24 [.int .i64 c, .int .i64 d]; rwa [show (w.alloc (.cells #[.int .i64 k, .slice aW nW cW, .int .i64 0, .slice (some ⟨gO, 0, none⟩) 2 cO, .slice (some ⟨gX, 0, none⟩) 2 cX, .slice (some ⟨gI, 0, none⟩) 2 cI] 31)).heap.size = w.heap.size + 1 by simp] at this
  rw [← e0]
  clear e0
  have HW0 := HN.out.below B1.out
  have n0 := HW0.o0
  have n1 := HW0.x0
  have n2 := HW0.i0
  have n3 := HW0.lO
  have n4 := HW0.lX
  have n5 := HW0.lI
  clear HW0
  have yA0 : w0.cell? ⟨w.heap.size, 0, none⟩ = some (.int .i64 k) := (A2.out.2 0 (by simp)).1
  have yA1 : w0.cell? ⟨w.heap.size, 1, none⟩ = some (.slice aW nW cW) := (A2.out.2 1 (by simp)).1
  have yA2 : w0.cell? ⟨w.heap.size, 2, none⟩ = some (.int .i64 0) := (A2.out.2 2 (by simp)).1
  have yA3 : w0.cell? ⟨w.heap.size, 3, none⟩ = some (.slice (some ⟨gO, 0, none⟩) 2 cO) := (A2.out.2 3 (by simp)).1
  have yA4 : w0.cell? ⟨w.heap.size, 4, none⟩ = some (.slice (some ⟨gX, 0, none⟩) 2 cX) := (A2.out.2 4 (by simp)).1
  have yA5 : w0.cell? ⟨w.heap.size, 5, none⟩ = some (.slice (some ⟨gI, 0, none⟩) 2 cI) := (A2.out.2 5 (by simp)).1
  have hlA : w.heap.size < w0.heap.size := A2.out.1
  have yM0 : w0.cell? ⟨(w.heap.size + 1), 0, none⟩ = some (.int .i64 c) := (M3.out.2 0 (by simp)).1
  have yM1 : w0.cell? ⟨(w.heap.size + 1), 1, none⟩ = some (.int .i64 d) := (M3.out.2 1 (by simp)).1
  have hlM : (w.heap.size + 1) < w0.heap.size := M3.out.1
  refine wp_region_held_drew (S := fun w' => (∀ b o, b < w0.heap.size → w'.cell? ⟨b, o, none⟩ = w0.cell? ⟨b, o, none⟩) ∧ w0.heap.size ≤ w'.heap.size) (by kernel_rfl) ⟨fun _ _ _ => rfl, Nat.le_refl _⟩ ?_
  intro hHeld
  refine wpAnyH_take (i := 0) (v := .pointer (some ⟨w.heap.size, 3, none⟩)) rfl (by kernel_rfl) (by kernel_rfl) (by kernel_rfl) (fun _ _ _ h => h) (Or.inl ⟨by rfl, ?_⟩) (by assumption) ?_
  · intro wx hSw; go_simp
  try simp only [Act.put, List.setIfInBounds_toArray, List.set_cons_zero, List.set_cons_succ, List.getElem_toArray, List.getElem_cons_zero]
  refine wpAnyH_take (i := 1) (v := .slice (some ⟨gO, 0, none⟩) 2 cO) rfl (by kernel_rfl) (by kernel_rfl) (by kernel_rfl) (fun _ _ _ h => h) (Or.inl ⟨by rfl, ?_⟩) (by assumption) ?_
  · intro wx hSw; go_simp
  try simp only [Act.put, List.setIfInBounds_toArray, List.set_cons_zero, List.set_cons_succ, List.getElem_toArray, List.getElem_cons_zero, List.getElem_cons_succ]
  refine wpAnyH_take (i := 2) (v := .int .i64 0) rfl (by kernel_rfl) (by kernel_rfl) (by kernel_rfl) (fun _ _ _ h => h) (Or.inl ⟨by rfl, ?_⟩) (by assumption) ?_
  · intro wx hSw; go_simp
  try simp only [Act.put, List.setIfInBounds_toArray, List.set_cons_zero, List.set_cons_succ, List.getElem_toArray, List.getElem_cons_zero, List.getElem_cons_succ]
  refine wpAnyH_take (i := 3) (v := .pointer (some ⟨gO, 0, none⟩)) rfl (by kernel_rfl) (by kernel_rfl) (by kernel_rfl) (fun _ _ _ h => h) (Or.inl ⟨by rfl, ?_⟩) (by assumption) ?_
  · intro wx hSw; go_simp
  try simp only [Act.put, List.setIfInBounds_toArray, List.set_cons_zero, List.set_cons_succ, List.getElem_toArray, List.getElem_cons_zero, List.getElem_cons_succ]
  refine wpAnyH_take (i := 4) (v := .slice s0 0 t0) rfl (by kernel_rfl) (by kernel_rfl) (by kernel_rfl) (fun _ _ _ h => h) (Or.inl ⟨by rfl, ?_⟩) (by assumption) ?_
  · intro wx hSw; go_simp
  try simp only [Act.put, List.setIfInBounds_toArray, List.set_cons_zero, List.set_cons_succ, List.getElem_toArray, List.getElem_cons_zero, List.getElem_cons_succ]
  refine wpAnyH_take (i := 5) (v := .pointer (some ⟨w.heap.size, 4, none⟩)) rfl (by kernel_rfl) (by kernel_rfl) (by kernel_rfl) (fun _ _ _ h => h) (Or.inl ⟨by rfl, ?_⟩) (by assumption) ?_
  · intro wx hSw; go_simp
  try simp only [Act.put, List.setIfInBounds_toArray, List.set_cons_zero, List.set_cons_succ, List.getElem_toArray, List.getElem_cons_zero, List.getElem_cons_succ]
  refine wpAnyH_take (i := 6) (v := .slice (some ⟨gX, 0, none⟩) 2 cX) rfl (by kernel_rfl) (by kernel_rfl) (by kernel_rfl) (fun _ _ _ h => h) (Or.inl ⟨by rfl, ?_⟩) (by assumption) ?_
  · intro wx hSw; go_simp
  try simp only [Act.put, List.setIfInBounds_toArray, List.set_cons_zero, List.set_cons_succ, List.getElem_toArray, List.getElem_cons_zero, List.getElem_cons_succ]
  refine wpAnyH_take (i := 7) (v := .int .i64 0) rfl (by kernel_rfl) (by kernel_rfl) (by kernel_rfl) (fun _ _ _ h => h) (Or.inl ⟨by rfl, ?_⟩) (by assumption) ?_
  · intro wx hSw; go_simp
  try simp only [Act.put, List.setIfInBounds_toArray, List.set_cons_zero, List.set_cons_succ, List.getElem_toArray, List.getElem_cons_zero, List.getElem_cons_succ]
  refine wpAnyH_take (i := 8) (v := .pointer (some ⟨gX, 0, none⟩)) rfl (by kernel_rfl) (by kernel_rfl) (by kernel_rfl) (fun _ _ _ h => h) (Or.inl ⟨by rfl, ?_⟩) (by assumption) ?_
  · intro wx hSw; go_simp
  try simp only [Act.put, List.setIfInBounds_toArray, List.set_cons_zero, List.set_cons_succ, List.getElem_toArray, List.getElem_cons_zero, List.getElem_cons_succ]
  refine wpAnyH_take (i := 9) (v := .int .i64 0) rfl (by kernel_rfl) (by kernel_rfl) (by kernel_rfl) (fun _ _ _ h => h) (Or.inl ⟨by rfl, ?_⟩) (by assumption) ?_
  · intro wx hSw; go_simp
  try simp only [Act.put, List.setIfInBounds_toArray, List.set_cons_zero, List.set_cons_succ, List.getElem_toArray, List.getElem_cons_zero, List.getElem_cons_succ]
  refine wpAnyH_take (i := 10) (v := .pointer (some ⟨w.heap.size, 5, none⟩)) rfl (by kernel_rfl) (by kernel_rfl) (by kernel_rfl) (fun _ _ _ h => h) (Or.inl ⟨by rfl, ?_⟩) (by assumption) ?_
  · intro wx hSw; go_simp
  try simp only [Act.put, List.setIfInBounds_toArray, List.set_cons_zero, List.set_cons_succ, List.getElem_toArray, List.getElem_cons_zero, List.getElem_cons_succ]
  refine wpAnyH_take (i := 11) (v := .slice (some ⟨gI, 0, none⟩) 2 cI) rfl (by kernel_rfl) (by kernel_rfl) (by kernel_rfl) (fun _ _ _ h => h) (Or.inl ⟨by rfl, ?_⟩) (by assumption) ?_
  · intro wx hSw; go_simp
  try simp only [Act.put, List.setIfInBounds_toArray, List.set_cons_zero, List.set_cons_succ, List.getElem_toArray, List.getElem_cons_zero, List.getElem_cons_succ]
  refine wpAnyH_take (i := 12) (v := .int .i64 0) rfl (by kernel_rfl) (by kernel_rfl) (by kernel_rfl) (fun _ _ _ h => h) (Or.inl ⟨by rfl, ?_⟩) (by assumption) ?_
  · intro wx hSw; go_simp
  try simp only [Act.put, List.setIfInBounds_toArray, List.set_cons_zero, List.set_cons_succ, List.getElem_toArray, List.getElem_cons_zero, List.getElem_cons_succ]
  refine wpAnyH_take (i := 13) (v := .pointer (some ⟨gI, 0, none⟩)) rfl (by kernel_rfl) (by kernel_rfl) (by kernel_rfl) (fun _ _ _ h => h) (Or.inl ⟨by rfl, ?_⟩) (by assumption) ?_
  · intro wx hSw; go_simp
  try simp only [Act.put, List.setIfInBounds_toArray, List.set_cons_zero, List.set_cons_succ, List.getElem_toArray, List.getElem_cons_zero, List.getElem_cons_succ]
  refine wpAnyH_take (i := 14) (v := .int .i64 0) rfl (by kernel_rfl) (by kernel_rfl) (by kernel_rfl) (fun _ _ _ h => h) (Or.inl ⟨by rfl, ?_⟩) (by assumption) ?_
  · intro wx hSw; go_simp
  try simp only [Act.put, List.setIfInBounds_toArray, List.set_cons_zero, List.set_cons_succ, List.getElem_toArray, List.getElem_cons_zero, List.getElem_cons_succ]
  refine wpAnyH_take (i := 15) (v := .slice s0 0 t0) rfl (by kernel_rfl) (by kernel_rfl) (by kernel_rfl) (fun _ _ _ h => h) (Or.inl ⟨by rfl, ?_⟩) (by assumption) ?_
  · intro wx hSw; go_simp
  try simp only [Act.put, List.setIfInBounds_toArray, List.set_cons_zero, List.set_cons_succ, List.getElem_toArray, List.getElem_cons_zero, List.getElem_cons_succ]
  refine wpAnyH_take (i := 16) (v := .int .i64 0) rfl (by kernel_rfl) (by kernel_rfl) (by kernel_rfl) (fun _ _ _ h => h) (Or.inl ⟨by rfl, ?_⟩) (by assumption) ?_
  · intro wx hSw; go_simp
  try simp only [Act.put, List.setIfInBounds_toArray, List.set_cons_zero, List.set_cons_succ, List.getElem_toArray, List.getElem_cons_zero, List.getElem_cons_succ]
  refine wpAnyH_take (i := 17) (v := .int .i64 0) rfl (by kernel_rfl) (by kernel_rfl) (by kernel_rfl) (fun _ _ _ h => h) (Or.inl ⟨by rfl, ?_⟩) (by assumption) ?_
  · intro wx hSw; go_simp
  try simp only [Act.put, List.setIfInBounds_toArray, List.set_cons_zero, List.set_cons_succ, List.getElem_toArray, List.getElem_cons_zero, List.getElem_cons_succ]
  refine wpAnyH_done (by kernel_rfl) ?_ _
  clear hHeld
  obtain ⟨u1, e1⟩ : ∃ u, u = w0.drew := ⟨_, rfl⟩
  try rw [← e1]
  have hb1 : Below w0.heap.size w0 u1 := by rw [e1]; exact (Below.refl _ _).drew
  clear e1 n0 n1 n2 n3 n4 n5
  clear yA0 yA1 yA2 yA3 yA4 yA5 hlA yM0 yM1 hlM
  have B4 : Hid (Below w.heap.size w u1) := bthen B1.out hb1
  have A4 : Hid (Bk u1 w.heap.size [.int .i64 k, .slice aW nW cW, .int .i64 0, .slice (some ⟨gO, 0, none⟩) 2 cO, .slice (some ⟨gX, 0, none⟩) 2 cX, .slice (some ⟨gI, 0, none⟩) 2 cI]) := A2.out.below hb1
  have M4 : Hid (Bk u1 (w.heap.size + 1) [.int .i64 c, .int .i64 d]) := M3.out.below hb1
  clear B1 A2 M3
  clear hb1
  have yA0 : u1.cell? ⟨w.heap.size, 0, none⟩ = some (.int .i64 k) := (A4.out.2 0 (by simp)).1
  have yA1 : u1.cell? ⟨w.heap.size, 1, none⟩ = some (.slice aW nW cW) := (A4.out.2 1 (by simp)).1
  have yA2 : u1.cell? ⟨w.heap.size, 2, none⟩ = some (.int .i64 0) := (A4.out.2 2 (by simp)).1
  have yA3 : u1.cell? ⟨w.heap.size, 3, none⟩ = some (.slice (some ⟨gO, 0, none⟩) 2 cO) := (A4.out.2 3 (by simp)).1
  have yA4 : u1.cell? ⟨w.heap.size, 4, none⟩ = some (.slice (some ⟨gX, 0, none⟩) 2 cX) := (A4.out.2 4 (by simp)).1
  have yA5 : u1.cell? ⟨w.heap.size, 5, none⟩ = some (.slice (some ⟨gI, 0, none⟩) 2 cI) := (A4.out.2 5 (by simp)).1
  have hlA : w.heap.size < u1.heap.size := A4.out.1
  have yM0 : u1.cell? ⟨(w.heap.size + 1), 0, none⟩ = some (.int .i64 c) := (M4.out.2 0 (by simp)).1
  have yM1 : u1.cell? ⟨(w.heap.size + 1), 1, none⟩ = some (.int .i64 d) := (M4.out.2 1 (by simp)).1
  have hlM : (w.heap.size + 1) < u1.heap.size := M4.out.1
  go_wp2_with fail
  refine (plist0 c d _ _ h0 _).mono ?_
  rintro e w3 ⟨rfl, hb3⟩
  clear yA0 yA1 yA2 yA3 yA4 yA5 hlA yM0 yM1 hlM
  have B5 : Hid (Below w.heap.size w w3) := bthen B4.out hb3
  have A5 : Hid (Bk w3 w.heap.size [.int .i64 k, .slice aW nW cW, .int .i64 0, .slice (some ⟨gO, 0, none⟩) 2 cO, .slice (some ⟨gX, 0, none⟩) 2 cX, .slice (some ⟨gI, 0, none⟩) 2 cI]) := A4.out.below hb3
  have M5 : Hid (Bk w3 (w.heap.size + 1) [.int .i64 c, .int .i64 d]) := M4.out.below hb3
  clear B4 A4 M4
  clear hb3
  have yA0 : w3.cell? ⟨w.heap.size, 0, none⟩ = some (.int .i64 k) := (A5.out.2 0 (by simp)).1
  have yA1 : w3.cell? ⟨w.heap.size, 1, none⟩ = some (.slice aW nW cW) := (A5.out.2 1 (by simp)).1
  have yA2 : w3.cell? ⟨w.heap.size, 2, none⟩ = some (.int .i64 0) := (A5.out.2 2 (by simp)).1
  have yA3 : w3.cell? ⟨w.heap.size, 3, none⟩ = some (.slice (some ⟨gO, 0, none⟩) 2 cO) := (A5.out.2 3 (by simp)).1
  have yA4 : w3.cell? ⟨w.heap.size, 4, none⟩ = some (.slice (some ⟨gX, 0, none⟩) 2 cX) := (A5.out.2 4 (by simp)).1
  have yA5 : w3.cell? ⟨w.heap.size, 5, none⟩ = some (.slice (some ⟨gI, 0, none⟩) 2 cI) := (A5.out.2 5 (by simp)).1
  have hlA : w.heap.size < w3.heap.size := A5.out.1
  have yM0 : w3.cell? ⟨(w.heap.size + 1), 0, none⟩ = some (.int .i64 c) := (M5.out.2 0 (by simp)).1
  have yM1 : w3.cell? ⟨(w.heap.size + 1), 1, none⟩ = some (.int .i64 d) := (M5.out.2 1 (by simp)).1
  have hlM : (w.heap.size + 1) < w3.heap.size := M5.out.1
  go_wp2_with fail
  refine (in_impl _ _ _ _).mono ?_
  rintro e w4 ⟨rfl, e4⟩
  obtain rfl := e4.symm
  rw [show inB 0 0 5000 = true from rfl]
  go_wp2_with fail
  refine (beside_impl _ _ _ _ _).mono ?_
  rintro e w5 ⟨rfl, hb5⟩
  clear yA0 yA1 yA2 yA3 yA4 yA5 hlA yM0 yM1 hlM
  have B6 : Hid (Below w.heap.size w w5) := bthen B5.out hb5
  have A6 : Hid (Bk w5 w.heap.size [.int .i64 k, .slice aW nW cW, .int .i64 0, .slice (some ⟨gO, 0, none⟩) 2 cO, .slice (some ⟨gX, 0, none⟩) 2 cX, .slice (some ⟨gI, 0, none⟩) 2 cI]) := A5.out.below hb5
  have M6 : Hid (Bk w5 (w.heap.size + 1) [.int .i64 c, .int .i64 d]) := M5.out.below hb5
  clear B5 A5 M5
  clear hb5
  by_cases hs : sideF c d k 0 = -1
  · rw [hs]
    go_wp2
    go_ret
    exact ⟨rfl, B6.out⟩
  · obtain ⟨sf, esf⟩ : ∃ z, z = sideF c d k 0 := ⟨_, rfl⟩
    rw [← esf] at hs ⊢
    clear esf
    go_wp2
    refine wp_loop_rounds 1 ?_
    rw [rounds_succ]
    go_wp2
    go_ret
    exact ⟨rfl, B6.out⟩

set_option maxHeartbeats 4000000 in
theorem sideOk_new1 (c d k : Int) (aW : Option Addr) (nW cW : Nat) (W : Nat → Nat → Int) (gO cO gX cX gI cI : Nat) (s0 s1 : Option Addr) (t0 t1 : Nat) (hh : hasB c d k = true) (w : World) (h : New w aW nW W gO gX gI s0 s1 t0 t1) :
    Calls Try.prog 28 #[.agg #[.int .i64 k, .slice aW nW cW, .int .i64 0, .slice (some ⟨gO, 0, none⟩) 2 cO, .slice (some ⟨gX, 0, none⟩) 2 cX, .slice (some ⟨gI, 0, none⟩) 2 cI], .agg #[.int .i64 c, .int .i64 d], .int .i64 1] w fun e w' => e = .returned (.bool true) ∧ Below w.heap.size w w' := by
  have HN : Hid (New w aW nW W gO gX gI s0 s1 t0 t1) := h
  clear h
  have h0 : okB c d = true := by simp only [hasB, Bool.and_eq_true] at hh; exact hh.1
  go_enter Try.func28, Try.ntmps28
  go_wp2_with fail
  obtain ⟨w0, e0⟩ : ∃ w0, w0 = (w.alloc (.cells #[.int .i64 k, .slice aW nW cW, .int .i64 0, .slice (some ⟨gO, 0, none⟩) 2 cO, .slice (some ⟨gX, 0, none⟩) 2 cX, .slice (some ⟨gI, 0, none⟩) 2 cI] 31)).alloc (.cells #[.int .i64 c, .int .i64 d] 24) := ⟨_, rfl⟩
  have B1 : Hid (Below w.heap.size w w0) := by rw [e0]; exact ((Below.refl _ _).alloc (by simp) _).alloc (by simp) _
  have A2 : Hid (Bk w0 w.heap.size [.int .i64 k, .slice aW nW cW, .int .i64 0, .slice (some ⟨gO, 0, none⟩) 2 cO, .slice (some ⟨gX, 0, none⟩) 2 cX, .slice (some ⟨gI, 0, none⟩) 2 cI]) := by rw [e0]; exact (bk_new w 31 [.int .i64 k, .slice aW nW cW, .int .i64 0, .slice (some ⟨gO, 0, none⟩) 2 cO, .slice (some ⟨gX, 0, none⟩) 2 cX, .slice (some ⟨gI, 0, none⟩) 2 cI]).below ((Below.refl _ _).alloc (Nat.le_refl _) _)
  have M3 : Hid (Bk w0 (w.heap.size + 1) [.int .i64 c, .int .i64 d]) := by rw [e0]; have := bk_new (w.alloc (.cells #[.int .i64 k, .slice aW nW cW, .int .i64 0, .slice (some ⟨gO, 0, none⟩) 2 cO, .slice (some ⟨gX, 0, none⟩) 2 cX, .slice (some ⟨gI, 0, none⟩) 2 cI] 31)) 24 [.int .i64 c, .int .i64 d]; rwa [show (w.alloc (.cells #[.int .i64 k, .slice aW nW cW, .int .i64 0, .slice (some ⟨gO, 0, none⟩) 2 cO, .slice (some ⟨gX, 0, none⟩) 2 cX, .slice (some ⟨gI, 0, none⟩) 2 cI] 31)).heap.size = w.heap.size + 1 by simp] at this
  rw [← e0]
  clear e0
  have HW0 := HN.out.below B1.out
  have n0 := HW0.o1
  have n1 := HW0.x1
  have n2 := HW0.i1
  have n3 := HW0.lO
  have n4 := HW0.lX
  have n5 := HW0.lI
  clear HW0
  have yA0 : w0.cell? ⟨w.heap.size, 0, none⟩ = some (.int .i64 k) := (A2.out.2 0 (by simp)).1
  have yA1 : w0.cell? ⟨w.heap.size, 1, none⟩ = some (.slice aW nW cW) := (A2.out.2 1 (by simp)).1
  have yA2 : w0.cell? ⟨w.heap.size, 2, none⟩ = some (.int .i64 0) := (A2.out.2 2 (by simp)).1
  have yA3 : w0.cell? ⟨w.heap.size, 3, none⟩ = some (.slice (some ⟨gO, 0, none⟩) 2 cO) := (A2.out.2 3 (by simp)).1
  have yA4 : w0.cell? ⟨w.heap.size, 4, none⟩ = some (.slice (some ⟨gX, 0, none⟩) 2 cX) := (A2.out.2 4 (by simp)).1
  have yA5 : w0.cell? ⟨w.heap.size, 5, none⟩ = some (.slice (some ⟨gI, 0, none⟩) 2 cI) := (A2.out.2 5 (by simp)).1
  have hlA : w.heap.size < w0.heap.size := A2.out.1
  have yM0 : w0.cell? ⟨(w.heap.size + 1), 0, none⟩ = some (.int .i64 c) := (M3.out.2 0 (by simp)).1
  have yM1 : w0.cell? ⟨(w.heap.size + 1), 1, none⟩ = some (.int .i64 d) := (M3.out.2 1 (by simp)).1
  have hlM : (w.heap.size + 1) < w0.heap.size := M3.out.1
  refine wp_region_held_drew (S := fun w' => (∀ b o, b < w0.heap.size → w'.cell? ⟨b, o, none⟩ = w0.cell? ⟨b, o, none⟩) ∧ w0.heap.size ≤ w'.heap.size) (by kernel_rfl) ⟨fun _ _ _ => rfl, Nat.le_refl _⟩ ?_
  intro hHeld
  refine wpAnyH_take (i := 0) (v := .pointer (some ⟨w.heap.size, 3, none⟩)) rfl (by kernel_rfl) (by kernel_rfl) (by kernel_rfl) (fun _ _ _ h => h) (Or.inl ⟨by rfl, ?_⟩) (by assumption) ?_
  · intro wx hSw; go_simp
  try simp only [Act.put, List.setIfInBounds_toArray, List.set_cons_zero, List.set_cons_succ, List.getElem_toArray, List.getElem_cons_zero]
  refine wpAnyH_take (i := 1) (v := .slice (some ⟨gO, 0, none⟩) 2 cO) rfl (by kernel_rfl) (by kernel_rfl) (by kernel_rfl) (fun _ _ _ h => h) (Or.inl ⟨by rfl, ?_⟩) (by assumption) ?_
  · intro wx hSw; go_simp
  try simp only [Act.put, List.setIfInBounds_toArray, List.set_cons_zero, List.set_cons_succ, List.getElem_toArray, List.getElem_cons_zero, List.getElem_cons_succ]
  refine wpAnyH_take (i := 2) (v := .int .i64 1) rfl (by kernel_rfl) (by kernel_rfl) (by kernel_rfl) (fun _ _ _ h => h) (Or.inl ⟨by rfl, ?_⟩) (by assumption) ?_
  · intro wx hSw; go_simp
  try simp only [Act.put, List.setIfInBounds_toArray, List.set_cons_zero, List.set_cons_succ, List.getElem_toArray, List.getElem_cons_zero, List.getElem_cons_succ]
  refine wpAnyH_take (i := 3) (v := .pointer (some ⟨gO, 1, none⟩)) rfl (by kernel_rfl) (by kernel_rfl) (by kernel_rfl) (fun _ _ _ h => h) (Or.inl ⟨by rfl, ?_⟩) (by assumption) ?_
  · intro wx hSw; go_simp
  try simp only [Act.put, List.setIfInBounds_toArray, List.set_cons_zero, List.set_cons_succ, List.getElem_toArray, List.getElem_cons_zero, List.getElem_cons_succ]
  refine wpAnyH_take (i := 4) (v := .slice s1 0 t1) rfl (by kernel_rfl) (by kernel_rfl) (by kernel_rfl) (fun _ _ _ h => h) (Or.inl ⟨by rfl, ?_⟩) (by assumption) ?_
  · intro wx hSw; go_simp
  try simp only [Act.put, List.setIfInBounds_toArray, List.set_cons_zero, List.set_cons_succ, List.getElem_toArray, List.getElem_cons_zero, List.getElem_cons_succ]
  refine wpAnyH_take (i := 5) (v := .pointer (some ⟨w.heap.size, 4, none⟩)) rfl (by kernel_rfl) (by kernel_rfl) (by kernel_rfl) (fun _ _ _ h => h) (Or.inl ⟨by rfl, ?_⟩) (by assumption) ?_
  · intro wx hSw; go_simp
  try simp only [Act.put, List.setIfInBounds_toArray, List.set_cons_zero, List.set_cons_succ, List.getElem_toArray, List.getElem_cons_zero, List.getElem_cons_succ]
  refine wpAnyH_take (i := 6) (v := .slice (some ⟨gX, 0, none⟩) 2 cX) rfl (by kernel_rfl) (by kernel_rfl) (by kernel_rfl) (fun _ _ _ h => h) (Or.inl ⟨by rfl, ?_⟩) (by assumption) ?_
  · intro wx hSw; go_simp
  try simp only [Act.put, List.setIfInBounds_toArray, List.set_cons_zero, List.set_cons_succ, List.getElem_toArray, List.getElem_cons_zero, List.getElem_cons_succ]
  refine wpAnyH_take (i := 7) (v := .int .i64 1) rfl (by kernel_rfl) (by kernel_rfl) (by kernel_rfl) (fun _ _ _ h => h) (Or.inl ⟨by rfl, ?_⟩) (by assumption) ?_
  · intro wx hSw; go_simp
  try simp only [Act.put, List.setIfInBounds_toArray, List.set_cons_zero, List.set_cons_succ, List.getElem_toArray, List.getElem_cons_zero, List.getElem_cons_succ]
  refine wpAnyH_take (i := 8) (v := .pointer (some ⟨gX, 1, none⟩)) rfl (by kernel_rfl) (by kernel_rfl) (by kernel_rfl) (fun _ _ _ h => h) (Or.inl ⟨by rfl, ?_⟩) (by assumption) ?_
  · intro wx hSw; go_simp
  try simp only [Act.put, List.setIfInBounds_toArray, List.set_cons_zero, List.set_cons_succ, List.getElem_toArray, List.getElem_cons_zero, List.getElem_cons_succ]
  refine wpAnyH_take (i := 9) (v := .int .i64 0) rfl (by kernel_rfl) (by kernel_rfl) (by kernel_rfl) (fun _ _ _ h => h) (Or.inl ⟨by rfl, ?_⟩) (by assumption) ?_
  · intro wx hSw; go_simp
  try simp only [Act.put, List.setIfInBounds_toArray, List.set_cons_zero, List.set_cons_succ, List.getElem_toArray, List.getElem_cons_zero, List.getElem_cons_succ]
  refine wpAnyH_take (i := 10) (v := .pointer (some ⟨w.heap.size, 5, none⟩)) rfl (by kernel_rfl) (by kernel_rfl) (by kernel_rfl) (fun _ _ _ h => h) (Or.inl ⟨by rfl, ?_⟩) (by assumption) ?_
  · intro wx hSw; go_simp
  try simp only [Act.put, List.setIfInBounds_toArray, List.set_cons_zero, List.set_cons_succ, List.getElem_toArray, List.getElem_cons_zero, List.getElem_cons_succ]
  refine wpAnyH_take (i := 11) (v := .slice (some ⟨gI, 0, none⟩) 2 cI) rfl (by kernel_rfl) (by kernel_rfl) (by kernel_rfl) (fun _ _ _ h => h) (Or.inl ⟨by rfl, ?_⟩) (by assumption) ?_
  · intro wx hSw; go_simp
  try simp only [Act.put, List.setIfInBounds_toArray, List.set_cons_zero, List.set_cons_succ, List.getElem_toArray, List.getElem_cons_zero, List.getElem_cons_succ]
  refine wpAnyH_take (i := 12) (v := .int .i64 1) rfl (by kernel_rfl) (by kernel_rfl) (by kernel_rfl) (fun _ _ _ h => h) (Or.inl ⟨by rfl, ?_⟩) (by assumption) ?_
  · intro wx hSw; go_simp
  try simp only [Act.put, List.setIfInBounds_toArray, List.set_cons_zero, List.set_cons_succ, List.getElem_toArray, List.getElem_cons_zero, List.getElem_cons_succ]
  refine wpAnyH_take (i := 13) (v := .pointer (some ⟨gI, 1, none⟩)) rfl (by kernel_rfl) (by kernel_rfl) (by kernel_rfl) (fun _ _ _ h => h) (Or.inl ⟨by rfl, ?_⟩) (by assumption) ?_
  · intro wx hSw; go_simp
  try simp only [Act.put, List.setIfInBounds_toArray, List.set_cons_zero, List.set_cons_succ, List.getElem_toArray, List.getElem_cons_zero, List.getElem_cons_succ]
  refine wpAnyH_take (i := 14) (v := .int .i64 0) rfl (by kernel_rfl) (by kernel_rfl) (by kernel_rfl) (fun _ _ _ h => h) (Or.inl ⟨by rfl, ?_⟩) (by assumption) ?_
  · intro wx hSw; go_simp
  try simp only [Act.put, List.setIfInBounds_toArray, List.set_cons_zero, List.set_cons_succ, List.getElem_toArray, List.getElem_cons_zero, List.getElem_cons_succ]
  refine wpAnyH_take (i := 15) (v := .slice s1 0 t1) rfl (by kernel_rfl) (by kernel_rfl) (by kernel_rfl) (fun _ _ _ h => h) (Or.inl ⟨by rfl, ?_⟩) (by assumption) ?_
  · intro wx hSw; go_simp
  try simp only [Act.put, List.setIfInBounds_toArray, List.set_cons_zero, List.set_cons_succ, List.getElem_toArray, List.getElem_cons_zero, List.getElem_cons_succ]
  refine wpAnyH_take (i := 16) (v := .int .i64 0) rfl (by kernel_rfl) (by kernel_rfl) (by kernel_rfl) (fun _ _ _ h => h) (Or.inl ⟨by rfl, ?_⟩) (by assumption) ?_
  · intro wx hSw; go_simp
  try simp only [Act.put, List.setIfInBounds_toArray, List.set_cons_zero, List.set_cons_succ, List.getElem_toArray, List.getElem_cons_zero, List.getElem_cons_succ]
  refine wpAnyH_take (i := 17) (v := .int .i64 0) rfl (by kernel_rfl) (by kernel_rfl) (by kernel_rfl) (fun _ _ _ h => h) (Or.inl ⟨by rfl, ?_⟩) (by assumption) ?_
  · intro wx hSw; go_simp
  try simp only [Act.put, List.setIfInBounds_toArray, List.set_cons_zero, List.set_cons_succ, List.getElem_toArray, List.getElem_cons_zero, List.getElem_cons_succ]
  refine wpAnyH_done (by kernel_rfl) ?_ _
  clear hHeld
  obtain ⟨u1, e1⟩ : ∃ u, u = w0.drew := ⟨_, rfl⟩
  try rw [← e1]
  have hb1 : Below w0.heap.size w0 u1 := by rw [e1]; exact (Below.refl _ _).drew
  clear e1 n0 n1 n2 n3 n4 n5
  clear yA0 yA1 yA2 yA3 yA4 yA5 hlA yM0 yM1 hlM
  have B4 : Hid (Below w.heap.size w u1) := bthen B1.out hb1
  have A4 : Hid (Bk u1 w.heap.size [.int .i64 k, .slice aW nW cW, .int .i64 0, .slice (some ⟨gO, 0, none⟩) 2 cO, .slice (some ⟨gX, 0, none⟩) 2 cX, .slice (some ⟨gI, 0, none⟩) 2 cI]) := A2.out.below hb1
  have M4 : Hid (Bk u1 (w.heap.size + 1) [.int .i64 c, .int .i64 d]) := M3.out.below hb1
  clear B1 A2 M3
  clear hb1
  have yA0 : u1.cell? ⟨w.heap.size, 0, none⟩ = some (.int .i64 k) := (A4.out.2 0 (by simp)).1
  have yA1 : u1.cell? ⟨w.heap.size, 1, none⟩ = some (.slice aW nW cW) := (A4.out.2 1 (by simp)).1
  have yA2 : u1.cell? ⟨w.heap.size, 2, none⟩ = some (.int .i64 0) := (A4.out.2 2 (by simp)).1
  have yA3 : u1.cell? ⟨w.heap.size, 3, none⟩ = some (.slice (some ⟨gO, 0, none⟩) 2 cO) := (A4.out.2 3 (by simp)).1
  have yA4 : u1.cell? ⟨w.heap.size, 4, none⟩ = some (.slice (some ⟨gX, 0, none⟩) 2 cX) := (A4.out.2 4 (by simp)).1
  have yA5 : u1.cell? ⟨w.heap.size, 5, none⟩ = some (.slice (some ⟨gI, 0, none⟩) 2 cI) := (A4.out.2 5 (by simp)).1
  have hlA : w.heap.size < u1.heap.size := A4.out.1
  have yM0 : u1.cell? ⟨(w.heap.size + 1), 0, none⟩ = some (.int .i64 c) := (M4.out.2 0 (by simp)).1
  have yM1 : u1.cell? ⟨(w.heap.size + 1), 1, none⟩ = some (.int .i64 d) := (M4.out.2 1 (by simp)).1
  have hlM : (w.heap.size + 1) < u1.heap.size := M4.out.1
  go_wp2_with fail
  refine (plist0 c d _ _ h0 _).mono ?_
  rintro e w3 ⟨rfl, hb3⟩
  clear yA0 yA1 yA2 yA3 yA4 yA5 hlA yM0 yM1 hlM
  have B5 : Hid (Below w.heap.size w w3) := bthen B4.out hb3
  have A5 : Hid (Bk w3 w.heap.size [.int .i64 k, .slice aW nW cW, .int .i64 0, .slice (some ⟨gO, 0, none⟩) 2 cO, .slice (some ⟨gX, 0, none⟩) 2 cX, .slice (some ⟨gI, 0, none⟩) 2 cI]) := A4.out.below hb3
  have M5 : Hid (Bk w3 (w.heap.size + 1) [.int .i64 c, .int .i64 d]) := M4.out.below hb3
  clear B4 A4 M4
  clear hb3
  have yA0 : w3.cell? ⟨w.heap.size, 0, none⟩ = some (.int .i64 k) := (A5.out.2 0 (by simp)).1
  have yA1 : w3.cell? ⟨w.heap.size, 1, none⟩ = some (.slice aW nW cW) := (A5.out.2 1 (by simp)).1
  have yA2 : w3.cell? ⟨w.heap.size, 2, none⟩ = some (.int .i64 0) := (A5.out.2 2 (by simp)).1
  have yA3 : w3.cell? ⟨w.heap.size, 3, none⟩ = some (.slice (some ⟨gO, 0, none⟩) 2 cO) := (A5.out.2 3 (by simp)).1
  have yA4 : w3.cell? ⟨w.heap.size, 4, none⟩ = some (.slice (some ⟨gX, 0, none⟩) 2 cX) := (A5.out.2 4 (by simp)).1
  have yA5 : w3.cell? ⟨w.heap.size, 5, none⟩ = some (.slice (some ⟨gI, 0, none⟩) 2 cI) := (A5.out.2 5 (by simp)).1
  have hlA : w.heap.size < w3.heap.size := A5.out.1
  have yM0 : w3.cell? ⟨(w.heap.size + 1), 0, none⟩ = some (.int .i64 c) := (M5.out.2 0 (by simp)).1
  have yM1 : w3.cell? ⟨(w.heap.size + 1), 1, none⟩ = some (.int .i64 d) := (M5.out.2 1 (by simp)).1
  have hlM : (w.heap.size + 1) < w3.heap.size := M5.out.1
  go_wp2_with fail
  refine (in_impl _ _ _ _).mono ?_
  rintro e w4 ⟨rfl, e4⟩
  obtain rfl := e4.symm
  rw [show inB 0 0 5000 = true from rfl]
  go_wp2_with fail
  refine (beside_impl _ _ _ _ _).mono ?_
  rintro e w5 ⟨rfl, hb5⟩
  clear yA0 yA1 yA2 yA3 yA4 yA5 hlA yM0 yM1 hlM
  have B6 : Hid (Below w.heap.size w w5) := bthen B5.out hb5
  have A6 : Hid (Bk w5 w.heap.size [.int .i64 k, .slice aW nW cW, .int .i64 0, .slice (some ⟨gO, 0, none⟩) 2 cO, .slice (some ⟨gX, 0, none⟩) 2 cX, .slice (some ⟨gI, 0, none⟩) 2 cI]) := A5.out.below hb5
  have M6 : Hid (Bk w5 (w.heap.size + 1) [.int .i64 c, .int .i64 d]) := M5.out.below hb5
  clear B5 A5 M5
  clear hb5
  by_cases hs : sideF c d k 1 = -1
  · rw [hs]
    go_wp2
    go_ret
    exact ⟨rfl, B6.out⟩
  · obtain ⟨sf, esf⟩ : ∃ z, z = sideF c d k 1 := ⟨_, rfl⟩
    rw [← esf] at hs ⊢
    clear esf
    go_wp2
    refine wp_loop_rounds 1 ?_
    rw [rounds_succ]
    go_wp2
    go_ret
    exact ⟨rfl, B6.out⟩

set_option maxHeartbeats 4000000 in
theorem cllOk_new (c d k : Int) (aW : Option Addr) (nW cW : Nat) (W : Nat → Nat → Int) (gO cO gX cX gI cI : Nat) (s0 s1 : Option Addr) (t0 t1 : Nat) (hn : nW ≤ 1048576) (hh : hasB c d k = true) (hal : allB c d W nW = true) (hc : ∀ i, i < nW → cellF c d (W i 1) = k) (w : World) (h : New w aW nW W gO gX gI s0 s1 t0 t1) :
    Calls Try.prog 11 #[.agg #[.int .i64 c, .int .i64 d], .agg #[.int .i64 k, .slice aW nW cW, .int .i64 0, .slice (some ⟨gO, 0, none⟩) 2 cO, .slice (some ⟨gX, 0, none⟩) 2 cX, .slice (some ⟨gI, 0, none⟩) 2 cI]] w fun e w' => e = .returned (.bool true) ∧ Below w.heap.size w w' := by
  have HN : Hid (New w aW nW W gO gX gI s0 s1 t0 t1) := h
  have HC : Hid (∀ i, i < nW → cellF c d (W i 1) = k) := hc
  clear h hc
  go_enter Try.func11, Try.ntmps11
  go_wp2_with fail
  obtain ⟨w0, e0⟩ : ∃ w0, w0 = (w.alloc (.cells #[.int .i64 c, .int .i64 d] 24)).alloc (.cells #[.int .i64 k, .slice aW nW cW, .int .i64 0, .slice (some ⟨gO, 0, none⟩) 2 cO, .slice (some ⟨gX, 0, none⟩) 2 cX, .slice (some ⟨gI, 0, none⟩) 2 cI] 31) := ⟨_, rfl⟩
  have B1 : Hid (Below w.heap.size w w0) := by rw [e0]; exact ((Below.refl _ _).alloc (by simp) _).alloc (by simp) _
  have M2 : Hid (Bk w0 w.heap.size [.int .i64 c, .int .i64 d]) := by rw [e0]; exact (bk_new w 24 [.int .i64 c, .int .i64 d]).below ((Below.refl _ _).alloc (Nat.le_refl _) _)
  have A3 : Hid (Bk w0 (w.heap.size + 1) [.int .i64 k, .slice aW nW cW, .int .i64 0, .slice (some ⟨gO, 0, none⟩) 2 cO, .slice (some ⟨gX, 0, none⟩) 2 cX, .slice (some ⟨gI, 0, none⟩) 2 cI]) := by rw [e0]; have := bk_new (w.alloc (.cells #[.int .i64 c, .int .i64 d] 24)) 31 [.int .i64 k, .slice aW nW cW, .int .i64 0, .slice (some ⟨gO, 0, none⟩) 2 cO, .slice (some ⟨gX, 0, none⟩) 2 cX, .slice (some ⟨gI, 0, none⟩) 2 cI]; rwa [show (w.alloc (.cells #[.int .i64 c, .int .i64 d] 24)).heap.size = w.heap.size + 1 by simp] at this
  rw [← e0]
  clear e0
  refine (has_impl _ _ _ _).mono ?_
  rintro e w1 ⟨rfl, hb1⟩
  have B4 : Hid (Below w.heap.size w w1) := bthen B1.out hb1
  have M4 : Hid (Bk w1 w.heap.size [.int .i64 c, .int .i64 d]) := M2.out.below hb1
  have A4 : Hid (Bk w1 (w.heap.size + 1) [.int .i64 k, .slice aW nW cW, .int .i64 0, .slice (some ⟨gO, 0, none⟩) 2 cO, .slice (some ⟨gX, 0, none⟩) 2 cX, .slice (some ⟨gI, 0, none⟩) 2 cI]) := A3.out.below hb1
  clear B1 M2 A3
  clear hb1
  rw [hh]
  have yM0 : w1.cell? ⟨w.heap.size, 0, none⟩ = some (.int .i64 c) := (M4.out.2 0 (by simp)).1
  have yM1 : w1.cell? ⟨w.heap.size, 1, none⟩ = some (.int .i64 d) := (M4.out.2 1 (by simp)).1
  have hlM : w.heap.size < w1.heap.size := M4.out.1
  have yA0 : w1.cell? ⟨(w.heap.size + 1), 0, none⟩ = some (.int .i64 k) := (A4.out.2 0 (by simp)).1
  have yA1 : w1.cell? ⟨(w.heap.size + 1), 1, none⟩ = some (.slice aW nW cW) := (A4.out.2 1 (by simp)).1
  have yA2 : w1.cell? ⟨(w.heap.size + 1), 2, none⟩ = some (.int .i64 0) := (A4.out.2 2 (by simp)).1
  have yA3 : w1.cell? ⟨(w.heap.size + 1), 3, none⟩ = some (.slice (some ⟨gO, 0, none⟩) 2 cO) := (A4.out.2 3 (by simp)).1
  have yA4 : w1.cell? ⟨(w.heap.size + 1), 4, none⟩ = some (.slice (some ⟨gX, 0, none⟩) 2 cX) := (A4.out.2 4 (by simp)).1
  have yA5 : w1.cell? ⟨(w.heap.size + 1), 5, none⟩ = some (.slice (some ⟨gI, 0, none⟩) 2 cI) := (A4.out.2 5 (by simp)).1
  have hlA : (w.heap.size + 1) < w1.heap.size := A4.out.1
  go_wp2_with fail
  refine (walkersOk_new c d k aW nW cW W gO cO gX cX gI cI s0 s1 t0 t1 hn hal HC.out _ (HN.out.below B4.out)).mono ?_
  rintro e w2 ⟨rfl, hb2⟩
  clear yM0 yM1 hlM yA0 yA1 yA2 yA3 yA4 yA5 hlA
  have B5 : Hid (Below w.heap.size w w2) := bthen B4.out hb2
  have M5 : Hid (Bk w2 w.heap.size [.int .i64 c, .int .i64 d]) := M4.out.below hb2
  have A5 : Hid (Bk w2 (w.heap.size + 1) [.int .i64 k, .slice aW nW cW, .int .i64 0, .slice (some ⟨gO, 0, none⟩) 2 cO, .slice (some ⟨gX, 0, none⟩) 2 cX, .slice (some ⟨gI, 0, none⟩) 2 cI]) := A4.out.below hb2
  clear B4 M4 A4
  clear hb2
  have yM0 : w2.cell? ⟨w.heap.size, 0, none⟩ = some (.int .i64 c) := (M5.out.2 0 (by simp)).1
  have yM1 : w2.cell? ⟨w.heap.size, 1, none⟩ = some (.int .i64 d) := (M5.out.2 1 (by simp)).1
  have hlM : w.heap.size < w2.heap.size := M5.out.1
  have yA0 : w2.cell? ⟨(w.heap.size + 1), 0, none⟩ = some (.int .i64 k) := (A5.out.2 0 (by simp)).1
  have yA1 : w2.cell? ⟨(w.heap.size + 1), 1, none⟩ = some (.slice aW nW cW) := (A5.out.2 1 (by simp)).1
  have yA2 : w2.cell? ⟨(w.heap.size + 1), 2, none⟩ = some (.int .i64 0) := (A5.out.2 2 (by simp)).1
  have yA3 : w2.cell? ⟨(w.heap.size + 1), 3, none⟩ = some (.slice (some ⟨gO, 0, none⟩) 2 cO) := (A5.out.2 3 (by simp)).1
  have yA4 : w2.cell? ⟨(w.heap.size + 1), 4, none⟩ = some (.slice (some ⟨gX, 0, none⟩) 2 cX) := (A5.out.2 4 (by simp)).1
  have yA5 : w2.cell? ⟨(w.heap.size + 1), 5, none⟩ = some (.slice (some ⟨gI, 0, none⟩) 2 cI) := (A5.out.2 5 (by simp)).1
  have hlA : (w.heap.size + 1) < w2.heap.size := A5.out.1
  go_wp2_with fail
  refine (in_impl _ _ _ _).mono ?_
  rintro e w9 ⟨rfl, e9⟩
  obtain rfl := e9.symm
  rw [show inB 0 0 900 = true from rfl]
  go_wp2_with fail
  refine (sideOk_new0 c d k aW nW cW W gO cO gX cX gI cI s0 s1 t0 t1 hh _ (HN.out.below B5.out)).mono ?_
  rintro e w3 ⟨rfl, hb3⟩
  clear yM0 yM1 hlM yA0 yA1 yA2 yA3 yA4 yA5 hlA
  have B6 : Hid (Below w.heap.size w w3) := bthen B5.out hb3
  have M6 : Hid (Bk w3 w.heap.size [.int .i64 c, .int .i64 d]) := M5.out.below hb3
  have A6 : Hid (Bk w3 (w.heap.size + 1) [.int .i64 k, .slice aW nW cW, .int .i64 0, .slice (some ⟨gO, 0, none⟩) 2 cO, .slice (some ⟨gX, 0, none⟩) 2 cX, .slice (some ⟨gI, 0, none⟩) 2 cI]) := A5.out.below hb3
  clear B5 M5 A5
  clear hb3
  have yM0 : w3.cell? ⟨w.heap.size, 0, none⟩ = some (.int .i64 c) := (M6.out.2 0 (by simp)).1
  have yM1 : w3.cell? ⟨w.heap.size, 1, none⟩ = some (.int .i64 d) := (M6.out.2 1 (by simp)).1
  have hlM : w.heap.size < w3.heap.size := M6.out.1
  have yA0 : w3.cell? ⟨(w.heap.size + 1), 0, none⟩ = some (.int .i64 k) := (A6.out.2 0 (by simp)).1
  have yA1 : w3.cell? ⟨(w.heap.size + 1), 1, none⟩ = some (.slice aW nW cW) := (A6.out.2 1 (by simp)).1
  have yA2 : w3.cell? ⟨(w.heap.size + 1), 2, none⟩ = some (.int .i64 0) := (A6.out.2 2 (by simp)).1
  have yA3 : w3.cell? ⟨(w.heap.size + 1), 3, none⟩ = some (.slice (some ⟨gO, 0, none⟩) 2 cO) := (A6.out.2 3 (by simp)).1
  have yA4 : w3.cell? ⟨(w.heap.size + 1), 4, none⟩ = some (.slice (some ⟨gX, 0, none⟩) 2 cX) := (A6.out.2 4 (by simp)).1
  have yA5 : w3.cell? ⟨(w.heap.size + 1), 5, none⟩ = some (.slice (some ⟨gI, 0, none⟩) 2 cI) := (A6.out.2 5 (by simp)).1
  have hlA : (w.heap.size + 1) < w3.heap.size := A6.out.1
  go_wp2_with fail
  refine (sideOk_new1 c d k aW nW cW W gO cO gX cX gI cI s0 s1 t0 t1 hh _ (HN.out.below B6.out)).mono ?_
  rintro e w4 ⟨rfl, hb4⟩
  clear yM0 yM1 hlM yA0 yA1 yA2 yA3 yA4 yA5 hlA
  have B7 : Hid (Below w.heap.size w w4) := bthen B6.out hb4
  have M7 : Hid (Bk w4 w.heap.size [.int .i64 c, .int .i64 d]) := M6.out.below hb4
  have A7 : Hid (Bk w4 (w.heap.size + 1) [.int .i64 k, .slice aW nW cW, .int .i64 0, .slice (some ⟨gO, 0, none⟩) 2 cO, .slice (some ⟨gX, 0, none⟩) 2 cX, .slice (some ⟨gI, 0, none⟩) 2 cI]) := A6.out.below hb4
  clear B6 M6 A6
  clear hb4
  go_wp2
  go_ret
  exact ⟨rfl, B7.out⟩
end Go.Proofs.Ytjllgmkficjiaaa
