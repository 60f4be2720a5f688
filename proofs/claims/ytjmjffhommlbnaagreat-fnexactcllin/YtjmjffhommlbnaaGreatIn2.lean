/- What happens in a scene: a number of the next parcel, coins on the ground, a walker in the map; conditions: the scene lies in memory. -/
import Derived.Test.YtjmjffhommlbnaaGreatAck1
import Derived.Test.YtjmjffhommlbnaaGreatByKey
import Derived.Test.YtjmjffhommlbnaaGreatCCp
namespace Go.Proofs.YtjmjffhommlbnaaGreat
open Go.RowKit Go.Deep
set_option linter.unusedVariables false

/-- A cell with other walkers. -/
def CV.with (V : CV) (n : Nat) (Z : Nat → Nat → Int) : CV := { V with nW := n, W := Z }

set_option maxRecDepth 20000 in
set_option maxHeartbeats 4000000 in
theorem told_impl (c d : Int) (s b lo : Nat) (V : CV) (n : Nat) (M : Int → Option (Nat → Int)) (L : List Int) (Z : Nat → Nat → Int) (hn : n ≤ 1048576) (hL : L.Pairwise (· < ·)) (hm : ∀ z, z ∈ L ↔ (M z).isSome = true) (hZ0 : ∀ k, k < L.length → Z k = (M L[k]!).getD fun _ => 0) (hln : L.length ≤ 1048576) (w : World) (h : Sc w c d s b lo V n M) :
    Calls Tryz.prog 29 #[.pointer (some ⟨s, 0, none⟩)] w fun e w' => (∃ v, e = .returned v ∧ OwnC lo w'.heap.size w' v (V.with L.length Z)) ∧ Below lo w w' := by
  obtain ⟨aW, kW, kO, aX, kX, aI, kI, gW, gO, gX, gI, sl, xs, hN, rW, rX, rI, hO, hM, ⟨l1, l2, l3, l4, l5, l6, l7, l8⟩, hd, hx1, hx2⟩ := h
  have hlo : lo ≤ w.heap.size := by omega
  have NI : Hid (Nine w s [.int .i64 c, .int .i64 d, .int .i64 V.c, .slice aW V.nW kW, .int .i64 V.g, .slice (some ⟨gO, 0, none⟩) V.nO kO, .slice aX V.nX kX, .slice aI V.nI kI, .map (some b)]) := hN
  have RXH : Hid (RI lo w.heap.size w (.slice aX V.nX kX) V.nX V.X gX) := rX
  have RIH : Hid (RI lo w.heap.size w (.slice aI V.nI kI) V.nI V.I gI) := rI
  have OH : Hid (∀ k, k < V.nO → w.cell? ⟨gO, k, none⟩ = some (sl k) ∧ w.frozen? ⟨gO, k, none⟩ = false ∧ RP lo w.heap.size w (sl k) (V.N k) (V.O k) (xs k)) := hO
  have MH : Hid (Wm w b n M) := hM
  have DH : Hid _ := hd
  have X1 : Hid _ := hx1
  have X2 : Hid _ := hx2
  have n8 : w.cell? ⟨s, 8, none⟩ = some (.map (some b)) := (hN 8 (by decide)).1
  clear hN rW rX rI hO hM hd hx1 hx2
  go_enter Tryz.func29, Tryz.ntmps29
  go_wp2_with fail
  obtain ⟨w0, e0⟩ : ∃ w0, w0 = w.alloc (.cells #[.int .i64 0, .slice none 0 0, .int .i64 0, .slice none 0 0, .slice none 0 0, .slice none 0 0] 37) := ⟨_, rfl⟩
  have hb0 : Below w.heap.size w w0 := by rw [e0]; exact (Below.refl _ _).alloc (Nat.le_refl _) _
  have R0 : Hid (Six w0 w.heap.size [.int .i64 0, .slice none 0 0, .int .i64 0, .slice none 0 0, .slice none 0 0, .slice none 0 0]) := by rw [e0]; exact six_new w 37 (.int .i64 0) (.slice none 0 0) (.int .i64 0) (.slice none 0 0) (.slice none 0 0) (.slice none 0 0)
  have z0 : w.heap.size + 1 ≤ w0.heap.size := by rw [e0]; simp
  rw [← e0]
  clear e0 n8
  refine (byKey b n M L Z hn hL hm hZ0 hln w0 (MH.out.below MH.out.lt hb0)).mono ?_
  rintro e w1 ⟨⟨v, g, rfl, hRW⟩, hb1⟩
  obtain ⟨ua, uc, rfl, hua⟩ := hRW.is
  have HRW : Hid (RW w0.heap.size w1.heap.size w1 (.slice ua L.length uc) L.length Z g) := hRW
  have B1 : Hid (Below w.heap.size w w1) := bthen hb0 hb1
  have N1 : Hid (Nine w1 s [.int .i64 c, .int .i64 d, .int .i64 V.c, .slice aW V.nW kW, .int .i64 V.g, .slice (some ⟨gO, 0, none⟩) V.nO kO, .slice aX V.nX kX, .slice aI V.nI kI, .map (some b)]) := NI.out.sm (sm_below B1.out l4)
  have R1 : Hid (Six w1 w.heap.size [.int .i64 0, .slice none 0 0, .int .i64 0, .slice none 0 0, .slice none 0 0, .slice none 0 0]) := R0.out.below (by omega) hb1
  have z1 : w0.heap.size ≤ w1.heap.size := hb1.size
  clear hRW hb1 hb0 hua NI R0
  have n2 : w1.cell? ⟨s, 2, none⟩ = some (.int .i64 V.c) := (N1.out 2 (by decide)).1
  have n3 : w1.cell? ⟨s, 3, none⟩ = some (.slice aW V.nW kW) := (N1.out 3 (by decide)).1
  have n4 : w1.cell? ⟨s, 4, none⟩ = some (.int .i64 V.g) := (N1.out 4 (by decide)).1
  have n5 : w1.cell? ⟨s, 5, none⟩ = some (.slice (some ⟨gO, 0, none⟩) V.nO kO) := (N1.out 5 (by decide)).1
  have n6 : w1.cell? ⟨s, 6, none⟩ = some (.slice aX V.nX kX) := (N1.out 6 (by decide)).1
  have n7 : w1.cell? ⟨s, 7, none⟩ = some (.slice aI V.nI kI) := (N1.out 7 (by decide)).1
  have n8 : w1.cell? ⟨s, 8, none⟩ = some (.map (some b)) := (N1.out 8 (by decide)).1
  have f3 : w1.frozen? ⟨s, 3, none⟩ = false := (N1.out 3 (by decide)).2
  have r0 : w1.cell? ⟨w.heap.size, 0, none⟩ = some (.int .i64 0) := (R1.out 0 (by decide)).1
  have q0 : w1.frozen? ⟨w.heap.size, 0, none⟩ = false := (R1.out 0 (by decide)).2
  have r1 : w1.cell? ⟨w.heap.size, 1, none⟩ = some (.slice none 0 0) := (R1.out 1 (by decide)).1
  have q1 : w1.frozen? ⟨w.heap.size, 1, none⟩ = false := (R1.out 1 (by decide)).2
  have r2 : w1.cell? ⟨w.heap.size, 2, none⟩ = some (.int .i64 0) := (R1.out 2 (by decide)).1
  have q2 : w1.frozen? ⟨w.heap.size, 2, none⟩ = false := (R1.out 2 (by decide)).2
  have r3 : w1.cell? ⟨w.heap.size, 3, none⟩ = some (.slice none 0 0) := (R1.out 3 (by decide)).1
  have q3 : w1.frozen? ⟨w.heap.size, 3, none⟩ = false := (R1.out 3 (by decide)).2
  have r4 : w1.cell? ⟨w.heap.size, 4, none⟩ = some (.slice none 0 0) := (R1.out 4 (by decide)).1
  have q4 : w1.frozen? ⟨w.heap.size, 4, none⟩ = false := (R1.out 4 (by decide)).2
  have r5 : w1.cell? ⟨w.heap.size, 5, none⟩ = some (.slice none 0 0) := (R1.out 5 (by decide)).1
  have q5 : w1.frozen? ⟨w.heap.size, 5, none⟩ = false := (R1.out 5 (by decide)).2
  have ls : s < w1.heap.size := by omega
  have lr : w.heap.size < w1.heap.size := by omega
  have hsr : ¬ s = w.heap.size := by omega
  go_wp2
  refine bodyPost_ret (v := .agg #[.int .i64 V.c, .slice ua L.length uc, .int .i64 V.g, .slice (some ⟨gO, 0, none⟩) V.nO kO, .slice aX V.nX kX, .slice aI V.nI kI]) (by simp [results, Tryz.results29, go_sem, r0, r1, r2, r3, r4, r5]) rfl ?_
  have hS : ∀ x, ¬ s = x → ¬ w.heap.size = x → Sm w1 (put6 (w1.setCell ⟨s, 3, none⟩ (.slice ua L.length uc)) w.heap.size (.int .i64 V.c) (.slice ua L.length uc) (.int .i64 V.g) (.slice (some ⟨gO, 0, none⟩) V.nO kO) (.slice aX V.nX kX) (.slice aI V.nI kI)) x := fun x h1 h2 => Sm.trans (fun o => ⟨set_out (fun e => h1 e.1), set_frozen⟩) (sm_put6 h2 (.int .i64 V.c) (.slice ua L.length uc) (.int .i64 V.g) (.slice (some ⟨gO, 0, none⟩) V.nO kO) (.slice aX V.nX kX) (.slice aI V.nI kI))
  have hzz : (put6 (w1.setCell ⟨s, 3, none⟩ (.slice ua L.length uc)) w.heap.size (.int .i64 V.c) (.slice ua L.length uc) (.int .i64 V.g) (.slice (some ⟨gO, 0, none⟩) V.nO kO) (.slice aX V.nX kX) (.slice aI V.nI kI)).heap.size = w1.heap.size := (size_put6 (w1.setCell ⟨s, 3, none⟩ (.slice ua L.length uc)) w.heap.size (.int .i64 V.c) (.slice ua L.length uc) (.int .i64 V.g) (.slice (some ⟨gO, 0, none⟩) V.nO kO) (.slice aX V.nX kX) (.slice aI V.nI kI)).trans set_size
  have hbb : Below lo w (put6 (w1.setCell ⟨s, 3, none⟩ (.slice ua L.length uc)) w.heap.size (.int .i64 V.c) (.slice ua L.length uc) (.int .i64 V.g) (.slice (some ⟨gO, 0, none⟩) V.nO kO) (.slice aX V.nX kX) (.slice aI V.nI kI)) := below_put6 ((B1.out.mono hlo).setCell l3 _) hlo (.int .i64 V.c) (.slice ua L.length uc) (.int .i64 V.g) (.slice (some ⟨gO, 0, none⟩) V.nO kO) (.slice aX V.nX kX) (.slice aI V.nI kI)
  refine ⟨⟨_, rfl, ?_⟩, hbb⟩
  show OwnC lo (put6 (w1.setCell ⟨s, 3, none⟩ (.slice ua L.length uc)) w.heap.size (.int .i64 V.c) (.slice ua L.length uc) (.int .i64 V.g) (.slice (some ⟨gO, 0, none⟩) V.nO kO) (.slice aX V.nX kX) (.slice aI V.nI kI)).heap.size (put6 (w1.setCell ⟨s, 3, none⟩ (.slice ua L.length uc)) w.heap.size (.int .i64 V.c) (.slice ua L.length uc) (.int .i64 V.g) (.slice (some ⟨gO, 0, none⟩) V.nO kO) (.slice aX V.nX kX) (.slice aI V.nI kI)) _ _
  rw [hzz]
  have hSw : ∀ x, x < w.heap.size → ¬ s = x → Sm w (put6 (w1.setCell ⟨s, 3, none⟩ (.slice ua L.length uc)) w.heap.size (.int .i64 V.c) (.slice ua L.length uc) (.int .i64 V.g) (.slice (some ⟨gO, 0, none⟩) V.nO kO) (.slice aX V.nX kX) (.slice aI V.nI kI)) x := fun x h1 h2 => (sm_below B1.out h1).trans (hS x h2 (by omega))
  obtain ⟨d1, d2, d3, d4, d5, d6⟩ := DH.out
  have inX := fun e => RXH.out.in e
  have inI := fun e => RIH.out.in e
  have inP := fun k hk e => (OH.out k hk).2.2.in e
  have inG := fun e => HRW.out.in e
  exact ownC_any (V := V.with L.length Z) (gW := g) (gO := gO) (gX := gX) (gI := gI) (sl := sl) (xs := xs) (HRW.out.go (by omega) (Nat.le_refl _) (Nat.le_of_eq hzz.symm) (fun _ h1 h2 => hS g (by omega) (by omega))) l1 (by omega) (Nat.le_of_eq hzz.symm)
    (fun k hk => ⟨(hSw gO l2 (fun e => l7 e.symm) k).1.trans (OH.out k hk).1, (OH.out k hk).2.2.go (Nat.le_refl _) (by omega) (Nat.le_of_eq hzz.symm) (fun e _ h => hSw _ h (fun h' => (X1.out k hk e).1.1 h'.symm))⟩)
    (RXH.out.go (Nat.le_refl _) (by omega) (Nat.le_of_eq hzz.symm) (fun e _ h => hSw _ h (fun h' => (d2 e).1 h'.symm))) (RIH.out.go (Nat.le_refl _) (by omega) (Nat.le_of_eq hzz.symm) (fun e _ h => hSw _ h (fun h' => (d3 e).1 h'.symm)))
    (fun e => by have := inG e; omega) (fun e e2 => by have := inG e; have := inX e2; omega) (fun e e2 => by have := inG e; have := inI e2; omega) (fun e => (d2 e).2.2) (fun e => (d3 e).2.2) d6
    (fun k hk e => ⟨fun e2 => by have := inG e2; have := inP k hk e; omega, (X1.out k hk e).1.2.2, (X1.out k hk e).2.2.1, (X1.out k hk e).2.2.2⟩) (fun i j hij hj n1 n2 => X2.out i j hij hj n1 n2)


theorem bthenN {n : Nat} {a b c : World} (h : Below n a b) (hn : n ≤ a.heap.size) (k : Below b.heap.size b c) : Below n a c := h.trans (k.mono (Nat.le_trans hn h.size))
theorem bcellN {n : Nat} {W w1 : World} (hb : Below n W w1) : (∀ b o, b < n → w1.cell? ⟨b, o, none⟩ = W.cell? ⟨b, o, none⟩) ∧ (∀ b o, b < n → w1.frozen? ⟨b, o, none⟩ = W.frozen? ⟨b, o, none⟩) :=
  ⟨fun b o h => hb.cell (p := ⟨b, o, none⟩) h, fun b o h => hb.frozen (p := ⟨b, o, none⟩) h⟩
theorem bthenW {n : Nat} {a b c : World} (h : Below a.heap.size a b) (k : Below n b c) (hn : a.heap.size ≤ n := by omega) : Below a.heap.size a c := h.trans (k.mono hn)

/-- Block b of W begins with these values, and may be written. -/
def Bk (W : World) (b : Nat) (l : List Value) : Prop := b < W.heap.size ∧ ∀ i, i < l.length → W.cell? ⟨b, i, none⟩ = some (l.getD i undef) ∧ W.frozen? ⟨b, i, none⟩ = false

theorem Bk.below {W W' : World} {b : Nat} {l : List Value} (h : Bk W b l) (k : Below W.heap.size W W') : Bk W' b l := ⟨Nat.lt_of_lt_of_le h.1 k.size, fun i hi => by
  rw [k.cell (p := ⟨b, i, none⟩) h.1, k.frozen (p := ⟨b, i, none⟩) h.1]; exact h.2 i hi⟩

theorem Bk.far {W : World} {b g j : Nat} {l : List Value} {v : Value} (h : Bk W b l) (hn : ¬ g = b) : Bk (W.setCell ⟨g, j, none⟩ v) b l := ⟨by rw [set_size]; exact h.1, fun i hi => by
  rw [set_out (fun e => hn e.1), set_frozen]; exact h.2 i hi⟩

theorem Bk.set {W : World} {b j : Nat} {l : List Value} {v : Value} (h : Bk W b l) (hj : j < l.length) : Bk (W.setCell ⟨b, j, none⟩ v) b (l.set j v) := ⟨by rw [set_size]; exact h.1, fun i hi => by
  rw [List.length_set] at hi
  rw [set_frozen]
  refine ⟨?_, (h.2 i hi).2⟩
  by_cases e : j = i
  · subst e
    rw [set_in (by rw [(h.2 j hj).1]; rfl)]
    simp [List.getD, hj]
  · rw [set_out (fun k => e k.2), (h.2 i hi).1]
    simp [List.getD, e]⟩

theorem bk_new (W : World) (t : TypeId) (l : List Value) : Bk (W.alloc (.cells l.toArray t)) W.heap.size l := ⟨by simp, fun i hi => by
  have e : l.getD i undef = l[i] := by simp [List.getD, List.getElem?_eq_getElem hi]
  rw [e]
  exact ⟨by simp [hi], by simp⟩⟩

theorem Bk.sm {W W' : World} {b : Nat} {l : List Value} (h : Bk W b l) (hz : W.heap.size ≤ W'.heap.size) (k : Sm W W' b) : Bk W' b l :=
  ⟨Nat.lt_of_lt_of_le h.1 hz, fun i hi => by rw [(k i).1, (k i).2]; exact h.2 i hi⟩

/-- The block b, from k on, written with these values. -/
def putL (b : Nat) : List Value → Nat → World → World
  | [], _, W => W
  | v :: l, k, W => putL b l (k + 1) (W.setCell ⟨b, k, none⟩ v)

theorem size_put (b : Nat) : ∀ (l : List Value) (k : Nat) (W : World), (putL b l k W).heap.size = W.heap.size
  | [], _, _ => rfl
  | v :: l, k, W => by rw [putL, size_put b l, set_size]

theorem sm_put {b c : Nat} (h : ¬ c = b) : ∀ (l : List Value) (k : Nat) (W : World), Sm W (putL b l k W) c
  | [], _, W => Sm.refl W c
  | v :: l, k, W => Sm.trans (fun o => ⟨set_out (fun e => h e.1.symm), set_frozen⟩) (sm_put h l (k + 1) _)

theorem below_put {n b : Nat} {A : World} (h : n ≤ b) : ∀ (l : List Value) (k : Nat) {W : World}, Below n A W → Below n A (putL b l k W)
  | [], _, _, hb => hb
  | v :: l, k, W, hb => below_put h l (k + 1) (hb.setCell h v)

theorem cell_put {b : Nat} : ∀ (l : List Value) (k : Nat) (W : World), (∀ i, i < l.length → (W.cell? ⟨b, k + i, none⟩).isSome = true) → ∀ i, i < l.length → (putL b l k W).cell? ⟨b, k + i, none⟩ = some (l.getD i undef)
  | [], _, _, _, i, hi => absurd hi (by simp)
  | v :: l, k, W, h, i, hi => by
    rw [putL]
    have h0 : ∀ (l : List Value) (m : Nat) (W : World) (j : Nat), j < m → (putL b l m W).cell? ⟨b, j, none⟩ = W.cell? ⟨b, j, none⟩ := by
      intro l
      induction l with
      | nil => intro m W j _; rfl
      | cons u l ih => intro m W j hj; rw [putL, ih (m + 1) _ j (by omega), set_out (by omega)]
    by_cases e : i = 0
    · subst e
      show (putL b l (k + 1) (W.setCell ⟨b, k, none⟩ v)).cell? ⟨b, k, none⟩ = _
      rw [h0 l (k + 1) _ k (by omega), set_in (by simpa using h 0 (by simp))]
      rfl
    · obtain ⟨i, rfl⟩ : ∃ j, i = j + 1 := ⟨i - 1, by omega⟩
      have := cell_put l (k + 1) (W.setCell ⟨b, k, none⟩ v) (fun j hj => by
        rw [set_out (by omega), show k + 1 + j = k + (j + 1) by omega]; exact h (j + 1) (by simpa using hj)) i (by simpa using hi)
      rw [show k + (i + 1) = k + 1 + i by omega, this]
      rfl

theorem frozen_put {b c o : Nat} : ∀ (l : List Value) (k : Nat) (W : World), (putL b l k W).frozen? ⟨c, o, none⟩ = W.frozen? ⟨c, o, none⟩
  | [], _, _ => rfl
  | v :: l, k, W => by rw [putL, frozen_put l, set_frozen]

theorem bk_put {W : World} {b : Nat} {l l' : List Value} (h : Bk W b l') (hl : l.length = l'.length) : Bk (putL b l 0 W) b l :=
  ⟨by rw [size_put]; exact h.1, fun i hi => by
    have := cell_put l 0 W (fun j hj => by rw [Nat.zero_add, (h.2 j (by omega)).1]; rfl) i hi
    rw [Nat.zero_add] at this
    exact ⟨this, by rw [frozen_put]; exact (h.2 i (by omega)).2⟩⟩


/-- Whether there is room for what a parcel has. -/
def roomB (c d : Int) (V : CV) (M : Int → Option (Nat → Int)) (pk pi pa pc : Int) : Bool := if pk = 2 then decide (V.g + pc ≤ 900) else !(M pi).isSome && (cellF c d pa == V.c)

set_option maxHeartbeats 4000000 in
theorem hasRoom_impl (c d pn pk pi pa pm ps pl pc : Int) (s b lo : Nat) (V : CV) (n : Nat) (M : Int → Option (Nat → Int)) (hg : 0 ≤ V.g ∧ V.g ≤ 900) (hpc : 0 ≤ pc ∧ pc ≤ 900) (hwf : (Lit.int .i64 pi).wf = true) (w : World) (h : Sc w c d s b lo V n M) :
    Calls Tryz.prog 57 #[.pointer (some ⟨s, 0, none⟩), .agg #[.int .i64 pn, .int .i64 pk, .int .i64 pi, .int .i64 pa, .int .i64 pm, .int .i64 ps, .int .i64 pl, .int .i64 pc]] w fun e w' => e = .returned (.bool (roomB c d V M pk pi pa pc)) ∧ Below w.heap.size w w' := by
  obtain ⟨aW, kW, kO, aX, kX, aI, kI, gW, gO, gX, gI, sl, xs, hN, rW, rX, rI, hO, hM, ⟨l1, l2, l3, l4, l5, l6, l7, l8⟩, hd, hx1, hx2⟩ := h
  have HN : Hid (Nine w s [.int .i64 c, .int .i64 d, .int .i64 V.c, .slice aW V.nW kW, .int .i64 V.g, .slice (some ⟨gO, 0, none⟩) V.nO kO, .slice aX V.nX kX, .slice aI V.nI kI, .map (some b)]) := hN
  have HM : Hid (Wm w b n M) := hM
  have hbl : b < w.heap.size := hM.lt
  clear hN rW rX rI hO hM hd hx1 hx2
  by_cases hk : pk = 2
  · have hv : roomB c d V M pk pi pa pc = decide (V.g + pc ≤ 900) := by simp [roomB, hk]
    rw [hv]
    subst hk
    go_enter Tryz.func57, Tryz.ntmps57
    go_upto_region 1 with fail
    obtain ⟨w0, e0⟩ : ∃ w0, w0 = w.alloc (.cells #[.int .i64 pn, .int .i64 2, .int .i64 pi, .int .i64 pa, .int .i64 pm, .int .i64 ps, .int .i64 pl, .int .i64 pc] 45) := ⟨_, rfl⟩
    have hb0 : Below w.heap.size w w0 := by rw [e0]; exact (Below.refl _ _).alloc (Nat.le_refl _) _
    have X0 : Bk w0 w.heap.size [.int .i64 pn, .int .i64 2, .int .i64 pi, .int .i64 pa, .int .i64 pm, .int .i64 ps, .int .i64 pl, .int .i64 pc] := by rw [e0]; exact bk_new w 45 [.int .i64 pn, .int .i64 2, .int .i64 pi, .int .i64 pa, .int .i64 pm, .int .i64 ps, .int .i64 pl, .int .i64 pc]
    rw [← e0]
    clear e0
    have z0 := X0.1
    have B1 : Hid (Below w.heap.size w w0) := hb0
    have P2 : Hid (Bk w0 w.heap.size [.int .i64 pn, .int .i64 2, .int .i64 pi, .int .i64 pa, .int .i64 pm, .int .i64 ps, .int .i64 pl, .int .i64 pc]) := X0
    have M3 : Hid (Wm w0 b n M) := HM.out.below hbl hb0
    have S4 : Hid (Bk w0 s [.int .i64 c, .int .i64 d, .int .i64 V.c, .slice aW V.nW kW, .int .i64 V.g, .slice (some ⟨gO, 0, none⟩) V.nO kO, .slice aX V.nX kX, .slice aI V.nI kI, .map (some b)]) := ⟨by omega, fun i hi => by rw [(sm_below hb0 l4 i).1, (sm_below hb0 l4 i).2]; exact HN.out i (by simpa using hi)⟩
    clear X0 hb0 HM HN
    have yP0 : w0.cell? ⟨w.heap.size, 0, none⟩ = some (.int .i64 pn) := (P2.out.2 0 (by simp)).1
    have yP1 : w0.cell? ⟨w.heap.size, 1, none⟩ = some (.int .i64 2) := (P2.out.2 1 (by simp)).1
    have yP2 : w0.cell? ⟨w.heap.size, 2, none⟩ = some (.int .i64 pi) := (P2.out.2 2 (by simp)).1
    have yP3 : w0.cell? ⟨w.heap.size, 3, none⟩ = some (.int .i64 pa) := (P2.out.2 3 (by simp)).1
    have yP4 : w0.cell? ⟨w.heap.size, 4, none⟩ = some (.int .i64 pm) := (P2.out.2 4 (by simp)).1
    have yP5 : w0.cell? ⟨w.heap.size, 5, none⟩ = some (.int .i64 ps) := (P2.out.2 5 (by simp)).1
    have yP6 : w0.cell? ⟨w.heap.size, 6, none⟩ = some (.int .i64 pl) := (P2.out.2 6 (by simp)).1
    have yP7 : w0.cell? ⟨w.heap.size, 7, none⟩ = some (.int .i64 pc) := (P2.out.2 7 (by simp)).1
    have hlP : w.heap.size < w0.heap.size := P2.out.1
    have yS0 : w0.cell? ⟨s, 0, none⟩ = some (.int .i64 c) := (S4.out.2 0 (by simp)).1
    have yS1 : w0.cell? ⟨s, 1, none⟩ = some (.int .i64 d) := (S4.out.2 1 (by simp)).1
    have yS2 : w0.cell? ⟨s, 2, none⟩ = some (.int .i64 V.c) := (S4.out.2 2 (by simp)).1
    have yS3 : w0.cell? ⟨s, 3, none⟩ = some (.slice aW V.nW kW) := (S4.out.2 3 (by simp)).1
    have yS4 : w0.cell? ⟨s, 4, none⟩ = some (.int .i64 V.g) := (S4.out.2 4 (by simp)).1
    have yS5 : w0.cell? ⟨s, 5, none⟩ = some (.slice (some ⟨gO, 0, none⟩) V.nO kO) := (S4.out.2 5 (by simp)).1
    have yS6 : w0.cell? ⟨s, 6, none⟩ = some (.slice aX V.nX kX) := (S4.out.2 6 (by simp)).1
    have yS7 : w0.cell? ⟨s, 7, none⟩ = some (.slice aI V.nI kI) := (S4.out.2 7 (by simp)).1
    have yS8 : w0.cell? ⟨s, 8, none⟩ = some (.map (some b)) := (S4.out.2 8 (by simp)).1
    have hlS : s < w0.heap.size := S4.out.1
    go_wp2
    go_region
    go_wp2
    go_ret
    exact ⟨by simp, by repeat (first | exact B1.out | apply Below.drew | apply bdrewN)⟩
  have hk1 : (pk == 2) = false := by simp [hk]
  have hv : roomB c d V M pk pi pa pc = (!(M pi).isSome && (cellF c d pa == V.c)) := by simp [roomB, hk]
  rw [hv]
  clear hv
  obtain ⟨Y, eY⟩ : ∃ Y, Y = ((M pi).getD fun _ => 0) := ⟨_, rfl⟩
  obtain ⟨t, et⟩ : ∃ t, t = (M pi).isSome := ⟨_, rfl⟩
  rw [← et]
  have EY : Hid (Y = ((M pi).getD fun _ => 0)) := eY
  have ET : Hid (t = (M pi).isSome) := et
  clear eY et
  go_enter Tryz.func57, Tryz.ntmps57
  go_upto_region 1 with fail
  obtain ⟨w0, e0⟩ : ∃ w0, w0 = w.alloc (.cells #[.int .i64 pn, .int .i64 pk, .int .i64 pi, .int .i64 pa, .int .i64 pm, .int .i64 ps, .int .i64 pl, .int .i64 pc] 45) := ⟨_, rfl⟩
  have hb0 : Below w.heap.size w w0 := by rw [e0]; exact (Below.refl _ _).alloc (Nat.le_refl _) _
  have X0 : Bk w0 w.heap.size [.int .i64 pn, .int .i64 pk, .int .i64 pi, .int .i64 pa, .int .i64 pm, .int .i64 ps, .int .i64 pl, .int .i64 pc] := by rw [e0]; exact bk_new w 45 [.int .i64 pn, .int .i64 pk, .int .i64 pi, .int .i64 pa, .int .i64 pm, .int .i64 ps, .int .i64 pl, .int .i64 pc]
  rw [← e0]
  clear e0
  have z0 := X0.1
  have B5 : Hid (Below w.heap.size w w0) := hb0
  have P6 : Hid (Bk w0 w.heap.size [.int .i64 pn, .int .i64 pk, .int .i64 pi, .int .i64 pa, .int .i64 pm, .int .i64 ps, .int .i64 pl, .int .i64 pc]) := X0
  have M7 : Hid (Wm w0 b n M) := HM.out.below hbl hb0
  have S8 : Hid (Bk w0 s [.int .i64 c, .int .i64 d, .int .i64 V.c, .slice aW V.nW kW, .int .i64 V.g, .slice (some ⟨gO, 0, none⟩) V.nO kO, .slice aX V.nX kX, .slice aI V.nI kI, .map (some b)]) := ⟨by omega, fun i hi => by rw [(sm_below hb0 l4 i).1, (sm_below hb0 l4 i).2]; exact HN.out i (by simpa using hi)⟩
  clear X0 hb0 HM HN
  have yP0 : w0.cell? ⟨w.heap.size, 0, none⟩ = some (.int .i64 pn) := (P6.out.2 0 (by simp)).1
  have yP1 : w0.cell? ⟨w.heap.size, 1, none⟩ = some (.int .i64 pk) := (P6.out.2 1 (by simp)).1
  have yP2 : w0.cell? ⟨w.heap.size, 2, none⟩ = some (.int .i64 pi) := (P6.out.2 2 (by simp)).1
  have yP3 : w0.cell? ⟨w.heap.size, 3, none⟩ = some (.int .i64 pa) := (P6.out.2 3 (by simp)).1
  have yP4 : w0.cell? ⟨w.heap.size, 4, none⟩ = some (.int .i64 pm) := (P6.out.2 4 (by simp)).1
  have yP5 : w0.cell? ⟨w.heap.size, 5, none⟩ = some (.int .i64 ps) := (P6.out.2 5 (by simp)).1
  have yP6 : w0.cell? ⟨w.heap.size, 6, none⟩ = some (.int .i64 pl) := (P6.out.2 6 (by simp)).1
  have yP7 : w0.cell? ⟨w.heap.size, 7, none⟩ = some (.int .i64 pc) := (P6.out.2 7 (by simp)).1
  have hlP : w.heap.size < w0.heap.size := P6.out.1
  have yS0 : w0.cell? ⟨s, 0, none⟩ = some (.int .i64 c) := (S8.out.2 0 (by simp)).1
  have yS1 : w0.cell? ⟨s, 1, none⟩ = some (.int .i64 d) := (S8.out.2 1 (by simp)).1
  have yS2 : w0.cell? ⟨s, 2, none⟩ = some (.int .i64 V.c) := (S8.out.2 2 (by simp)).1
  have yS3 : w0.cell? ⟨s, 3, none⟩ = some (.slice aW V.nW kW) := (S8.out.2 3 (by simp)).1
  have yS4 : w0.cell? ⟨s, 4, none⟩ = some (.int .i64 V.g) := (S8.out.2 4 (by simp)).1
  have yS5 : w0.cell? ⟨s, 5, none⟩ = some (.slice (some ⟨gO, 0, none⟩) V.nO kO) := (S8.out.2 5 (by simp)).1
  have yS6 : w0.cell? ⟨s, 6, none⟩ = some (.slice aX V.nX kX) := (S8.out.2 6 (by simp)).1
  have yS7 : w0.cell? ⟨s, 7, none⟩ = some (.slice aI V.nI kI) := (S8.out.2 7 (by simp)).1
  have yS8 : w0.cell? ⟨s, 8, none⟩ = some (.map (some b)) := (S8.out.2 8 (by simp)).1
  have hlS : s < w0.heap.size := S8.out.1
  have HL : Hid (∀ wx, Below w0.heap.size w0 wx → (Instr.lookup 90 (.map (some b)) (.int .i64 pi) true).run Tryz.prog wx = .ok (.tuple #[.agg #[.int .i64 (Y 0), .int .i64 (Y 1), .int .i64 (Y 2), .int .i64 (Y 3), .int .i64 (Y 4)], .bool t]) wx) := fun wx hx => by
    rw [(M7.out.below (by omega) hx).look hwf, ← EY.out, ← ET.out]; rfl
  clear EY ET
  go_upto_region 3 with fail
  go_cut [5, 6] (fun p q wx => ∃ g, .pointer (some ⟨g, 0, none⟩) = p ∧ .bool t = q ∧ Below w0.heap.size w0 wx)
  case first =>
    refine wp_region_held_drew (S := fun w' => Below (w0.heap.size) w0 w') (by kernel_rfl) ((Below.refl _ _).drew) ?_
    intro hHeld
    obtain ⟨X0, hX0⟩ : ∃ X, X = w0.drew := ⟨_, rfl⟩
    have hz0 : w0.heap.size ≤ X0.heap.size := by rw [hX0]; exact Nat.le_refl _
    rw [← hX0] at hHeld ⊢
    clear hX0
    refine wpAnyH_take (i := 0) (v := .pointer (some ⟨s, 0, none⟩)) rfl (by kernel_rfl) (by kernel_rfl) (by kernel_rfl) (fun _ _ _ h => h) (Or.inl ⟨by rfl, ?_⟩) (by assumption) ?_
    · intro wx hSw; obtain ⟨hcS, hfS⟩ := bcellN hSw; go_simp
    try simp only [Act.put, List.setIfInBounds_toArray, List.set_cons_zero, List.set_cons_succ, List.getElem_toArray, List.getElem_cons_zero]
    refine wpAnyH_take (i := 4) (v := .pointer (some ⟨w.heap.size, 2, none⟩)) rfl (by kernel_rfl) (by kernel_rfl) (by kernel_rfl) (fun _ _ _ h => h) (Or.inl ⟨by rfl, ?_⟩) (by assumption) ?_
    · intro wx hSw; obtain ⟨hcS, hfS⟩ := bcellN hSw; go_simp
    try simp only [Act.put, List.setIfInBounds_toArray, List.set_cons_zero, List.set_cons_succ, List.getElem_toArray, List.getElem_cons_zero, List.getElem_cons_succ]
    refine wpAnyH_take (i := 1) (v := .pointer (some ⟨s, 0, none⟩)) rfl (by kernel_rfl) (by kernel_rfl) (by kernel_rfl) (fun _ _ _ h => h) (Or.inl ⟨by rfl, ?_⟩) (by assumption) ?_
    · intro wx hSw; obtain ⟨hcS, hfS⟩ := bcellN hSw; go_simp
    try simp only [Act.put, List.setIfInBounds_toArray, List.set_cons_zero, List.set_cons_succ, List.getElem_toArray, List.getElem_cons_zero, List.getElem_cons_succ]
    refine wpAnyH_take (i := 5) (v := .pointer (some ⟨w.heap.size, 2, none⟩)) rfl (by kernel_rfl) (by kernel_rfl) (by kernel_rfl) (fun _ _ _ h => h) (Or.inl ⟨by rfl, ?_⟩) (by assumption) ?_
    · intro wx hSw; obtain ⟨hcS, hfS⟩ := bcellN hSw; go_simp
    try simp only [Act.put, List.setIfInBounds_toArray, List.set_cons_zero, List.set_cons_succ, List.getElem_toArray, List.getElem_cons_zero, List.getElem_cons_succ]
    refine wpAnyH_take (i := 2) (v := .pointer (some ⟨s, 8, none⟩)) rfl (by kernel_rfl) (by kernel_rfl) (by kernel_rfl) (fun _ _ _ h => h) (Or.inl ⟨by rfl, ?_⟩) (by assumption) ?_
    · intro wx hSw; obtain ⟨hcS, hfS⟩ := bcellN hSw; go_simp
    try simp only [Act.put, List.setIfInBounds_toArray, List.set_cons_zero, List.set_cons_succ, List.getElem_toArray, List.getElem_cons_zero, List.getElem_cons_succ]
    refine wpAnyH_take (i := 6) (v := .int .i64 pi) rfl (by kernel_rfl) (by kernel_rfl) (by kernel_rfl) (fun _ _ _ h => h) (Or.inl ⟨by rfl, ?_⟩) (by assumption) ?_
    · intro wx hSw; obtain ⟨hcS, hfS⟩ := bcellN hSw; go_simp
    try simp only [Act.put, List.setIfInBounds_toArray, List.set_cons_zero, List.set_cons_succ, List.getElem_toArray, List.getElem_cons_zero, List.getElem_cons_succ]
    refine wpAnyH_take (i := 3) (v := .map (some b)) rfl (by kernel_rfl) (by kernel_rfl) (by kernel_rfl) (fun _ _ _ h => h) (Or.inl ⟨by rfl, ?_⟩) (by assumption) ?_
    · intro wx hSw; obtain ⟨hcS, hfS⟩ := bcellN hSw; go_simp
    try simp only [Act.put, List.setIfInBounds_toArray, List.set_cons_zero, List.set_cons_succ, List.getElem_toArray, List.getElem_cons_zero, List.getElem_cons_succ]
    refine wpAnyH_take (i := 7) (v := .tuple #[.agg #[.int .i64 (Y 0), .int .i64 (Y 1), .int .i64 (Y 2), .int .i64 (Y 3), .int .i64 (Y 4)], .bool t]) rfl (by kernel_rfl) (by kernel_rfl) (by kernel_rfl) (fun _ _ _ h => h) (Or.inl ⟨by rfl, ?_⟩) (by assumption) ?_
    · intro wx hSw; obtain ⟨hcS, hfS⟩ := bcellN hSw; have hl := HL.out wx hSw; go_simp
    try simp only [Act.put, List.setIfInBounds_toArray, List.set_cons_zero, List.set_cons_succ, List.getElem_toArray, List.getElem_cons_zero, List.getElem_cons_succ]
    refine wpAnyH_take (i := 8) (v := .tuple #[.agg #[.int .i64 (Y 0), .int .i64 (Y 1), .int .i64 (Y 2), .int .i64 (Y 3), .int .i64 (Y 4)], .bool t]) rfl (by kernel_rfl) (by kernel_rfl) (by kernel_rfl) (fun _ _ _ h => h) (Or.inl ⟨by rfl, ?_⟩) (by assumption) ?_
    · intro wx hSw; obtain ⟨hcS, hfS⟩ := bcellN hSw; go_simp
    try simp only [Act.put, List.setIfInBounds_toArray, List.set_cons_zero, List.set_cons_succ, List.getElem_toArray, List.getElem_cons_zero, List.getElem_cons_succ]
    refine wpAnyH_take (i := 9) (v := .agg #[.int .i64 (Y 0), .int .i64 (Y 1), .int .i64 (Y 2), .int .i64 (Y 3), .int .i64 (Y 4)]) rfl (by kernel_rfl) (by kernel_rfl) (by kernel_rfl) (fun _ _ _ h => h) (Or.inl ⟨by rfl, ?_⟩) (by assumption) ?_
    · intro wx hSw; obtain ⟨hcS, hfS⟩ := bcellN hSw; go_simp
    try simp only [Act.put, List.setIfInBounds_toArray, List.set_cons_zero, List.set_cons_succ, List.getElem_toArray, List.getElem_cons_zero, List.getElem_cons_succ]
    refine wpAnyH_take (i := 10) (v := .bool t) rfl (by kernel_rfl) (by kernel_rfl) (by kernel_rfl) (fun _ _ _ h => h) (Or.inl ⟨by rfl, ?_⟩) (by assumption) ?_
    · intro wx hSw; obtain ⟨hcS, hfS⟩ := bcellN hSw; go_simp
    try simp only [Act.put, List.setIfInBounds_toArray, List.set_cons_zero, List.set_cons_succ, List.getElem_toArray, List.getElem_cons_zero, List.getElem_cons_succ]
    refine wpAnyH_ready (rs := [11]) (by kernel_rfl) (by simp) ?_
    refine (AllReadyH.cons rfl (fun K hK => ?_) AllReadyH.nil)
    go_simp
    obtain ⟨Xgk, eA⟩ : ∃ X, X = X0.alloc (.cells #[.int .i64 0, .int .i64 0, .int .i64 0, .int .i64 0, .int .i64 0] 43) := ⟨_, rfl⟩
    rw [← eA]
    have hbA : Below X0.heap.size X0 Xgk := by rw [eA]; exact (Below.refl _ _).alloc (Nat.le_refl _) _
    have hZgk : Bk Xgk X0.heap.size [.int .i64 0, .int .i64 0, .int .i64 0, .int .i64 0, .int .i64 0] := by rw [eA]; exact bk_new X0 43 [.int .i64 0, .int .i64 0, .int .i64 0, .int .i64 0, .int .i64 0]
    have hzAgk1 : Xgk.heap.size ≤ X0.heap.size + 1 := by rw [eA]; simp
    have hzAgk2 : X0.heap.size + 1 ≤ Xgk.heap.size := by rw [eA]; simp
    clear eA
    have hsz_Xgk := hbA.size
    refine hK.out _ _ (bthenN hHeld (by omega) hbA) (fun hNew => ?_)
    clear hK K hHeld
    have hHeld := hNew
    clear hNew
    try simp only [Act.put, List.setIfInBounds_toArray, List.set_cons_zero, List.set_cons_succ, List.getElem_toArray, List.getElem_cons_zero, List.getElem_cons_succ]
    clear hbA
    obtain ⟨gk, egk⟩ : ∃ g, g = X0.heap.size := ⟨_, rfl⟩
    rw [← egk] at hZgk ⊢
    have egk1 : gk ≤ X0.heap.size := by omega
    have egk2 : X0.heap.size ≤ gk := by omega
    clear egk
    refine wpAnyH_ready (rs := [12]) (by kernel_rfl) (by simp) ?_
    refine (AllReadyH.cons rfl (fun K hK => ?_) AllReadyH.nil)
    have r0 := (hZgk.2 0 (by simp)).1
    have r1 := (hZgk.2 1 (by simp)).1
    have r2 := (hZgk.2 2 (by simp)).1
    have r3 := (hZgk.2 3 (by simp)).1
    have r4 := (hZgk.2 4 (by simp)).1
    have f0 := (hZgk.2 0 (by simp)).2
    have f1 := (hZgk.2 1 (by simp)).2
    have f2 := (hZgk.2 2 (by simp)).2
    have f3 := (hZgk.2 3 (by simp)).2
    have f4 := (hZgk.2 4 (by simp)).2
    simp only [List.getD, List.getElem?_cons_zero, List.getElem?_cons_succ, Option.getD_some] at r0 r1 r2 r3 r4
    have lZgk := hZgk.1
    have hkgk : w0.heap.size ≤ gk := by omega
    go_simp
    obtain ⟨XSgk, eS⟩ : ∃ X, X = (((((Xgk.setCell ⟨gk, 0, none⟩ (.int .i64 (Y 0))).setCell ⟨gk, 1, none⟩ (.int .i64 (Y 1))).setCell ⟨gk, 2, none⟩ (.int .i64 (Y 2))).setCell ⟨gk, 3, none⟩ (.int .i64 (Y 3))).setCell ⟨gk, 4, none⟩ (.int .i64 (Y 4))) := ⟨_, rfl⟩
    rw [← eS]
    have hPgk : Bk XSgk gk [.int .i64 (Y 0), .int .i64 (Y 1), .int .i64 (Y 2), .int .i64 (Y 3), .int .i64 (Y 4)] := by rw [eS]; exact bk_put (l := [.int .i64 (Y 0), .int .i64 (Y 1), .int .i64 (Y 2), .int .i64 (Y 3), .int .i64 (Y 4)]) hZgk rfl
    have hzgk1 : XSgk.heap.size ≤ Xgk.heap.size := by rw [eS]; exact Nat.le_of_eq (size_put gk [.int .i64 (Y 0), .int .i64 (Y 1), .int .i64 (Y 2), .int .i64 (Y 3), .int .i64 (Y 4)] 0 Xgk)
    have hzgk2 : Xgk.heap.size ≤ XSgk.heap.size := by rw [eS]; exact Nat.le_of_eq (size_put gk [.int .i64 (Y 0), .int .i64 (Y 1), .int .i64 (Y 2), .int .i64 (Y 3), .int .i64 (Y 4)] 0 Xgk).symm
    have hmgk : ∀ b, ¬ b = gk → Sm Xgk XSgk b := by rw [eS]; exact fun b hb => sm_put hb [.int .i64 (Y 0), .int .i64 (Y 1), .int .i64 (Y 2), .int .i64 (Y 3), .int .i64 (Y 4)] 0 Xgk
    have hBgk : Below (w0.heap.size) w0 XSgk := by rw [eS]; exact below_put hkgk [.int .i64 (Y 0), .int .i64 (Y 1), .int .i64 (Y 2), .int .i64 (Y 3), .int .i64 (Y 4)] 0 hHeld
    clear eS r0 f0 r1 f1 r2 f2 r3 f3 r4 f4
    refine hK.out _ _ hBgk (fun hNew => ?_)
    clear hK K hHeld
    have hHeld := hNew
    clear hNew
    try simp only [Act.put, List.setIfInBounds_toArray, List.set_cons_zero, List.set_cons_succ, List.getElem_toArray, List.getElem_cons_zero, List.getElem_cons_succ]
    refine wpAnyH_take (i := 13) (v := .bool t) rfl (by kernel_rfl) (by kernel_rfl) (by kernel_rfl) (fun _ _ _ h => h) (Or.inl ⟨by rfl, ?_⟩) (by assumption) ?_
    · intro wx hSw; obtain ⟨hcS, hfS⟩ := bcellN hSw; go_simp
    try simp only [Act.put, List.setIfInBounds_toArray, List.set_cons_zero, List.set_cons_succ, List.getElem_toArray, List.getElem_cons_zero, List.getElem_cons_succ]
    refine wpAnyH_done (by kernel_rfl) ?_ _
    go_wp2
    go_meet
    case rel => exact ⟨gk, rfl, rfl, hHeld⟩
  case rest =>
    obtain ⟨w1, hw1⟩ : ∃ wq, wq = wc := ⟨_, rfl⟩
    subst hw1
    obtain ⟨gk, rfl, rfl, hb1⟩ := hcut
    clear HL
    clear yP0 yP1 yP2 yP3 yP4 yP5 yP6 yP7 yS0 yS1 yS2 yS3 yS4 yS5 yS6 yS7 yS8 hlP hlS
    have y_w1 : w0.heap.size ≤ w1.heap.size := hb1.size
    have B9 : Hid (Below w.heap.size w w1) := bthen B5.out hb1
    have P9 : Hid (Bk w1 w.heap.size [.int .i64 pn, .int .i64 pk, .int .i64 pi, .int .i64 pa, .int .i64 pm, .int .i64 ps, .int .i64 pl, .int .i64 pc]) := P6.out.below hb1
    have M9 : Hid (Wm w1 b n M) := M7.out.below (by omega) hb1
    have S9 : Hid (Bk w1 s [.int .i64 c, .int .i64 d, .int .i64 V.c, .slice aW V.nW kW, .int .i64 V.g, .slice (some ⟨gO, 0, none⟩) V.nO kO, .slice aX V.nX kX, .slice aI V.nI kI, .map (some b)]) := S8.out.below hb1
    clear B5 P6 M7 S8
    clear hb1
    have yP0 : w1.cell? ⟨w.heap.size, 0, none⟩ = some (.int .i64 pn) := (P9.out.2 0 (by simp)).1
    have yP1 : w1.cell? ⟨w.heap.size, 1, none⟩ = some (.int .i64 pk) := (P9.out.2 1 (by simp)).1
    have yP2 : w1.cell? ⟨w.heap.size, 2, none⟩ = some (.int .i64 pi) := (P9.out.2 2 (by simp)).1
    have yP3 : w1.cell? ⟨w.heap.size, 3, none⟩ = some (.int .i64 pa) := (P9.out.2 3 (by simp)).1
    have yP4 : w1.cell? ⟨w.heap.size, 4, none⟩ = some (.int .i64 pm) := (P9.out.2 4 (by simp)).1
    have yP5 : w1.cell? ⟨w.heap.size, 5, none⟩ = some (.int .i64 ps) := (P9.out.2 5 (by simp)).1
    have yP6 : w1.cell? ⟨w.heap.size, 6, none⟩ = some (.int .i64 pl) := (P9.out.2 6 (by simp)).1
    have yP7 : w1.cell? ⟨w.heap.size, 7, none⟩ = some (.int .i64 pc) := (P9.out.2 7 (by simp)).1
    have hlP : w.heap.size < w1.heap.size := P9.out.1
    have yS0 : w1.cell? ⟨s, 0, none⟩ = some (.int .i64 c) := (S9.out.2 0 (by simp)).1
    have yS1 : w1.cell? ⟨s, 1, none⟩ = some (.int .i64 d) := (S9.out.2 1 (by simp)).1
    have yS2 : w1.cell? ⟨s, 2, none⟩ = some (.int .i64 V.c) := (S9.out.2 2 (by simp)).1
    have yS3 : w1.cell? ⟨s, 3, none⟩ = some (.slice aW V.nW kW) := (S9.out.2 3 (by simp)).1
    have yS4 : w1.cell? ⟨s, 4, none⟩ = some (.int .i64 V.g) := (S9.out.2 4 (by simp)).1
    have yS5 : w1.cell? ⟨s, 5, none⟩ = some (.slice (some ⟨gO, 0, none⟩) V.nO kO) := (S9.out.2 5 (by simp)).1
    have yS6 : w1.cell? ⟨s, 6, none⟩ = some (.slice aX V.nX kX) := (S9.out.2 6 (by simp)).1
    have yS7 : w1.cell? ⟨s, 7, none⟩ = some (.slice aI V.nI kI) := (S9.out.2 7 (by simp)).1
    have yS8 : w1.cell? ⟨s, 8, none⟩ = some (.map (some b)) := (S9.out.2 8 (by simp)).1
    have hlS : s < w1.heap.size := S9.out.1
    cases t
    · go_upto_region 4 with fail
      refine wp_region_held_drew (S := fun w' => Below (w1.heap.size) w1 w') (by kernel_rfl) ((Below.refl _ _).drew) ?_
      intro hHeld
      obtain ⟨X0, hX0⟩ : ∃ X, X = w1.drew := ⟨_, rfl⟩
      have hz0 : w1.heap.size ≤ X0.heap.size := by rw [hX0]; exact Nat.le_refl _
      rw [← hX0] at hHeld ⊢
      clear hX0
      refine wpAnyH_take (i := 0) (v := .bool false) rfl (by kernel_rfl) (by kernel_rfl) (by kernel_rfl) (fun _ _ _ h => h) (Or.inl ⟨by rfl, ?_⟩) (by assumption) ?_
      · intro wx hSw; obtain ⟨hcS, hfS⟩ := bcellN hSw; go_simp
      try simp only [Act.put, List.setIfInBounds_toArray, List.set_cons_zero, List.set_cons_succ, List.getElem_toArray, List.getElem_cons_zero]
      refine wpAnyH_take (i := 1) (v := .bool true) rfl (by kernel_rfl) (by kernel_rfl) (by kernel_rfl) (fun _ _ _ h => h) (Or.inl ⟨by rfl, ?_⟩) (by assumption) ?_
      · intro wx hSw; obtain ⟨hcS, hfS⟩ := bcellN hSw; go_simp
      try simp only [Act.put, List.setIfInBounds_toArray, List.set_cons_zero, List.set_cons_succ, List.getElem_toArray, List.getElem_cons_zero, List.getElem_cons_succ]
      refine wpAnyH_take (i := 2) (v := .bool true) rfl (by kernel_rfl) (by kernel_rfl) (by kernel_rfl) (fun _ _ _ h => h) (Or.inl ⟨by rfl, ?_⟩) (by assumption) ?_
      · intro wx hSw; obtain ⟨hcS, hfS⟩ := bcellN hSw; go_simp
      try simp only [Act.put, List.setIfInBounds_toArray, List.set_cons_zero, List.set_cons_succ, List.getElem_toArray, List.getElem_cons_zero, List.getElem_cons_succ]
      refine wpAnyH_take (i := 3) (v := .pointer (some ⟨s, 0, none⟩)) rfl (by kernel_rfl) (by kernel_rfl) (by kernel_rfl) (fun _ _ _ h => h) (Or.inl ⟨by rfl, ?_⟩) (by assumption) ?_
      · intro wx hSw; obtain ⟨hcS, hfS⟩ := bcellN hSw; go_simp
      try simp only [Act.put, List.setIfInBounds_toArray, List.set_cons_zero, List.set_cons_succ, List.getElem_toArray, List.getElem_cons_zero, List.getElem_cons_succ]
      refine wpAnyH_take (i := 7) (v := .pointer (some ⟨w.heap.size, 2, none⟩)) rfl (by kernel_rfl) (by kernel_rfl) (by kernel_rfl) (fun _ _ _ h => h) (Or.inl ⟨by rfl, ?_⟩) (by assumption) ?_
      · intro wx hSw; obtain ⟨hcS, hfS⟩ := bcellN hSw; go_simp
      try simp only [Act.put, List.setIfInBounds_toArray, List.set_cons_zero, List.set_cons_succ, List.getElem_toArray, List.getElem_cons_zero, List.getElem_cons_succ]
      refine wpAnyH_take (i := 11) (v := .pointer (some ⟨s, 0, none⟩)) rfl (by kernel_rfl) (by kernel_rfl) (by kernel_rfl) (fun _ _ _ h => h) (Or.inl ⟨by rfl, ?_⟩) (by assumption) ?_
      · intro wx hSw; obtain ⟨hcS, hfS⟩ := bcellN hSw; go_simp
      try simp only [Act.put, List.setIfInBounds_toArray, List.set_cons_zero, List.set_cons_succ, List.getElem_toArray, List.getElem_cons_zero, List.getElem_cons_succ]
      refine wpAnyH_take (i := 4) (v := .pointer (some ⟨s, 0, none⟩)) rfl (by kernel_rfl) (by kernel_rfl) (by kernel_rfl) (fun _ _ _ h => h) (Or.inl ⟨by rfl, ?_⟩) (by assumption) ?_
      · intro wx hSw; obtain ⟨hcS, hfS⟩ := bcellN hSw; go_simp
      try simp only [Act.put, List.setIfInBounds_toArray, List.set_cons_zero, List.set_cons_succ, List.getElem_toArray, List.getElem_cons_zero, List.getElem_cons_succ]
      refine wpAnyH_take (i := 8) (v := .pointer (some ⟨w.heap.size, 3, none⟩)) rfl (by kernel_rfl) (by kernel_rfl) (by kernel_rfl) (fun _ _ _ h => h) (Or.inl ⟨by rfl, ?_⟩) (by assumption) ?_
      · intro wx hSw; obtain ⟨hcS, hfS⟩ := bcellN hSw; go_simp
      try simp only [Act.put, List.setIfInBounds_toArray, List.set_cons_zero, List.set_cons_succ, List.getElem_toArray, List.getElem_cons_zero, List.getElem_cons_succ]
      refine wpAnyH_take (i := 12) (v := .pointer (some ⟨s, 0, none⟩)) rfl (by kernel_rfl) (by kernel_rfl) (by kernel_rfl) (fun _ _ _ h => h) (Or.inl ⟨by rfl, ?_⟩) (by assumption) ?_
      · intro wx hSw; obtain ⟨hcS, hfS⟩ := bcellN hSw; go_simp
      try simp only [Act.put, List.setIfInBounds_toArray, List.set_cons_zero, List.set_cons_succ, List.getElem_toArray, List.getElem_cons_zero, List.getElem_cons_succ]
      refine wpAnyH_take (i := 5) (v := .pointer (some ⟨s, 0, none⟩)) rfl (by kernel_rfl) (by kernel_rfl) (by kernel_rfl) (fun _ _ _ h => h) (Or.inl ⟨by rfl, ?_⟩) (by assumption) ?_
      · intro wx hSw; obtain ⟨hcS, hfS⟩ := bcellN hSw; go_simp
      try simp only [Act.put, List.setIfInBounds_toArray, List.set_cons_zero, List.set_cons_succ, List.getElem_toArray, List.getElem_cons_zero, List.getElem_cons_succ]
      refine wpAnyH_take (i := 9) (v := .int .i64 pa) rfl (by kernel_rfl) (by kernel_rfl) (by kernel_rfl) (fun _ _ _ h => h) (Or.inl ⟨by rfl, ?_⟩) (by assumption) ?_
      · intro wx hSw; obtain ⟨hcS, hfS⟩ := bcellN hSw; go_simp
      try simp only [Act.put, List.setIfInBounds_toArray, List.set_cons_zero, List.set_cons_succ, List.getElem_toArray, List.getElem_cons_zero, List.getElem_cons_succ]
      refine wpAnyH_take (i := 13) (v := .pointer (some ⟨s, 2, none⟩)) rfl (by kernel_rfl) (by kernel_rfl) (by kernel_rfl) (fun _ _ _ h => h) (Or.inl ⟨by rfl, ?_⟩) (by assumption) ?_
      · intro wx hSw; obtain ⟨hcS, hfS⟩ := bcellN hSw; go_simp
      try simp only [Act.put, List.setIfInBounds_toArray, List.set_cons_zero, List.set_cons_succ, List.getElem_toArray, List.getElem_cons_zero, List.getElem_cons_succ]
      refine wpAnyH_take (i := 6) (v := .agg #[.int .i64 c, .int .i64 d]) rfl (by kernel_rfl) (by kernel_rfl) (by kernel_rfl) (fun _ _ _ h => h) (Or.inl ⟨by rfl, ?_⟩) (by assumption) ?_
      · intro wx hSw; obtain ⟨hcS, hfS⟩ := bcellN hSw; go_simp
      try simp only [Act.put, List.setIfInBounds_toArray, List.set_cons_zero, List.set_cons_succ, List.getElem_toArray, List.getElem_cons_zero, List.getElem_cons_succ]
      refine wpAnyH_take (i := 14) (v := .pointer (some ⟨s, 2, none⟩)) rfl (by kernel_rfl) (by kernel_rfl) (by kernel_rfl) (fun _ _ _ h => h) (Or.inl ⟨by rfl, ?_⟩) (by assumption) ?_
      · intro wx hSw; obtain ⟨hcS, hfS⟩ := bcellN hSw; go_simp
      try simp only [Act.put, List.setIfInBounds_toArray, List.set_cons_zero, List.set_cons_succ, List.getElem_toArray, List.getElem_cons_zero, List.getElem_cons_succ]
      refine wpAnyH_take (i := 15) (v := .int .i64 V.c) rfl (by kernel_rfl) (by kernel_rfl) (by kernel_rfl) (fun _ _ _ h => h) (Or.inl ⟨by rfl, ?_⟩) (by assumption) ?_
      · intro wx hSw; obtain ⟨hcS, hfS⟩ := bcellN hSw; go_simp
      try simp only [Act.put, List.setIfInBounds_toArray, List.set_cons_zero, List.set_cons_succ, List.getElem_toArray, List.getElem_cons_zero, List.getElem_cons_succ]
      refine wpAnyH_ready (rs := [10]) (by kernel_rfl) (by simp) ?_
      refine (AllReadyH.cons rfl (fun K hK => ?_) AllReadyH.nil)
      go_simp
      go_wp2_with fail
      refine (plcCell_impl c d pa _).mono ?_
      rintro e xc ⟨rfl, hxc⟩
      have hsz_xc := hxc.size
      refine hK.out _ _ (bthenN hHeld (by omega) hxc) (fun hNew => ?_)
      clear hK K hHeld
      have hHeld := hNew
      clear hNew
      try simp only [Act.put, List.setIfInBounds_toArray, List.set_cons_zero, List.set_cons_succ, List.getElem_toArray, List.getElem_cons_zero, List.getElem_cons_succ]
      refine wpAnyH_take (i := 16) (v := .bool (cellF c d pa == V.c)) rfl (by kernel_rfl) (by kernel_rfl) (by kernel_rfl) (fun _ _ _ h => h) (Or.inl ⟨by rfl, ?_⟩) (by assumption) ?_
      · intro wx hSw; obtain ⟨hcS, hfS⟩ := bcellN hSw; go_simp
      try simp only [Act.put, List.setIfInBounds_toArray, List.set_cons_zero, List.set_cons_succ, List.getElem_toArray, List.getElem_cons_zero, List.getElem_cons_succ]
      refine wpAnyH_take (i := 17) (v := .bool (cellF c d pa == V.c)) rfl (by kernel_rfl) (by kernel_rfl) (by kernel_rfl) (fun _ _ _ h => h) (Or.inl ⟨by rfl, ?_⟩) (by assumption) ?_
      · intro wx hSw; obtain ⟨hcS, hfS⟩ := bcellN hSw; go_simp
      try simp only [Act.put, List.setIfInBounds_toArray, List.set_cons_zero, List.set_cons_succ, List.getElem_toArray, List.getElem_cons_zero, List.getElem_cons_succ]
      refine wpAnyH_take (i := 18) (v := .bool (cellF c d pa == V.c)) rfl (by kernel_rfl) (by kernel_rfl) (by kernel_rfl) (fun _ _ _ h => h) (Or.inl ⟨by rfl, ?_⟩) (by assumption) ?_
      · intro wx hSw; obtain ⟨hcS, hfS⟩ := bcellN hSw; go_simp
      try simp only [Act.put, List.setIfInBounds_toArray, List.set_cons_zero, List.set_cons_succ, List.getElem_toArray, List.getElem_cons_zero, List.getElem_cons_succ]
      refine wpAnyH_done (by kernel_rfl) ?_ _
      go_wp2
      go_ret
      exact ⟨by simp, B9.out.trans (hHeld.mono (by have := B9.out.size; omega))⟩
    · go_upto_region 4 with fail
      refine wp_region_held_drew (S := fun w' => Below (w1.heap.size) w1 w') (by kernel_rfl) ((Below.refl _ _).drew) ?_
      intro hHeld
      obtain ⟨X0, hX0⟩ : ∃ X, X = w1.drew := ⟨_, rfl⟩
      have hz0 : w1.heap.size ≤ X0.heap.size := by rw [hX0]; exact Nat.le_refl _
      rw [← hX0] at hHeld ⊢
      clear hX0
      refine wpAnyH_take (i := 0) (v := .bool true) rfl (by kernel_rfl) (by kernel_rfl) (by kernel_rfl) (fun _ _ _ h => h) (Or.inl ⟨by rfl, ?_⟩) (by assumption) ?_
      · intro wx hSw; obtain ⟨hcS, hfS⟩ := bcellN hSw; go_simp
      try simp only [Act.put, List.setIfInBounds_toArray, List.set_cons_zero, List.set_cons_succ, List.getElem_toArray, List.getElem_cons_zero]
      refine wpAnyH_take (i := 1) (v := .bool false) rfl (by kernel_rfl) (by kernel_rfl) (by kernel_rfl) (fun _ _ _ h => h) (Or.inl ⟨by rfl, ?_⟩) (by assumption) ?_
      · intro wx hSw; obtain ⟨hcS, hfS⟩ := bcellN hSw; go_simp
      try simp only [Act.put, List.setIfInBounds_toArray, List.set_cons_zero, List.set_cons_succ, List.getElem_toArray, List.getElem_cons_zero, List.getElem_cons_succ]
      refine wpAnyH_take (i := 2) (v := .bool false) rfl (by kernel_rfl) (by kernel_rfl) (by kernel_rfl) (fun _ _ _ h => h) (Or.inl ⟨by rfl, ?_⟩) (by assumption) ?_
      · intro wx hSw; obtain ⟨hcS, hfS⟩ := bcellN hSw; go_simp
      try simp only [Act.put, List.setIfInBounds_toArray, List.set_cons_zero, List.set_cons_succ, List.getElem_toArray, List.getElem_cons_zero, List.getElem_cons_succ]
      refine wpAnyH_take (i := 3) (v := undef) rfl (by kernel_rfl) (by kernel_rfl) (by kernel_rfl) (fun _ _ _ h => h) (Or.inr ⟨by rfl, rfl⟩) (by assumption) ?_
      try simp only [Act.put, List.setIfInBounds_toArray, List.set_cons_zero, List.set_cons_succ, List.getElem_toArray, List.getElem_cons_zero, List.getElem_cons_succ]
      refine wpAnyH_take (i := 4) (v := undef) rfl (by kernel_rfl) (by kernel_rfl) (by kernel_rfl) (fun _ _ _ h => h) (Or.inr ⟨by rfl, rfl⟩) (by assumption) ?_
      try simp only [Act.put, List.setIfInBounds_toArray, List.set_cons_zero, List.set_cons_succ, List.getElem_toArray, List.getElem_cons_zero, List.getElem_cons_succ]
      refine wpAnyH_take (i := 5) (v := undef) rfl (by kernel_rfl) (by kernel_rfl) (by kernel_rfl) (fun _ _ _ h => h) (Or.inr ⟨by rfl, rfl⟩) (by assumption) ?_
      try simp only [Act.put, List.setIfInBounds_toArray, List.set_cons_zero, List.set_cons_succ, List.getElem_toArray, List.getElem_cons_zero, List.getElem_cons_succ]
      refine wpAnyH_take (i := 6) (v := undef) rfl (by kernel_rfl) (by kernel_rfl) (by kernel_rfl) (fun _ _ _ h => h) (Or.inr ⟨by rfl, rfl⟩) (by assumption) ?_
      try simp only [Act.put, List.setIfInBounds_toArray, List.set_cons_zero, List.set_cons_succ, List.getElem_toArray, List.getElem_cons_zero, List.getElem_cons_succ]
      refine wpAnyH_take (i := 7) (v := undef) rfl (by kernel_rfl) (by kernel_rfl) (by kernel_rfl) (fun _ _ _ h => h) (Or.inr ⟨by rfl, rfl⟩) (by assumption) ?_
      try simp only [Act.put, List.setIfInBounds_toArray, List.set_cons_zero, List.set_cons_succ, List.getElem_toArray, List.getElem_cons_zero, List.getElem_cons_succ]
      refine wpAnyH_take (i := 8) (v := undef) rfl (by kernel_rfl) (by kernel_rfl) (by kernel_rfl) (fun _ _ _ h => h) (Or.inr ⟨by rfl, rfl⟩) (by assumption) ?_
      try simp only [Act.put, List.setIfInBounds_toArray, List.set_cons_zero, List.set_cons_succ, List.getElem_toArray, List.getElem_cons_zero, List.getElem_cons_succ]
      refine wpAnyH_take (i := 9) (v := undef) rfl (by kernel_rfl) (by kernel_rfl) (by kernel_rfl) (fun _ _ _ h => h) (Or.inr ⟨by rfl, rfl⟩) (by assumption) ?_
      try simp only [Act.put, List.setIfInBounds_toArray, List.set_cons_zero, List.set_cons_succ, List.getElem_toArray, List.getElem_cons_zero, List.getElem_cons_succ]
      refine wpAnyH_take (i := 10) (v := undef) rfl (by kernel_rfl) (by kernel_rfl) (by kernel_rfl) (fun _ _ _ h => h) (Or.inr ⟨by rfl, rfl⟩) (by assumption) ?_
      try simp only [Act.put, List.setIfInBounds_toArray, List.set_cons_zero, List.set_cons_succ, List.getElem_toArray, List.getElem_cons_zero, List.getElem_cons_succ]
      refine wpAnyH_take (i := 11) (v := undef) rfl (by kernel_rfl) (by kernel_rfl) (by kernel_rfl) (fun _ _ _ h => h) (Or.inr ⟨by rfl, rfl⟩) (by assumption) ?_
      try simp only [Act.put, List.setIfInBounds_toArray, List.set_cons_zero, List.set_cons_succ, List.getElem_toArray, List.getElem_cons_zero, List.getElem_cons_succ]
      refine wpAnyH_take (i := 12) (v := undef) rfl (by kernel_rfl) (by kernel_rfl) (by kernel_rfl) (fun _ _ _ h => h) (Or.inr ⟨by rfl, rfl⟩) (by assumption) ?_
      try simp only [Act.put, List.setIfInBounds_toArray, List.set_cons_zero, List.set_cons_succ, List.getElem_toArray, List.getElem_cons_zero, List.getElem_cons_succ]
      refine wpAnyH_take (i := 13) (v := undef) rfl (by kernel_rfl) (by kernel_rfl) (by kernel_rfl) (fun _ _ _ h => h) (Or.inr ⟨by rfl, rfl⟩) (by assumption) ?_
      try simp only [Act.put, List.setIfInBounds_toArray, List.set_cons_zero, List.set_cons_succ, List.getElem_toArray, List.getElem_cons_zero, List.getElem_cons_succ]
      refine wpAnyH_take (i := 14) (v := undef) rfl (by kernel_rfl) (by kernel_rfl) (by kernel_rfl) (fun _ _ _ h => h) (Or.inr ⟨by rfl, rfl⟩) (by assumption) ?_
      try simp only [Act.put, List.setIfInBounds_toArray, List.set_cons_zero, List.set_cons_succ, List.getElem_toArray, List.getElem_cons_zero, List.getElem_cons_succ]
      refine wpAnyH_take (i := 15) (v := undef) rfl (by kernel_rfl) (by kernel_rfl) (by kernel_rfl) (fun _ _ _ h => h) (Or.inr ⟨by rfl, rfl⟩) (by assumption) ?_
      try simp only [Act.put, List.setIfInBounds_toArray, List.set_cons_zero, List.set_cons_succ, List.getElem_toArray, List.getElem_cons_zero, List.getElem_cons_succ]
      refine wpAnyH_take (i := 16) (v := undef) rfl (by kernel_rfl) (by kernel_rfl) (by kernel_rfl) (fun _ _ _ h => h) (Or.inr ⟨by rfl, rfl⟩) (by assumption) ?_
      try simp only [Act.put, List.setIfInBounds_toArray, List.set_cons_zero, List.set_cons_succ, List.getElem_toArray, List.getElem_cons_zero, List.getElem_cons_succ]
      refine wpAnyH_take (i := 17) (v := .bool false) rfl (by kernel_rfl) (by kernel_rfl) (by kernel_rfl) (fun _ _ _ h => h) (Or.inl ⟨by rfl, ?_⟩) (by assumption) ?_
      · intro wx hSw; obtain ⟨hcS, hfS⟩ := bcellN hSw; go_simp
      try simp only [Act.put, List.setIfInBounds_toArray, List.set_cons_zero, List.set_cons_succ, List.getElem_toArray, List.getElem_cons_zero, List.getElem_cons_succ]
      refine wpAnyH_take (i := 18) (v := .bool false) rfl (by kernel_rfl) (by kernel_rfl) (by kernel_rfl) (fun _ _ _ h => h) (Or.inl ⟨by rfl, ?_⟩) (by assumption) ?_
      · intro wx hSw; obtain ⟨hcS, hfS⟩ := bcellN hSw; go_simp
      try simp only [Act.put, List.setIfInBounds_toArray, List.set_cons_zero, List.set_cons_succ, List.getElem_toArray, List.getElem_cons_zero, List.getElem_cons_succ]
      refine wpAnyH_done (by kernel_rfl) ?_ _
      go_wp2
      go_ret
      exact ⟨by simp, B9.out.trans (hHeld.mono (by have := B9.out.size; omega))⟩

theorem Wm.mono {w : World} {b n m : Nat} {M : Int → Option (Nat → Int)} (h : Wm w b n M) (hnm : n ≤ m) : Wm w b m M := by
  obtain ⟨es, clock, h1, h2, h3, r⟩ := h
  exact ⟨es, clock, h1, h2, Nat.le_trans h3 hnm, r⟩
theorem Sc.mono {w : World} {c d : Int} {s b lo : Nat} {V : CV} {n m : Nat} {M : Int → Option (Nat → Int)} (h : Sc w c d s b lo V n M) (hnm : n ≤ m) : Sc w c d s b lo V m M := by
  obtain ⟨aW, kW, kO, aX, kX, aI, kI, gW, gO, gX, gI, sl, xs, hN, rW, rX, rI, hO, hM, ⟨l1, l2, l3, l4, l5, l6, l7, l8⟩, ⟨d1, d2, d3, d4, d5, d6⟩, hx1, hx2⟩ := h
  exact ⟨aW, kW, kO, aX, kX, aI, kI, gW, gO, gX, gI, sl, xs, hN, rW, rX, rI, hO, hM.mono hnm, ⟨l1, l2, l3, l4, l5, l6, l7, l8⟩, ⟨d1, d2, d3, d4, d5, d6⟩, hx1, hx2⟩
def updI (X : Nat → Int) (q : Nat) (z : Int) : Nat → Int := fun j => if j = q then z else X j
theorem own1_upd {w : World} {B n k : Nat} {X : Nat → Int} {z : Int} (h : Own1 w B n X n) (hk : k < n) : Own1 (w.setCell ⟨B, k, none⟩ (.int .i64 z)) B n (updI X k z) n := by
  refine ⟨fun i hi => ⟨?_, by rw [set_frozen]; exact (h.1 i hi).2⟩, fun j hj => ?_⟩
  · by_cases hc : k = i
    · subst hc; rw [set_in (h.1 k hk).1]; rfl
    · rw [set_out (fun e => hc e.2)]; exact (h.1 i hi).1
  · by_cases hc : k = j
    · subst hc; rw [set_in (h.1 k hk).1]; simp [updI]
    · rw [set_out (fun e => hc e.2)]
      show _ = some (Value.int .i64 (if j = k then z else X j))
      rw [if_neg (fun e => hc e.symm)]; exact h.2 j hj
theorem sm_set {w : World} {B j b : Nat} {u : Value} (h : ¬ b = B) : Sm w (w.setCell ⟨B, j, none⟩ u) b := fun o => ⟨set_out (fun e => h e.1.symm), set_frozen⟩

/-- The number of the next parcel from a side, written. -/
theorem Sc.ins {w : World} {c d : Int} {s b lo : Nat} {V : CV} {n : Nat} {M : Int → Option (Nat → Int)} (h : Sc w c d s b lo V n M) {q : Nat} (hq : q < V.nI) :
    ∃ gI kI, w.cell? ⟨s, 7, none⟩ = some (.slice (some ⟨gI, 0, none⟩) V.nI kI) ∧ w.cell? ⟨gI, q, none⟩ = some (.int .i64 (V.I q)) ∧ w.frozen? ⟨gI, q, none⟩ = false ∧ lo ≤ gI ∧ gI < w.heap.size ∧ ¬ gI = s ∧
      ∀ z, Sc (w.setCell ⟨gI, q, none⟩ (.int .i64 z)) c d s b lo { V with I := updI V.I q z } n M := by
  obtain ⟨aW, kW, kO, aX, kX, aI, kI, gW, gO, gX, gI, sl, xs, hN, rW, rX, rI, hO, hM, ⟨l1, l2, l3, l4, l5, l6, l7, l8⟩, ⟨d1, d2, d3, d4, d5, d6⟩, hx1, hx2⟩ := h
  have h0 : V.nI ≠ 0 := by omega
  obtain ⟨e1, e2, e3⟩ := d3 h0
  rcases rI with ⟨e, _⟩ | ⟨cI, eI, i1, i2, i3, i4⟩
  · omega
  simp only [Value.slice.injEq, true_and] at eI
  obtain ⟨rfl, rfl⟩ := eI
  refine ⟨gI, kI, (hN 7 (by decide)).1, i4.2 q hq, (i4.1 q hq).2, i1, i2, e1, fun z => ?_⟩
  have hz : w.heap.size = (w.setCell ⟨gI, q, none⟩ (.int .i64 z)).heap.size := set_size.symm
  have k : ∀ g, ¬ g = gI → Sm w (w.setCell ⟨gI, q, none⟩ (.int .i64 z)) g := fun g hg => sm_set hg
  refine ⟨aW, kW, kO, aX, kX, _, kI, gW, gO, gX, gI, sl, xs, hN.sm (k s (fun e => e1 e.symm)), rW.go (Nat.le_refl _) (Nat.le_of_eq hz) (Nat.le_refl _) (fun e _ _ => k gW (d5 e h0)), rX.go (Nat.le_refl _) (Nat.le_of_eq hz) (Nat.le_refl _) (fun e _ _ => k gX (d6 e h0)), .inr ⟨kI, rfl, i1, by omega, Nat.le_refl _, own1_upd i4 hq⟩,
    fun j hj => ⟨((k gO e3 j).1).trans (hO j hj).1, ((k gO e3 j).2).trans (hO j hj).2.1, (hO j hj).2.2.go (Nat.le_refl _) (Nat.le_of_eq hz) (Nat.le_refl _) (fun e _ _ => k (xs j) ((hx1 j hj e).2.2.2 h0))⟩, hM.kept (P8.set_grown w gI q _).1 (fun e => e2 (by injection e with e; exact e.symm)), ⟨l1, by omega, l3, by omega, l5, l6, l7, l8⟩, ⟨d1, d2, d3, d4, d5, d6⟩, hx1, hx2⟩

/-- Coins on the ground, written. -/
theorem Sc.ground {w : World} {c d : Int} {s b lo : Nat} {V : CV} {n : Nat} {M : Int → Option (Nat → Int)} (h : Sc w c d s b lo V n M) (z : Int) : Sc (w.setCell ⟨s, 4, none⟩ (.int .i64 z)) c d s b lo { V with g := z } n M := by
  obtain ⟨aW, kW, kO, aX, kX, aI, kI, gW, gO, gX, gI, sl, xs, hN, rW, rX, rI, hO, hM, ⟨l1, l2, l3, l4, l5, l6, l7, l8⟩, ⟨d1, d2, d3, d4, d5, d6⟩, hx1, hx2⟩ := h
  have hz : w.heap.size = (w.setCell ⟨s, 4, none⟩ (.int .i64 z)).heap.size := set_size.symm
  have k : ∀ g, ¬ g = s → Sm w (w.setCell ⟨s, 4, none⟩ (.int .i64 z)) g := fun g hg => sm_set hg
  refine ⟨aW, kW, kO, aX, kX, aI, kI, gW, gO, gX, gI, sl, xs, fun i hi => ?_, rW.go (Nat.le_refl _) (Nat.le_of_eq hz) (Nat.le_refl _) (fun e _ _ => k gW (d1 e).1), rX.go (Nat.le_refl _) (Nat.le_of_eq hz) (Nat.le_refl _) (fun e _ _ => k gX (d2 e).1), rI.go (Nat.le_refl _) (Nat.le_of_eq hz) (Nat.le_refl _) (fun e _ _ => k gI (d3 e).1),
    fun j hj => ⟨((k gO l7 j).1).trans (hO j hj).1, ((k gO l7 j).2).trans (hO j hj).2.1, (hO j hj).2.2.go (Nat.le_refl _) (Nat.le_of_eq hz) (Nat.le_refl _) (fun e _ _ => k (xs j) (hx1 j hj e).1.1)⟩, hM.kept (P8.set_grown w s 4 _).1 (fun e => l6 (by injection e with e; exact e.symm)), ⟨l1, by omega, l3, by omega, l5, l6, l7, l8⟩, ⟨d1, d2, d3, d4, d5, d6⟩, hx1, hx2⟩
  rw [set_frozen]
  refine ⟨?_, (hN i hi).2⟩
  by_cases e : i = 4
  · subst e
    rw [set_in (by rw [(hN 4 (by decide)).1]; rfl)]
    rfl
  · rw [set_out (fun q => e q.2.symm), (hN i hi).1]
    match i, hi, e with
    | 0, _, _ => rfl
    | 1, _, _ => rfl
    | 2, _, _ => rfl
    | 3, _, _ => rfl
    | 4, _, e => exact absurd rfl e
    | 5, _, _ => rfl
    | 6, _, _ => rfl
    | 7, _, _ => rfl
    | 8, _, _ => rfl

/-- A walker, put into the map. -/
theorem Sc.put {w : World} {c d : Int} {s b lo : Nat} {V : CV} {n : Nat} {M : Int → Option (Nat → Int)} (h : Sc w c d s b lo V n M) {z : Int} (hw : (Lit.int .i64 z).wf = true) (Z : Nat → Int) :
    ∃ w2, (Instr.mapUpdate 90 (.map (some b)) (.int .i64 z) (wv Z)).run Tryz.prog w = .ok () w2 ∧ Sc w2 c d s b lo V (n + 1) (putM M z Z) ∧ Below lo w w2 ∧ w.grownBy w2 (some b) := by
  obtain ⟨aW, kW, kO, aX, kX, aI, kI, gW, gO, gX, gI, sl, xs, hN, rW, rX, rI, hO, hM, ⟨l1, l2, l3, l4, l5, l6, l7, l8⟩, ⟨d1, d2, d3, d4, d5, d6⟩, hx1, hx2⟩ := h
  obtain ⟨w2, hr, hm, hg⟩ := hM.put hw Z
  have hbl := hM.lt
  have hz := hg.size
  have k : ∀ g, g < w.heap.size → ¬ g = b → Sm w w2 g := fun g hg' hne => sm_grown hg hg' (fun e => hne (by injection e))
  refine ⟨w2, hr, ⟨aW, kW, kO, aX, kX, aI, kI, gW, gO, gX, gI, sl, xs, hN.sm (k s l4 l6), rW.go (Nat.le_refl _) hz (Nat.le_refl _) (fun e _ h => k gW h (d1 e).2.1), rX.go (Nat.le_refl _) hz (Nat.le_refl _) (fun e _ h => k gX h (d2 e).2.1), rI.go (Nat.le_refl _) hz (Nat.le_refl _) (fun e _ h => k gI h (d3 e).2.1),
    fun j hj => ⟨((k gO l2 l8 j).1).trans (hO j hj).1, ((k gO l2 l8 j).2).trans (hO j hj).2.1, (hO j hj).2.2.go (Nat.le_refl _) hz (Nat.le_refl _) (fun e _ h => k (xs j) h (hx1 j hj e).1.2.1)⟩, hm, ⟨l1, by omega, l3, by omega, l5, l6, l7, l8⟩, ⟨d1, d2, d3, d4, d5, d6⟩, hx1, hx2⟩, below_grown hg l5 (by omega), hg⟩

end Go.Proofs.YtjmjffhommlbnaaGreat
