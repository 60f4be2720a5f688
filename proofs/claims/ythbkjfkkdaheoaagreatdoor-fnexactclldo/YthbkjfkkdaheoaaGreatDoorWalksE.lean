/- The walks of PlcEdge and what it calls; conditions: none. -/
import Derived.Test.YthbkjfkkdaheoaaGreatDoorAck1
import Derived.Test.YthbkjfkkdaheoaaGreatDoorByKey
import Derived.Test.YthbkjfkkdaheoaaGreatDoorCMk2
import Derived.Test.YthbkjfkkdaheoaaGreatDoorCOk1
import Derived.Test.YthbkjfkkdaheoaaGreatDoorWalks4
import Derived.Deep.RegionHeld3
import Derived.Deep.QuietTactic
import Derived.BigQuiet
namespace Go.Proofs.YthbkjfkkdaheoaaGreatDoor
open Go.RowKit Go.Deep
set_option linter.unusedVariables false
def CV.with (V : CV) (n : Nat) (Z : Nat → Nat → Int) : CV := { V with nW := n, W := Z }
set_option maxRecDepth 20000 in
set_option maxHeartbeats 4000000 in
theorem told_impl (c d : Int) (s b lo : Nat) (V : CV) (n : Nat) (M : Int → Option (Nat → Int)) (L : List Int) (Z : Nat → Nat → Int) (hn : n ≤ 1048576) (hL : L.Pairwise (· < ·)) (hm : ∀ z, z ∈ L ↔ (M z).isSome = true) (hZ0 : ∀ k, k < L.length → Z k = (M L[k]!).getD fun _ => 0) (hln : L.length ≤ 1048576) (w : World) (h : Sc w c d s b lo V n M) :
    Calls Tryz.prog 51 #[.pointer (some ⟨s, 0, none⟩)] w fun e w' => (∃ v, e = .returned v ∧ OwnC lo w'.heap.size w' v (V.with L.length Z)) ∧ Below lo w w' := by
  obtain ⟨aW, kW, kO, aX, kX, aI, kI, gW, gO, gX, gI, sl, xs, hN, rW, rX, rI, hO, hM, ⟨l1, l2, l3, l4, l5, l6, l7, l8⟩, hd, hx1, hx2⟩ := h
  have hlo : lo ≤ w.heap.size := by omega
  have NI : Hid (Nine w s [.int .i64 c, .int .i64 d, .int .i64 V.c, .slice aW V.nW kW, .int .i64 V.g, .slice (some ⟨gO, 0, none⟩) V.nO kO, .slice aX V.nX kX, .slice aI V.nI kI, .map (some b)]) := hN
  have RXH : Hid (RI lo w.heap.size w (.slice aX V.nX kX) V.nX V.X gX) := rX
  have RIH : Hid (RI lo w.heap.size w (.slice aI V.nI kI) V.nI V.I gI) := rI
  have OH : Hid (∀ k, k < V.nO → w.cell? ⟨gO, k, none⟩ = some (sl k) ∧ w.frozen? ⟨gO, k, none⟩ = false ∧ RPR lo w.heap.size w (sl k) (V.N k) (V.O k) (xs k)) := hO
  have MH : Hid (Wm w b n M) := hM
  have DH : Hid _ := hd
  have X1 : Hid _ := hx1
  have X2 : Hid _ := hx2
  have n8 : w.cell? ⟨s, 8, none⟩ = some (.map (some b)) := (hN 8 (by decide)).1
  clear hN rW rX rI hO hM hd hx1 hx2
  go_enter Tryz.func51, Tryz.ntmps51
  go_wp2_with fail
  obtain ⟨w0, e0⟩ : ∃ w0, w0 = w.alloc (.cells #[.int .i64 0, .slice none 0 0, .int .i64 0, .slice none 0 0, .slice none 0 0, .slice none 0 0] 35) := ⟨_, rfl⟩
  have hb0 : Below w.heap.size w w0 := by rw [e0]; exact (Below.refl _ _).alloc (Nat.le_refl _) _
  have R0 : Hid (Six w0 w.heap.size [.int .i64 0, .slice none 0 0, .int .i64 0, .slice none 0 0, .slice none 0 0, .slice none 0 0]) := by rw [e0]; exact six_new w 35 (.int .i64 0) (.slice none 0 0) (.int .i64 0) (.slice none 0 0) (.slice none 0 0) (.slice none 0 0)
  have z0 : w.heap.size + 1 ≤ w0.heap.size := by rw [e0]; simp
  rw [← e0]
  clear e0 n8
  refine (byKey b n M L Z hn hL hm hZ0 hln w0 (MH.out.below MH.out.lt hb0)).mono ?_
  rintro e w1 ⟨⟨v, g, rfl, hRW⟩, hb1⟩
  obtain ⟨ua, uc, rfl, hua⟩ := hRW.is
  have HRW : Hid (RW w0.heap.size w1.heap.size w1 (.slice ua L.length uc) L.length Z g) := hRW
  have B1 : Hid (Below w.heap.size w w1) := bthen hb0 hb1
  have N1 : Hid (Nine w1 s [.int .i64 c, .int .i64 d, .int .i64 V.c, .slice aW V.nW kW, .int .i64 V.g, .slice (some ⟨gO, 0, none⟩) V.nO kO, .slice aX V.nX kX, .slice aI V.nI kI, .map (some b)]) := NI.out.sm (sm_below B1.out l4)
  have R1 := hid (R0.out.below (by omega) hb1)
  have z1 : w0.heap.size ≤ w1.heap.size := hb1.size
  clear hRW hb1 hb0 hua NI R0
  have n2 : w1.cell? ⟨s, 2, none⟩ = some (.int .i64 V.c) := (N1.out 2 (by decide)).1
  have n3 : w1.cell? ⟨s, 3, none⟩ = some (.slice aW V.nW kW) := (N1.out 3 (by decide)).1
  have n4 : w1.cell? ⟨s, 4, none⟩ = some (.int .i64 V.g) := (N1.out 4 (by decide)).1
  have n5 : w1.cell? ⟨s, 5, none⟩ = some (.slice (some ⟨gO, 0, none⟩) V.nO kO) := (N1.out 5 (by decide)).1
  have n6 : w1.cell? ⟨s, 6, none⟩ = some (.slice aX V.nX kX) := (N1.out 6 (by decide)).1
  have n7 : w1.cell? ⟨s, 7, none⟩ = some (.slice aI V.nI kI) := (N1.out 7 (by decide)).1
  have n8 : w1.cell? ⟨s, 8, none⟩ = some (.map (some b)) := (N1.out 8 (by decide)).1
  have f3 : w1.frozen? ⟨s, 3, none⟩ = false := (N1.out 3 (by decide)).2
  obtain ⟨r0, r1, r2, r3, r4, r5⟩ := R1.out.a6
  obtain ⟨q0, q1, q2, q3, q4, q5⟩ := R1.out.f6
  have ls : s < w1.heap.size := by omega
  have lr : w.heap.size < w1.heap.size := by omega
  have hsr : ¬ s = w.heap.size := by omega
  go_wp2
  refine bodyPost_ret (v := .agg #[.int .i64 V.c, .slice ua L.length uc, .int .i64 V.g, .slice (some ⟨gO, 0, none⟩) V.nO kO, .slice aX V.nX kX, .slice aI V.nI kI]) (by simp [results, Tryz.results51, go_sem, r0, r1, r2, r3, r4, r5]) rfl ?_
  have hS : ∀ x, ¬ s = x → ¬ w.heap.size = x → Sm w1 (put6 (w1.setCell ⟨s, 3, none⟩ (.slice ua L.length uc)) w.heap.size (.int .i64 V.c) (.slice ua L.length uc) (.int .i64 V.g) (.slice (some ⟨gO, 0, none⟩) V.nO kO) (.slice aX V.nX kX) (.slice aI V.nI kI)) x := fun x h1 h2 => Sm.trans (fun o => ⟨set_out (fun e => h1 e.1), set_frozen⟩) (sm_put6 h2 (.int .i64 V.c) (.slice ua L.length uc) (.int .i64 V.g) (.slice (some ⟨gO, 0, none⟩) V.nO kO) (.slice aX V.nX kX) (.slice aI V.nI kI))
  have hzz : (put6 (w1.setCell ⟨s, 3, none⟩ (.slice ua L.length uc)) w.heap.size (.int .i64 V.c) (.slice ua L.length uc) (.int .i64 V.g) (.slice (some ⟨gO, 0, none⟩) V.nO kO) (.slice aX V.nX kX) (.slice aI V.nI kI)).heap.size = w1.heap.size := (size_put6 (w1.setCell ⟨s, 3, none⟩ (.slice ua L.length uc)) w.heap.size (.int .i64 V.c) (.slice ua L.length uc) (.int .i64 V.g) (.slice (some ⟨gO, 0, none⟩) V.nO kO) (.slice aX V.nX kX) (.slice aI V.nI kI)).trans set_size
  have hbb : Below lo w (put6 (w1.setCell ⟨s, 3, none⟩ (.slice ua L.length uc)) w.heap.size (.int .i64 V.c) (.slice ua L.length uc) (.int .i64 V.g) (.slice (some ⟨gO, 0, none⟩) V.nO kO) (.slice aX V.nX kX) (.slice aI V.nI kI)) := below_put6 ((B1.out.mono hlo).setCell l3 _) hlo (.int .i64 V.c) (.slice ua L.length uc) (.int .i64 V.g) (.slice (some ⟨gO, 0, none⟩) V.nO kO) (.slice aX V.nX kX) (.slice aI V.nI kI)
  refine ⟨⟨_, rfl, ?_⟩, hbb⟩
  show OwnC lo (put6 (w1.setCell ⟨s, 3, none⟩ (.slice ua L.length uc)) w.heap.size (.int .i64 V.c) (.slice ua L.length uc) (.int .i64 V.g) (.slice (some ⟨gO, 0, none⟩) V.nO kO) (.slice aX V.nX kX) (.slice aI V.nI kI)).heap.size (put6 (w1.setCell ⟨s, 3, none⟩ (.slice ua L.length uc)) w.heap.size (.int .i64 V.c) (.slice ua L.length uc) (.int .i64 V.g) (.slice (some ⟨gO, 0, none⟩) V.nO kO) (.slice aX V.nX kX) (.slice aI V.nI kI)) _ _
  rw [hzz]
  have hSw : ∀ x, x < w.heap.size → ¬ s = x → Sm w (put6 (w1.setCell ⟨s, 3, none⟩ (.slice ua L.length uc)) w.heap.size (.int .i64 V.c) (.slice ua L.length uc) (.int .i64 V.g) (.slice (some ⟨gO, 0, none⟩) V.nO kO) (.slice aX V.nX kX) (.slice aI V.nI kI)) x := fun x h1 h2 => (sm_below B1.out h1).trans (hS x h2 (by omega))
  obtain ⟨d1, d2, d3, d4, d5, d6⟩ := DH.out
  have inX := fun e => RXH.out.in e
  have inI := fun e => RIH.out.in e
  have inP := fun k hk e => (OH.out k hk).2.2.in e
  have inG := fun e => HRW.out.in e
  exact ownC_any (V := V.with L.length Z) (gW := g) (gO := gO) (gX := gX) (gI := gI) (sl := sl) (xs := xs) (HRW.out.go (by omega) (Nat.le_refl _) (Nat.le_of_eq hzz.symm) (fun _ h1 h2 => hS g (by omega) (by omega))) l1 (by omega) (Nat.le_of_eq hzz.symm)
    (fun k hk => ⟨(hSw gO l2 (fun e => l7 e.symm) k).1.trans (OH.out k hk).1, ((OH.out k hk).2.2.go (Nat.le_refl _) (by omega) (Nat.le_of_eq hzz.symm) (fun e _ h => hSw _ h (fun h' => (X1.out k hk e).1.1 h'.symm))).1⟩)
    (RXH.out.go (Nat.le_refl _) (by omega) (Nat.le_of_eq hzz.symm) (fun e _ h => hSw _ h (fun h' => (d2 e).1 h'.symm))) (RIH.out.go (Nat.le_refl _) (by omega) (Nat.le_of_eq hzz.symm) (fun e _ h => hSw _ h (fun h' => (d3 e).1 h'.symm)))
    (fun e => by have := inG e; omega) (fun e e2 => by have := inG e; have := inX e2; omega) (fun e e2 => by have := inG e; have := inI e2; omega) (fun e => (d2 e).2.2) (fun e => (d3 e).2.2) d6
    (fun k hk e => ⟨fun e2 => by have := inG e2; have := inP k hk e; omega, (X1.out k hk e).1.2.2, (X1.out k hk e).2.2.1, (X1.out k hk e).2.2.2⟩) (fun i j hij hj n1 n2 => X2.out i j hij hj n1 n2)
theorem bthenN {n : Nat} {a b c : World} (h : Below n a b) (hn : n ≤ a.heap.size) (k : Below b.heap.size b c) : Below n a c := h.trans (k.mono (Nat.le_trans hn h.size))
theorem bcellN {n : Nat} {W w1 : World} (hb : Below n W w1) : (∀ b o, b < n → w1.cell? ⟨b, o, none⟩ = W.cell? ⟨b, o, none⟩) ∧ (∀ b o, b < n → w1.frozen? ⟨b, o, none⟩ = W.frozen? ⟨b, o, none⟩) :=
  ⟨fun b o h => hb.cell (p := ⟨b, o, none⟩) h, fun b o h => hb.frozen (p := ⟨b, o, none⟩) h⟩
def Bk (W : World) (b : Nat) (l : List Value) : Prop := b < W.heap.size ∧ ∀ i, i < l.length → W.cell? ⟨b, i, none⟩ = some (l.getD i undef) ∧ W.frozen? ⟨b, i, none⟩ = false
theorem Bk.a2 {W : World} {b : Nat} {v0 v1 : Value} (h : Bk W b [v0, v1]) : W.cell? ⟨b, 0, none⟩ = some v0 ∧ W.cell? ⟨b, 1, none⟩ = some v1 := ⟨(h.2 0 (by simp)).1, (h.2 1 (by simp)).1⟩
theorem Bk.f2 {W : World} {b : Nat} {v0 v1 : Value} (h : Bk W b [v0, v1]) : W.frozen? ⟨b, 0, none⟩ = false ∧ W.frozen? ⟨b, 1, none⟩ = false := ⟨(h.2 0 (by simp)).2, (h.2 1 (by simp)).2⟩
theorem Bk.a5 {W : World} {b : Nat} {v0 v1 v2 v3 v4 : Value} (h : Bk W b [v0, v1, v2, v3, v4]) : W.cell? ⟨b, 0, none⟩ = some v0 ∧ W.cell? ⟨b, 1, none⟩ = some v1 ∧ W.cell? ⟨b, 2, none⟩ = some v2 ∧ W.cell? ⟨b, 3, none⟩ = some v3 ∧ W.cell? ⟨b, 4, none⟩ = some v4 := ⟨(h.2 0 (by simp)).1, (h.2 1 (by simp)).1, (h.2 2 (by simp)).1, (h.2 3 (by simp)).1, (h.2 4 (by simp)).1⟩
theorem Bk.f5 {W : World} {b : Nat} {v0 v1 v2 v3 v4 : Value} (h : Bk W b [v0, v1, v2, v3, v4]) : W.frozen? ⟨b, 0, none⟩ = false ∧ W.frozen? ⟨b, 1, none⟩ = false ∧ W.frozen? ⟨b, 2, none⟩ = false ∧ W.frozen? ⟨b, 3, none⟩ = false ∧ W.frozen? ⟨b, 4, none⟩ = false := ⟨(h.2 0 (by simp)).2, (h.2 1 (by simp)).2, (h.2 2 (by simp)).2, (h.2 3 (by simp)).2, (h.2 4 (by simp)).2⟩
theorem Bk.a6 {W : World} {b : Nat} {v0 v1 v2 v3 v4 v5 : Value} (h : Bk W b [v0, v1, v2, v3, v4, v5]) : W.cell? ⟨b, 0, none⟩ = some v0 ∧ W.cell? ⟨b, 1, none⟩ = some v1 ∧ W.cell? ⟨b, 2, none⟩ = some v2 ∧ W.cell? ⟨b, 3, none⟩ = some v3 ∧ W.cell? ⟨b, 4, none⟩ = some v4 ∧ W.cell? ⟨b, 5, none⟩ = some v5 := ⟨(h.2 0 (by simp)).1, (h.2 1 (by simp)).1, (h.2 2 (by simp)).1, (h.2 3 (by simp)).1, (h.2 4 (by simp)).1, (h.2 5 (by simp)).1⟩
theorem Bk.f6 {W : World} {b : Nat} {v0 v1 v2 v3 v4 v5 : Value} (h : Bk W b [v0, v1, v2, v3, v4, v5]) : W.frozen? ⟨b, 0, none⟩ = false ∧ W.frozen? ⟨b, 1, none⟩ = false ∧ W.frozen? ⟨b, 2, none⟩ = false ∧ W.frozen? ⟨b, 3, none⟩ = false ∧ W.frozen? ⟨b, 4, none⟩ = false ∧ W.frozen? ⟨b, 5, none⟩ = false := ⟨(h.2 0 (by simp)).2, (h.2 1 (by simp)).2, (h.2 2 (by simp)).2, (h.2 3 (by simp)).2, (h.2 4 (by simp)).2, (h.2 5 (by simp)).2⟩
theorem Bk.a8 {W : World} {b : Nat} {v0 v1 v2 v3 v4 v5 v6 v7 : Value} (h : Bk W b [v0, v1, v2, v3, v4, v5, v6, v7]) : W.cell? ⟨b, 0, none⟩ = some v0 ∧ W.cell? ⟨b, 1, none⟩ = some v1 ∧ W.cell? ⟨b, 2, none⟩ = some v2 ∧ W.cell? ⟨b, 3, none⟩ = some v3 ∧ W.cell? ⟨b, 4, none⟩ = some v4 ∧ W.cell? ⟨b, 5, none⟩ = some v5 ∧ W.cell? ⟨b, 6, none⟩ = some v6 ∧ W.cell? ⟨b, 7, none⟩ = some v7 := ⟨(h.2 0 (by simp)).1, (h.2 1 (by simp)).1, (h.2 2 (by simp)).1, (h.2 3 (by simp)).1, (h.2 4 (by simp)).1, (h.2 5 (by simp)).1, (h.2 6 (by simp)).1, (h.2 7 (by simp)).1⟩
theorem Bk.f8 {W : World} {b : Nat} {v0 v1 v2 v3 v4 v5 v6 v7 : Value} (h : Bk W b [v0, v1, v2, v3, v4, v5, v6, v7]) : W.frozen? ⟨b, 0, none⟩ = false ∧ W.frozen? ⟨b, 1, none⟩ = false ∧ W.frozen? ⟨b, 2, none⟩ = false ∧ W.frozen? ⟨b, 3, none⟩ = false ∧ W.frozen? ⟨b, 4, none⟩ = false ∧ W.frozen? ⟨b, 5, none⟩ = false ∧ W.frozen? ⟨b, 6, none⟩ = false ∧ W.frozen? ⟨b, 7, none⟩ = false := ⟨(h.2 0 (by simp)).2, (h.2 1 (by simp)).2, (h.2 2 (by simp)).2, (h.2 3 (by simp)).2, (h.2 4 (by simp)).2, (h.2 5 (by simp)).2, (h.2 6 (by simp)).2, (h.2 7 (by simp)).2⟩
theorem Bk.below {W W' : World} {b : Nat} {l : List Value} (h : Bk W b l) (k : Below W.heap.size W W') : Bk W' b l := ⟨Nat.lt_of_lt_of_le h.1 k.size, fun i hi => by
  rw [k.cell (p := ⟨b, i, none⟩) h.1, k.frozen (p := ⟨b, i, none⟩) h.1]; exact h.2 i hi⟩
theorem Bk.far {W : World} {b g j : Nat} {l : List Value} {v : Value} (h : Bk W b l) (hn : ¬ g = b) : Bk (W.setCell ⟨g, j, none⟩ v) b l := ⟨by rw [set_size]; exact h.1, fun i hi => by
  rw [set_out (fun e => hn e.1), set_frozen]; exact h.2 i hi⟩
theorem Bk.set {W : World} {b j : Nat} {l : List Value} {v : Value} (h : Bk W b l) (hj : j < l.length) : Bk (W.setCell ⟨b, j, none⟩ v) b (l.set j v) := ⟨by rw [set_size]; exact h.1, fun i hi => by
  rw [List.length_set] at hi
  rw [set_frozen]
  refine ⟨?_, (h.2 i hi).2⟩
  by_cases e : j = i
  · subst e
    rw [set_in (by rw [(h.2 j hj).1]; rfl)]
    simp [List.getD, hj]
  · rw [set_out (fun k => e k.2), (h.2 i hi).1]
    simp [List.getD, e]⟩
theorem bk_new (W : World) (t : TypeId) (l : List Value) : Bk (W.alloc (.cells l.toArray t)) W.heap.size l := ⟨by simp, fun i hi => by
  have e : l.getD i undef = l[i] := by simp [List.getD, List.getElem?_eq_getElem hi]
  rw [e]
  exact ⟨by simp [hi], by simp⟩⟩
theorem Bk.sm {W W' : World} {b : Nat} {l : List Value} (h : Bk W b l) (hz : W.heap.size ≤ W'.heap.size) (k : Sm W W' b) : Bk W' b l :=
  ⟨Nat.lt_of_lt_of_le h.1 hz, fun i hi => by rw [(k i).1, (k i).2]; exact h.2 i hi⟩
def putL (b : Nat) : List Value → Nat → World → World
  | [], _, W => W
  | v :: l, k, W => putL b l (k + 1) (W.setCell ⟨b, k, none⟩ v)
theorem size_put (b : Nat) : ∀ (l : List Value) (k : Nat) (W : World), (putL b l k W).heap.size = W.heap.size
  | [], _, _ => rfl
  | v :: l, k, W => by rw [putL, size_put b l, set_size]
theorem sm_put {b c : Nat} (h : ¬ c = b) : ∀ (l : List Value) (k : Nat) (W : World), Sm W (putL b l k W) c
  | [], _, W => Sm.refl W c
  | v :: l, k, W => Sm.trans (fun o => ⟨set_out (fun e => h e.1.symm), set_frozen⟩) (sm_put h l (k + 1) _)
theorem below_put {n b : Nat} {A : World} (h : n ≤ b) : ∀ (l : List Value) (k : Nat) {W : World}, Below n A W → Below n A (putL b l k W)
  | [], _, _, hb => hb
  | v :: l, k, W, hb => below_put h l (k + 1) (hb.setCell h v)
theorem cell_put {b : Nat} : ∀ (l : List Value) (k : Nat) (W : World), (∀ i, i < l.length → (W.cell? ⟨b, k + i, none⟩).isSome = true) → ∀ i, i < l.length → (putL b l k W).cell? ⟨b, k + i, none⟩ = some (l.getD i undef)
  | [], _, _, _, i, hi => absurd hi (by simp)
  | v :: l, k, W, h, i, hi => by
    rw [putL]
    have h0 : ∀ (l : List Value) (m : Nat) (W : World) (j : Nat), j < m → (putL b l m W).cell? ⟨b, j, none⟩ = W.cell? ⟨b, j, none⟩ := by
      intro l
      induction l with
      | nil => intro m W j _; rfl
      | cons u l ih => intro m W j hj; rw [putL, ih (m + 1) _ j (by omega), set_out (by omega)]
    by_cases e : i = 0
    · subst e
      show (putL b l (k + 1) (W.setCell ⟨b, k, none⟩ v)).cell? ⟨b, k, none⟩ = _
      rw [h0 l (k + 1) _ k (by omega), set_in (by simpa using h 0 (by simp))]
      rfl
    · obtain ⟨i, rfl⟩ : ∃ j, i = j + 1 := ⟨i - 1, by omega⟩
      have := cell_put l (k + 1) (W.setCell ⟨b, k, none⟩ v) (fun j hj => by
        rw [set_out (by omega), show k + 1 + j = k + (j + 1) by omega]; exact h (j + 1) (by simpa using hj)) i (by simpa using hi)
      rw [show k + (i + 1) = k + 1 + i by omega, this]
      rfl
theorem frozen_put {b c o : Nat} : ∀ (l : List Value) (k : Nat) (W : World), (putL b l k W).frozen? ⟨c, o, none⟩ = W.frozen? ⟨c, o, none⟩
  | [], _, _ => rfl
  | v :: l, k, W => by rw [putL, frozen_put l, set_frozen]
theorem bk_put {W : World} {b : Nat} {l l' : List Value} (h : Bk W b l') (hl : l.length = l'.length) : Bk (putL b l 0 W) b l :=
  ⟨by rw [size_put]; exact h.1, fun i hi => by
    have := cell_put l 0 W (fun j hj => by rw [Nat.zero_add, (h.2 j (by omega)).1]; rfl) i hi
    rw [Nat.zero_add] at this
    exact ⟨this, by rw [frozen_put]; exact (h.2 i (by omega)).2⟩⟩
theorem Wm.mono {w : World} {b n m : Nat} {M : Int → Option (Nat → Int)} (h : Wm w b n M) (hnm : n ≤ m) : Wm w b m M := by
  obtain ⟨es, clock, h1, h2, h3, r⟩ := h
  exact ⟨es, clock, h1, h2, Nat.le_trans h3 hnm, r⟩
theorem Sc.mono {w : World} {c d : Int} {s b lo : Nat} {V : CV} {n m : Nat} {M : Int → Option (Nat → Int)} (h : Sc w c d s b lo V n M) (hnm : n ≤ m) : Sc w c d s b lo V m M := by
  obtain ⟨aW, kW, kO, aX, kX, aI, kI, gW, gO, gX, gI, sl, xs, hN, rW, rX, rI, hO, hM, ⟨l1, l2, l3, l4, l5, l6, l7, l8⟩, ⟨d1, d2, d3, d4, d5, d6⟩, hx1, hx2⟩ := h
  exact ⟨aW, kW, kO, aX, kX, aI, kI, gW, gO, gX, gI, sl, xs, hN, rW, rX, rI, hO, hM.mono hnm, ⟨l1, l2, l3, l4, l5, l6, l7, l8⟩, ⟨d1, d2, d3, d4, d5, d6⟩, hx1, hx2⟩
def updI (X : Nat → Int) (q : Nat) (z : Int) : Nat → Int := fun j => if j = q then z else X j
theorem own1_upd {w : World} {B n k : Nat} {X : Nat → Int} {z : Int} (h : Own1 w B n X n) (hk : k < n) : Own1 (w.setCell ⟨B, k, none⟩ (.int .i64 z)) B n (updI X k z) n := by
  refine ⟨fun i hi => ⟨?_, by rw [set_frozen]; exact (h.1 i hi).2⟩, fun j hj => ?_⟩
  · by_cases hc : k = i
    · subst hc; rw [set_in (h.1 k hk).1]; rfl
    · rw [set_out (fun e => hc e.2)]; exact (h.1 i hi).1
  · by_cases hc : k = j
    · subst hc; rw [set_in (h.1 k hk).1]; simp [updI]
    · rw [set_out (fun e => hc e.2)]
      show _ = some (Value.int .i64 (if j = k then z else X j))
      rw [if_neg (fun e => hc e.symm)]; exact h.2 j hj
theorem sm_set {w : World} {B j b : Nat} {u : Value} (h : ¬ b = B) : Sm w (w.setCell ⟨B, j, none⟩ u) b := fun o => ⟨set_out (fun e => h e.1.symm), set_frozen⟩
theorem Sc.ground {w : World} {c d : Int} {s b lo : Nat} {V : CV} {n : Nat} {M : Int → Option (Nat → Int)} (h : Sc w c d s b lo V n M) (z : Int) : Sc (w.setCell ⟨s, 4, none⟩ (.int .i64 z)) c d s b lo { V with g := z } n M := by
  obtain ⟨aW, kW, kO, aX, kX, aI, kI, gW, gO, gX, gI, sl, xs, hN, rW, rX, rI, hO, hM, ⟨l1, l2, l3, l4, l5, l6, l7, l8⟩, ⟨d1, d2, d3, d4, d5, d6⟩, hx1, hx2⟩ := h
  have hz : w.heap.size = (w.setCell ⟨s, 4, none⟩ (.int .i64 z)).heap.size := set_size.symm
  have k : ∀ g, ¬ g = s → Sm w (w.setCell ⟨s, 4, none⟩ (.int .i64 z)) g := fun g hg => sm_set hg
  refine ⟨aW, kW, kO, aX, kX, aI, kI, gW, gO, gX, gI, sl, xs, fun i hi => ?_, rW.go (Nat.le_refl _) (Nat.le_of_eq hz) (Nat.le_refl _) (fun e _ _ => k gW (d1 e).1), rX.go (Nat.le_refl _) (Nat.le_of_eq hz) (Nat.le_refl _) (fun e _ _ => k gX (d2 e).1), rI.go (Nat.le_refl _) (Nat.le_of_eq hz) (Nat.le_refl _) (fun e _ _ => k gI (d3 e).1),
    fun j hj => ⟨((k gO l7 j).1).trans (hO j hj).1, ((k gO l7 j).2).trans (hO j hj).2.1, (hO j hj).2.2.go (Nat.le_refl _) (Nat.le_of_eq hz) (Nat.le_refl _) (fun e _ _ => k (xs j) (hx1 j hj e).1.1)⟩, hM.kept (P8.set_grown w s 4 _).1 (fun e => l6 (by injection e with e; exact e.symm)), ⟨l1, by omega, l3, by omega, l5, l6, l7, l8⟩, ⟨d1, d2, d3, d4, d5, d6⟩, hx1, hx2⟩
  rw [set_frozen]
  refine ⟨?_, (hN i hi).2⟩
  by_cases e : i = 4
  · subst e
    rw [set_in (by rw [(hN 4 (by decide)).1]; rfl)]
    rfl
  · rw [set_out (fun q => e q.2.symm), (hN i hi).1]
    match i, hi, e with
    | 0, _, _ => rfl
    | 1, _, _ => rfl
    | 2, _, _ => rfl
    | 3, _, _ => rfl
    | 4, _, e => exact absurd rfl e
    | 5, _, _ => rfl
    | 6, _, _ => rfl
    | 7, _, _ => rfl
    | 8, _, _ => rfl
theorem Sc.put {w : World} {c d : Int} {s b lo : Nat} {V : CV} {n : Nat} {M : Int → Option (Nat → Int)} (h : Sc w c d s b lo V n M) {z : Int} (hw : (Lit.int .i64 z).wf = true) (Z : Nat → Int) :
    ∃ w2, (Instr.mapUpdate 130 (.map (some b)) (.int .i64 z) (wv Z)).run Tryz.prog w = .ok () w2 ∧ Sc w2 c d s b lo V (n + 1) (putM M z Z) ∧ Below lo w w2 ∧ w.grownBy w2 (some b) := by
  obtain ⟨aW, kW, kO, aX, kX, aI, kI, gW, gO, gX, gI, sl, xs, hN, rW, rX, rI, hO, hM, ⟨l1, l2, l3, l4, l5, l6, l7, l8⟩, ⟨d1, d2, d3, d4, d5, d6⟩, hx1, hx2⟩ := h
  obtain ⟨w2, hr, hm, hg⟩ := hM.put hw Z
  have hbl := hM.lt
  have hz := hg.size
  have k : ∀ g, g < w.heap.size → ¬ g = b → Sm w w2 g := fun g hg' hne => sm_grown hg hg' (fun e => hne (by injection e))
  refine ⟨w2, hr, ⟨aW, kW, kO, aX, kX, aI, kI, gW, gO, gX, gI, sl, xs, hN.sm (k s l4 l6), rW.go (Nat.le_refl _) hz (Nat.le_refl _) (fun e _ h => k gW h (d1 e).2.1), rX.go (Nat.le_refl _) hz (Nat.le_refl _) (fun e _ h => k gX h (d2 e).2.1), rI.go (Nat.le_refl _) hz (Nat.le_refl _) (fun e _ h => k gI h (d3 e).2.1),
    fun j hj => ⟨((k gO l2 l8 j).1).trans (hO j hj).1, ((k gO l2 l8 j).2).trans (hO j hj).2.1, (hO j hj).2.2.go (Nat.le_refl _) hz (Nat.le_refl _) (fun e _ h => k (xs j) h (hx1 j hj e).1.2.1)⟩, hm, ⟨l1, by omega, l3, by omega, l5, l6, l7, l8⟩, ⟨d1, d2, d3, d4, d5, d6⟩, hx1, hx2⟩, below_grown hg l5 (by omega), hg⟩
theorem Sc.at4 {w : World} {c d : Int} {s b lo : Nat} {V : CV} {n : Nat} {M : Int → Option (Nat → Int)} (h : Sc w c d s b lo V n M) :
    w.cell? ⟨s, 4, none⟩ = some (.int .i64 V.g) ∧ w.frozen? ⟨s, 4, none⟩ = false ∧ w.cell? ⟨s, 8, none⟩ = some (.map (some b)) ∧ s < w.heap.size ∧ lo ≤ s ∧ lo ≤ b ∧ b < w.heap.size ∧ ¬ s = b := by
  obtain ⟨aW, kW, kO, aX, kX, aI, kI, gW, gO, gX, gI, sl, xs, hN, rW, rX, rI, hO, hM, ⟨l1, l2, l3, l4, l5, l6, l7, l8⟩, _⟩ := h
  exact ⟨(hN 4 (by decide)).1, (hN 4 (by decide)).2, (hN 8 (by decide)).1, l4, l3, l5, hM.lt, l6⟩
theorem good_rise {c d : Int} {Z : Nat → Nat → Int} {n : Nat} (h : allB c d Z n = true) : ∀ j, j + 1 < n → Z j 0 < Z (j + 1) 0 := fun j hj => by
  have h1 := allB_down n (show j + 2 ≤ n by omega) h
  simp [allB, goodB] at h1
  omega
theorem all_rise {c d : Int} {Z : Nat → Nat → Int} {n : Nat} (h : allB c d Z n = true) (i : Nat) : ∀ j, i < j → j < n → Z i 0 < Z j 0
  | 0, h1, _ => by omega
  | j + 1, h1, h2 => by
    have h3 := good_rise h j h2
    by_cases e : i = j
    · subst e; exact h3
    · have := all_rise h i j (by omega) (by omega)
      omega
theorem cllB_rise {c d : Int} {V : CV} (h : cllB c d V = true) : ∀ i j, i < j → j < V.nW → V.W i 0 < V.W j 0 := by
  simp only [cllB, Bool.and_eq_true] at h
  exact fun i j => all_rise h.2.1 i j
theorem cllB_two {c d : Int} {V : CV} (h : cllB c d V = true) : V.nO = 2 ∧ V.nX = 2 ∧ V.nI = 2 := by
  simp only [cllB, Bool.and_eq_true, beq_iff_eq] at h
  exact ⟨h.2.2.2.1, h.2.2.2.2.1, h.2.2.2.2.2.1⟩
theorem mapW_some {W : Nat → Nat → Int} {z : Int} {m : Nat} : ∀ n, m < n → W m 0 = z → (∀ j, m < j → j < n → ¬ W j 0 = z) → mapW W n z = some (W m)
  | 0, h, _, _ => by omega
  | n + 1, h, hz, hu => by
    by_cases e : m = n
    · subst e; simp [mapW, putM, hz]
    · have h1 : ¬ z = W n 0 := fun e1 => hu n (by omega) (by omega) e1.symm
      simp only [mapW, putM, if_neg h1]
      exact mapW_some n (by omega) hz (fun j h2 h3 => hu j h2 (by omega))
theorem mapW_in {W : Nat → Nat → Int} {z : Int} : ∀ n, (mapW W n z).isSome = true → ∃ m, m < n ∧ W m 0 = z
  | 0, h => by cases h
  | n + 1, h => by
    by_cases e : z = W n 0
    · exact ⟨n, by omega, e.symm⟩
    · simp only [mapW, putM, if_neg e] at h
      obtain ⟨m, h1, h2⟩ := mapW_in n h
      exact ⟨m, by omega, h2⟩
def ids (V : CV) : List Int := (List.range V.nW).map (fun k => V.W k 0)
theorem ids_len {V : CV} : (ids V).length = V.nW := by simp [ids]
theorem OwnC.low {lo lo' hi : Nat} {w : World} {v : Value} {V : CV} (h : OwnC lo hi w v V) (h0 : lo' ≤ lo) (hh : hi ≤ w.heap.size) : OwnC lo' hi w v V := by
  obtain ⟨vW, vO, vX, vI, gW, gO, gX, gI, sl, xs, e, rW, rO, rX, rI, hd, hx1, hx2⟩ := h
  have sm : ∀ g, Sm w w g := fun g => Sm.refl w g
  refine ⟨vW, vO, vX, vI, gW, gO, gX, gI, sl, xs, e, rW.go h0 (Nat.le_refl _) hh (fun _ _ _ => sm _), ?_, rX.go h0 (Nat.le_refl _) hh (fun _ _ _ => sm _), rI.go h0 (Nat.le_refl _) hh (fun _ _ _ => sm _), hd, hx1, hx2⟩
  rcases rO with r | ⟨co, e1, l1, l2, l3, hc⟩
  · exact .inl r
  · exact .inr ⟨co, e1, by omega, l2, l3, fun k hk => ⟨(hc k hk).1, (hc k hk).2.go h0 (Nat.le_refl _) hh (fun _ _ _ => sm _)⟩⟩
def CV.zero : CV := ⟨0, 0, fun _ _ => 0, 0, 0, fun _ => 0, fun _ _ _ => 0, 0, fun _ => 0, 0, fun _ => 0⟩
def posW (W : Nat → Nat → Int) (z : Int) : Nat → Nat
  | 0 => 0
  | n + 1 => if W n 0 < z then n + 1 else posW W z n
theorem posW_le (W : Nat → Nat → Int) (z : Int) : ∀ n, posW W z n ≤ n
  | 0 => Nat.le_refl _
  | n + 1 => by unfold posW; split; exact Nat.le_refl _; have := posW_le W z n; omega
theorem posW_ge (W : Nat → Nat → Int) (z : Int) : ∀ n k, posW W z n ≤ k → k < n → ¬ W k 0 < z
  | 0, k, _, h => by omega
  | n + 1, k, h1, h2 => by
    unfold posW at h1
    split at h1
    · omega
    · rename_i hn
      by_cases e : k = n
      · subst e; exact hn
      · exact posW_ge W z n k h1 (by omega)
theorem posW_lt (W : Nat → Nat → Int) (z : Int) : ∀ n, (∀ i j, i < j → j < n → W i 0 < W j 0) → ∀ k, k < posW W z n → W k 0 < z
  | 0, _, k, h => by simp [posW] at h
  | n + 1, ha, k, h => by
    unfold posW at h
    split at h
    · rename_i hn
      by_cases e : k = n
      · subst e; exact hn
      · have := ha k n (by omega) (by omega); omega
    · exact posW_lt W z n (fun i j h1 h2 => ha i j h1 (by omega)) k h
def insW (W : Nat → Nat → Int) (n : Nat) (z : Int) (Zp : Nat → Int) : Nat → Nat → Int := fun k => if k < posW W z n then W k else if k = posW W z n then Zp else W (k - 1)
end Go.Proofs.YthbkjfkkdaheoaaGreatDoor
namespace Go.Proofs.YthbkjfkkdaheoaaGreatDoor
open Go.RowKit
set_option linter.unusedVariables false
theorem next_impl (a s : Int) (w : World) (h1 : -9223372036854775807 ≤ a) (h2 : a ≤ 9223372036854775806) :
    Calls Tryz.prog 154 #[.int .i64 a, .int .i64 s] w fun e w' => e = .returned (.int .i64 (a + stepF s)) ∧ w' = w := by
  have s1 : -1 ≤ stepF s := by have := stepF_cases s; omega
  have s2 : stepF s ≤ 1 := by have := stepF_cases s; omega
  go_enter Tryz.func154, Tryz.ntmps154
  go_wp2_with fail
  refine (step_impl _ _).mono ?_
  rintro e w1 ⟨rfl, rfl⟩
  go_wp2
  go_ret
  exact ⟨rfl, rfl⟩
def edgeB (c d a s : Int) : Bool := decide (¬ sideF c d (cellF c d a) s = -1) && (cellF c d (a + stepF s) == sideF c d (cellF c d a) s)
theorem cellF_in {c d a : Int} (h : ¬ cellF c d a = -1) : 0 ≤ a ∧ a ≤ 31 ∧ okB c d = true := by
  unfold cellF at h
  split at h
  · rename_i g
    have := mul_bounds g.1
    have := inB_true.1 g.2
    exact ⟨by omega, by omega, g.1⟩
  · exact absurd rfl h
theorem sideF_in {c d k s : Int} (h : ¬ sideF c d k s = -1) : hasB c d k = true ∧ ¬ stepF s = 0 := by
  unfold sideF at h
  split at h
  · rename_i g; exact ⟨g.1, g.2.1⟩
  · exact absurd rfl h
theorem edge_in {c d a s : Int} (h : ¬ sideF c d (cellF c d a) s = -1) : 0 ≤ a ∧ a ≤ 31 := by
  have h1 := (sideF_in h).1
  have h2 : ¬ cellF c d a = -1 := by
    intro e; rw [e] at h1
    have := hasB_bounds h1; omega
  have := cellF_in h2
  exact ⟨this.1, this.2.1⟩
set_option maxHeartbeats 400000 in
theorem edge_impl (c d a s : Int) (w : World) :
    Calls Tryz.prog 168 #[.int .i64 a, .agg #[.int .i64 c, .int .i64 d], .int .i64 s] w fun e w' => e = .returned (.bool (edgeB c d a s)) ∧ Below w.heap.size w w' := by
  by_cases hg : sideF c d (cellF c d a) s = -1
  · have E : Hid (edgeB c d a s = false) := by show edgeB c d a s = false; simp [edgeB, hg]
    have hg' : (sideF c d (cellF c d a) s != -1) = false := by simp [hg]
    clear hg
    go_enter Tryz.func168, Tryz.ntmps168
    go_wp2
    go_region_held3 (fun w' => w'.cell? ⟨w.heap.size, 0, none⟩ = some (.int .i64 c) ∧ w'.cell? ⟨w.heap.size, 1, none⟩ = some (.int .i64 d) ∧ w.heap.size < w'.heap.size) (refine ⟨?_, ?_, ?_⟩ <;> simp_all <;> omega)
      (first
        | (go_at_call 151; refine (cell_impl _ _ _ _).mono ?_; rintro e w' ⟨rfl, hb⟩; obtain ⟨hc, hf⟩ := bcell hb; have hz := hb.size)
        | (go_at_call 128; refine (beside_impl _ _ _ _ _).mono ?_; rintro e w' ⟨rfl, hb⟩; obtain ⟨hc, hf⟩ := bcell hb; have hz := hb.size))
    go_wp2
    go_quiet (fail)
    go_wp2
    go_ret
    exact ⟨by rw [E.out]; rfl, by repeat (first | exact Below.refl _ _ | refine bthen ?_ (by assumption) | apply Below.drew | apply bdrewN | refine Below.alloc ?_ (by simp) _)⟩
  · obtain ⟨b1, b2⟩ := edge_in hg
    have E : Hid (edgeB c d a s = (cellF c d (a + stepF s) == sideF c d (cellF c d a) s)) := by show edgeB c d a s = _; simp [edgeB, hg]
    have hg' : (sideF c d (cellF c d a) s != -1) = true := by simp [hg]
    clear hg
    go_enter Tryz.func168, Tryz.ntmps168
    go_wp2
    go_region_held3 (fun w' => w'.cell? ⟨w.heap.size, 0, none⟩ = some (.int .i64 c) ∧ w'.cell? ⟨w.heap.size, 1, none⟩ = some (.int .i64 d) ∧ w.heap.size < w'.heap.size) (refine ⟨?_, ?_, ?_⟩ <;> simp_all <;> omega)
      (first
        | (go_at_call 151; refine (cell_impl _ _ _ _).mono ?_; rintro e w' ⟨rfl, hb⟩; obtain ⟨hc, hf⟩ := bcell hb; have hz := hb.size)
        | (go_at_call 128; refine (beside_impl _ _ _ _ _).mono ?_; rintro e w' ⟨rfl, hb⟩; obtain ⟨hc, hf⟩ := bcell hb; have hz := hb.size))
    go_wp2
    go_region_held3 (fun w' => w'.cell? ⟨w.heap.size, 0, none⟩ = some (.int .i64 c) ∧ w'.cell? ⟨w.heap.size, 1, none⟩ = some (.int .i64 d) ∧ w.heap.size < w'.heap.size) (refine ⟨?_, ?_, ?_⟩ <;> simp_all <;> omega)
      (first
        | (go_at_call 154; refine (next_impl _ _ _ (by omega) (by omega)).mono ?_; rintro e w' ⟨rfl, rfl⟩)
        | (go_at_call 151; refine (cell_impl _ _ _ _).mono ?_; rintro e w' ⟨rfl, hb⟩; obtain ⟨hc, hf⟩ := bcell hb; have hz := hb.size))
    all_goals
      go_wp2
      go_ret
      exact ⟨by rw [E.out]; rfl, by repeat (first | exact Below.refl _ _ | refine bthen ?_ (by assumption) | apply Below.drew | apply bdrewN | refine Below.alloc ?_ (by simp) _)⟩
theorem plcEdge_impl (c d a s : Int) (w : World) :
    Calls Tryz.prog 159 #[.agg #[.int .i64 c, .int .i64 d], .int .i64 a, .int .i64 s] w fun e w' => e = .returned (.bool (edgeB c d a s)) ∧ Below w.heap.size w w' := by
  go_enter Tryz.func159, Tryz.ntmps159
  go_wp2_with fail
  refine (edge_impl _ _ _ _ _).mono ?_
  rintro e w1 ⟨rfl, hb1⟩
  go_wp2
  go_ret
  exact ⟨rfl, bthen ((Below.refl _ _).alloc (by simp) _) hb1⟩
theorem cellF_eq {c d a : Int} (h : okB c d = true) (h0 : 0 ≤ a) (h1 : a ≤ c * d - 1) : cellF c d a = a / d := by
  unfold cellF; rw [if_pos ⟨h, inB_true.2 ⟨h0, h1⟩⟩]
theorem cellF_val {c d a : Int} (h : ¬ cellF c d a = -1) : okB c d = true ∧ 0 ≤ a ∧ a ≤ c * d - 1 ∧ cellF c d a = a / d := by
  unfold cellF at h ⊢
  split at h
  · rename_i g
    rw [if_pos g]
    have := inB_true.1 g.2
    exact ⟨g.1, this.1, this.2, rfl⟩
  · exact absurd rfl h
theorem d_cases {c d : Int} (h : okB c d = true) : d = 2 ∨ d = 3 ∨ d = 4 ∨ d = 5 ∨ d = 6 ∨ d = 7 ∨ d = 8 := by
  have := okB_bounds h; omega
theorem edge_left {c d a : Int} (h : ¬ sideF c d (cellF c d a) 0 = -1) : edgeB c d a 0 = (a == cellF c d a * d) ∧ 0 ≤ cellF c d a * d ∧ cellF c d a * d ≤ 31 := by
  have h1 := (sideF_in h).1
  have h2 : ¬ cellF c d a = -1 := by
    intro e; rw [e] at h1
    have := hasB_bounds h1; omega
  obtain ⟨ho, a0, a1, ev⟩ := cellF_val h2
  have hs := side_left h1
  have hb := hasB_bounds h1
  have hc := okB_bounds ho
  have hk : 0 < cellF c d a := by
    by_cases g : 0 < cellF c d a
    · exact g
    · rw [if_neg g] at hs; exact absurd hs h
  rw [if_pos hk] at hs
  have hm := mul_bounds ho
  unfold edgeB
  rw [hs, show stepF 0 = -1 from rfl]
  have e1 : (decide (¬ cellF c d a - 1 = -1)) = true := by simp; omega
  rw [e1, Bool.true_and]
  have a2 : 1 ≤ a := by
    rcases d_cases ho with rfl | rfl | rfl | rfl | rfl | rfl | rfl <;> omega
  rw [cellF_eq ho (by omega) (by omega), ev]
  refine ⟨?_, ?_, ?_⟩
  · rw [Bool.eq_iff_iff]; simp only [beq_iff_eq]
    rw [ev] at hk
    rcases d_cases ho with rfl | rfl | rfl | rfl | rfl | rfl | rfl <;> omega
  · rcases d_cases ho with rfl | rfl | rfl | rfl | rfl | rfl | rfl <;> omega
  · rcases d_cases ho with rfl | rfl | rfl | rfl | rfl | rfl | rfl <;> omega
theorem edge_right {c d a : Int} (h : ¬ sideF c d (cellF c d a) 1 = -1) : edgeB c d a 1 = (a == cellF c d a * d + d - 1) ∧ 0 ≤ cellF c d a * d ∧ cellF c d a * d ≤ 31 ∧ 2 ≤ d ∧ d ≤ 8 := by
  have h1 := (sideF_in h).1
  have h2 : ¬ cellF c d a = -1 := by
    intro e; rw [e] at h1
    have := hasB_bounds h1; omega
  obtain ⟨ho, a0, a1, ev⟩ := cellF_val h2
  have hs := side_right h1
  have hb := hasB_bounds h1
  have hc := okB_bounds ho
  have hk : cellF c d a < c - 1 := by
    by_cases g : cellF c d a < c - 1
    · exact g
    · rw [if_neg g] at hs; exact absurd hs h
  rw [if_pos hk] at hs
  have hm := mul_bounds ho
  unfold edgeB
  rw [hs, show stepF 1 = 1 from rfl]
  have e1 : (decide (¬ cellF c d a + 1 = -1)) = true := by simp; omega
  rw [e1, Bool.true_and]
  have a2 : a + 1 ≤ c * d - 1 := by
    rw [ev] at hk
    rcases d_cases ho with rfl | rfl | rfl | rfl | rfl | rfl | rfl <;> omega
  rw [cellF_eq ho (by omega) (by omega), ev]
  refine ⟨?_, ?_, ?_, by omega, by omega⟩
  · rw [Bool.eq_iff_iff]; simp only [beq_iff_eq]
    rcases d_cases ho with rfl | rfl | rfl | rfl | rfl | rfl | rfl <;> omega
  · rcases d_cases ho with rfl | rfl | rfl | rfl | rfl | rfl | rfl <;> omega
  · rcases d_cases ho with rfl | rfl | rfl | rfl | rfl | rfl | rfl <;> omega
theorem edge_none {c d a s : Int} (h : sideF c d (cellF c d a) s = -1) : edgeB c d a s = false := by simp [edgeB, h]
theorem edge_side {c d a s : Int} (h : ¬ sideF c d (cellF c d a) s = -1) : s = 0 ∨ s = 1 := by
  have := (sideF_in h).2
  unfold stepF at this
  split at this
  · left; assumption
  · split at this
    · right; assumption
    · exact absurd rfl this
set_option maxHeartbeats 400000 in
theorem plcEdge_spec (c d a s : Int) (w : World) :
    Calls Tryz.prog 150 #[.agg #[.int .i64 c, .int .i64 d], .int .i64 a, .int .i64 s] w fun e w' => e = .returned (.bool (edgeB c d a s)) ∧ Below w.heap.size w w' := by
  by_cases hg : sideF c d (cellF c d a) s = -1
  · have E : Hid (edgeB c d a s = false) := edge_none hg
    have hg' : (sideF c d (cellF c d a) s == -1) = true := by simp [hg]
    clear hg
    go_enter Tryz.func150, Tryz.ntmps150
    go_wp2_with fail
    refine (cell_spec _ _ _ _).mono ?_
    rintro e w1 ⟨rfl, hb1⟩
    obtain ⟨hc1, hf1⟩ := bcell hb1
    have hz1 : w.heap.size < w1.heap.size := by have := hb1.size; simp at this; omega
    go_wp2_with fail
    refine (plcSide_spec _ _ _ _ _).mono ?_
    rintro e w2 ⟨rfl, hb2⟩
    obtain ⟨hc2, hf2⟩ := bcell hb2
    go_wp2
    go_ret
    exact ⟨by rw [E.out]; rfl, bthen (bthen ((Below.refl _ _).alloc (by simp) _) hb1) hb2⟩
  · have hg' : (sideF c d (cellF c d a) s == -1) = false := by simpa using hg
    rcases edge_side hg with rfl | rfl
    · obtain ⟨E0, p1, p2⟩ := edge_left hg
      have E : Hid (edgeB c d a 0 = (a == cellF c d a * d)) := E0
      clear hg E0
      go_enter Tryz.func150, Tryz.ntmps150
      go_wp2_with fail
      refine (cell_spec _ _ _ _).mono ?_
      rintro e w1 ⟨rfl, hb1⟩
      obtain ⟨hc1, hf1⟩ := bcell hb1
      have hz1 : w.heap.size < w1.heap.size := by have := hb1.size; simp at this; omega
      go_wp2_with fail
      refine (plcSide_spec _ _ _ _ _).mono ?_
      rintro e w2 ⟨rfl, hb2⟩
      obtain ⟨hc2, hf2⟩ := bcell hb2
      go_wp2
      all_goals
        go_ret
        exact ⟨by rw [E.out]; first | rfl | simp [*], bthen (bthen ((Below.refl _ _).alloc (by simp) _) hb1) hb2⟩
    · obtain ⟨E0, p1, p2, p3, p4⟩ := edge_right hg
      have E : Hid (edgeB c d a 1 = (a == cellF c d a * d + d - 1)) := E0
      clear hg E0
      go_enter Tryz.func150, Tryz.ntmps150
      go_wp2_with fail
      refine (cell_spec _ _ _ _).mono ?_
      rintro e w1 ⟨rfl, hb1⟩
      obtain ⟨hc1, hf1⟩ := bcell hb1
      have hz1 : w.heap.size < w1.heap.size := by have := hb1.size; simp at this; omega
      go_wp2_with fail
      refine (plcSide_spec _ _ _ _ _).mono ?_
      rintro e w2 ⟨rfl, hb2⟩
      obtain ⟨hc2, hf2⟩ := bcell hb2
      go_wp2
      all_goals
        go_ret
        exact ⟨by rw [E.out]; first | rfl | simp [*], bthen (bthen ((Below.refl _ _).alloc (by simp) _) hb1) hb2⟩
end Go.Proofs.YthbkjfkkdaheoaaGreatDoor
