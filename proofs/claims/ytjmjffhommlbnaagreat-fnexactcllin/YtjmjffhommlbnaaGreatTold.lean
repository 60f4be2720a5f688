/- told: the cell behind all that has happened in a scene; conditions: the scene lies in memory. -/
import Derived.Test.YtjmjffhommlbnaaGreatAck1
import Derived.Test.YtjmjffhommlbnaaGreatByKey
namespace Go.Proofs.YtjmjffhommlbnaaGreat
open Go.RowKit Go.Deep
set_option linter.unusedVariables false

/-- A cell with other walkers. -/
def CV.with (V : CV) (n : Nat) (Z : Nat → Nat → Int) : CV := { V with nW := n, W := Z }

set_option maxRecDepth 20000 in
set_option maxHeartbeats 4000000 in
theorem told_impl (c d : Int) (s b lo : Nat) (V : CV) (n : Nat) (M : Int → Option (Nat → Int)) (L : List Int) (Z : Nat → Nat → Int) (hn : n ≤ 1048576) (hL : L.Pairwise (· < ·)) (hm : ∀ z, z ∈ L ↔ (M z).isSome = true) (hZ0 : ∀ k, k < L.length → Z k = (M L[k]!).getD fun _ => 0) (hln : L.length ≤ 1048576) (w : World) (h : Sc w c d s b lo V n M) :
    Calls Tryz.prog 29 #[.pointer (some ⟨s, 0, none⟩)] w fun e w' => (∃ v, e = .returned v ∧ OwnC lo w'.heap.size w' v (V.with L.length Z)) ∧ Below lo w w' := by
  obtain ⟨aW, kW, kO, aX, kX, aI, kI, gW, gO, gX, gI, sl, xs, hN, rW, rX, rI, hO, hM, ⟨l1, l2, l3, l4, l5, l6, l7, l8⟩, hd, hx1, hx2⟩ := h
  have hlo : lo ≤ w.heap.size := by omega
  have NI : Hid (Nine w s [.int .i64 c, .int .i64 d, .int .i64 V.c, .slice aW V.nW kW, .int .i64 V.g, .slice (some ⟨gO, 0, none⟩) V.nO kO, .slice aX V.nX kX, .slice aI V.nI kI, .map (some b)]) := hN
  have RXH : Hid (RI lo w.heap.size w (.slice aX V.nX kX) V.nX V.X gX) := rX
  have RIH : Hid (RI lo w.heap.size w (.slice aI V.nI kI) V.nI V.I gI) := rI
  have OH : Hid (∀ k, k < V.nO → w.cell? ⟨gO, k, none⟩ = some (sl k) ∧ w.frozen? ⟨gO, k, none⟩ = false ∧ RP lo w.heap.size w (sl k) (V.N k) (V.O k) (xs k)) := hO
  have MH : Hid (Wm w b n M) := hM
  have DH : Hid _ := hd
  have X1 : Hid _ := hx1
  have X2 : Hid _ := hx2
  have n8 : w.cell? ⟨s, 8, none⟩ = some (.map (some b)) := (hN 8 (by decide)).1
  clear hN rW rX rI hO hM hd hx1 hx2
  go_enter Tryz.func29, Tryz.ntmps29
  go_wp2_with fail
  obtain ⟨w0, e0⟩ : ∃ w0, w0 = w.alloc (.cells #[.int .i64 0, .slice none 0 0, .int .i64 0, .slice none 0 0, .slice none 0 0, .slice none 0 0] 37) := ⟨_, rfl⟩
  have hb0 : Below w.heap.size w w0 := by rw [e0]; exact (Below.refl _ _).alloc (Nat.le_refl _) _
  have R0 : Hid (Six w0 w.heap.size [.int .i64 0, .slice none 0 0, .int .i64 0, .slice none 0 0, .slice none 0 0, .slice none 0 0]) := by rw [e0]; exact six_new w 37 (.int .i64 0) (.slice none 0 0) (.int .i64 0) (.slice none 0 0) (.slice none 0 0) (.slice none 0 0)
  have z0 : w.heap.size + 1 ≤ w0.heap.size := by rw [e0]; simp
  rw [← e0]
  clear e0 n8
  refine (byKey b n M L Z hn hL hm hZ0 hln w0 (MH.out.below MH.out.lt hb0)).mono ?_
  rintro e w1 ⟨⟨v, g, rfl, hRW⟩, hb1⟩
  obtain ⟨ua, uc, rfl, hua⟩ := hRW.is
  have HRW : Hid (RW w0.heap.size w1.heap.size w1 (.slice ua L.length uc) L.length Z g) := hRW
  have B1 : Hid (Below w.heap.size w w1) := bthen hb0 hb1
  have N1 : Hid (Nine w1 s [.int .i64 c, .int .i64 d, .int .i64 V.c, .slice aW V.nW kW, .int .i64 V.g, .slice (some ⟨gO, 0, none⟩) V.nO kO, .slice aX V.nX kX, .slice aI V.nI kI, .map (some b)]) := NI.out.sm (sm_below B1.out l4)
  have R1 : Hid (Six w1 w.heap.size [.int .i64 0, .slice none 0 0, .int .i64 0, .slice none 0 0, .slice none 0 0, .slice none 0 0]) := R0.out.below (by omega) hb1
  have z1 : w0.heap.size ≤ w1.heap.size := hb1.size
  clear hRW hb1 hb0 hua NI R0
  have n2 : w1.cell? ⟨s, 2, none⟩ = some (.int .i64 V.c) := (N1.out 2 (by decide)).1
  have n3 : w1.cell? ⟨s, 3, none⟩ = some (.slice aW V.nW kW) := (N1.out 3 (by decide)).1
  have n4 : w1.cell? ⟨s, 4, none⟩ = some (.int .i64 V.g) := (N1.out 4 (by decide)).1
  have n5 : w1.cell? ⟨s, 5, none⟩ = some (.slice (some ⟨gO, 0, none⟩) V.nO kO) := (N1.out 5 (by decide)).1
  have n6 : w1.cell? ⟨s, 6, none⟩ = some (.slice aX V.nX kX) := (N1.out 6 (by decide)).1
  have n7 : w1.cell? ⟨s, 7, none⟩ = some (.slice aI V.nI kI) := (N1.out 7 (by decide)).1
  have n8 : w1.cell? ⟨s, 8, none⟩ = some (.map (some b)) := (N1.out 8 (by decide)).1
  have f3 : w1.frozen? ⟨s, 3, none⟩ = false := (N1.out 3 (by decide)).2
  have r0 : w1.cell? ⟨w.heap.size, 0, none⟩ = some (.int .i64 0) := (R1.out 0 (by decide)).1
  have q0 : w1.frozen? ⟨w.heap.size, 0, none⟩ = false := (R1.out 0 (by decide)).2
  have r1 : w1.cell? ⟨w.heap.size, 1, none⟩ = some (.slice none 0 0) := (R1.out 1 (by decide)).1
  have q1 : w1.frozen? ⟨w.heap.size, 1, none⟩ = false := (R1.out 1 (by decide)).2
  have r2 : w1.cell? ⟨w.heap.size, 2, none⟩ = some (.int .i64 0) := (R1.out 2 (by decide)).1
  have q2 : w1.frozen? ⟨w.heap.size, 2, none⟩ = false := (R1.out 2 (by decide)).2
  have r3 : w1.cell? ⟨w.heap.size, 3, none⟩ = some (.slice none 0 0) := (R1.out 3 (by decide)).1
  have q3 : w1.frozen? ⟨w.heap.size, 3, none⟩ = false := (R1.out 3 (by decide)).2
  have r4 : w1.cell? ⟨w.heap.size, 4, none⟩ = some (.slice none 0 0) := (R1.out 4 (by decide)).1
  have q4 : w1.frozen? ⟨w.heap.size, 4, none⟩ = false := (R1.out 4 (by decide)).2
  have r5 : w1.cell? ⟨w.heap.size, 5, none⟩ = some (.slice none 0 0) := (R1.out 5 (by decide)).1
  have q5 : w1.frozen? ⟨w.heap.size, 5, none⟩ = false := (R1.out 5 (by decide)).2
  have ls : s < w1.heap.size := by omega
  have lr : w.heap.size < w1.heap.size := by omega
  have hsr : ¬ s = w.heap.size := by omega
  go_wp2
  refine bodyPost_ret (v := .agg #[.int .i64 V.c, .slice ua L.length uc, .int .i64 V.g, .slice (some ⟨gO, 0, none⟩) V.nO kO, .slice aX V.nX kX, .slice aI V.nI kI]) (by simp [results, Tryz.results29, go_sem, r0, r1, r2, r3, r4, r5]) rfl ?_
  have hS : ∀ x, ¬ s = x → ¬ w.heap.size = x → Sm w1 (put6 (w1.setCell ⟨s, 3, none⟩ (.slice ua L.length uc)) w.heap.size (.int .i64 V.c) (.slice ua L.length uc) (.int .i64 V.g) (.slice (some ⟨gO, 0, none⟩) V.nO kO) (.slice aX V.nX kX) (.slice aI V.nI kI)) x := fun x h1 h2 => Sm.trans (fun o => ⟨set_out (fun e => h1 e.1), set_frozen⟩) (sm_put6 h2 (.int .i64 V.c) (.slice ua L.length uc) (.int .i64 V.g) (.slice (some ⟨gO, 0, none⟩) V.nO kO) (.slice aX V.nX kX) (.slice aI V.nI kI))
  have hzz : (put6 (w1.setCell ⟨s, 3, none⟩ (.slice ua L.length uc)) w.heap.size (.int .i64 V.c) (.slice ua L.length uc) (.int .i64 V.g) (.slice (some ⟨gO, 0, none⟩) V.nO kO) (.slice aX V.nX kX) (.slice aI V.nI kI)).heap.size = w1.heap.size := (size_put6 (w1.setCell ⟨s, 3, none⟩ (.slice ua L.length uc)) w.heap.size (.int .i64 V.c) (.slice ua L.length uc) (.int .i64 V.g) (.slice (some ⟨gO, 0, none⟩) V.nO kO) (.slice aX V.nX kX) (.slice aI V.nI kI)).trans set_size
  have hbb : Below lo w (put6 (w1.setCell ⟨s, 3, none⟩ (.slice ua L.length uc)) w.heap.size (.int .i64 V.c) (.slice ua L.length uc) (.int .i64 V.g) (.slice (some ⟨gO, 0, none⟩) V.nO kO) (.slice aX V.nX kX) (.slice aI V.nI kI)) := below_put6 ((B1.out.mono hlo).setCell l3 _) hlo (.int .i64 V.c) (.slice ua L.length uc) (.int .i64 V.g) (.slice (some ⟨gO, 0, none⟩) V.nO kO) (.slice aX V.nX kX) (.slice aI V.nI kI)
  refine ⟨⟨_, rfl, ?_⟩, hbb⟩
  show OwnC lo (put6 (w1.setCell ⟨s, 3, none⟩ (.slice ua L.length uc)) w.heap.size (.int .i64 V.c) (.slice ua L.length uc) (.int .i64 V.g) (.slice (some ⟨gO, 0, none⟩) V.nO kO) (.slice aX V.nX kX) (.slice aI V.nI kI)).heap.size (put6 (w1.setCell ⟨s, 3, none⟩ (.slice ua L.length uc)) w.heap.size (.int .i64 V.c) (.slice ua L.length uc) (.int .i64 V.g) (.slice (some ⟨gO, 0, none⟩) V.nO kO) (.slice aX V.nX kX) (.slice aI V.nI kI)) _ _
  rw [hzz]
  have hSw : ∀ x, x < w.heap.size → ¬ s = x → Sm w (put6 (w1.setCell ⟨s, 3, none⟩ (.slice ua L.length uc)) w.heap.size (.int .i64 V.c) (.slice ua L.length uc) (.int .i64 V.g) (.slice (some ⟨gO, 0, none⟩) V.nO kO) (.slice aX V.nX kX) (.slice aI V.nI kI)) x := fun x h1 h2 => (sm_below B1.out h1).trans (hS x h2 (by omega))
  obtain ⟨d1, d2, d3, d4, d5, d6⟩ := DH.out
  have inX := fun e => RXH.out.in e
  have inI := fun e => RIH.out.in e
  have inP := fun k hk e => (OH.out k hk).2.2.in e
  have inG := fun e => HRW.out.in e
  exact ownC_any (V := V.with L.length Z) (gW := g) (gO := gO) (gX := gX) (gI := gI) (sl := sl) (xs := xs) (HRW.out.go (by omega) (Nat.le_refl _) (Nat.le_of_eq hzz.symm) (fun _ h1 h2 => hS g (by omega) (by omega))) l1 (by omega) (Nat.le_of_eq hzz.symm)
    (fun k hk => ⟨(hSw gO l2 (fun e => l7 e.symm) k).1.trans (OH.out k hk).1, (OH.out k hk).2.2.go (Nat.le_refl _) (by omega) (Nat.le_of_eq hzz.symm) (fun e _ h => hSw _ h (fun h' => (X1.out k hk e).1.1 h'.symm))⟩)
    (RXH.out.go (Nat.le_refl _) (by omega) (Nat.le_of_eq hzz.symm) (fun e _ h => hSw _ h (fun h' => (d2 e).1 h'.symm))) (RIH.out.go (Nat.le_refl _) (by omega) (Nat.le_of_eq hzz.symm) (fun e _ h => hSw _ h (fun h' => (d3 e).1 h'.symm)))
    (fun e => by have := inG e; omega) (fun e e2 => by have := inG e; have := inX e2; omega) (fun e e2 => by have := inG e; have := inI e2; omega) (fun e => (d2 e).2.2) (fun e => (d3 e).2.2) d6
    (fun k hk e => ⟨fun e2 => by have := inG e2; have := inP k hk e; omega, (X1.out k hk e).1.2.2, (X1.out k hk e).2.2.1, (X1.out k hk e).2.2.2⟩) (fun i j hij hj n1 n2 => X2.out i j hij hj n1 n2)

end Go.Proofs.YtjmjffhommlbnaaGreat
