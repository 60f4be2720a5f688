/- SrvOk of the model and of the program: SrvHold; marks of a hold; conditions: the holds and ghosts lie in memory. -/
import Derived.Test.YtlbjgecjonegkaaHM5
import Derived.Test.YtlbjgecjonegkaaHeld
namespace Go.Proofs.Ytlbjgecjonegkaa
open Go.RowKit Go.Deep
set_option linter.unusedVariables false

def goH (F : Nat → HV) (cell : Int) : Nat → Nat → HV × Bool
  | 0, _ => (hz0, false)
  | f + 1, k => if (F k).V.c = cell then (F k, true) else goH F cell f (k + 1)
theorem goH_in (F : Nat → HV) (cell : Int) (m : Nat) (hm : ∀ k, k < m → szV (F k).V ≤ 1048576) : ∀ f k, k + f ≤ m → szV (goH F cell f k).1.V ≤ 1048576
  | 0, _, _ => by show szV hz0.V ≤ _; decide
  | f + 1, k, h => by
    rw [goH]
    split
    · exact hm k (by omega)
    · exact goH_in F cell m hm f (k + 1) (by omega)

set_option maxRecDepth 100000 in
set_option maxHeartbeats 4000000 in
theorem hold_spec (up : Bool) (B n : Nat) (F : Nat → HV) (aG : Option Addr) (g cG : Nat) (cell : Int) (hn : n ≤ 1048576) (hS : ∀ k, k < n → (F k).V.short 1048576) (w : World) (hB : B < w.heap.size) (h : HOwn w B n F n) :
    Calls Try.prog 11 #[.agg #[.bool up, .slice (some ⟨B, 0, none⟩) n n, .slice aG g cG], .int .i64 cell] w fun e w' => (∃ v, e = .returned (.tuple #[v, .bool (goH F cell n 0).2]) ∧ OwnH w.heap.size w'.heap.size w' v (goH F cell n 0).1) ∧ Below w.heap.size w w' := by
  have HO : Hid (HOwn w B n F n) := h
  have HS : Hid (∀ k, k < n → (F k).V.short 1048576) := hS
  clear h hS
  go_enter Try.func11, Try.ntmps11
  go_wp2
  obtain ⟨w0, e0⟩ : ∃ w0, w0 = (w.alloc (.cells #[.bool up, .slice (some ⟨B, 0, none⟩) n n, .slice aG g cG] 35)).alloc (.cells #[.int .i64 0, .int .i64 0, .int .i64 0, .slice none 0 0, .int .i64 0, .slice none 0 0, .slice none 0 0, .slice none 0 0] 45) := ⟨_, rfl⟩
  have B0 : Hid (Below w.heap.size w w0) := by rw [e0]; exact ((Below.refl _ _).alloc (by simp) _).alloc (by simp) _
  have V0 : Hid (Bk w0 w.heap.size [.bool up, .slice (some ⟨B, 0, none⟩) n n, .slice aG g cG]) := by rw [e0]; exact (bk_new w 35 [.bool up, .slice (some ⟨B, 0, none⟩) n n, .slice aG g cG]).below ((Below.refl _ _).alloc (Nat.le_refl _) _)
  have R0 : Hid (Bk w0 (w.heap.size + 1) [.int .i64 0, .int .i64 0, .int .i64 0, .slice none 0 0, .int .i64 0, .slice none 0 0, .slice none 0 0, .slice none 0 0]) := by rw [e0]; have := bk_new (w.alloc (.cells #[.bool up, .slice (some ⟨B, 0, none⟩) n n, .slice aG g cG] 35)) 45 [.int .i64 0, .int .i64 0, .int .i64 0, .slice none 0 0, .int .i64 0, .slice none 0 0, .slice none 0 0, .slice none 0 0]; rwa [show (w.alloc (.cells #[.bool up, .slice (some ⟨B, 0, none⟩) n n, .slice aG g cG] 35)).heap.size = w.heap.size + 1 by simp] at this
  rw [← e0]
  clear e0
  go_loopw [6] (fun i wr => ∃ k : Nat, k ≤ n ∧ i = .int .i64 k ∧ goH F cell (n - k) k = goH F cell n 0 ∧ Below w0.heap.size w0 wr) (fun i _ => n - (intOf i).toNat)
  case atStart => exact ⟨0, Nat.zero_le _, rfl, by rw [Nat.sub_zero], Below.refl _ _⟩
  case round =>
    obtain ⟨k, hk, rfl, hgo, hbel⟩ := hrel
    have HG : Hid (goH F cell (n - k) k = goH F cell n 0) := hgo
    have HB : Hid (Below w0.heap.size w0 wr) := hbel
    have BW : Hid (Below w.heap.size w wr) := bthen B0.out hbel
    have VW : Hid (Bk wr w.heap.size [.bool up, .slice (some ⟨B, 0, none⟩) n n, .slice aG g cG]) := V0.out.below hbel
    have RW : Hid (Bk wr (w.heap.size + 1) [.int .i64 0, .int .i64 0, .int .i64 0, .slice none 0 0, .int .i64 0, .slice none 0 0, .slice none 0 0, .slice none 0 0]) := R0.out.below hbel
    have OW : Hid (HOwn wr B n F n) := HO.out.below hB BW.out
    have zr : w.heap.size + 1 < wr.heap.size := RW.out.1
    clear hgo hbel
    by_cases hkn : k < n
    · have hkn' : (k : Int) < n := by omega
      obtain ⟨fu, hfu⟩ : ∃ fu, n - k = fu + 1 := ⟨n - k - 1, by omega⟩
      have HG2 : Hid ((if (F k).V.c = cell then (F k, true) else goH F cell fu (k + 1)) = goH F cell n 0) := by have := HG.out; rw [hfu, goH] at this; exact this
      have HF : Hid (n - k = fu + 1) := hfu
      clear hfu HG
      obtain ⟨lo, bW, bO, bX, bI, hlo, hcs, hcp⟩ := OW.out.2 k hkn
      have HCP : Hid (HCopy lo wr (.agg #[.int .i64 (F k).ag, .int .i64 (F k).ct, .int .i64 (F k).V.c, .slice (some ⟨bW, 0, none⟩) (F k).V.nW (F k).V.nW, .int .i64 (F k).V.g, .slice (some ⟨bO, 0, none⟩) (F k).V.nO (F k).V.nO, .slice (some ⟨bX, 0, none⟩) (F k).V.nX (F k).V.nX, .slice (some ⟨bI, 0, none⟩) (F k).V.nI (F k).V.nI]) (F k).ag (F k).ct (F k).V) := ⟨bW, bO, bX, bI, rfl, hcp⟩
      obtain ⟨c0, c1, c2, c3, c4, c5, c6, c7⟩ := hcs
      clear hcp
      by_cases hcc : (F k).V.c = cell
      · have hc : Hid ((F k).V.c = cell) := hcc
        have hce : ((F k).V.c == cell) = true := by simp [hcc]
        clear hcc
        have yV0 : wr.cell? ⟨w.heap.size, 0, none⟩ = some (.bool up) := (VW.out.2 0 (by simp)).1
        have yV1 : wr.cell? ⟨w.heap.size, 1, none⟩ = some (.slice (some ⟨B, 0, none⟩) n n) := (VW.out.2 1 (by simp)).1
        have yV2 : wr.cell? ⟨w.heap.size, 2, none⟩ = some (.slice aG g cG) := (VW.out.2 2 (by simp)).1
        have hlV : w.heap.size < wr.heap.size := VW.out.1
        go_wp2_with fail
        clear yV0 yV1 yV2 hlV
        refine (copy_spec _ (F k) lo (HS.out k hkn) _ HCP.out).mono ?_
        rintro e w1 ⟨⟨v1, rfl, hOH⟩, hb1⟩
        obtain ⟨x1, x2, x3, x4, rfl, hO⟩ := hOH
        obtain ⟨aW, kW, aO, kO, aX, kX, aI, kI, eO, _, _, _, _⟩ := hO.at
        simp only [Value.agg.injEq, Array.mk.injEq, List.cons.injEq, and_true, true_and] at eO
        obtain ⟨rfl, rfl, rfl, rfl⟩ := eO
        have OC : Hid (OwnC wr.heap.size w1.heap.size w1 (.agg #[.int .i64 (F k).V.c, .slice aW (F k).V.nW kW, .int .i64 (F k).V.g, .slice aO (F k).V.nO kO, .slice aX (F k).V.nX kX, .slice aI (F k).V.nI kI]) (F k).V) := hO
        have B1 : Hid (Below w.heap.size w w1) := bthen BW.out hb1
        have hz1 : wr.heap.size ≤ wr.heap.size := Nat.le_refl _
        have hz2 := hb1.size
        have R1 : Hid (Bk w1 (w.heap.size + 1) [.int .i64 0, .int .i64 0, .int .i64 0, .slice none 0 0, .int .i64 0, .slice none 0 0, .slice none 0 0, .slice none 0 0]) := RW.out.below hb1
        clear hO hb1 c0 c1 c2 c3 c4 c5 c6 c7
        have yR0 : w1.cell? ⟨(w.heap.size + 1), 0, none⟩ = some (.int .i64 0) := (R1.out.2 0 (by simp)).1
        have zR0 : w1.frozen? ⟨(w.heap.size + 1), 0, none⟩ = false := (R1.out.2 0 (by simp)).2
        have yR1 : w1.cell? ⟨(w.heap.size + 1), 1, none⟩ = some (.int .i64 0) := (R1.out.2 1 (by simp)).1
        have zR1 : w1.frozen? ⟨(w.heap.size + 1), 1, none⟩ = false := (R1.out.2 1 (by simp)).2
        have yR2 : w1.cell? ⟨(w.heap.size + 1), 2, none⟩ = some (.int .i64 0) := (R1.out.2 2 (by simp)).1
        have zR2 : w1.frozen? ⟨(w.heap.size + 1), 2, none⟩ = false := (R1.out.2 2 (by simp)).2
        have yR3 : w1.cell? ⟨(w.heap.size + 1), 3, none⟩ = some (.slice none 0 0) := (R1.out.2 3 (by simp)).1
        have zR3 : w1.frozen? ⟨(w.heap.size + 1), 3, none⟩ = false := (R1.out.2 3 (by simp)).2
        have yR4 : w1.cell? ⟨(w.heap.size + 1), 4, none⟩ = some (.int .i64 0) := (R1.out.2 4 (by simp)).1
        have zR4 : w1.frozen? ⟨(w.heap.size + 1), 4, none⟩ = false := (R1.out.2 4 (by simp)).2
        have yR5 : w1.cell? ⟨(w.heap.size + 1), 5, none⟩ = some (.slice none 0 0) := (R1.out.2 5 (by simp)).1
        have zR5 : w1.frozen? ⟨(w.heap.size + 1), 5, none⟩ = false := (R1.out.2 5 (by simp)).2
        have yR6 : w1.cell? ⟨(w.heap.size + 1), 6, none⟩ = some (.slice none 0 0) := (R1.out.2 6 (by simp)).1
        have zR6 : w1.frozen? ⟨(w.heap.size + 1), 6, none⟩ = false := (R1.out.2 6 (by simp)).2
        have yR7 : w1.cell? ⟨(w.heap.size + 1), 7, none⟩ = some (.slice none 0 0) := (R1.out.2 7 (by simp)).1
        have zR7 : w1.frozen? ⟨(w.heap.size + 1), 7, none⟩ = false := (R1.out.2 7 (by simp)).2
        have hlR : (w.heap.size + 1) < w1.heap.size := R1.out.1
        go_wp2
        have HR : goH F cell n 0 = (F k, true) := by rw [← HG2.out, if_pos hc.out]
        refine bodyPost_ret (v := .tuple #[.agg #[.int .i64 (F k).ag, .int .i64 (F k).ct, .int .i64 (F k).V.c, .slice aW (F k).V.nW kW, .int .i64 (F k).V.g, .slice aO (F k).V.nO kO, .slice aX (F k).V.nX kX, .slice aI (F k).V.nI kI], .bool true]) (by simp [results, Try.results11, go_sem, *]) rfl ?_
        rw [HR]
        exact ⟨⟨_, rfl, _, _, _, _, rfl, ownC_wide (ownC_set (ownC_set (ownC_set (ownC_set (ownC_set (ownC_set (ownC_set (ownC_set OC.out (by omega)) (by omega)) (by omega)) (by omega)) (by omega)) (by omega)) (by omega)) (by omega)) (by omega) (by simp [World.setCell]) (Nat.le_refl _)⟩, ((((((((B1.out.setCell (by show w.heap.size ≤ w.heap.size + 1; omega) _).setCell (by show w.heap.size ≤ w.heap.size + 1; omega) _).setCell (by show w.heap.size ≤ w.heap.size + 1; omega) _).setCell (by show w.heap.size ≤ w.heap.size + 1; omega) _).setCell (by show w.heap.size ≤ w.heap.size + 1; omega) _).setCell (by show w.heap.size ≤ w.heap.size + 1; omega) _).setCell (by show w.heap.size ≤ w.heap.size + 1; omega) _).setCell (by show w.heap.size ≤ w.heap.size + 1; omega) _)⟩
      · have hc : Hid (¬ (F k).V.c = cell) := hcc
        have hce : ((F k).V.c == cell) = false := by simp [hcc]
        clear hcc
        have yV0 : wr.cell? ⟨w.heap.size, 0, none⟩ = some (.bool up) := (VW.out.2 0 (by simp)).1
        have yV1 : wr.cell? ⟨w.heap.size, 1, none⟩ = some (.slice (some ⟨B, 0, none⟩) n n) := (VW.out.2 1 (by simp)).1
        have yV2 : wr.cell? ⟨w.heap.size, 2, none⟩ = some (.slice aG g cG) := (VW.out.2 2 (by simp)).1
        have hlV : w.heap.size < wr.heap.size := VW.out.1
        go_wp2
        go_roundw
        case rel => exact ⟨k + 1, by omega, by go_num, by rw [show n - (k + 1) = fu by have := HF.out; omega, ← HG2.out, if_neg hc.out], HB.out⟩
        case measure => simp [intOf]; omega
    · have hkk : k = n := by omega
      subst hkk
      have yV0 : wr.cell? ⟨w.heap.size, 0, none⟩ = some (.bool up) := (VW.out.2 0 (by simp)).1
      have zV0 : wr.frozen? ⟨w.heap.size, 0, none⟩ = false := (VW.out.2 0 (by simp)).2
      have yV1 : wr.cell? ⟨w.heap.size, 1, none⟩ = some (.slice (some ⟨B, 0, none⟩) k k) := (VW.out.2 1 (by simp)).1
      have zV1 : wr.frozen? ⟨w.heap.size, 1, none⟩ = false := (VW.out.2 1 (by simp)).2
      have yV2 : wr.cell? ⟨w.heap.size, 2, none⟩ = some (.slice aG g cG) := (VW.out.2 2 (by simp)).1
      have zV2 : wr.frozen? ⟨w.heap.size, 2, none⟩ = false := (VW.out.2 2 (by simp)).2
      have hlV : w.heap.size < wr.heap.size := VW.out.1
      have yR0 : wr.cell? ⟨(w.heap.size + 1), 0, none⟩ = some (.int .i64 0) := (RW.out.2 0 (by simp)).1
      have zR0 : wr.frozen? ⟨(w.heap.size + 1), 0, none⟩ = false := (RW.out.2 0 (by simp)).2
      have yR1 : wr.cell? ⟨(w.heap.size + 1), 1, none⟩ = some (.int .i64 0) := (RW.out.2 1 (by simp)).1
      have zR1 : wr.frozen? ⟨(w.heap.size + 1), 1, none⟩ = false := (RW.out.2 1 (by simp)).2
      have yR2 : wr.cell? ⟨(w.heap.size + 1), 2, none⟩ = some (.int .i64 0) := (RW.out.2 2 (by simp)).1
      have zR2 : wr.frozen? ⟨(w.heap.size + 1), 2, none⟩ = false := (RW.out.2 2 (by simp)).2
      have yR3 : wr.cell? ⟨(w.heap.size + 1), 3, none⟩ = some (.slice none 0 0) := (RW.out.2 3 (by simp)).1
      have zR3 : wr.frozen? ⟨(w.heap.size + 1), 3, none⟩ = false := (RW.out.2 3 (by simp)).2
      have yR4 : wr.cell? ⟨(w.heap.size + 1), 4, none⟩ = some (.int .i64 0) := (RW.out.2 4 (by simp)).1
      have zR4 : wr.frozen? ⟨(w.heap.size + 1), 4, none⟩ = false := (RW.out.2 4 (by simp)).2
      have yR5 : wr.cell? ⟨(w.heap.size + 1), 5, none⟩ = some (.slice none 0 0) := (RW.out.2 5 (by simp)).1
      have zR5 : wr.frozen? ⟨(w.heap.size + 1), 5, none⟩ = false := (RW.out.2 5 (by simp)).2
      have yR6 : wr.cell? ⟨(w.heap.size + 1), 6, none⟩ = some (.slice none 0 0) := (RW.out.2 6 (by simp)).1
      have zR6 : wr.frozen? ⟨(w.heap.size + 1), 6, none⟩ = false := (RW.out.2 6 (by simp)).2
      have yR7 : wr.cell? ⟨(w.heap.size + 1), 7, none⟩ = some (.slice none 0 0) := (RW.out.2 7 (by simp)).1
      have zR7 : wr.frozen? ⟨(w.heap.size + 1), 7, none⟩ = false := (RW.out.2 7 (by simp)).2
      have hlR : (w.heap.size + 1) < wr.heap.size := RW.out.1
      go_wp2
      have HR : goH F cell k 0 = (hz0, false) := by rw [← HG.out, Nat.sub_self, goH]
      refine bodyPost_ret (v := .tuple #[.agg #[.int .i64 0, .int .i64 0, .int .i64 0, .slice none 0 0, .int .i64 0, .slice none 0 0, .slice none 0 0, .slice none 0 0], .bool false]) (by simp [results, Try.results11, go_sem, *]) rfl ?_
      rw [HR]
      exact ⟨⟨_, rfl, ownH_zero _ _ _⟩, ((((((((BW.out.setCell (by show w.heap.size ≤ w.heap.size + 1; omega) _).setCell (by show w.heap.size ≤ w.heap.size + 1; omega) _).setCell (by show w.heap.size ≤ w.heap.size + 1; omega) _).setCell (by show w.heap.size ≤ w.heap.size + 1; omega) _).setCell (by show w.heap.size ≤ w.heap.size + 1; omega) _).setCell (by show w.heap.size ≤ w.heap.size + 1; omega) _).setCell (by show w.heap.size ≤ w.heap.size + 1; omega) _).setCell (by show w.heap.size ≤ w.heap.size + 1; omega) _)⟩

set_option maxRecDepth 100000 in
set_option maxHeartbeats 4000000 in
theorem hold_impl (up : Bool) (B n : Nat) (F : Nat → HV) (aG : Option Addr) (g cG : Nat) (cell : Int) (hn : n ≤ 1048576) (hS : ∀ k, k < n → (F k).V.short 1048576) (w : World) (hB : B < w.heap.size) (h : HOwn w B n F n) :
    Calls Try.prog 12 #[.agg #[.bool up, .slice (some ⟨B, 0, none⟩) n n, .slice aG g cG], .int .i64 cell] w fun e w' => (∃ v, e = .returned (.tuple #[v, .bool (goH F cell n 0).2]) ∧ OwnH w.heap.size w'.heap.size w' v (goH F cell n 0).1) ∧ Below w.heap.size w w' := by
  have HO : Hid (HOwn w B n F n) := h
  have HS : Hid (∀ k, k < n → (F k).V.short 1048576) := hS
  clear h hS
  go_enter Try.func12, Try.ntmps12
  go_wp2
  obtain ⟨w0, e0⟩ : ∃ w0, w0 = (w.alloc (.cells #[.bool up, .slice (some ⟨B, 0, none⟩) n n, .slice aG g cG] 35)).alloc (.cells #[.int .i64 0, .int .i64 0, .int .i64 0, .slice none 0 0, .int .i64 0, .slice none 0 0, .slice none 0 0, .slice none 0 0] 45) := ⟨_, rfl⟩
  have B0 : Hid (Below w.heap.size w w0) := by rw [e0]; exact ((Below.refl _ _).alloc (by simp) _).alloc (by simp) _
  have V0 : Hid (Bk w0 w.heap.size [.bool up, .slice (some ⟨B, 0, none⟩) n n, .slice aG g cG]) := by rw [e0]; exact (bk_new w 35 [.bool up, .slice (some ⟨B, 0, none⟩) n n, .slice aG g cG]).below ((Below.refl _ _).alloc (Nat.le_refl _) _)
  have R0 : Hid (Bk w0 (w.heap.size + 1) [.int .i64 0, .int .i64 0, .int .i64 0, .slice none 0 0, .int .i64 0, .slice none 0 0, .slice none 0 0, .slice none 0 0]) := by rw [e0]; have := bk_new (w.alloc (.cells #[.bool up, .slice (some ⟨B, 0, none⟩) n n, .slice aG g cG] 35)) 45 [.int .i64 0, .int .i64 0, .int .i64 0, .slice none 0 0, .int .i64 0, .slice none 0 0, .slice none 0 0, .slice none 0 0]; rwa [show (w.alloc (.cells #[.bool up, .slice (some ⟨B, 0, none⟩) n n, .slice aG g cG] 35)).heap.size = w.heap.size + 1 by simp] at this
  rw [← e0]
  clear e0
  go_loopw [11] (fun i wr => ∃ k : Nat, k ≤ n ∧ i = .int .i64 k ∧ goH F cell (n - k) k = goH F cell n 0 ∧ Below w0.heap.size w0 wr) (fun i _ => n - (intOf i).toNat)
  case atStart => exact ⟨0, Nat.zero_le _, rfl, by rw [Nat.sub_zero], Below.refl _ _⟩
  case round =>
    obtain ⟨k, hk, rfl, hgo, hbel⟩ := hrel
    have HG : Hid (goH F cell (n - k) k = goH F cell n 0) := hgo
    have HB : Hid (Below w0.heap.size w0 wr) := hbel
    have BW : Hid (Below w.heap.size w wr) := bthen B0.out hbel
    have VW : Hid (Bk wr w.heap.size [.bool up, .slice (some ⟨B, 0, none⟩) n n, .slice aG g cG]) := V0.out.below hbel
    have RW : Hid (Bk wr (w.heap.size + 1) [.int .i64 0, .int .i64 0, .int .i64 0, .slice none 0 0, .int .i64 0, .slice none 0 0, .slice none 0 0, .slice none 0 0]) := R0.out.below hbel
    have OW : Hid (HOwn wr B n F n) := HO.out.below hB BW.out
    have zr : w.heap.size + 1 < wr.heap.size := RW.out.1
    clear hgo hbel
    by_cases hkn : k < n
    · have hkn' : (k : Int) < n := by omega
      obtain ⟨fu, hfu⟩ : ∃ fu, n - k = fu + 1 := ⟨n - k - 1, by omega⟩
      have HG2 : Hid ((if (F k).V.c = cell then (F k, true) else goH F cell fu (k + 1)) = goH F cell n 0) := by have := HG.out; rw [hfu, goH] at this; exact this
      have HF : Hid (n - k = fu + 1) := hfu
      clear hfu HG
      obtain ⟨lo, bW, bO, bX, bI, hlo, hcs, hcp⟩ := OW.out.2 k hkn
      have HCP : Hid (HCopy lo wr (.agg #[.int .i64 (F k).ag, .int .i64 (F k).ct, .int .i64 (F k).V.c, .slice (some ⟨bW, 0, none⟩) (F k).V.nW (F k).V.nW, .int .i64 (F k).V.g, .slice (some ⟨bO, 0, none⟩) (F k).V.nO (F k).V.nO, .slice (some ⟨bX, 0, none⟩) (F k).V.nX (F k).V.nX, .slice (some ⟨bI, 0, none⟩) (F k).V.nI (F k).V.nI]) (F k).ag (F k).ct (F k).V) := ⟨bW, bO, bX, bI, rfl, hcp⟩
      obtain ⟨c0, c1, c2, c3, c4, c5, c6, c7⟩ := hcs
      clear hcp
      by_cases hcc : (F k).V.c = cell
      · have hc : Hid ((F k).V.c = cell) := hcc
        have hce : ((F k).V.c == cell) = true := by simp [hcc]
        clear hcc
        have yV0 : wr.cell? ⟨w.heap.size, 0, none⟩ = some (.bool up) := (VW.out.2 0 (by simp)).1
        have yV1 : wr.cell? ⟨w.heap.size, 1, none⟩ = some (.slice (some ⟨B, 0, none⟩) n n) := (VW.out.2 1 (by simp)).1
        have yV2 : wr.cell? ⟨w.heap.size, 2, none⟩ = some (.slice aG g cG) := (VW.out.2 2 (by simp)).1
        have hlV : w.heap.size < wr.heap.size := VW.out.1
        have hBw : B < wr.heap.size := Nat.lt_of_lt_of_le hB BW.out.size
        go_wp2_with fail
        obtain ⟨wa, ea⟩ : ∃ y, y = wr.alloc (.cells #[.int .i64 (F k).ag, .int .i64 (F k).ct, .int .i64 (F k).V.c, .slice (some ⟨bW, 0, none⟩) (F k).V.nW (F k).V.nW, .int .i64 (F k).V.g, .slice (some ⟨bO, 0, none⟩) (F k).V.nO (F k).V.nO, .slice (some ⟨bX, 0, none⟩) (F k).V.nX (F k).V.nX, .slice (some ⟨bI, 0, none⟩) (F k).V.nI (F k).V.nI] 45) := ⟨_, rfl⟩
        have hba : Below wr.heap.size wr wa := by rw [ea]; exact (Below.refl _ _).alloc (Nat.le_refl _) _
        rw [← ea]
        clear ea
        clear yV0 yV1 yV2 hlV
        refine (copy_impl _ (F k) lo (HS.out k hkn) _ (HCP.out.below hba)).mono ?_
        rintro e w1 ⟨⟨v1, rfl, hOH⟩, hb1⟩
        obtain ⟨x1, x2, x3, x4, rfl, hO⟩ := hOH
        obtain ⟨aW, kW, aO, kO, aX, kX, aI, kI, eO, _, _, _, _⟩ := hO.at
        simp only [Value.agg.injEq, Array.mk.injEq, List.cons.injEq, and_true, true_and] at eO
        obtain ⟨rfl, rfl, rfl, rfl⟩ := eO
        have OC : Hid (OwnC wa.heap.size w1.heap.size w1 (.agg #[.int .i64 (F k).V.c, .slice aW (F k).V.nW kW, .int .i64 (F k).V.g, .slice aO (F k).V.nO kO, .slice aX (F k).V.nX kX, .slice aI (F k).V.nI kI]) (F k).V) := hO
        have B1 : Hid (Below w.heap.size w w1) := bthen (bthen BW.out hba) hb1
        have hz1 : wr.heap.size ≤ wa.heap.size := hba.size
        have hz2 := hb1.size
        have R1 : Hid (Bk w1 (w.heap.size + 1) [.int .i64 0, .int .i64 0, .int .i64 0, .slice none 0 0, .int .i64 0, .slice none 0 0, .slice none 0 0, .slice none 0 0]) := (RW.out.below hba).below hb1
        clear hO hb1 c0 c1 c2 c3 c4 c5 c6 c7 hba
        have yR0 : w1.cell? ⟨(w.heap.size + 1), 0, none⟩ = some (.int .i64 0) := (R1.out.2 0 (by simp)).1
        have zR0 : w1.frozen? ⟨(w.heap.size + 1), 0, none⟩ = false := (R1.out.2 0 (by simp)).2
        have yR1 : w1.cell? ⟨(w.heap.size + 1), 1, none⟩ = some (.int .i64 0) := (R1.out.2 1 (by simp)).1
        have zR1 : w1.frozen? ⟨(w.heap.size + 1), 1, none⟩ = false := (R1.out.2 1 (by simp)).2
        have yR2 : w1.cell? ⟨(w.heap.size + 1), 2, none⟩ = some (.int .i64 0) := (R1.out.2 2 (by simp)).1
        have zR2 : w1.frozen? ⟨(w.heap.size + 1), 2, none⟩ = false := (R1.out.2 2 (by simp)).2
        have yR3 : w1.cell? ⟨(w.heap.size + 1), 3, none⟩ = some (.slice none 0 0) := (R1.out.2 3 (by simp)).1
        have zR3 : w1.frozen? ⟨(w.heap.size + 1), 3, none⟩ = false := (R1.out.2 3 (by simp)).2
        have yR4 : w1.cell? ⟨(w.heap.size + 1), 4, none⟩ = some (.int .i64 0) := (R1.out.2 4 (by simp)).1
        have zR4 : w1.frozen? ⟨(w.heap.size + 1), 4, none⟩ = false := (R1.out.2 4 (by simp)).2
        have yR5 : w1.cell? ⟨(w.heap.size + 1), 5, none⟩ = some (.slice none 0 0) := (R1.out.2 5 (by simp)).1
        have zR5 : w1.frozen? ⟨(w.heap.size + 1), 5, none⟩ = false := (R1.out.2 5 (by simp)).2
        have yR6 : w1.cell? ⟨(w.heap.size + 1), 6, none⟩ = some (.slice none 0 0) := (R1.out.2 6 (by simp)).1
        have zR6 : w1.frozen? ⟨(w.heap.size + 1), 6, none⟩ = false := (R1.out.2 6 (by simp)).2
        have yR7 : w1.cell? ⟨(w.heap.size + 1), 7, none⟩ = some (.slice none 0 0) := (R1.out.2 7 (by simp)).1
        have zR7 : w1.frozen? ⟨(w.heap.size + 1), 7, none⟩ = false := (R1.out.2 7 (by simp)).2
        have hlR : (w.heap.size + 1) < w1.heap.size := R1.out.1
        go_wp2
        have HR : goH F cell n 0 = (F k, true) := by rw [← HG2.out, if_pos hc.out]
        refine bodyPost_ret (v := .tuple #[.agg #[.int .i64 (F k).ag, .int .i64 (F k).ct, .int .i64 (F k).V.c, .slice aW (F k).V.nW kW, .int .i64 (F k).V.g, .slice aO (F k).V.nO kO, .slice aX (F k).V.nX kX, .slice aI (F k).V.nI kI], .bool true]) (by simp [results, Try.results12, go_sem, *]) rfl ?_
        rw [HR]
        exact ⟨⟨_, rfl, _, _, _, _, rfl, ownC_wide (ownC_set (ownC_set (ownC_set (ownC_set (ownC_set (ownC_set (ownC_set (ownC_set OC.out (by omega)) (by omega)) (by omega)) (by omega)) (by omega)) (by omega)) (by omega)) (by omega)) (by omega) (by simp [World.setCell]) (Nat.le_refl _)⟩, ((((((((B1.out.setCell (by show w.heap.size ≤ w.heap.size + 1; omega) _).setCell (by show w.heap.size ≤ w.heap.size + 1; omega) _).setCell (by show w.heap.size ≤ w.heap.size + 1; omega) _).setCell (by show w.heap.size ≤ w.heap.size + 1; omega) _).setCell (by show w.heap.size ≤ w.heap.size + 1; omega) _).setCell (by show w.heap.size ≤ w.heap.size + 1; omega) _).setCell (by show w.heap.size ≤ w.heap.size + 1; omega) _).setCell (by show w.heap.size ≤ w.heap.size + 1; omega) _)⟩
      · have hc : Hid (¬ (F k).V.c = cell) := hcc
        have hce : ((F k).V.c == cell) = false := by simp [hcc]
        clear hcc
        have yV0 : wr.cell? ⟨w.heap.size, 0, none⟩ = some (.bool up) := (VW.out.2 0 (by simp)).1
        have yV1 : wr.cell? ⟨w.heap.size, 1, none⟩ = some (.slice (some ⟨B, 0, none⟩) n n) := (VW.out.2 1 (by simp)).1
        have yV2 : wr.cell? ⟨w.heap.size, 2, none⟩ = some (.slice aG g cG) := (VW.out.2 2 (by simp)).1
        have hlV : w.heap.size < wr.heap.size := VW.out.1
        have hBw : B < wr.heap.size := Nat.lt_of_lt_of_le hB BW.out.size
        go_wp2
        go_roundw
        case rel => exact ⟨k + 1, by omega, by go_num, by rw [show n - (k + 1) = fu by have := HF.out; omega, ← HG2.out, if_neg hc.out], bthen HB.out ((Below.refl _ _).alloc (Nat.le_refl _) _)⟩
        case measure => simp [intOf]; omega
    · have hkk : k = n := by omega
      subst hkk
      have yV0 : wr.cell? ⟨w.heap.size, 0, none⟩ = some (.bool up) := (VW.out.2 0 (by simp)).1
      have zV0 : wr.frozen? ⟨w.heap.size, 0, none⟩ = false := (VW.out.2 0 (by simp)).2
      have yV1 : wr.cell? ⟨w.heap.size, 1, none⟩ = some (.slice (some ⟨B, 0, none⟩) k k) := (VW.out.2 1 (by simp)).1
      have zV1 : wr.frozen? ⟨w.heap.size, 1, none⟩ = false := (VW.out.2 1 (by simp)).2
      have yV2 : wr.cell? ⟨w.heap.size, 2, none⟩ = some (.slice aG g cG) := (VW.out.2 2 (by simp)).1
      have zV2 : wr.frozen? ⟨w.heap.size, 2, none⟩ = false := (VW.out.2 2 (by simp)).2
      have hlV : w.heap.size < wr.heap.size := VW.out.1
      have yR0 : wr.cell? ⟨(w.heap.size + 1), 0, none⟩ = some (.int .i64 0) := (RW.out.2 0 (by simp)).1
      have zR0 : wr.frozen? ⟨(w.heap.size + 1), 0, none⟩ = false := (RW.out.2 0 (by simp)).2
      have yR1 : wr.cell? ⟨(w.heap.size + 1), 1, none⟩ = some (.int .i64 0) := (RW.out.2 1 (by simp)).1
      have zR1 : wr.frozen? ⟨(w.heap.size + 1), 1, none⟩ = false := (RW.out.2 1 (by simp)).2
      have yR2 : wr.cell? ⟨(w.heap.size + 1), 2, none⟩ = some (.int .i64 0) := (RW.out.2 2 (by simp)).1
      have zR2 : wr.frozen? ⟨(w.heap.size + 1), 2, none⟩ = false := (RW.out.2 2 (by simp)).2
      have yR3 : wr.cell? ⟨(w.heap.size + 1), 3, none⟩ = some (.slice none 0 0) := (RW.out.2 3 (by simp)).1
      have zR3 : wr.frozen? ⟨(w.heap.size + 1), 3, none⟩ = false := (RW.out.2 3 (by simp)).2
      have yR4 : wr.cell? ⟨(w.heap.size + 1), 4, none⟩ = some (.int .i64 0) := (RW.out.2 4 (by simp)).1
      have zR4 : wr.frozen? ⟨(w.heap.size + 1), 4, none⟩ = false := (RW.out.2 4 (by simp)).2
      have yR5 : wr.cell? ⟨(w.heap.size + 1), 5, none⟩ = some (.slice none 0 0) := (RW.out.2 5 (by simp)).1
      have zR5 : wr.frozen? ⟨(w.heap.size + 1), 5, none⟩ = false := (RW.out.2 5 (by simp)).2
      have yR6 : wr.cell? ⟨(w.heap.size + 1), 6, none⟩ = some (.slice none 0 0) := (RW.out.2 6 (by simp)).1
      have zR6 : wr.frozen? ⟨(w.heap.size + 1), 6, none⟩ = false := (RW.out.2 6 (by simp)).2
      have yR7 : wr.cell? ⟨(w.heap.size + 1), 7, none⟩ = some (.slice none 0 0) := (RW.out.2 7 (by simp)).1
      have zR7 : wr.frozen? ⟨(w.heap.size + 1), 7, none⟩ = false := (RW.out.2 7 (by simp)).2
      have hlR : (w.heap.size + 1) < wr.heap.size := RW.out.1
      go_wp2
      have HR : goH F cell k 0 = (hz0, false) := by rw [← HG.out, Nat.sub_self, goH]
      refine bodyPost_ret (v := .tuple #[.agg #[.int .i64 0, .int .i64 0, .int .i64 0, .slice none 0 0, .int .i64 0, .slice none 0 0, .slice none 0 0, .slice none 0 0], .bool false]) (by simp [results, Try.results12, go_sem, *]) rfl ?_
      rw [HR]
      exact ⟨⟨_, rfl, ownH_zero _ _ _⟩, ((((((((BW.out.setCell (by show w.heap.size ≤ w.heap.size + 1; omega) _).setCell (by show w.heap.size ≤ w.heap.size + 1; omega) _).setCell (by show w.heap.size ≤ w.heap.size + 1; omega) _).setCell (by show w.heap.size ≤ w.heap.size + 1; omega) _).setCell (by show w.heap.size ≤ w.heap.size + 1; omega) _).setCell (by show w.heap.size ≤ w.heap.size + 1; omega) _).setCell (by show w.heap.size ≤ w.heap.size + 1; omega) _).setCell (by show w.heap.size ≤ w.heap.size + 1; omega) _)⟩

def HV.marked (X : HV) : HV := ⟨X.ag, X.ct, X.V.marked⟩
theorem markH (lo hi : Nat) (v : Value) (X : HV) (hs : X.V.few) (w : World) (hlh : lo ≤ w.heap.size) (hhi : hi ≤ w.heap.size) (h : OwnH lo hi w v X) :
    Calls Try.prog 15 #[v, .int .i64 1] w fun e w' => e = .returned (.int .i64 ((X.V.s4 : Nat) : Int)) ∧ OwnH lo hi w' v X.marked ∧ w.heap.size ≤ w'.heap.size ∧ (∀ b, b < w.heap.size → (b < lo ∨ hi ≤ b) → Sm w w' b) ∧ Below lo w w' := by
  obtain ⟨x1, x2, x3, x4, rfl, hx⟩ := h
  have HX : Hid (OwnC lo hi w (.agg #[.int .i64 X.V.c, x1, .int .i64 X.V.g, x2, x3, x4]) X.V) := hx
  clear hx
  go_enter Try.func15, Try.ntmps15
  go_wp2_with fail
  obtain ⟨w0, e0⟩ : ∃ w0, w0 = w.alloc (.cells #[.int .i64 X.ag, .int .i64 X.ct, .int .i64 X.V.c, x1, .int .i64 X.V.g, x2, x3, x4] 45) := ⟨_, rfl⟩
  have z0 : w.heap.size + 1 ≤ w0.heap.size := by rw [e0]; simp
  have B0 : Hid (Below w.heap.size w w0) := by rw [e0]; exact (Below.refl _ _).alloc (by simp) _
  rw [← e0]
  clear e0
  refine (markC lo hi _ X.V hs _ (by omega) (by omega) (HX.out.below hhi B0.out)).mono ?_
  rintro e w1 ⟨rfl, hm1, hz1, hk1, hb1⟩
  have HM : Hid (OwnC lo hi w1 (.agg #[.int .i64 X.V.c, x1, .int .i64 X.V.g, x2, x3, x4]) X.V.marked) := hm1
  have HK : Hid (∀ b, b < w0.heap.size → (b < lo ∨ hi ≤ b) → Sm w0 w1 b) := hk1
  have HB : Hid (Below lo w0 w1) := hb1
  clear hm1 hk1 hb1 HX
  go_wp2
  go_ret
  exact ⟨rfl, ⟨x1, x2, x3, x4, rfl, HM.out⟩, by omega, fun b h1 h2 => (sm_below B0.out h1).trans (HK.out b (by omega) h2), (B0.out.mono hlh).trans HB.out⟩

theorem heldH (lo hi : Nat) (v : Value) (X : HV) (hs : X.V.few) (w : World) (hhi : hi ≤ w.heap.size) (h : OwnH lo hi w v X.marked) :
    Calls Try.prog 16 #[v, .int .i64 1] w fun e w' => e = .returned (.int .i64 ((X.V.s4 : Nat) : Int)) ∧ Below w.heap.size w w' := by
  obtain ⟨x1, x2, x3, x4, rfl, hx⟩ := h
  have HX : Hid (OwnC lo hi w (.agg #[.int .i64 X.V.c, x1, .int .i64 X.V.g, x2, x3, x4]) X.V.marked) := hx
  clear hx
  show Calls Try.prog 16 #[.agg #[.int .i64 X.ag, .int .i64 X.ct, .int .i64 X.V.c, x1, .int .i64 X.V.g, x2, x3, x4], .int .i64 1] w _
  go_enter Try.func16, Try.ntmps16
  go_wp2_with fail
  obtain ⟨w0, e0⟩ : ∃ w0, w0 = w.alloc (.cells #[.int .i64 X.ag, .int .i64 X.ct, .int .i64 X.V.c, x1, .int .i64 X.V.g, x2, x3, x4] 45) := ⟨_, rfl⟩
  have z0 : w.heap.size + 1 ≤ w0.heap.size := by rw [e0]; simp
  have B0 : Hid (Below w.heap.size w w0) := by rw [e0]; exact (Below.refl _ _).alloc (by simp) _
  rw [← e0]
  clear e0
  refine (heldC lo hi _ X.V hs _ (by omega) (HX.out.below hhi B0.out)).mono ?_
  rintro e w1 ⟨rfl, hb1⟩
  have B1 : Hid (Below w.heap.size w w1) := bthen B0.out hb1
  have hnn : ¬ ((X.V.s4 : Nat) : Int) < 0 := by omega
  clear hb1
  go_wp2
  go_ret
  exact ⟨rfl, B1.out⟩
end Go.Proofs.Ytlbjgecjonegkaa
