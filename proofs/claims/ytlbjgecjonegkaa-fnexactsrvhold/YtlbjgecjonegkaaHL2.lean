/- The copy of a list of holds; conditions: the holds lie in memory. -/
import Derived.Test.YtlbjgecjonegkaaHL1
import Derived.Deep.MidRow
namespace Go.Proofs.Ytlbjgecjonegkaa
open Go.RowKit Go.Deep
set_option linter.unusedVariables false
theorem infoH : (Try.prog.info? 45).map (fun i => (i.zero, i.size, i.bytes)) = some (some (.agg #[.int .i64 0, .int .i64 0, .int .i64 0, .slice none 0 0, .int .i64 0, .slice none 0 0, .slice none 0 0, .slice none 0 0]), 8, 128) := by kernel_rfl
theorem makeH (n : Nat) (hn : n ≤ 1048576) (w : World) :
    (Instr.makeSlice 32 (.int .i64 (n : Int)) (.int .i64 (n : Int))).run Try.prog w = .ok (.slice (some ⟨w.heap.size, 0, none⟩) n n) (w.alloc (.cells (madeCells #[.int .i64 0, .int .i64 0, .int .i64 0, .slice none 0 0, .int .i64 0, .slice none 0 0, .slice none 0 0, .slice none 0 0] (n * 8)) 45)) := by
  obtain ⟨i, hi, hzz⟩ := Option.map_eq_some_iff.1 infoH
  simp only [Prod.mk.injEq] at hzz
  obtain ⟨hz, hs, hb⟩ := hzz
  have := run_make (P := Try.prog) w 32 45 i _ Try.underlying32 hi hz .i64 .i64 n n (by omega) (by omega) (by rw [hb]; omega) (by omega)
  rw [this, hs]
  rfl
/-- A hold whose cell is a copy lies in block B of w, from p on. -/
def HC (w : World) (B p : Nat) (X : HV) : Prop := ∃ lo bW bO bX bI, B < lo ∧ (w.cell? ⟨B, p, none⟩ = some (.int .i64 X.ag) ∧ w.cell? ⟨B, p + 1, none⟩ = some (.int .i64 X.ct) ∧ w.cell? ⟨B, p + 2, none⟩ = some (.int .i64 X.V.c) ∧ w.cell? ⟨B, p + 3, none⟩ = some (.slice (some ⟨bW, 0, none⟩) X.V.nW X.V.nW) ∧ w.cell? ⟨B, p + 4, none⟩ = some (.int .i64 X.V.g) ∧ w.cell? ⟨B, p + 5, none⟩ = some (.slice (some ⟨bO, 0, none⟩) X.V.nO X.V.nO) ∧ w.cell? ⟨B, p + 6, none⟩ = some (.slice (some ⟨bX, 0, none⟩) X.V.nX X.V.nX) ∧ w.cell? ⟨B, p + 7, none⟩ = some (.slice (some ⟨bI, 0, none⟩) X.V.nI X.V.nI)) ∧ CopyAt lo w (.agg #[.int .i64 X.V.c, .slice (some ⟨bW, 0, none⟩) X.V.nW X.V.nW, .int .i64 X.V.g, .slice (some ⟨bO, 0, none⟩) X.V.nO X.V.nO, .slice (some ⟨bX, 0, none⟩) X.V.nX X.V.nX, .slice (some ⟨bI, 0, none⟩) X.V.nI X.V.nI]) X.V
/-- Block B of w is a row of n holds of the call's own, of which the first k are F's. -/
def HOwn (w : World) (B n : Nat) (F : Nat → HV) (k : Nat) : Prop :=
  (∀ i, i < n * 8 → (w.cell? ⟨B, i, none⟩).isSome = true ∧ w.frozen? ⟨B, i, none⟩ = false) ∧ ∀ k', k' < k → HC w B (k' * 8) (F k')
theorem HOwn.cell {w : World} {B n k : Nat} {F : Nat → HV} (h : HOwn w B n F k) (hk : k < n) (j : Nat) (hj : j < 8) : (∃ v, w.cell? ⟨B, k * 8 + j, none⟩ = some v) ∧ w.frozen? ⟨B, k * 8 + j, none⟩ = false := by
  obtain ⟨h1, h2⟩ := h.1 (k * 8 + j) (by omega)
  exact ⟨Option.isSome_iff_exists.1 h1, h2⟩
theorem HC.below {w w' : World} {B p : Nat} {X : HV} (h : HC w B p X) (hl : B < w.heap.size) (hb : Below w.heap.size w w') : HC w' B p X := by
  obtain ⟨lo, bW, bO, bX, bI, h0, ⟨c0, c1, c2, c3, c4, c5, c6, c7⟩, h1⟩ := h
  have k : ∀ o, w'.cell? ⟨B, o, none⟩ = w.cell? ⟨B, o, none⟩ := fun o => hb.cell (p := ⟨B, o, none⟩) hl
  exact ⟨lo, bW, bO, bX, bI, h0, ⟨(k _).trans c0, (k _).trans c1, (k _).trans c2, (k _).trans c3, (k _).trans c4, (k _).trans c5, (k _).trans c6, (k _).trans c7⟩, h1.below hb⟩
theorem HOwn.below {w w' : World} {B n k : Nat} {F : Nat → HV} (h : HOwn w B n F k) (hB : B < w.heap.size) (hb : Below w.heap.size w w') : HOwn w' B n F k :=
  ⟨fun i hi => by rw [hb.cell (p := ⟨B, i, none⟩) hB, hb.frozen (p := ⟨B, i, none⟩) hB]; exact h.1 i hi, fun k' hk => (h.2 k' hk).below hB hb⟩
theorem CopyAt.sets {lo B : Nat} {v : Value} {V : CV} (hB : B < lo) : ∀ (l : List Value) (o : Nat) (w : World), CopyAt lo w v V → CopyAt lo (w.setCells B o l) v V
  | [], _, _, h => h
  | u :: r, o, w, h => by rw [World.setCells]; exact CopyAt.sets hB r (o + 1) _ (h.set hB)
theorem HOwn.put {w : World} {B n k lo bW bO bX bI : Nat} {F : Nat → HV} (h : HOwn w B n F k) (hk : k < n) (hlo : B < lo) (hC : CopyAt lo w (.agg #[.int .i64 (F k).V.c, .slice (some ⟨bW, 0, none⟩) (F k).V.nW (F k).V.nW, .int .i64 (F k).V.g, .slice (some ⟨bO, 0, none⟩) (F k).V.nO (F k).V.nO, .slice (some ⟨bX, 0, none⟩) (F k).V.nX (F k).V.nX, .slice (some ⟨bI, 0, none⟩) (F k).V.nI (F k).V.nI]) (F k).V) :
    HOwn (w.setCells B (k * 8) [.int .i64 (F k).ag, .int .i64 (F k).ct, .int .i64 (F k).V.c, .slice (some ⟨bW, 0, none⟩) (F k).V.nW (F k).V.nW, .int .i64 (F k).V.g, .slice (some ⟨bO, 0, none⟩) (F k).V.nO (F k).V.nO, .slice (some ⟨bX, 0, none⟩) (F k).V.nX (F k).V.nX, .slice (some ⟨bI, 0, none⟩) (F k).V.nI (F k).V.nI]) B n F (k + 1) := by
  have hsome : ∀ j, j < 8 → (w.cell? ⟨B, k * 8 + j, none⟩).isSome = true := fun j hj => (h.1 (k * 8 + j) (by omega)).1
  refine ⟨fun i hi => ⟨World.isSome_setCells B _ _ w _ (h.1 i hi).1, by rw [World.frozen?_setCells]; exact (h.1 i hi).2⟩, fun k' hk' => ?_⟩
  by_cases e : k' = k
  · subst e
    have hin := World.rangeAt_setCells_same w B (k' * 8) [.int .i64 (F k').ag, .int .i64 (F k').ct, .int .i64 (F k').V.c, .slice (some ⟨bW, 0, none⟩) (F k').V.nW (F k').V.nW, .int .i64 (F k').V.g, .slice (some ⟨bO, 0, none⟩) (F k').V.nO (F k').V.nO, .slice (some ⟨bX, 0, none⟩) (F k').V.nX (F k').V.nX, .slice (some ⟨bI, 0, none⟩) (F k').V.nI (F k').V.nI] (fun j hj => h.1 (k' * 8 + j) (by simp at hj; omega))
    exact ⟨lo, bW, bO, bX, bI, hlo, ⟨hin 0 _ rfl, hin 1 _ rfl, hin 2 _ rfl, hin 3 _ rfl, hin 4 _ rfl, hin 5 _ rfl, hin 6 _ rfl, hin 7 _ rfl⟩, hC.sets hlo _ _ _⟩
  · obtain ⟨lo', cW, cO, cX, cI, h0, ⟨c0, c1, c2, c3, c4, c5, c6, c7⟩, h1⟩ := h.2 k' (by omega)
    have out : ∀ j, j < 8 → (w.setCells B (k * 8) [.int .i64 (F k).ag, .int .i64 (F k).ct, .int .i64 (F k).V.c, .slice (some ⟨bW, 0, none⟩) (F k).V.nW (F k).V.nW, .int .i64 (F k).V.g, .slice (some ⟨bO, 0, none⟩) (F k).V.nO (F k).V.nO, .slice (some ⟨bX, 0, none⟩) (F k).V.nX (F k).V.nX, .slice (some ⟨bI, 0, none⟩) (F k).V.nI (F k).V.nI]).cell? ⟨B, k' * 8 + j, none⟩ = w.cell? ⟨B, k' * 8 + j, none⟩ := fun j hj =>
      World.cell?_setCells_out B _ _ w _ (fun _ _ => by left; show k' * 8 + j < k * 8; omega)
    exact ⟨lo', cW, cO, cX, cI, h0, ⟨(out 0 (by omega)).trans c0, (out 1 (by omega)).trans c1, (out 2 (by omega)).trans c2, (out 3 (by omega)).trans c3, (out 4 (by omega)).trans c4, (out 5 (by omega)).trans c5, (out 6 (by omega)).trans c6, (out 7 (by omega)).trans c7⟩, CopyAt.sets h0 _ _ _ h1⟩
theorem HOwn.row {w : World} {B n : Nat} {F : Nat → HV} (h : HOwn w B n F n) (hB : B < w.heap.size) : HRow w (some ⟨B, 0, none⟩) n F := by
  refine .inr ⟨B, 0, rfl, hB, fun k hk => ?_⟩
  obtain ⟨lo, bW, bO, bX, bI, h0, hc, h1⟩ := h.2 k hk
  obtain ⟨aW, kW, aO, kO, aX, kX, aI, kI, e, r1, r2, r3, r4⟩ := h1.at
  injection e with e
  simp only [Array.mk.injEq, List.cons.injEq, Value.slice.injEq, and_true, true_and] at e
  obtain ⟨⟨rfl, rfl⟩, ⟨rfl, rfl⟩, ⟨rfl, rfl⟩, ⟨rfl, rfl⟩⟩ := e
  rw [Nat.zero_add]
  exact ⟨_, _, _, _, _, _, _, _, hc, r1, r2, r3, r4⟩

set_option maxHeartbeats 4000000 in
theorem toHolds (b o : Nat) (n cap : Nat) (F : Nat → HV) (hn : n ≤ 1048576) (hS : ∀ k, k < n → (F k).V.short 1048576) (w : World) (hb : b < w.heap.size) (hr : ∀ k, k < n → HSpot w b (o + k * 8) (F k)) :
    Calls Try.prog 22 #[.slice (some ⟨b, o, none⟩) n cap] w fun e w' => e = .returned (.slice (some ⟨w.heap.size, 0, none⟩) n n) ∧ HOwn w' w.heap.size n F n ∧ w.heap.size < w'.heap.size ∧ Below w.heap.size w w' := by
  have hmk := makeH n hn
  have HR : Hid (∀ k, k < n → HSpot w b (o + k * 8) (F k)) := hr
  have HS : Hid (∀ k, k < n → (F k).V.short 1048576) := hS
  clear hr hS
  go_enter Try.func22, Try.ntmps22
  go_wp2
  go_loopw [4] (fun i wr => ∃ k : Nat, k ≤ n ∧ i = .int .i64 k ∧ HOwn wr w.heap.size n F k ∧ w.heap.size < wr.heap.size ∧ Below w.heap.size w wr) (fun i _ => n - (intOf i).toNat)
  case atStart => exact ⟨0, Nat.zero_le _, rfl, ⟨fun i hi => by simp [size_madeCells, hi], fun _ h => absurd h (by omega)⟩, by simp, (Below.refl _ _).alloc (by simp) _⟩
  case round =>
    obtain ⟨k, hk, rfl, hown, hsz, hbel⟩ := hrel
    have HW : Hid (HOwn wr w.heap.size n F k) := hown
    clear hown hmk
    by_cases hkn : k < n
    · have hkn' : (k : Int) < n := by omega
      obtain ⟨aW, kW, aO, kO, aX, kX, aI, kI, ⟨c0, c1, c2, c3, c4, c5, c6, c7⟩, r1, r2, r3, r4⟩ := (HR.out k hkn).below hb hbel
      have HO : Hid (HoldAt wr (.agg #[.int .i64 (F k).ag, .int .i64 (F k).ct, .int .i64 (F k).V.c, .slice aW (F k).V.nW kW, .int .i64 (F k).V.g, .slice aO (F k).V.nO kO, .slice aX (F k).V.nX kX, .slice aI (F k).V.nI kI]) (F k).ag (F k).ct (F k).V) := ⟨aW, kW, aO, kO, aX, kX, aI, kI, rfl, r1, r2, r3, r4⟩
      clear r1 r2 r3 r4
      go_wp2_with fail
      refine (toHoldB _ _ _ (F k).V (HS.out k hkn) _ HO.out).mono ?_
      rintro e w1 ⟨⟨v', rfl, lo, hlo, hcp⟩, hb1⟩
      obtain ⟨bW, bO, bX, bI, rfl, hC⟩ := hcp
      have HCC : Hid (CopyAt lo w1 (.agg #[.int .i64 (F k).V.c, .slice (some ⟨bW, 0, none⟩) (F k).V.nW (F k).V.nW, .int .i64 (F k).V.g, .slice (some ⟨bO, 0, none⟩) (F k).V.nO (F k).V.nO, .slice (some ⟨bX, 0, none⟩) (F k).V.nX (F k).V.nX, .slice (some ⟨bI, 0, none⟩) (F k).V.nI (F k).V.nI]) (F k).V) := hC
      have W1 : Hid (HOwn w1 w.heap.size n F k) := HW.out.below hsz hb1
      have hsz1 : w.heap.size < w1.heap.size := Nat.lt_of_lt_of_le hsz hb1.size
      have hbel1 : Hid (Below w.heap.size w w1) := hbel.trans (hb1.mono (Nat.le_of_lt hsz))
      clear hC HW HO hb1 hbel c0 c1 c2 c3 c4 c5 c6 c7
      obtain ⟨⟨u0, d0⟩, f0⟩ := W1.out.cell hkn 0 (by omega)
      obtain ⟨⟨u1, d1⟩, f1⟩ := W1.out.cell hkn 1 (by omega)
      obtain ⟨⟨u2, d2⟩, f2⟩ := W1.out.cell hkn 2 (by omega)
      obtain ⟨⟨u3, d3⟩, f3⟩ := W1.out.cell hkn 3 (by omega)
      obtain ⟨⟨u4, d4⟩, f4⟩ := W1.out.cell hkn 4 (by omega)
      obtain ⟨⟨u5, d5⟩, f5⟩ := W1.out.cell hkn 5 (by omega)
      obtain ⟨⟨u6, d6⟩, f6⟩ := W1.out.cell hkn 6 (by omega)
      obtain ⟨⟨u7, d7⟩, f7⟩ := W1.out.cell hkn 7 (by omega)
      simp only [Nat.add_zero] at d0 f0
      go_wp2
      go_roundw
      case rel => exact ⟨k + 1, by omega, by go_num, W1.out.put hkn (by omega) HCC.out, by simpa [World.setCell] using hsz1, ((((((((hbel1.out.setCell (Nat.le_refl _) _).setCell (Nat.le_refl _) _).setCell (Nat.le_refl _) _).setCell (Nat.le_refl _) _).setCell (Nat.le_refl _) _).setCell (Nat.le_refl _) _).setCell (Nat.le_refl _) _).setCell (Nat.le_refl _) _)⟩
      case measure => simp [intOf]; omega
    · have : k = n := by omega
      subst this
      go_wp2
      go_ret
      exact ⟨rfl, HW.out, hsz, hbel⟩

theorem toHolds0 (a : Option Addr) (cap : Nat) (F : Nat → HV) (w : World) :
    Calls Try.prog 22 #[.slice a 0 cap] w fun e w' => e = .returned (.slice (some ⟨w.heap.size, 0, none⟩) 0 0) ∧ HOwn w' w.heap.size 0 F 0 ∧ w.heap.size < w'.heap.size ∧ Below w.heap.size w w' := by
  have hmk : ∀ w : World, (Instr.makeSlice 32 (.int .i64 0) (.int .i64 0)).run Try.prog w = .ok (.slice (some ⟨w.heap.size, 0, none⟩) 0 0) (w.alloc (.cells (madeCells #[.int .i64 0, .int .i64 0, .int .i64 0, .slice none 0 0, .int .i64 0, .slice none 0 0, .slice none 0 0, .slice none 0 0] (0 * 8)) 45)) := makeH 0 (by omega)
  go_enter Try.func22, Try.ntmps22
  go_wp2
  refine wp_loop_rounds 1 ?_
  rw [rounds_succ]
  go_wp2
  go_ret
  exact ⟨rfl, ⟨fun i hi => absurd hi (by omega), fun _ h => absurd h (by omega)⟩, by simp, (Below.refl _ _).alloc (by simp) _⟩

theorem toHolds_any (a : Option Addr) (n cap : Nat) (F : Nat → HV) (hn : n ≤ 1048576) (hS : ∀ k, k < n → (F k).V.short 1048576) (w : World) (h : HRow w a n F) :
    Calls Try.prog 22 #[.slice a n cap] w fun e w' => e = .returned (.slice (some ⟨w.heap.size, 0, none⟩) n n) ∧ HOwn w' w.heap.size n F n ∧ w.heap.size < w'.heap.size ∧ Below w.heap.size w w' := by
  rcases h with rfl | ⟨b, o, rfl, h1, h2⟩
  · exact toHolds0 a cap F w
  · exact toHolds b o n cap F hn hS w h1 h2
end Go.Proofs.Ytlbjgecjonegkaa
