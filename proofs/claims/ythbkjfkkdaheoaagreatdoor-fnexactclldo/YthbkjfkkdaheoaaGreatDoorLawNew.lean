/- The walk of the law FnExactCllNew: it answers true; conditions: the walkers lie in memory. -/
import Derived.Test.YthbkjfkkdaheoaaGreatDoorCCopyS
import Derived.Test.YthbkjfkkdaheoaaGreatDoorCOk5
import Derived.Test.YthbkjfkkdaheoaaGreatDoorCMk2
namespace Go.Proofs.YthbkjfkkdaheoaaGreatDoor
open Go.RowKit Go.Deep
set_option linter.unusedVariables false
def CellS (w : World) (v : Value) (V : CV) : Prop :=
  ∃ bW bO bX bI cW cO cX cI, bW < w.heap.size ∧ bO < w.heap.size ∧ bX < w.heap.size ∧ bI < w.heap.size ∧
    v = .agg #[.int .i64 V.c, .slice (some ⟨bW, 0, none⟩) V.nW cW, .int .i64 V.g, .slice (some ⟨bO, 0, none⟩) V.nO cO, .slice (some ⟨bX, 0, none⟩) V.nX cX, .slice (some ⟨bI, 0, none⟩) V.nI cI] ∧
    (∀ k j, k < V.nW → j < 5 → w.cell? ⟨bW, 0 + k * 5 + j, none⟩ = some (.int .i64 (V.W k j))) ∧
    (∀ k, k < V.nO → ∃ y c, y < w.heap.size ∧ w.cell? ⟨bO, k, none⟩ = some (.slice (some ⟨y, 0, none⟩) (V.N k) c) ∧ ∀ i j, i < V.N k → j < 8 → w.cell? ⟨y, 0 + i * 8 + j, none⟩ = some (.int .i64 (V.O k i j))) ∧
    (∀ i, i < V.nX → w.cell? ⟨bX, i, none⟩ = some (.int .i64 (V.X i))) ∧ (∀ i, i < V.nI → w.cell? ⟨bI, i, none⟩ = some (.int .i64 (V.I i)))
theorem CopyAt.cellS {lo : Nat} {w : World} {v : Value} {V : CV} (h : CopyAt lo w v V) : CellS w v V := by
  obtain ⟨bW, bO, bX, bI, q0, q1, q2, q3, q4, rfl, oW, oO, oX, oI⟩ := h
  refine ⟨bW, bO, bX, bI, _, _, _, _, by omega, by omega, by omega, by omega, rfl, own_row oW, fun k hk => ?_, oX.2, oI.2⟩
  obtain ⟨_, ys, _, hy⟩ := oO
  obtain ⟨_, y2, y3, y4⟩ := hy k hk
  exact ⟨ys k, _, y2, y3, P8.own_row y4⟩
def Full (w : World) (v : Value) : Prop := ∀ x0 x1 x2 g n k x4 x5, v = .agg #[x0, x1, x2, .slice (some ⟨g, 0, none⟩) n k, x4, x5] → ∀ j, j < n → ∃ y l c, w.cell? ⟨g, j, none⟩ = some (.slice (some ⟨y, 0, none⟩) l c) ∧ y < w.heap.size
def RPS (lo hi : Nat) (w : World) (v : Value) (n : Nat) (Z : Nat → Nat → Int) (g : Nat) : Prop := RP lo hi w v n Z g ∧ (Rm lo hi w v n ∧ ∃ y l c, v = .slice (some ⟨y, 0, none⟩) l c ∧ y < hi)
theorem RPS.move {lo hi hi' : Nat} {w w' : World} {v : Value} {n : Nat} {Z : Nat → Nat → Int} {g : Nat} (h : RPS lo hi w v n Z g) (h1 : hi ≤ hi') (h2 : hi' ≤ w'.heap.size) (k : lo ≤ g → g < hi → Sm w w' g) : RPS lo hi' w' v n Z g :=
  ⟨(RPR.move ⟨h.1, h.2.1⟩ h1 h2 k).1, (RPR.move ⟨h.1, h.2.1⟩ h1 h2 k).2, by obtain ⟨y, l, c, e, hy⟩ := h.2.2; exact ⟨y, l, c, e, by omega⟩⟩
theorem RPS.low {lo lo' hi : Nat} {w : World} {v : Value} {n : Nat} {Z : Nat → Nat → Int} {g : Nat} (h : RPS lo hi w v n Z g) (h1 : lo' ≤ lo) : RPS lo' hi w v n Z g :=
  ⟨(RPR.low ⟨h.1, h.2.1⟩ h1).1, (RPR.low ⟨h.1, h.2.1⟩ h1).2, h.2.2⟩
theorem RPS.zero {lo hi lo' hi' : Nat} {w w' : World} {v : Value} {n : Nat} {Z : Nat → Nat → Int} {g : Nat} (h : RPS lo hi w v n Z g) (e : n = 0) (hh : hi ≤ hi') : RPS lo' hi' w' v n Z g :=
  ⟨(RPR.zero ⟨h.1, h.2.1⟩ e).1, (RPR.zero (w' := w') ⟨h.1, h.2.1⟩ e).2, by obtain ⟨y, l, c, e, hy⟩ := h.2.2; exact ⟨y, l, c, e, by omega⟩⟩
theorem rps_of_own {w : World} {base n : Nat} {v : Value} {Z : Nat → Nat → Int} (h : w.ownsRow base 56 8 v n ((List.range n).flatMap (P8.eight Z))) (h0 : n = 0 → ∃ y, v = .slice (some ⟨y, 0, none⟩) 0 0 ∧ y < w.heap.size) : ∃ g, RPS base w.heap.size w v n Z g ∧ (v.ownBlock = none ∨ v.ownBlock = some g) := by
  obtain ⟨g, h1, h2⟩ := rpr_of_own h (fun e => by obtain ⟨a, e2, _⟩ := h0 e; exact ⟨_, e2⟩)
  refine ⟨g, ⟨h1.1, h1.2, ?_⟩, h2⟩
  rcases h.2 with ⟨e1, hl⟩ | ⟨g2, cap, cur, hv, _⟩
  · obtain ⟨a, e2, h3⟩ := h0 hl; exact ⟨_, _, _, e2, h3⟩
  · exact ⟨_, _, _, hv, (h.lt g2 (by rw [hv]; rfl)).2⟩
set_option maxRecDepth 20000 in
set_option maxRecDepth 20000 in
set_option maxHeartbeats 4000000 in
theorem copyM_spec (v : Value) (V : CV) (hs : V.short 1048576) (w : World) (h : CellS w v V) :
    Calls Tryz.prog 66 #[v] w fun e w' => (∃ v', e = .returned v' ∧ OwnC w.heap.size w'.heap.size w' v' V ∧ Thaw w.heap.size w'.heap.size w' v' ∧ Full w' v') ∧ Below w.heap.size w w' := by
  obtain ⟨bW, bO, bX, bI, cW, cO, cX, cI, q1, q2, q3, q4, rfl, oW, oO, oX, oI⟩ := h
  obtain ⟨tW, tO, tN, tX, tI⟩ := hs
  have HW : Hid (∀ k j, k < V.nW → j < 5 → w.cell? ⟨bW, 0 + k * 5 + j, none⟩ = some (.int .i64 (V.W k j))) := oW
  have HO : Hid (∀ k, k < V.nO → ∃ y c, y < w.heap.size ∧ w.cell? ⟨bO, k, none⟩ = some (.slice (some ⟨y, 0, none⟩) (V.N k) c) ∧ ∀ i j, i < V.N k → j < 8 → w.cell? ⟨y, 0 + i * 8 + j, none⟩ = some (.int .i64 (V.O k i j))) := oO
  have HX : Hid (∀ i, i < V.nX → w.cell? ⟨bX, i, none⟩ = some (.int .i64 (V.X i))) := oX
  have HI : Hid (∀ i, i < V.nI → w.cell? ⟨bI, i, none⟩ = some (.int .i64 (V.I i))) := oI
  have HN : Hid (∀ k, k < V.nO → V.N k ≤ 1048576) := tN
  clear oW oO oX oI tN
  obtain ⟨j8, hj8, hzz⟩ := Option.map_eq_some_iff.1 P8.Tryz.info56
  simp only [Prod.mk.injEq] at hzz
  obtain ⟨hk80, hk81, hk82⟩ := hzz
  obtain ⟨j6, hj6, hzz⟩ := Option.map_eq_some_iff.1 Tryz.info122
  simp only [Prod.mk.injEq] at hzz
  obtain ⟨hk60, hk61, hk62⟩ := hzz
  obtain ⟨j3, hj3, hzz⟩ := Option.map_eq_some_iff.1 Tryz.info3
  simp only [Prod.mk.injEq] at hzz
  obtain ⟨hk30, hk31, hk32⟩ := hzz
  go_enter Tryz.func66, Tryz.ntmps66
  go_wp2_with fail
  obtain ⟨w0, e0⟩ : ∃ w0, w0 = (w.alloc (.cells #[.int .i64 V.c, .slice (some ⟨bW, 0, none⟩) V.nW cW, .int .i64 V.g, .slice (some ⟨bO, 0, none⟩) V.nO cO, .slice (some ⟨bX, 0, none⟩) V.nX cX, .slice (some ⟨bI, 0, none⟩) V.nI cI] 35)).alloc (.cells #[.int .i64 0, .slice none 0 0, .int .i64 0, .slice none 0 0, .slice none 0 0, .slice none 0 0] 35) := ⟨_, rfl⟩
  have z0 : w.heap.size + 2 ≤ w0.heap.size := by rw [e0]; simp
  have B0 : Hid (Below w.heap.size w w0) := by rw [e0]; exact ((Below.refl _ _).alloc (by simp) _).alloc (by simp) _
  have A0 : Hid (Six w0 w.heap.size [.int .i64 V.c, .slice (some ⟨bW, 0, none⟩) V.nW cW, .int .i64 V.g, .slice (some ⟨bO, 0, none⟩) V.nO cO, .slice (some ⟨bX, 0, none⟩) V.nX cX, .slice (some ⟨bI, 0, none⟩) V.nI cI]) := by rw [e0]; exact (six_new w 35 (.int .i64 V.c) (.slice (some ⟨bW, 0, none⟩) V.nW cW) (.int .i64 V.g) (.slice (some ⟨bO, 0, none⟩) V.nO cO) (.slice (some ⟨bX, 0, none⟩) V.nX cX) (.slice (some ⟨bI, 0, none⟩) V.nI cI)).below (by simp) ((Below.refl _ _).alloc (by simp) _)
  have R0 : Hid (Six w0 (w.heap.size + 1) [.int .i64 0, .slice none 0 0, .int .i64 0, .slice none 0 0, .slice none 0 0, .slice none 0 0]) := by rw [e0]; exact six_box2 w #[.int .i64 V.c, .slice (some ⟨bW, 0, none⟩) V.nW cW, .int .i64 V.g, .slice (some ⟨bO, 0, none⟩) V.nO cO, .slice (some ⟨bX, 0, none⟩) V.nX cX, .slice (some ⟨bI, 0, none⟩) V.nI cI] 35 35 _ _ _ _ _ _
  rw [← e0]
  clear e0
  refine (copyW_spec bW 0 V.nW cW V.W tW _ (by omega) (fun k j a1 a2 => (B0.out.cell (p := ⟨bW, _, none⟩) (by show bW < _; omega)).trans (HW.out k j a1 a2))).mono ?_
  rintro e w1 ⟨⟨v1, rfl, ho⟩, hb⟩
  obtain ⟨wa, wl, wc, hvv⟩ := own_shape ho
  subst hvv
  obtain ⟨gW, RW1, _⟩ := rw_of_own ho
  have A1 := hid (A0.out.below (by omega) hb)
  have R1 := hid (R0.out.below (by omega) hb)
  have B1 := hid (bthen B0.out hb)
  have z1 : w0.heap.size ≤ w1.heap.size := hb.size
  have HRW : Hid (RW w0.heap.size w1.heap.size w1 (.slice wa wl wc) V.nW V.W gW) := RW1
  clear RW1 ho hb A0 R0 B0
  obtain ⟨a0, a1, a2, a3, a4, a5⟩ := A1.out.a6
  obtain ⟨f0, f1, f2, f3, f4, f5⟩ := A1.out.f6
  have l1 : w.heap.size < w1.heap.size := by omega
  go_wp2
  clear a0 a1 a2 a3 a4 a5 f0 f1 f2 f3 f4 f5 l1
  obtain ⟨w2, e2⟩ : ∃ x, x = w1.setCell ⟨w.heap.size, 1, none⟩ (.slice wa wl wc) := ⟨_, rfl⟩
  rw [← e2]
  have A2 : Six w2 w.heap.size [.int .i64 V.c, .slice wa wl wc, .int .i64 V.g, .slice (some ⟨bO, 0, none⟩) V.nO cO, .slice (some ⟨bX, 0, none⟩) V.nX cX, .slice (some ⟨bI, 0, none⟩) V.nI cI] := by rw [e2]; exact A1.out.set (j := 1) (v := .slice wa wl wc) rfl (by decide)
  have R2 : Six w2 (w.heap.size + 1) [.int .i64 0, .slice none 0 0, .int .i64 0, .slice none 0 0, .slice none 0 0, .slice none 0 0] := by rw [e2]; exact R1.out.far (by omega)
  have B2 : Below w.heap.size w w2 := by rw [e2]; exact B1.out.setCell (by simp) _
  have z2 : w2.heap.size = w1.heap.size := by rw [e2, set_size]
  have S2 : ∀ x, ¬ x = w.heap.size → Sm w1 w2 x := fun x hx o => by rw [e2]; exact ⟨set_out (fun e => hx e.1.symm), set_frozen⟩
  clear e2 A1 R1 B1
  obtain ⟨w3, e3⟩ : ∃ x, x = w2.alloc (.cells #[] 122) := ⟨_, rfl⟩
  rw [← e3]
  have k3 : Below w2.heap.size w2 w3 := by rw [e3]; exact (Below.refl _ _).alloc (Nat.le_refl _) _
  have z3 : w3.heap.size = w2.heap.size + 1 := by rw [e3]; simp
  have O3 : Hid (w3.ownsRow w1.heap.size 122 1 (.slice (some ⟨w1.heap.size, 0, none⟩) 0 0) 0 []) := by unfold Hid; rw [e3, ← z2]; exact World.ownsRow_lit w2 #[] 0 (Nat.le_refl _) (by simp) (by simp)
  clear e3
  have A3 : Hid (Six w3 w.heap.size [.int .i64 V.c, .slice wa wl wc, .int .i64 V.g, .slice (some ⟨bO, 0, none⟩) V.nO cO, .slice (some ⟨bX, 0, none⟩) V.nX cX, .slice (some ⟨bI, 0, none⟩) V.nI cI]) := A2.below (by omega) k3
  have R3 : Hid (Six w3 (w.heap.size + 1) [.int .i64 0, .slice none 0 0, .int .i64 0, .slice none 0 0, .slice none 0 0, .slice none 0 0]) := R2.below (by omega) k3
  have B3 : Hid (Below w.heap.size w w3) := bthen B2 k3
  have W3 : Hid (RW w0.heap.size w1.heap.size w3 (.slice wa wl wc) V.nW V.W gW) := HRW.out.move (Nat.le_refl _) (Nat.le_refl _) (by omega) (fun q1 q2 => (S2 gW (by omega)).trans (sm_below k3 (by omega)))
  clear A2 R2 B2 S2 HRW k3
  have z4 : w1.heap.size + 1 ≤ w3.heap.size := by omega
  have z4b : w3.heap.size ≤ w1.heap.size + 1 := by omega
  clear z2 z3
  generalize w1.heap.size = gB at *
  go_loopw [3, 4] (fun s i wr => ∃ (k : Nat) (sl : Nat → Value) (xs : Nat → Nat), k ≤ V.nO ∧ i = .int .i64 k ∧ s ≠ .slice none 0 0 ∧ (∀ x, x < gB → Sm w3 wr x) ∧ wr.ownsRow gB 122 1 s k ((List.range k).map sl) ∧ (∀ j, j < k → RPS gB wr.heap.size wr (sl j) (V.N j) (V.O j) (xs j)) ∧ (∀ i j, i < j → j < k → V.N i ≠ 0 → V.N j ≠ 0 → xs i ≠ xs j) ∧ w3.heap.size ≤ wr.heap.size ∧ Below w.heap.size w wr) (fun _ i _ => V.nO - (intOf i).toNat)
  case atStart => exact ⟨0, fun _ => undef, fun _ => 0, Nat.zero_le _, rfl, by simp, fun x _ => Sm.refl _ _, O3.out, fun _ h => absurd h (by omega), fun _ _ _ h => absurd h (by omega), Nat.le_refl _, B3.out⟩
  case round =>
    obtain ⟨k, sl, xs, hk, rfl, hnn, hsm, hown, hdn, hxx, hsz, hbel⟩ := hrel
    obtain ⟨oa, ol, oc, hvv⟩ := own_shape hown
    subst hvv
    have SM : Hid (∀ x, x < gB → Sm w3 wr x) := hsm
    have OW : Hid (wr.ownsRow gB 122 1 (.slice oa ol oc) k ((List.range k).map sl)) := hown
    have DN : Hid (∀ j, j < k → RPS gB wr.heap.size wr (sl j) (V.N j) (V.O j) (xs j)) := hdn
    have XX : Hid (∀ i j, i < j → j < k → V.N i ≠ 0 → V.N j ≠ 0 → xs i ≠ xs j) := hxx
    have BL : Hid (Below w.heap.size w wr) := hbel
    have NN : Hid (Value.slice oa ol oc ≠ Value.slice none 0 0) := hnn
    clear hsm hown hdn hxx hbel hnn
    have A4 : Hid (Six wr w.heap.size [.int .i64 V.c, .slice wa wl wc, .int .i64 V.g, .slice (some ⟨bO, 0, none⟩) V.nO cO, .slice (some ⟨bX, 0, none⟩) V.nX cX, .slice (some ⟨bI, 0, none⟩) V.nI cI]) := fun i hi => by have h1 := SM.out w.heap.size (by omega) i; rw [h1.1, h1.2]; exact A3.out i hi
    obtain ⟨a0, a1, a2, a3, a4, a5⟩ := A4.out.a6
    obtain ⟨f0, f1, f2, f3, f4, f5⟩ := A4.out.f6
    have l1 : w.heap.size < wr.heap.size := by omega
    by_cases hkn : k < V.nO
    · have hkn' : (k : Int) < V.nO := by omega
      obtain ⟨yk, ck, hyk, hck, hrk⟩ : ∃ yk ck, yk < w.heap.size ∧ wr.cell? ⟨bO, k, none⟩ = some (.slice (some ⟨yk, 0, none⟩) (V.N k) ck) ∧ Hid (∀ i j, i < V.N k → j < 8 → wr.cell? ⟨yk, 0 + i * 8 + j, none⟩ = some (.int .i64 (V.O k i j))) := by
        obtain ⟨y, c, y2, y3, y4⟩ := HO.out k hkn
        exact ⟨y, c, y2, (BL.out.cell (p := ⟨bO, k, none⟩) (by show bO < _; omega)).trans y3, fun i j a1 a2 => (BL.out.cell (p := ⟨y, _, none⟩) y2).trans (y4 i j a1 a2)⟩
      have lb : bO < wr.heap.size := by omega
      have hnk := HN.out k hkn
      have kb : Below wr.heap.size wr (wr.alloc (.cells #[] 56)) := (Below.refl _ _).alloc (Nat.le_refl _) _
      have HC : Hid (∀ j u, ((List.range (V.N k)).flatMap (P8.eight (V.O k)))[j]? = some u → (wr.alloc (.cells #[] 56)).cell? ((⟨yk, 0, none⟩ : Addr).add j) = some u) := eight8_cells (fun i j a1 a2 => (kb.cell (p := ⟨yk, _, none⟩) (by show yk < _; omega)).trans (hrk.out i j a1 a2))
      have H1 : Hid (∀ u ∈ (List.range (V.N k)).flatMap (P8.eight (V.O k)), u.oneCell' = true) := eight8_one _ _
      have HL : Hid (((List.range (V.N k)).flatMap (P8.eight (V.O k))).length = V.N k * 8) := eight8_len _ _
      have KB : Hid (Below wr.heap.size wr (wr.alloc (.cells #[] 56))) := kb
      clear kb
      go_wp2_with (at_builtin; refine wpList_append_own_no rfl _ _ 122 rfl wr.heap.size 56 j8 (.agg #[.int .i64 0, .int .i64 0, .int .i64 0, .int .i64 0, .int .i64 0, .int .i64 0, .int .i64 0, .int .i64 0]) 8 64 Tryz.underlying122 hj8 hk80 hk81 hk82 rfl (by decide) _ 0 [] rfl (World.ownsRow_lit wr #[] 0 (Nat.le_refl _) (by simp) (by simp)) ⟨yk, 0, none⟩ (V.N k) ck ((List.range (V.N k)).flatMap (P8.eight (V.O k))) rfl HL.out HC.out H1.out (by unfold maxLen; omega) (by omega) (by simp) ?_)
      intro v4 w4 hown4 hg4 hnil4
      obtain ⟨pa, pl, pc, hvv⟩ := own_shape hown4
      subst hvv
      have P4 : w4.ownsRow wr.heap.size 56 8 (.slice pa pl pc) (V.N k) ((List.range (V.N k)).flatMap (P8.eight (V.O k))) := by simpa using hown4
      have hb4 : Below wr.heap.size wr w4 := KB.out.grown hg4 (by simp) (fun kk e => by cases e; exact Nat.le_refl _)
      obtain ⟨g, hRP, _⟩ := rps_of_own P4 (fun e => ⟨_, hnil4 e, by have h4 := hg4.size; rw [World.size_alloc] at h4; omega⟩)
      have RPk : Hid (RPS wr.heap.size w4.heap.size w4 (.slice pa pl pc) (V.N k) (V.O k) g) := hRP
      have K4 : Hid (Below wr.heap.size wr w4) := hb4
      have s4 : wr.heap.size ≤ w4.heap.size := hb4.size
      have OW4 : Hid (w4.ownsRow gB 122 1 (.slice oa ol oc) k ((List.range k).map sl)) := World.ownsRow.kept OW.out (P8.grown_of_below hb4) (by cases e : (Value.slice oa ol oc).ownBlock <;> simp)
      clear hown4 hg4 hnil4 hRP P4 hb4 HC H1 HL KB a0 a1 a2 a3 a4 a5 f0 f1 f2 f3 f4 f5 hck hrk
      have HW4 := OW4.out.alloc (.cells #[.slice pa pl pc] 122)
      go_wp2_with (at_builtin; refine wpList_append_own _ rfl _ _ 33 rfl gB 122 j6 (.slice none 0 0) 1 24 Tryz.underlying33 hj6 hk60 hk61 hk62 rfl (by decide) _ _ _ rfl HW4 ⟨w4.heap.size, 0, none⟩ 1 1 [.slice pa pl pc] rfl rfl ?d1 ?d2 ?d3 ?d4 ?d5 ?_)
      case d1 => intro j u hj; match j, hj with | 0, hj => (simp at hj; subst hj; simp [Addr.add]) | j + 1, hj => simp at hj
      case d2 => intro u hu; simp at hu; subst hu; rfl
      case d3 => unfold maxLen; omega
      case d4 => omega
      case d5 => simp; omega
      · intro v' w5 hown' hg5 hnil
        obtain ⟨ua, ul, uc, hxx⟩ := own_shape hown'
        subst hxx
        have hlow : ∀ kk, (Value.slice oa ol oc).ownBlock = some kk → gB ≤ kk ∧ kk < wr.heap.size := fun kk e => OW.out.lt kk e
        have hall := (World.grownBy_alloc w4 (.cells #[.slice pa pl pc] 122) (Value.slice oa ol oc).ownBlock).trans hg5
        have s5 : w4.heap.size ≤ w5.heap.size := hall.size
        have S45 : ∀ x, x < w4.heap.size → (Value.slice oa ol oc).ownBlock ≠ some x → Sm w4 w5 x := fun x h1 h2 => sm_grown hall h1 (fun e => h2 e.symm)
        have SM5 : Hid (∀ x, x < gB → Sm w3 w5 x) := fun x hx => ((SM.out x hx).trans (sm_below K4.out (by omega))).trans (S45 x (by omega) (fun e => by have := hlow x e; omega))
        have OW5 : Hid (w5.ownsRow gB 122 1 (.slice ua ul uc) (k + 1) ((List.range (k + 1)).map (fun j => if j = k then (.slice pa pl pc) else sl j))) := by
          unfold Hid
          rw [map_ext_if]
          exact hown'
        have NN5 : Hid (Value.slice ua ul uc ≠ Value.slice none 0 0) := fun e => hnil e
        have DN5 : Hid (∀ j, j < k + 1 → RPS gB w5.heap.size w5 ((fun j => if j = k then (.slice pa pl pc) else sl j) j) (V.N j) (V.O j) ((fun j => if j = k then g else xs j) j)) := fun j hj => by
          dsimp only
          by_cases e : j = k
          · subst e
            rw [if_pos rfl, if_pos rfl]
            exact (RPk.out.move s5 (Nat.le_refl _) (fun q1 q2 => S45 g q2 (fun e => by have := hlow g e; omega))).low (by omega)
          · rw [if_neg e, if_neg e]
            have u2 := DN.out j (by omega)
            by_cases e0 : V.N j = 0
            · exact u2.zero e0 (by omega)
            · exact u2.move (by omega) (Nat.le_refl _) (fun q1 q2 => (sm_below K4.out q2).trans (S45 (xs j) (by omega) (own_ne OW.out (by omega) (DN.out 0 (by omega)).1.shape u2.1 e0)))
        have XX5 : Hid (∀ i j, i < j → j < k + 1 → V.N i ≠ 0 → V.N j ≠ 0 → (fun j => if j = k then g else xs j) i ≠ (fun j => if j = k then g else xs j) j) := fun i j hij hj n1 n2 => by
          dsimp only
          by_cases e : j = k
          · subst e
            rw [if_pos rfl, if_neg (by omega)]
            have u1 := (DN.out i hij).1
            have u2 := RPk.out.1
            rcases u1 with ⟨h, _⟩ | ⟨_, _, _, h1, _⟩
            · exact absurd h n1
            · rcases u2 with ⟨h, _⟩ | ⟨_, _, h2, _⟩
              · exact absurd h n2
              · omega
          · rw [if_neg e, if_neg (by omega)]
            exact XX.out i j hij (by omega) n1 n2
        have BL5 : Hid (Below w.heap.size w w5) := (bthen BL.out K4.out).grown hall (by omega) (fun kk e => by have := hlow kk e; omega)
        have z5 : w3.heap.size ≤ w5.heap.size := by omega
        clear hown' hg5 hnil hall hlow S45 HW4 SM OW OW4 DN XX BL NN RPk K4 A4
        go_wp2
        go_roundw
        case rel => exact ⟨k + 1, _, _, by omega, by go_num, NN5.out, SM5.out, OW5.out, DN5.out, XX5.out, z5, BL5.out⟩
        case measure => simp [intOf]; omega
    · have hkk : k = V.nO := by omega
      have R4 : Hid (Six wr (w.heap.size + 1) [.int .i64 0, .slice none 0 0, .int .i64 0, .slice none 0 0, .slice none 0 0, .slice none 0 0]) := fun i hi => by have h1 := SM.out (w.heap.size + 1) (by omega) i; rw [h1.1, h1.2]; exact R3.out i hi
      have W4 : Hid (RW w0.heap.size gB wr (.slice wa wl wc) V.nW V.W gW) := W3.out.move (Nat.le_refl _) (Nat.le_refl _) (by omega) (fun q1 q2 => SM.out gW q2)
      obtain ⟨gO, cO, hgO, hOl, hOh, hOc, FR⟩ : ∃ gO cO, Value.slice oa ol oc = .slice (some ⟨gO, 0, none⟩) V.nO cO ∧ gB ≤ gO ∧ gO < wr.heap.size ∧ Hid (∀ j, j < V.nO → wr.cell? ⟨gO, j, none⟩ = some (sl j)) ∧ Hid (∀ j, wr.frozen? ⟨gO, j, none⟩ = false) := by
        rcases OW.out.2 with ⟨e, _⟩ | ⟨g, cap, cur, hv, _⟩
        · exact absurd e NN.out
        · have ho := OW.out
          rw [hv] at ho
          refine ⟨g, cap, by rw [hv, hkk], (ho.lt g rfl).1, (ho.lt g rfl).2, fun j hj => ?_, fun j => ho.frozenAt j⟩
          rw [ho.cellAt j (by omega), List.getElem?_map, List.getElem?_range (by omega)]
          rfl
      injection hgO with e1 e2 e3
      subst e1 e2 e3
      have DD : Hid (∀ j, j < V.nO → RPS gB wr.heap.size wr (sl j) (V.N j) (V.O j) (xs j) ∧ (V.N j ≠ 0 → xs j ≠ gO)) := fun j hj => ⟨DN.out j (by omega), fun e0 e => own_ne OW.out (by omega) (DN.out 0 (by omega)).1.shape (DN.out j (by omega)).1 e0 (by rw [e]; rfl)⟩
      have XD : Hid (∀ i j, i < j → j < V.nO → V.N i ≠ 0 → V.N j ≠ 0 → xs i ≠ xs j) := fun i j h1 h2 => XX.out i j h1 (by omega)
      have hkn' : ¬ (k : Int) < V.nO := by omega
      clear DN XX OW NN hkk A3 R3 W3 O3 B3
      have hsA : ((wr.setCell ⟨w.heap.size, 3, none⟩ (.slice (some ⟨gO, 0, none⟩) V.nO oc)).alloc (.cells #[] 3)).heap.size = wr.heap.size + 1 := by simp [World.setCell]
      have kw : Below w.heap.size w ((wr.setCell ⟨w.heap.size, 3, none⟩ (.slice (some ⟨gO, 0, none⟩) V.nO oc)).alloc (.cells #[] 3)) := (BL.out.setCell (by simp) _).alloc (by rw [set_size]; omega) _
      have HC : Hid (∀ j u, ((List.range V.nX).flatMap (one1 V.X))[j]? = some u → ((wr.setCell ⟨w.heap.size, 3, none⟩ (.slice (some ⟨gO, 0, none⟩) V.nO oc)).alloc (.cells #[] 3)).cell? ((⟨bX, 0, none⟩ : Addr).add j) = some u) := one11_cells (fun i hi => (kw.cell (p := ⟨bX, _, none⟩) (by show bX < _; omega)).trans (by rw [Nat.zero_add]; exact HX.out i hi))
      have H1 : Hid (∀ u ∈ (List.range V.nX).flatMap (one1 V.X), u.oneCell' = true) := one11_one _ _
      have HL : Hid (((List.range V.nX).flatMap (one1 V.X)).length = V.nX * 1) := one11_len _ _
      have HLit : ((wr.setCell ⟨w.heap.size, 3, none⟩ (.slice (some ⟨gO, 0, none⟩) V.nO oc)).alloc (.cells #[] 3)).ownsRow wr.heap.size 3 1 (.slice (some ⟨wr.heap.size, 0, none⟩) 0 0) 0 [] := by have q := World.ownsRow_lit (base := wr.heap.size) (e := 3) (size := 1) (wr.setCell ⟨w.heap.size, 3, none⟩ (.slice (some ⟨gO, 0, none⟩) V.nO oc)) #[] 0 (by rw [set_size]; exact Nat.le_refl _) (by simp) (by simp); rw [set_size] at q; exact q
      have KW : Hid (Below w.heap.size w ((wr.setCell ⟨w.heap.size, 3, none⟩ (.slice (some ⟨gO, 0, none⟩) V.nO oc)).alloc (.cells #[] 3))) := kw
      clear kw
      have l9 : w.heap.size < wr.heap.size := by omega
      go_wp2_with (at_builtin; refine wpList_append_own _ rfl _ _ 26 rfl wr.heap.size 3 j3 (.int .i64 0) 1 8 Tryz.underlying26 hj3 hk30 hk31 hk32 rfl (by decide) _ 0 [] rfl HLit ⟨bX, 0, none⟩ V.nX cX ((List.range V.nX).flatMap (one1 V.X)) rfl HL.out HC.out H1.out (by unfold maxLen; omega) (by omega) (by simp) ?_)
      intro v5 w5 hown hg hnil
      obtain ⟨xa, xl, xc, hvv⟩ := own_shape hown
      subst hvv
      have hown2 : w5.ownsRow wr.heap.size 3 1 (.slice xa xl xc) V.nX ((List.range V.nX).flatMap (one1 V.X)) := by simpa using hown
      obtain ⟨gX, hRI, _⟩ := ri_of_own hown2
      have X5 : Hid (RI wr.heap.size w5.heap.size w5 (.slice xa xl xc) V.nX V.X gX) := hRI
      have K5 : Hid (∀ x, x < wr.heap.size → ¬ x = w.heap.size → Sm wr w5 x) := fun x hx hne => (Sm.trans (b := (wr.setCell ⟨w.heap.size, 3, none⟩ (.slice (some ⟨gO, 0, none⟩) V.nO oc))) (fun o => ⟨set_out (fun e => hne e.1.symm), set_frozen⟩) (sm_below (n := wr.heap.size) ((Below.refl _ _).alloc (by rw [set_size]; exact Nat.le_refl _) _) hx)).trans (sm_grown hg (by rw [hsA]; omega) (fun e => by injection e with e; replace e : x = wr.heap.size := e; omega))
      have Sw5 : wr.heap.size ≤ w5.heap.size := by have := hg.size; rw [hsA] at this; omega
      have B5 : Hid (Below w.heap.size w w5) := KW.out.grown hg (by rw [hsA]; omega) (fun kk e => by cases e; show w.heap.size ≤ wr.heap.size; omega)
      have A5 : Hid (Six w5 w.heap.size [.int .i64 V.c, .slice wa wl wc, .int .i64 V.g, .slice (some ⟨gO, 0, none⟩) V.nO oc, .slice (some ⟨bX, 0, none⟩) V.nX cX, .slice (some ⟨bI, 0, none⟩) V.nI cI]) := fun i hi => by have h1 := sm_grown hg (b := w.heap.size) (by rw [hsA]; omega) (fun e => by injection e with e; replace e : w.heap.size = wr.heap.size := e; omega) i; rw [h1.1, h1.2]; exact ((A4.out.set (j := 3) (v := .slice (some ⟨gO, 0, none⟩) V.nO oc) rfl (by decide)).below (by rw [set_size]; omega) ((Below.refl _ _).alloc (Nat.le_refl _) _)) i hi
      have R5 : Hid (Six w5 (w.heap.size + 1) [.int .i64 0, .slice none 0 0, .int .i64 0, .slice none 0 0, .slice none 0 0, .slice none 0 0]) := fun i hi => by have h1 := K5.out (w.heap.size + 1) (by omega) (by omega) i; rw [h1.1, h1.2]; exact R4.out i hi
      clear hown hown2 hg hnil hRI HC H1 HL HLit KW l9 hsA A4 R4 a0 a1 a2 a3 a4 a5 f0 f1 f2 f3 f4 f5
      have hsA : ((w5.setCell ⟨w.heap.size, 4, none⟩ (.slice xa xl xc)).alloc (.cells #[] 3)).heap.size = w5.heap.size + 1 := by simp [World.setCell]
      have kw : Below w.heap.size w ((w5.setCell ⟨w.heap.size, 4, none⟩ (.slice xa xl xc)).alloc (.cells #[] 3)) := (B5.out.setCell (by simp) _).alloc (by rw [set_size]; omega) _
      have HC : Hid (∀ j u, ((List.range V.nI).flatMap (one1 V.I))[j]? = some u → ((w5.setCell ⟨w.heap.size, 4, none⟩ (.slice xa xl xc)).alloc (.cells #[] 3)).cell? ((⟨bI, 0, none⟩ : Addr).add j) = some u) := one11_cells (fun i hi => (kw.cell (p := ⟨bI, _, none⟩) (by show bI < _; omega)).trans (by rw [Nat.zero_add]; exact HI.out i hi))
      have H1 : Hid (∀ u ∈ (List.range V.nI).flatMap (one1 V.I), u.oneCell' = true) := one11_one _ _
      have HL : Hid (((List.range V.nI).flatMap (one1 V.I)).length = V.nI * 1) := one11_len _ _
      have HLit : ((w5.setCell ⟨w.heap.size, 4, none⟩ (.slice xa xl xc)).alloc (.cells #[] 3)).ownsRow w5.heap.size 3 1 (.slice (some ⟨w5.heap.size, 0, none⟩) 0 0) 0 [] := by have q := World.ownsRow_lit (base := w5.heap.size) (e := 3) (size := 1) (w5.setCell ⟨w.heap.size, 4, none⟩ (.slice xa xl xc)) #[] 0 (by rw [set_size]; exact Nat.le_refl _) (by simp) (by simp); rw [set_size] at q; exact q
      have KW : Hid (Below w.heap.size w ((w5.setCell ⟨w.heap.size, 4, none⟩ (.slice xa xl xc)).alloc (.cells #[] 3))) := kw
      clear kw
      obtain ⟨a0, a1, a2, a3, a4, a5⟩ := A5.out.a6
      obtain ⟨f0, f1, f2, f3, f4, f5⟩ := A5.out.f6
      have l9 : w.heap.size < w5.heap.size := by omega
      go_wp2_with (at_builtin; refine wpList_append_own _ rfl _ _ 26 rfl w5.heap.size 3 j3 (.int .i64 0) 1 8 Tryz.underlying26 hj3 hk30 hk31 hk32 rfl (by decide) _ 0 [] rfl HLit ⟨bI, 0, none⟩ V.nI cI ((List.range V.nI).flatMap (one1 V.I)) rfl HL.out HC.out H1.out (by unfold maxLen; omega) (by omega) (by simp) ?_)
      intro v5 w7 hown hg hnil
      obtain ⟨ia, il, ic, hvv⟩ := own_shape hown
      subst hvv
      have hown2 : w7.ownsRow w5.heap.size 3 1 (.slice ia il ic) V.nI ((List.range V.nI).flatMap (one1 V.I)) := by simpa using hown
      obtain ⟨gI, hRI, _⟩ := ri_of_own hown2
      have I7 : Hid (RI w5.heap.size w7.heap.size w7 (.slice ia il ic) V.nI V.I gI) := hRI
      have K7 : Hid (∀ x, x < w5.heap.size → ¬ x = w.heap.size → Sm w5 w7 x) := fun x hx hne => (Sm.trans (b := (w5.setCell ⟨w.heap.size, 4, none⟩ (.slice xa xl xc))) (fun o => ⟨set_out (fun e => hne e.1.symm), set_frozen⟩) (sm_below (n := w5.heap.size) ((Below.refl _ _).alloc (by rw [set_size]; exact Nat.le_refl _) _) hx)).trans (sm_grown hg (by rw [hsA]; omega) (fun e => by injection e with e; replace e : x = w5.heap.size := e; omega))
      have Sw7 : w5.heap.size ≤ w7.heap.size := by have := hg.size; rw [hsA] at this; omega
      have B7 : Hid (Below w.heap.size w w7) := KW.out.grown hg (by rw [hsA]; omega) (fun kk e => by cases e; show w.heap.size ≤ w5.heap.size; omega)
      have A7 : Hid (Six w7 w.heap.size [.int .i64 V.c, .slice wa wl wc, .int .i64 V.g, .slice (some ⟨gO, 0, none⟩) V.nO oc, .slice xa xl xc, .slice (some ⟨bI, 0, none⟩) V.nI cI]) := fun i hi => by have h1 := sm_grown hg (b := w.heap.size) (by rw [hsA]; omega) (fun e => by injection e with e; replace e : w.heap.size = w5.heap.size := e; omega) i; rw [h1.1, h1.2]; exact ((A5.out.set (j := 4) (v := .slice xa xl xc) rfl (by decide)).below (by rw [set_size]; omega) ((Below.refl _ _).alloc (Nat.le_refl _) _)) i hi
      have R7 : Hid (Six w7 (w.heap.size + 1) [.int .i64 0, .slice none 0 0, .int .i64 0, .slice none 0 0, .slice none 0 0, .slice none 0 0]) := fun i hi => by have h1 := K7.out (w.heap.size + 1) (by omega) (by omega) i; rw [h1.1, h1.2]; exact R5.out i hi
      clear hown hown2 hg hnil hRI HC H1 HL HLit KW l9 hsA A5 R5 a0 a1 a2 a3 a4 a5 f0 f1 f2 f3 f4 f5
      obtain ⟨a0, a1, a2, a3, a4, a5⟩ := A7.out.a6
      obtain ⟨f0, f1, f2, f3, f4, f5⟩ := A7.out.f6
      obtain ⟨r0, r1, r2, r3, r4, r5⟩ := R7.out.a6
      obtain ⟨q0, q1, q2, q3, q4, q5⟩ := R7.out.f6
      have l1b : w.heap.size + 1 < w7.heap.size := by omega
      have l1c : w.heap.size < w7.heap.size := by omega
      go_wp2
      refine bodyPost_ret (v := .agg #[.int .i64 V.c, .slice wa wl wc, .int .i64 V.g, .slice (some ⟨gO, 0, none⟩) V.nO oc, .slice xa xl xc, .slice ia il ic]) (by simp [results, Tryz.results66, go_sem, r0, r1, r2, r3, r4, r5]) rfl ?_
      have hzz : (put6 (w7.setCell ⟨w.heap.size, 5, none⟩ (.slice ia il ic)) (w.heap.size + 1) (.int .i64 V.c) (.slice wa wl wc) (.int .i64 V.g) (.slice (some ⟨gO, 0, none⟩) V.nO oc) (.slice xa xl xc) (.slice ia il ic)).heap.size = w7.heap.size := by rw [size_put6, set_size]
      have hbb : Below w.heap.size w (put6 (w7.setCell ⟨w.heap.size, 5, none⟩ (.slice ia il ic)) (w.heap.size + 1) (.int .i64 V.c) (.slice wa wl wc) (.int .i64 V.g) (.slice (some ⟨gO, 0, none⟩) V.nO oc) (.slice xa xl xc) (.slice ia il ic)) := below_put6 (B7.out.setCell (by simp) _) (Nat.le_succ w.heap.size) (.int .i64 V.c) (.slice wa wl wc) (.int .i64 V.g) (.slice (some ⟨gO, 0, none⟩) V.nO oc) (.slice xa xl xc) (.slice ia il ic)
      have SF : ∀ x, ¬ x = w.heap.size + 1 → ¬ x = w.heap.size → Sm w7 (put6 (w7.setCell ⟨w.heap.size, 5, none⟩ (.slice ia il ic)) (w.heap.size + 1) (.int .i64 V.c) (.slice wa wl wc) (.int .i64 V.g) (.slice (some ⟨gO, 0, none⟩) V.nO oc) (.slice xa xl xc) (.slice ia il ic)) x := fun x h1 h2 => Sm.trans (fun o => ⟨set_out (fun e => h2 e.1.symm), set_frozen⟩) (sm_put6 (fun e => h1 e.symm) (.int .i64 V.c) (.slice wa wl wc) (.int .i64 V.g) (.slice (some ⟨gO, 0, none⟩) V.nO oc) (.slice xa xl xc) (.slice ia il ic))
      refine ⟨⟨_, rfl, ?_, ?_, ?_⟩, hbb⟩
      · show OwnC w.heap.size (put6 (w7.setCell ⟨w.heap.size, 5, none⟩ (.slice ia il ic)) (w.heap.size + 1) (.int .i64 V.c) (.slice wa wl wc) (.int .i64 V.g) (.slice (some ⟨gO, 0, none⟩) V.nO oc) (.slice xa xl xc) (.slice ia il ic)).heap.size (put6 (w7.setCell ⟨w.heap.size, 5, none⟩ (.slice ia il ic)) (w.heap.size + 1) (.int .i64 V.c) (.slice wa wl wc) (.int .i64 V.g) (.slice (some ⟨gO, 0, none⟩) V.nO oc) (.slice xa xl xc) (.slice ia il ic)) _ _
        rw [hzz]
        clear r0 r1 r2 r3 r4 r5 q0 q1 q2 q3 q4 q5 a0 a1 a2 a3 a4 a5 f0 f1 f2 f3 f4 f5 hbb
        have S5 : ∀ x, x < w5.heap.size → w0.heap.size ≤ x → Sm w5 (put6 (w7.setCell ⟨w.heap.size, 5, none⟩ (.slice ia il ic)) (w.heap.size + 1) (.int .i64 V.c) (.slice wa wl wc) (.int .i64 V.g) (.slice (some ⟨gO, 0, none⟩) V.nO oc) (.slice xa xl xc) (.slice ia il ic)) x := fun x h1 h2 => (K7.out x h1 (by omega)).trans (SF x (by omega) (by omega))
        have S3 : ∀ x, x < wr.heap.size → w0.heap.size ≤ x → Sm wr (put6 (w7.setCell ⟨w.heap.size, 5, none⟩ (.slice ia il ic)) (w.heap.size + 1) (.int .i64 V.c) (.slice wa wl wc) (.int .i64 V.g) (.slice (some ⟨gO, 0, none⟩) V.nO oc) (.slice xa xl xc) (.slice ia il ic)) x := fun x h1 h2 => (K5.out x h1 (by omega)).trans (S5 x (by omega) h2)
        have bWl : V.nW ≠ 0 → gW < gB := fun e => by rcases W4.out with ⟨h, _⟩ | ⟨_, _, _, h, _⟩; exact absurd h e; exact h
        have bXl : V.nX ≠ 0 → wr.heap.size ≤ gX ∧ gX < w5.heap.size := fun e => by rcases X5.out with ⟨h, _⟩ | ⟨_, _, h, h2, _⟩; exact absurd h e; exact ⟨h, h2⟩
        have bIl : V.nI ≠ 0 → w5.heap.size ≤ gI ∧ gI < w7.heap.size := fun e => by rcases I7.out with ⟨h, _⟩ | ⟨_, _, h, h2, _⟩; exact absurd h e; exact ⟨h, h2⟩
        have bPl : ∀ k, k < V.nO → V.N k ≠ 0 → gB ≤ xs k ∧ xs k < wr.heap.size := fun k hk e => by rcases (DD.out k hk).1.1 with ⟨h, _⟩ | ⟨_, _, h, h2, _⟩; exact absurd h e; exact ⟨h, h2⟩
        refine ownC_any (gW := gW) (gO := gO) (gX := gX) (gI := gI) (sl := sl) (xs := xs) (W4.out.move (by omega) (by omega) (Nat.le_of_eq hzz.symm) (fun q1 q2 => S3 gW (by omega) q1)) (by omega) (by omega) (Nat.le_of_eq hzz.symm) (fun k hk => ⟨(S3 gO (by omega) (by omega) k).1.trans (hOc.out k hk), ((DD.out k hk).1.1.move (by omega) (Nat.le_of_eq hzz.symm) (fun q1 q2 => S3 _ q2 (by omega))).low (by omega)⟩) (X5.out.move (by omega) (by omega) (Nat.le_of_eq hzz.symm) (fun q1 q2 => S5 gX q2 (by omega))) (I7.out.move (by omega) (Nat.le_refl _) (Nat.le_of_eq hzz.symm) (fun q1 q2 => SF gI (by omega) (by omega))) (fun e => by have := bWl e; omega) (fun e e2 => by have := bWl e; have := bXl e2; omega) (fun e e2 => by have := bWl e; have := bIl e2; omega) (fun e => by have := bXl e; omega) (fun e => by have := bIl e; omega) (fun e e2 => by have := bXl e; have := bIl e2; omega) (fun k hk e => ⟨fun e2 => by have := bPl k hk e; have := bWl e2; omega, (DD.out k hk).2 e, fun e2 => by have := bPl k hk e; have := bXl e2; omega, fun e2 => by have := bPl k hk e; have := bIl e2; omega⟩) XD.out
      · have S5 : ∀ x, x < w5.heap.size → w0.heap.size ≤ x → Sm w5 (put6 (w7.setCell ⟨w.heap.size, 5, none⟩ (.slice ia il ic)) (w.heap.size + 1) (.int .i64 V.c) (.slice wa wl wc) (.int .i64 V.g) (.slice (some ⟨gO, 0, none⟩) V.nO oc) (.slice xa xl xc) (.slice ia il ic)) x := fun x h1 h2 => (K7.out x h1 (by omega)).trans (SF x (by omega) (by omega))
        have S3 : ∀ x, x < wr.heap.size → w0.heap.size ≤ x → Sm wr (put6 (w7.setCell ⟨w.heap.size, 5, none⟩ (.slice ia il ic)) (w.heap.size + 1) (.int .i64 V.c) (.slice wa wl wc) (.int .i64 V.g) (.slice (some ⟨gO, 0, none⟩) V.nO oc) (.slice xa xl xc) (.slice ia il ic)) x := fun x h1 h2 => (K5.out x h1 (by omega)).trans (S5 x (by omega) h2)
        intro x0 x1 x2 g n k x4 x5 e
        have e3 := (agg6 e).2.1
        simp only [Value.slice.injEq, Option.some.injEq, Addr.mk.injEq] at e3
        obtain ⟨⟨rfl, _, _⟩, rfl, _⟩ := e3
        refine ⟨by omega, ?_, fun j hj => (S3 _ (by omega) (by omega) j).2.trans (FR.out j), fun j u' a' m' c' hj hu hs' => ?_⟩
        · have h1 := hzz
          simp only [put6] at h1
          show _ < (put6 _ _ _ _ _ _ _ _).heap.size
          rw [size_put6]
          show _ < (w7.setCell _ _).heap.size
          rw [set_size]
          omega
        · have hc := (S3 _ (by omega) (by omega) j).1.trans (hOc.out j hj)
          obtain rfl := Option.some.inj (hc.symm.trans hu)
          have em : m' = V.N j := by
            obtain ⟨a2, c2, e2⟩ := (DD.out j hj).1.1.shape'
            rw [e2] at hs'
            simp only [Value.slice.injEq] at hs'
            exact hs'.2.1.symm
          subst em
          refine (DD.out j hj).1.2.1.sm (by omega) ?_ (fun g' c3 e' hn' q1 q2 => S3 _ q2 (by omega))
          show _ ≤ (put6 _ _ _ _ _ _ _ _).heap.size
          rw [size_put6]
          show _ ≤ (w7.setCell _ _).heap.size
          rw [set_size]
          omega
      · have S5 : ∀ x, x < w5.heap.size → w0.heap.size ≤ x → Sm w5 (put6 (w7.setCell ⟨w.heap.size, 5, none⟩ (.slice ia il ic)) (w.heap.size + 1) (.int .i64 V.c) (.slice wa wl wc) (.int .i64 V.g) (.slice (some ⟨gO, 0, none⟩) V.nO oc) (.slice xa xl xc) (.slice ia il ic)) x := fun x h1 h2 => (K7.out x h1 (by omega)).trans (SF x (by omega) (by omega))
        have S3 : ∀ x, x < wr.heap.size → w0.heap.size ≤ x → Sm wr (put6 (w7.setCell ⟨w.heap.size, 5, none⟩ (.slice ia il ic)) (w.heap.size + 1) (.int .i64 V.c) (.slice wa wl wc) (.int .i64 V.g) (.slice (some ⟨gO, 0, none⟩) V.nO oc) (.slice xa xl xc) (.slice ia il ic)) x := fun x h1 h2 => (K5.out x h1 (by omega)).trans (S5 x (by omega) h2)
        intro x0 x1 x2 g n k x4 x5 e j hj
        have e3 := (agg6 e).2.1
        simp only [Value.slice.injEq, Option.some.injEq, Addr.mk.injEq] at e3
        obtain ⟨⟨rfl, _, _⟩, rfl, _⟩ := e3
        obtain ⟨a, l, c, h1, h2⟩ := (DD.out j hj).1.2.2
        refine ⟨_, l, c, (S3 _ (by omega) (by omega) j).1.trans ((hOc.out j hj).trans (by rw [h1])), ?_⟩
        show _ < (put6 _ _ _ _ _ _ _ _).heap.size
        rw [size_put6]
        show _ < (w7.setCell _ _).heap.size
        rw [set_size]
        omega
theorem CV.short.more {V : CV} {m n : Nat} (h : V.short m) (hmn : m ≤ n) : V.short n :=
  ⟨Nat.le_trans h.1 hmn, Nat.le_trans h.2.1 hmn, fun k hk => Nat.le_trans (h.2.2.1 k hk) hmn, Nat.le_trans h.2.2.2.1 hmn, Nat.le_trans h.2.2.2.2 hmn⟩
theorem OwnC.sm {lo hi : Nat} {w w' : World} {v : Value} {V : CV} (h : OwnC lo hi w v V) (hs : w.heap.size ≤ w'.heap.size) (k : ∀ b, lo ≤ b → b < hi → Sm w w' b) : OwnC lo hi w' v V := by
  obtain ⟨vW, vO, vX, vI, gW, gO, gX, gI, sl, xs, e, rW, rO, rX, rI, hd, hx1, hx2⟩ := h
  exact ⟨vW, vO, vX, vI, gW, gO, gX, gI, sl, xs, e, rW.sm hs (k gW), rO.sm hs (k gO) (fun i _ => k (xs i)), rX.sm hs (k gX), rI.sm hs (k gI), hd, hx1, hx2⟩
theorem OwnC.below {lo hi : Nat} {w w' : World} {v : Value} {V : CV} (h : OwnC lo hi w v V) (hh : hi ≤ w.heap.size) (hb : Below w.heap.size w w') : OwnC lo hi w' v V :=
  h.sm hb.size (fun b _ hb' => sm_below hb (Nat.lt_of_lt_of_le hb' hh))
theorem OwnC.at {lo hi : Nat} {w : World} {v : Value} {V : CV} (h : OwnC lo hi w v V) : CellAt w v V := by
  obtain ⟨vW, vO, vX, vI, gW, gO, gX, gI, sl, xs, rfl, rW, rO, rX, rI, hd, hx1, hx2⟩ := h
  have hW : ∃ a k, vW = .slice a V.nW k ∧ Row5 w a V.nW V.W := by
    rcases rW with ⟨e, a, k, rfl⟩ | ⟨k, rfl, h1, h2, h3, h4⟩
    · exact ⟨a, k, by rw [e], .inl e⟩
    · exact ⟨_, k, rfl, row5_of_own h4 (by omega)⟩
  have hI : ∀ (v : Value) (n : Nat) (X : Nat → Int) (g : Nat), RI lo hi w v n X g → ∃ a k, v = .slice a n k ∧ Row1 w a n X := fun v n X g r => by
    rcases r with ⟨e, a, k, rfl⟩ | ⟨k, rfl, h1, h2, h3, h4⟩
    · exact ⟨a, k, by rw [e], .inl e⟩
    · exact ⟨_, k, rfl, row1_of_own h4 (by omega)⟩
  have hO : ∃ a k, vO = .slice a V.nO k ∧ RowO w a V.nO V.N V.O := by
    rcases rO with ⟨e, a, k, rfl⟩ | ⟨k, rfl, h1, h2, h3, h4⟩
    · exact ⟨a, k, by rw [e], .inl e⟩
    · refine ⟨_, k, rfl, .inr ⟨gO, 0, rfl, by omega, fun i hi => ?_⟩⟩
      obtain ⟨hc, hp⟩ := h4 i hi
      rcases hp with ⟨e, a, k', e2⟩ | ⟨k', e2, h1, h2, h3, h4⟩
      · exact ⟨a, k', by rw [Nat.zero_add, hc, e2, e], .inl e⟩
      · exact ⟨_, k', by rw [Nat.zero_add, hc, e2], row8_of_own h4 (by omega)⟩
  obtain ⟨aW, kW, rfl, qW⟩ := hW
  obtain ⟨aO, kO, rfl, qO⟩ := hO
  obtain ⟨aX, kX, rfl, qX⟩ := hI _ _ _ _ rX
  obtain ⟨aI, kI, rfl, qI⟩ := hI _ _ _ _ rI
  exact ⟨aW, kW, aO, kO, aX, kX, aI, kI, rfl, qW, qO, qX, qI⟩
end Go.Proofs.YthbkjfkkdaheoaaGreatDoor
