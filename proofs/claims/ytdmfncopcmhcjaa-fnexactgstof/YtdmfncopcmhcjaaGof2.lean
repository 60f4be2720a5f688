/- GstOf, of the program and of the model; conditions: the hold lies in memory of its own. -/
import Derived.Test.YtdmfncopcmhcjaaHld2
import Derived.Test.YtdmfncopcmhcjaaList7
import Derived.Test.YtdmfncopcmhcjaaWalksE
namespace Go.Proofs.Ytdmfncopcmhcjaa
open Go.RowKit Go.Deep
set_option linter.unusedVariables false

/-- Which of the first k walkers stand at the edge. -/
def outL (c d : Int) (V : CV) (side : Int) (k : Nat) : List Nat := (List.range k).filter (fun i => edgeB c d (V.W i 1) side)
theorem outL_yes {c d : Int} {V : CV} {side : Int} {k : Nat} (h : edgeB c d (V.W k 1) side = true) : outL c d V side (k + 1) = outL c d V side k ++ [k] := by
  unfold outL; rw [List.range_succ, List.filter_append]; simp [h]
theorem outL_no {c d : Int} {V : CV} {side : Int} {k : Nat} (h : edgeB c d (V.W k 1) side = false) : outL c d V side (k + 1) = outL c d V side k := by
  unfold outL; rw [List.range_succ, List.filter_append]; simp [h]
theorem outL_len (c d : Int) (V : CV) (side : Int) (k : Nat) : (outL c d V side k).length ≤ k := by
  have := (List.filter_sublist (p := fun i => edgeB c d (V.W i 1) side) (l := List.range k)).length_le
  rw [List.length_range] at this
  exact this
/-- The ghost of the k-th walker, cell by cell. -/
def gh (V : CV) (ct : Int) (k : Nat) : List Value := [.int .i64 V.c, .int .i64 ct, .int .i64 (V.W k 0), .int .i64 (V.W k 1), .int .i64 (V.W k 2), .int .i64 (V.W k 3), .int .i64 (V.W k 4)]
def gofL (c d ag ct : Int) (V : CV) (side : Int) : List Nat := if hldB c d ag ct V then outL c d V side V.nW else []
def gofZ (V : CV) (ct : Int) (Ls : List Nat) (i j : Nat) : Int := match j with
  | 0 => V.c
  | 1 => ct
  | j + 2 => V.W (Ls.getD i 0) j
theorem gof_rows (V : CV) (ct : Int) (Ls : List Nat) : Ls.flatMap (gh V ct) = (List.range Ls.length).flatMap (P7.rowK (gofZ V ct Ls)) := by
  have e : Ls = (List.range Ls.length).map (fun i => Ls.getD i 0) := by
    apply List.ext_getElem?
    intro i
    by_cases h : i < Ls.length
    · simp [h, List.getD]
    · rw [List.getElem?_eq_none (by omega), List.getElem?_eq_none (by simp; omega)]
  have q : ∀ i, P7.rowK (gofZ V ct Ls) i = gh V ct (Ls.getD i 0) := fun i => rfl
  rw [show (List.range Ls.length).flatMap (P7.rowK (gofZ V ct Ls)) = ((List.range Ls.length).map (fun i => Ls.getD i 0)).flatMap (gh V ct) by rw [List.flatMap_map]; rfl, ← e]
theorem cells_gh (w : World) (V : CV) (ct : Int) (k : Nat) : ∀ j u, (gh V ct k)[j]? = some u → (w.alloc (.cells #[.int .i64 V.c, .int .i64 ct, .int .i64 (V.W k 0), .int .i64 (V.W k 1), .int .i64 (V.W k 2), .int .i64 (V.W k 3), .int .i64 (V.W k 4)] 60)).cell? ((⟨w.heap.size, 0, none⟩ : Addr).add j) = some u := by
  intro j u hj
  match j, hj with
  | 0, hj => simp [gh] at hj; subst hj; simp [Addr.add]
  | 1, hj => simp [gh] at hj; subst hj; simp [Addr.add]
  | 2, hj => simp [gh] at hj; subst hj; simp [Addr.add]
  | 3, hj => simp [gh] at hj; subst hj; simp [Addr.add]
  | 4, hj => simp [gh] at hj; subst hj; simp [Addr.add]
  | 5, hj => simp [gh] at hj; subst hj; simp [Addr.add]
  | 6, hj => simp [gh] at hj; subst hj; simp [Addr.add]
  | j + 7, hj => simp [gh] at hj
theorem one_gh (V : CV) (ct : Int) (k : Nat) : ∀ u ∈ gh V ct k, u.oneCell' = true := by
  intro u hu; simp [gh] at hu; rcases hu with rfl | rfl | rfl | rfl | rfl | rfl | rfl <;> rfl
theorem own_shape {w : World} {base e m n : Nat} {v : Value} {xs : List Value} (h : w.ownsRow base e m v n xs) : ∃ a l c, v = .slice a l c := by
  rcases h.2 with ⟨e, _⟩ | ⟨g, cap, cur, hv, _⟩
  · exact ⟨_, _, _, e⟩
  · exact ⟨_, _, _, hv⟩
theorem own_keep {w w' : World} {base e m n : Nat} {v : Value} {xs : List Value} (h : w.ownsRow base e m v n xs) (hb : Below w.heap.size w w') : w'.ownsRow base e m v n xs :=
  World.ownsRow.kept h (row := none) ⟨hb.os, hb.tape, hb.output, hb.size, fun k hk _ => hb.block k hk⟩ (by cases e : v.ownBlock <;> simp)

theorem rl_mono {lo lo' hi : Nat} {w : World} {v : Value} {n : Nat} {Z : Nat → Nat → Int} (h : P7.RL lo hi w v n Z) (hl : lo' ≤ lo) : P7.RL lo' hi w v n Z := by
  rcases h with h | ⟨g, c, h1, h2, h3, h4, h5⟩
  · exact .inl h
  · exact .inr ⟨g, c, h1, by omega, h3, h4, h5⟩

set_option maxHeartbeats 4000000 in
theorem gof_impl (c d : Int) (v : Value) (ag ct : Int) (V : CV) (lo : Nat) (side : Int) (hs : V.short 1048576) (w : World) (h : HCopy lo w v ag ct V) :
    Calls Try.prog 12 #[.agg #[.int .i64 c, .int .i64 d], v, .int .i64 side] w fun e w' => (∃ v', e = .returned v' ∧ P7.RL w.heap.size w'.heap.size w' v' (gofL c d ag ct V side).length (gofZ V ct (gofL c d ag ct V side))) ∧ Below w.heap.size w w' := by
  obtain ⟨bW, bO, bX, bI, rfl, hC⟩ := h
  have H0 : Hid (HCopy lo w (.agg #[.int .i64 ag, .int .i64 ct, .int .i64 V.c, .slice (some ⟨bW, 0, none⟩) V.nW V.nW, .int .i64 V.g, .slice (some ⟨bO, 0, none⟩) V.nO V.nO, .slice (some ⟨bX, 0, none⟩) V.nX V.nX, .slice (some ⟨bI, 0, none⟩) V.nI V.nI]) ag ct V) := ⟨bW, bO, bX, bI, rfl, hC⟩
  have HS : Hid (V.short 1048576) := hs
  have hW : V.nW ≤ 1048576 := hs.1
  obtain ⟨_, _, _, _, _, _, _, _, hI, ev, hOw, _, _, _⟩ := id hC
  injection ev with ev
  have hbW : bW < w.heap.size := by simp only [Array.mk.injEq, List.cons.injEq, Value.slice.injEq, Option.some.injEq, Addr.mk.injEq, and_true, true_and] at ev; omega
  have HO : Hid (∀ k j, k < V.nW → j < 5 → w.cell? ⟨bW, k * 5 + j, none⟩ = some (.int .i64 (V.W k j))) := by simp only [Array.mk.injEq, List.cons.injEq, Value.slice.injEq, Option.some.injEq, Addr.mk.injEq, and_true, true_and] at ev; obtain ⟨e1, _⟩ := ev; subst e1; exact hOw.2
  clear hC hs hOw ev hI
  obtain ⟨i7, hi7, hzz⟩ := Option.map_eq_some_iff.1 P7.infoE
  simp only [Prod.mk.injEq] at hzz
  obtain ⟨hz0, hz1, hz2⟩ := hzz
  go_enter Try.func12, Try.ntmps12
  go_wp2_with fail
  obtain ⟨w0, e0⟩ : ∃ w0, w0 = ((w.alloc (.cells #[.int .i64 c, .int .i64 d] 33)).alloc (.cells #[.int .i64 ag, .int .i64 ct, .int .i64 V.c, .slice (some ⟨bW, 0, none⟩) V.nW V.nW, .int .i64 V.g, .slice (some ⟨bO, 0, none⟩) V.nO V.nO, .slice (some ⟨bX, 0, none⟩) V.nX V.nX, .slice (some ⟨bI, 0, none⟩) V.nI V.nI] 40)) := ⟨_, rfl⟩
  have B1 : Hid (Below w.heap.size w w0) := by rw [e0]; exact ((Below.refl _ _).alloc (by simp) _).alloc (by simp) _
  have M2 : Hid (Bk w0 w.heap.size [.int .i64 c, .int .i64 d]) := by rw [e0]; exact (bk_new w 33 [.int .i64 c, .int .i64 d]).below ((Below.refl _ _).alloc (Nat.le_refl _) _)
  have G3 : Hid (Bk w0 (w.heap.size + 1) [.int .i64 ag, .int .i64 ct, .int .i64 V.c, .slice (some ⟨bW, 0, none⟩) V.nW V.nW, .int .i64 V.g, .slice (some ⟨bO, 0, none⟩) V.nO V.nO, .slice (some ⟨bX, 0, none⟩) V.nX V.nX, .slice (some ⟨bI, 0, none⟩) V.nI V.nI]) := by rw [e0]; have := bk_new (w.alloc (.cells #[.int .i64 c, .int .i64 d] 33)) 40 [.int .i64 ag, .int .i64 ct, .int .i64 V.c, .slice (some ⟨bW, 0, none⟩) V.nW V.nW, .int .i64 V.g, .slice (some ⟨bO, 0, none⟩) V.nO V.nO, .slice (some ⟨bX, 0, none⟩) V.nX V.nX, .slice (some ⟨bI, 0, none⟩) V.nI V.nI]; rwa [show (w.alloc (.cells #[.int .i64 c, .int .i64 d] 33)).heap.size = w.heap.size + 1 by simp] at this
  have OW0 : w0.ownsRow (w.heap.size + 2) 60 7 (.slice none 0 0) 0 [] := ⟨rfl, .inl ⟨rfl, rfl⟩⟩
  rw [← e0]
  have z0 : w.heap.size + 1 < w0.heap.size := G3.out.1
  clear e0
  refine (hldOk_impl c d _ ag ct V lo HS.out _ (H0.out.below B1.out)).mono ?_
  rintro e w1 ⟨rfl, hb1⟩
  have y_w1 : w0.heap.size ≤ w1.heap.size := hb1.size
  have B4 : Hid (Below w.heap.size w w1) := bthen B1.out hb1
  have M4 : Hid (Bk w1 w.heap.size [.int .i64 c, .int .i64 d]) := M2.out.below hb1
  have G4 : Hid (Bk w1 (w.heap.size + 1) [.int .i64 ag, .int .i64 ct, .int .i64 V.c, .slice (some ⟨bW, 0, none⟩) V.nW V.nW, .int .i64 V.g, .slice (some ⟨bO, 0, none⟩) V.nO V.nO, .slice (some ⟨bX, 0, none⟩) V.nX V.nX, .slice (some ⟨bI, 0, none⟩) V.nI V.nI]) := G3.out.below hb1
  clear B1 M2 G3
  have OW1 : Hid (w1.ownsRow (w.heap.size + 2) 60 7 (.slice none 0 0) 0 []) := own_keep OW0 hb1
  have z1 : w.heap.size + 2 ≤ w1.heap.size := by omega
  clear hb1 OW0
  have yG0 : w1.cell? ⟨(w.heap.size + 1), 0, none⟩ = some (.int .i64 ag) := (G4.out.2 0 (by simp)).1
  have yG1 : w1.cell? ⟨(w.heap.size + 1), 1, none⟩ = some (.int .i64 ct) := (G4.out.2 1 (by simp)).1
  have yG2 : w1.cell? ⟨(w.heap.size + 1), 2, none⟩ = some (.int .i64 V.c) := (G4.out.2 2 (by simp)).1
  have yG3 : w1.cell? ⟨(w.heap.size + 1), 3, none⟩ = some (.slice (some ⟨bW, 0, none⟩) V.nW V.nW) := (G4.out.2 3 (by simp)).1
  have yG4 : w1.cell? ⟨(w.heap.size + 1), 4, none⟩ = some (.int .i64 V.g) := (G4.out.2 4 (by simp)).1
  have yG5 : w1.cell? ⟨(w.heap.size + 1), 5, none⟩ = some (.slice (some ⟨bO, 0, none⟩) V.nO V.nO) := (G4.out.2 5 (by simp)).1
  have yG6 : w1.cell? ⟨(w.heap.size + 1), 6, none⟩ = some (.slice (some ⟨bX, 0, none⟩) V.nX V.nX) := (G4.out.2 6 (by simp)).1
  have yG7 : w1.cell? ⟨(w.heap.size + 1), 7, none⟩ = some (.slice (some ⟨bI, 0, none⟩) V.nI V.nI) := (G4.out.2 7 (by simp)).1
  have hlG : (w.heap.size + 1) < w1.heap.size := G4.out.1
  cases hok : hldB c d ag ct V
  · have hv : gofL c d ag ct V side = [] := by simp [gofL, hok]
    go_wp2
    go_ret
    exact ⟨⟨_, rfl, by rw [hv]; exact .inl ⟨rfl, _, _, rfl⟩⟩, B4.out⟩
  have HV : Hid (gofL c d ag ct V side = outL c d V side V.nW) := by show gofL c d ag ct V side = _; simp [gofL, hok]
  clear hok
  go_wp2
  clear yG0 yG1 yG2 yG3 yG4 yG5 yG6 yG7 hlG
  go_loopw [7, 18] (fun s i wr => ∃ (k : Nat) (a : Option Addr) (l cp : Nat), k ≤ V.nW ∧ .int .i64 k = i ∧ .slice a l cp = s ∧ wr.ownsRow (w.heap.size + 2) 60 7 (.slice a l cp) (outL c d V side k).length ((outL c d V side k).flatMap (gh V ct)) ∧ w1.heap.size ≤ wr.heap.size ∧ Below (w.heap.size + 2) w1 wr) (fun _ i _ => V.nW - (intOf i).toNat)
  case atStart => exact ⟨0, _, _, _, Nat.zero_le _, rfl, rfl, OW1.out, Nat.le_refl _, Below.refl _ _⟩
  case round =>
    obtain ⟨k, a, l, cp, hk, rfl, rfl, hown, hsz, hbel⟩ := hrel
    have OW : Hid (wr.ownsRow (w.heap.size + 2) 60 7 (.slice a l cp) (outL c d V side k).length ((outL c d V side k).flatMap (gh V ct))) := hown
    have BW : Hid (Below w.heap.size w wr) := B4.out.trans (hbel.mono (by omega))
    have BE : Hid (Below (w.heap.size + 2) w1 wr) := hbel
    have MR : Hid (Bk wr w.heap.size [.int .i64 c, .int .i64 d]) := M4.out.sm hsz (sm_below hbel (by omega))
    have GR : Hid (Bk wr (w.heap.size + 1) [.int .i64 ag, .int .i64 ct, .int .i64 V.c, .slice (some ⟨bW, 0, none⟩) V.nW V.nW, .int .i64 V.g, .slice (some ⟨bO, 0, none⟩) V.nO V.nO, .slice (some ⟨bX, 0, none⟩) V.nX V.nX, .slice (some ⟨bI, 0, none⟩) V.nI V.nI]) := G4.out.sm hsz (sm_below hbel (by omega))
    clear hown hbel
    have ym0 : wr.cell? ⟨w.heap.size, 0, none⟩ = some (.int .i64 c) := (MR.out.2 0 (by simp)).1
    have ym1 : wr.cell? ⟨w.heap.size, 1, none⟩ = some (.int .i64 d) := (MR.out.2 1 (by simp)).1
    have yg0 : wr.cell? ⟨w.heap.size + 1, 0, none⟩ = some (.int .i64 ag) := (GR.out.2 0 (by simp)).1
    have yg1 : wr.cell? ⟨w.heap.size + 1, 1, none⟩ = some (.int .i64 ct) := (GR.out.2 1 (by simp)).1
    have yg2 : wr.cell? ⟨w.heap.size + 1, 2, none⟩ = some (.int .i64 V.c) := (GR.out.2 2 (by simp)).1
    have yg3 : wr.cell? ⟨w.heap.size + 1, 3, none⟩ = some (.slice (some ⟨bW, 0, none⟩) V.nW V.nW) := (GR.out.2 3 (by simp)).1
    have yg4 : wr.cell? ⟨w.heap.size + 1, 4, none⟩ = some (.int .i64 V.g) := (GR.out.2 4 (by simp)).1
    have yg5 : wr.cell? ⟨w.heap.size + 1, 5, none⟩ = some (.slice (some ⟨bO, 0, none⟩) V.nO V.nO) := (GR.out.2 5 (by simp)).1
    have yg6 : wr.cell? ⟨w.heap.size + 1, 6, none⟩ = some (.slice (some ⟨bX, 0, none⟩) V.nX V.nX) := (GR.out.2 6 (by simp)).1
    have yg7 : wr.cell? ⟨w.heap.size + 1, 7, none⟩ = some (.slice (some ⟨bI, 0, none⟩) V.nI V.nI) := (GR.out.2 7 (by simp)).1
    have lyM : w.heap.size < wr.heap.size := MR.out.1
    have lyG : w.heap.size + 1 < wr.heap.size := GR.out.1
    by_cases hkn : k < V.nW
    · have hkn' : (k : Int) < V.nW := by omega
      have c0 : wr.cell? ⟨bW, k * 5, none⟩ = some (.int .i64 (V.W k 0)) := (BW.out.cell (p := ⟨bW, _, none⟩) hbW).trans (HO.out k 0 hkn (by omega))
      have c1 : wr.cell? ⟨bW, k * 5 + 1, none⟩ = some (.int .i64 (V.W k 1)) := (BW.out.cell (p := ⟨bW, _, none⟩) hbW).trans (HO.out k 1 hkn (by omega))
      have c2 : wr.cell? ⟨bW, k * 5 + 2, none⟩ = some (.int .i64 (V.W k 2)) := (BW.out.cell (p := ⟨bW, _, none⟩) hbW).trans (HO.out k 2 hkn (by omega))
      have c3 : wr.cell? ⟨bW, k * 5 + 3, none⟩ = some (.int .i64 (V.W k 3)) := (BW.out.cell (p := ⟨bW, _, none⟩) hbW).trans (HO.out k 3 hkn (by omega))
      have c4 : wr.cell? ⟨bW, k * 5 + 4, none⟩ = some (.int .i64 (V.W k 4)) := (BW.out.cell (p := ⟨bW, _, none⟩) hbW).trans (HO.out k 4 hkn (by omega))
      go_wp2_with fail
      obtain ⟨w2, e2⟩ : ∃ wq, wq = wr.alloc (.cells #[.int .i64 (V.W k 0), .int .i64 (V.W k 1), .int .i64 (V.W k 2), .int .i64 (V.W k 3), .int .i64 (V.W k 4)] 57) := ⟨_, rfl⟩
      rw [← e2]
      have hb2 : Below wr.heap.size wr w2 := by rw [e2]; exact (Below.refl _ _).alloc (Nat.le_refl _) _
      have X2 : Bk w2 wr.heap.size [.int .i64 (V.W k 0), .int .i64 (V.W k 1), .int .i64 (V.W k 2), .int .i64 (V.W k 3), .int .i64 (V.W k 4)] := by rw [e2]; exact bk_new wr 57 [.int .i64 (V.W k 0), .int .i64 (V.W k 1), .int .i64 (V.W k 2), .int .i64 (V.W k 3), .int .i64 (V.W k 4)]
      clear e2 c0 c1 c2 c3 c4
      clear ym0 ym1 yg0 yg1 yg2 yg3 yg4 yg5 yg6 yg7 lyM lyG
      obtain ⟨gw, egw⟩ : ∃ g, g = wr.heap.size := ⟨_, rfl⟩
      rw [← egw] at X2 ⊢
      have eg1 : gw ≤ wr.heap.size := by omega
      have eg2 : wr.heap.size ≤ gw := by omega
      clear egw
      refine (plcEdge_impl c d _ side _).mono ?_
      rintro e w3 ⟨rfl, hb3⟩
      have hb23 : Below wr.heap.size wr w3 := bthen hb2 hb3
      have X3 : Hid (Bk w3 gw [.int .i64 (V.W k 0), .int .i64 (V.W k 1), .int .i64 (V.W k 2), .int .i64 (V.W k 3), .int .i64 (V.W k 4)]) := X2.below hb3
      have z3 : wr.heap.size ≤ w3.heap.size := hb23.size
      have OW3 : Hid (w3.ownsRow (w.heap.size + 2) 60 7 (.slice a l cp) (outL c d V side k).length ((outL c d V side k).flatMap (gh V ct))) := own_keep OW.out hb23
      have BE3 : Hid (Below (w.heap.size + 2) w1 w3) := BE.out.trans (hb23.mono (by omega))
      have M3 : Hid (Bk w3 w.heap.size [.int .i64 c, .int .i64 d]) := MR.out.below hb23
      have G3 : Hid (Bk w3 (w.heap.size + 1) [.int .i64 ag, .int .i64 ct, .int .i64 V.c, .slice (some ⟨bW, 0, none⟩) V.nW V.nW, .int .i64 V.g, .slice (some ⟨bO, 0, none⟩) V.nO V.nO, .slice (some ⟨bX, 0, none⟩) V.nX V.nX, .slice (some ⟨bI, 0, none⟩) V.nI V.nI]) := GR.out.below hb23
      clear hb2 hb3 hb23 X2 MR GR
      cases hE : edgeB c d (V.W k 1) side
      · go_wp2
        go_roundw
        case rel => exact ⟨k + 1, a, l, cp, by omega, by go_num, rfl, by rw [outL_no hE]; exact OW3.out, by omega, BE3.out⟩
        case measure => simp [intOf]; omega
      · have ym0 : w3.cell? ⟨w.heap.size, 0, none⟩ = some (.int .i64 c) := (M3.out.2 0 (by simp)).1
        have ym1 : w3.cell? ⟨w.heap.size, 1, none⟩ = some (.int .i64 d) := (M3.out.2 1 (by simp)).1
        have yg0 : w3.cell? ⟨w.heap.size + 1, 0, none⟩ = some (.int .i64 ag) := (G3.out.2 0 (by simp)).1
        have yg1 : w3.cell? ⟨w.heap.size + 1, 1, none⟩ = some (.int .i64 ct) := (G3.out.2 1 (by simp)).1
        have yg2 : w3.cell? ⟨w.heap.size + 1, 2, none⟩ = some (.int .i64 V.c) := (G3.out.2 2 (by simp)).1
        have yg3 : w3.cell? ⟨w.heap.size + 1, 3, none⟩ = some (.slice (some ⟨bW, 0, none⟩) V.nW V.nW) := (G3.out.2 3 (by simp)).1
        have yg4 : w3.cell? ⟨w.heap.size + 1, 4, none⟩ = some (.int .i64 V.g) := (G3.out.2 4 (by simp)).1
        have yg5 : w3.cell? ⟨w.heap.size + 1, 5, none⟩ = some (.slice (some ⟨bO, 0, none⟩) V.nO V.nO) := (G3.out.2 5 (by simp)).1
        have yg6 : w3.cell? ⟨w.heap.size + 1, 6, none⟩ = some (.slice (some ⟨bX, 0, none⟩) V.nX V.nX) := (G3.out.2 6 (by simp)).1
        have yg7 : w3.cell? ⟨w.heap.size + 1, 7, none⟩ = some (.slice (some ⟨bI, 0, none⟩) V.nI V.nI) := (G3.out.2 7 (by simp)).1
        have lyM : w.heap.size < w3.heap.size := M3.out.1
        have lyG : w.heap.size + 1 < w3.heap.size := G3.out.1
        have yw0 : w3.cell? ⟨gw, 0, none⟩ = some (.int .i64 (V.W k 0)) := (X3.out.2 0 (by simp)).1
        have yw1 : w3.cell? ⟨gw, 1, none⟩ = some (.int .i64 (V.W k 1)) := (X3.out.2 1 (by simp)).1
        have yw2 : w3.cell? ⟨gw, 2, none⟩ = some (.int .i64 (V.W k 2)) := (X3.out.2 2 (by simp)).1
        have yw3 : w3.cell? ⟨gw, 3, none⟩ = some (.int .i64 (V.W k 3)) := (X3.out.2 3 (by simp)).1
        have yw4 : w3.cell? ⟨gw, 4, none⟩ = some (.int .i64 (V.W k 4)) := (X3.out.2 4 (by simp)).1
        have lyW : gw < w3.heap.size := X3.out.1
        have kb : Below w3.heap.size w3 (w3.alloc (.cells #[.int .i64 V.c, .int .i64 ct, .int .i64 (V.W k 0), .int .i64 (V.W k 1), .int .i64 (V.W k 2), .int .i64 (V.W k 3), .int .i64 (V.W k 4)] 60)) := (Below.refl _ _).alloc (Nat.le_refl _) _
        have OW4 : Hid ((w3.alloc (.cells #[.int .i64 V.c, .int .i64 ct, .int .i64 (V.W k 0), .int .i64 (V.W k 1), .int .i64 (V.W k 2), .int .i64 (V.W k 3), .int .i64 (V.W k 4)] 60)).ownsRow (w.heap.size + 2) 60 7 (.slice a l cp) (outL c d V side k).length ((outL c d V side k).flatMap (gh V ct))) := own_keep OW3.out kb
        have HCg : Hid (∀ j u, (gh V ct k)[j]? = some u → (w3.alloc (.cells #[.int .i64 V.c, .int .i64 ct, .int .i64 (V.W k 0), .int .i64 (V.W k 1), .int .i64 (V.W k 2), .int .i64 (V.W k 3), .int .i64 (V.W k 4)] 60)).cell? ((⟨w3.heap.size, 0, none⟩ : Addr).add j) = some u) := cells_gh w3 V ct k
        have KB : Hid (Below w3.heap.size w3 (w3.alloc (.cells #[.int .i64 V.c, .int .i64 ct, .int .i64 (V.W k 0), .int .i64 (V.W k 1), .int .i64 (V.W k 2), .int .i64 (V.W k 3), .int .i64 (V.W k 4)] 60))) := kb
        clear kb
        have hlen := outL_len c d V side k
        go_wp2_with (at_builtin; refine wpList_append_own _ rfl _ _ 44 rfl (w.heap.size + 2) 60 i7 (.agg #[.int .i64 0, .int .i64 0, .int .i64 0, .int .i64 0, .int .i64 0, .int .i64 0, .int .i64 0]) 7 56 Try.underlying44 hi7 hz0 hz1 hz2 rfl (by decide) _ _ _ rfl OW4.out ⟨w3.heap.size, 0, none⟩ 1 1 (gh V ct k) rfl rfl HCg.out (one_gh V ct k) (by unfold maxLen; omega) (by omega) (by simp; omega) ?_)
        intro v5 w5 hown5 hg5 _
        obtain ⟨a5, l5, c5, ev5⟩ := own_shape hown5
        subst ev5
        have OW5 : Hid (w5.ownsRow (w.heap.size + 2) 60 7 (.slice a5 l5 c5) (outL c d V side (k + 1)).length ((outL c d V side (k + 1)).flatMap (gh V ct))) := by
          unfold Hid; rw [outL_yes hE, List.length_append, List.flatMap_append]; simpa using hown5
        have z5 : w3.heap.size < w5.heap.size := by have := hg5.size; simp at this; omega
        have BE5 : Hid (Below (w.heap.size + 2) w1 w5) := (BE3.out.trans (KB.out.mono (by omega))).grown hg5 (by simp; omega) (fun b e => (OW3.out.lt b e).1)
        clear hown5 hg5 OW4 HCg KB OW3 BE3 ym0 ym1 yg0 yg1 yg2 yg3 yg4 yg5 yg6 yg7 lyM lyG yw0 yw1 yw2 yw3 yw4 lyW
        go_wp2
        go_roundw
        case rel => exact ⟨k + 1, a5, l5, c5, by omega, by go_num, rfl, OW5.out, by omega, BE5.out⟩
        case measure => simp [intOf]; omega
    · have hkk : k = V.nW := by omega
      subst hkk
      go_wp2
      go_ret
      refine ⟨⟨_, rfl, ?_⟩, BW.out⟩
      rw [HV.out]
      have := OW.out
      rw [gof_rows] at this
      exact rl_mono (P7.rl_of_own this) (by omega)

set_option maxHeartbeats 4000000 in
theorem gof_spec (c d : Int) (v : Value) (ag ct : Int) (V : CV) (lo : Nat) (side : Int) (hs : V.short 1048576) (w : World) (h : HCopy lo w v ag ct V) :
    Calls Try.prog 11 #[.agg #[.int .i64 c, .int .i64 d], v, .int .i64 side] w fun e w' => (∃ v', e = .returned v' ∧ P7.RL w.heap.size w'.heap.size w' v' (gofL c d ag ct V side).length (gofZ V ct (gofL c d ag ct V side))) ∧ Below w.heap.size w w' := by
  obtain ⟨bW, bO, bX, bI, rfl, hC⟩ := h
  have H0 : Hid (HCopy lo w (.agg #[.int .i64 ag, .int .i64 ct, .int .i64 V.c, .slice (some ⟨bW, 0, none⟩) V.nW V.nW, .int .i64 V.g, .slice (some ⟨bO, 0, none⟩) V.nO V.nO, .slice (some ⟨bX, 0, none⟩) V.nX V.nX, .slice (some ⟨bI, 0, none⟩) V.nI V.nI]) ag ct V) := ⟨bW, bO, bX, bI, rfl, hC⟩
  have HS : Hid (V.short 1048576) := hs
  have hW : V.nW ≤ 1048576 := hs.1
  obtain ⟨_, _, _, _, _, _, _, _, hI, ev, hOw, _, _, _⟩ := id hC
  injection ev with ev
  have hbW : bW < w.heap.size := by simp only [Array.mk.injEq, List.cons.injEq, Value.slice.injEq, Option.some.injEq, Addr.mk.injEq, and_true, true_and] at ev; omega
  have HO : Hid (∀ k j, k < V.nW → j < 5 → w.cell? ⟨bW, k * 5 + j, none⟩ = some (.int .i64 (V.W k j))) := by simp only [Array.mk.injEq, List.cons.injEq, Value.slice.injEq, Option.some.injEq, Addr.mk.injEq, and_true, true_and] at ev; obtain ⟨e1, _⟩ := ev; subst e1; exact hOw.2
  clear hC hs hOw ev hI
  obtain ⟨i7, hi7, hzz⟩ := Option.map_eq_some_iff.1 P7.infoE
  simp only [Prod.mk.injEq] at hzz
  obtain ⟨hz0, hz1, hz2⟩ := hzz
  go_enter Try.func11, Try.ntmps11
  go_wp2_with fail
  obtain ⟨w0, e0⟩ : ∃ w0, w0 = ((w.alloc (.cells #[.int .i64 c, .int .i64 d] 33)).alloc (.cells #[.int .i64 ag, .int .i64 ct, .int .i64 V.c, .slice (some ⟨bW, 0, none⟩) V.nW V.nW, .int .i64 V.g, .slice (some ⟨bO, 0, none⟩) V.nO V.nO, .slice (some ⟨bX, 0, none⟩) V.nX V.nX, .slice (some ⟨bI, 0, none⟩) V.nI V.nI] 40)).alloc (.cells #[] 60) := ⟨_, rfl⟩
  have B1 : Hid (Below w.heap.size w w0) := by rw [e0]; exact (((Below.refl _ _).alloc (by simp) _).alloc (by simp) _).alloc (by simp; omega) _
  have M2 : Hid (Bk w0 w.heap.size [.int .i64 c, .int .i64 d]) := by rw [e0]; exact ((bk_new w 33 [.int .i64 c, .int .i64 d]).below ((Below.refl _ _).alloc (Nat.le_refl _) _)).below ((Below.refl _ _).alloc (Nat.le_refl _) _)
  have G3 : Hid (Bk w0 (w.heap.size + 1) [.int .i64 ag, .int .i64 ct, .int .i64 V.c, .slice (some ⟨bW, 0, none⟩) V.nW V.nW, .int .i64 V.g, .slice (some ⟨bO, 0, none⟩) V.nO V.nO, .slice (some ⟨bX, 0, none⟩) V.nX V.nX, .slice (some ⟨bI, 0, none⟩) V.nI V.nI]) := by rw [e0]; have := (bk_new (w.alloc (.cells #[.int .i64 c, .int .i64 d] 33)) 40 [.int .i64 ag, .int .i64 ct, .int .i64 V.c, .slice (some ⟨bW, 0, none⟩) V.nW V.nW, .int .i64 V.g, .slice (some ⟨bO, 0, none⟩) V.nO V.nO, .slice (some ⟨bX, 0, none⟩) V.nX V.nX, .slice (some ⟨bI, 0, none⟩) V.nI V.nI]).below ((Below.refl _ _).alloc (Nat.le_refl _) (.cells #[] 60)); rwa [show (w.alloc (.cells #[.int .i64 c, .int .i64 d] 33)).heap.size = w.heap.size + 1 by simp] at this
  have OW0 : w0.ownsRow (w.heap.size + 2) 60 7 (.slice (some ⟨w.heap.size + 1 + 1, 0, none⟩) 0 0) 0 [] := by rw [e0]; have := World.ownsRow_lit (base := w.heap.size + 2) (e := 60) (size := 7) ((w.alloc (.cells #[.int .i64 c, .int .i64 d] 33)).alloc (.cells #[.int .i64 ag, .int .i64 ct, .int .i64 V.c, .slice (some ⟨bW, 0, none⟩) V.nW V.nW, .int .i64 V.g, .slice (some ⟨bO, 0, none⟩) V.nO V.nO, .slice (some ⟨bX, 0, none⟩) V.nX V.nX, .slice (some ⟨bI, 0, none⟩) V.nI V.nI] 40)) #[] 0 (by simp) (by simp) (by simp); rwa [show ((w.alloc (.cells #[.int .i64 c, .int .i64 d] 33)).alloc (.cells #[.int .i64 ag, .int .i64 ct, .int .i64 V.c, .slice (some ⟨bW, 0, none⟩) V.nW V.nW, .int .i64 V.g, .slice (some ⟨bO, 0, none⟩) V.nO V.nO, .slice (some ⟨bX, 0, none⟩) V.nX V.nX, .slice (some ⟨bI, 0, none⟩) V.nI V.nI] 40)).heap.size = w.heap.size + 1 + 1 by simp] at this
  rw [← e0]
  have z0 : w.heap.size + 1 < w0.heap.size := G3.out.1
  clear e0
  refine (hldOk_spec c d _ ag ct V lo HS.out _ (H0.out.below B1.out)).mono ?_
  rintro e w1 ⟨rfl, hb1⟩
  have y_w1 : w0.heap.size ≤ w1.heap.size := hb1.size
  have B4 : Hid (Below w.heap.size w w1) := bthen B1.out hb1
  have M4 : Hid (Bk w1 w.heap.size [.int .i64 c, .int .i64 d]) := M2.out.below hb1
  have G4 : Hid (Bk w1 (w.heap.size + 1) [.int .i64 ag, .int .i64 ct, .int .i64 V.c, .slice (some ⟨bW, 0, none⟩) V.nW V.nW, .int .i64 V.g, .slice (some ⟨bO, 0, none⟩) V.nO V.nO, .slice (some ⟨bX, 0, none⟩) V.nX V.nX, .slice (some ⟨bI, 0, none⟩) V.nI V.nI]) := G3.out.below hb1
  clear B1 M2 G3
  have OW1 : Hid (w1.ownsRow (w.heap.size + 2) 60 7 (.slice (some ⟨w.heap.size + 1 + 1, 0, none⟩) 0 0) 0 []) := own_keep OW0 hb1
  have z1 : w.heap.size + 2 ≤ w1.heap.size := by omega
  clear hb1 OW0
  have yG0 : w1.cell? ⟨(w.heap.size + 1), 0, none⟩ = some (.int .i64 ag) := (G4.out.2 0 (by simp)).1
  have yG1 : w1.cell? ⟨(w.heap.size + 1), 1, none⟩ = some (.int .i64 ct) := (G4.out.2 1 (by simp)).1
  have yG2 : w1.cell? ⟨(w.heap.size + 1), 2, none⟩ = some (.int .i64 V.c) := (G4.out.2 2 (by simp)).1
  have yG3 : w1.cell? ⟨(w.heap.size + 1), 3, none⟩ = some (.slice (some ⟨bW, 0, none⟩) V.nW V.nW) := (G4.out.2 3 (by simp)).1
  have yG4 : w1.cell? ⟨(w.heap.size + 1), 4, none⟩ = some (.int .i64 V.g) := (G4.out.2 4 (by simp)).1
  have yG5 : w1.cell? ⟨(w.heap.size + 1), 5, none⟩ = some (.slice (some ⟨bO, 0, none⟩) V.nO V.nO) := (G4.out.2 5 (by simp)).1
  have yG6 : w1.cell? ⟨(w.heap.size + 1), 6, none⟩ = some (.slice (some ⟨bX, 0, none⟩) V.nX V.nX) := (G4.out.2 6 (by simp)).1
  have yG7 : w1.cell? ⟨(w.heap.size + 1), 7, none⟩ = some (.slice (some ⟨bI, 0, none⟩) V.nI V.nI) := (G4.out.2 7 (by simp)).1
  have hlG : (w.heap.size + 1) < w1.heap.size := G4.out.1
  cases hok : hldB c d ag ct V
  · have hv : gofL c d ag ct V side = [] := by simp [gofL, hok]
    go_wp2
    go_ret
    exact ⟨⟨_, rfl, by rw [hv]; exact .inl ⟨rfl, _, _, rfl⟩⟩, B4.out⟩
  have HV : Hid (gofL c d ag ct V side = outL c d V side V.nW) := by show gofL c d ag ct V side = _; simp [gofL, hok]
  clear hok
  go_wp2
  clear yG0 yG1 yG2 yG3 yG4 yG5 yG6 yG7 hlG
  go_loopw [7, 8] (fun s i wr => ∃ (k : Nat) (a : Option Addr) (l cp : Nat), k ≤ V.nW ∧ .int .i64 k = i ∧ .slice a l cp = s ∧ wr.ownsRow (w.heap.size + 2) 60 7 (.slice a l cp) (outL c d V side k).length ((outL c d V side k).flatMap (gh V ct)) ∧ w1.heap.size ≤ wr.heap.size ∧ Below (w.heap.size + 2) w1 wr) (fun _ i _ => V.nW - (intOf i).toNat)
  case atStart => exact ⟨0, _, _, _, Nat.zero_le _, rfl, rfl, OW1.out, Nat.le_refl _, Below.refl _ _⟩
  case round =>
    obtain ⟨k, a, l, cp, hk, rfl, rfl, hown, hsz, hbel⟩ := hrel
    have OW : Hid (wr.ownsRow (w.heap.size + 2) 60 7 (.slice a l cp) (outL c d V side k).length ((outL c d V side k).flatMap (gh V ct))) := hown
    have BW : Hid (Below w.heap.size w wr) := B4.out.trans (hbel.mono (by omega))
    have BE : Hid (Below (w.heap.size + 2) w1 wr) := hbel
    have MR : Hid (Bk wr w.heap.size [.int .i64 c, .int .i64 d]) := M4.out.sm hsz (sm_below hbel (by omega))
    have GR : Hid (Bk wr (w.heap.size + 1) [.int .i64 ag, .int .i64 ct, .int .i64 V.c, .slice (some ⟨bW, 0, none⟩) V.nW V.nW, .int .i64 V.g, .slice (some ⟨bO, 0, none⟩) V.nO V.nO, .slice (some ⟨bX, 0, none⟩) V.nX V.nX, .slice (some ⟨bI, 0, none⟩) V.nI V.nI]) := G4.out.sm hsz (sm_below hbel (by omega))
    clear hown hbel
    have ym0 : wr.cell? ⟨w.heap.size, 0, none⟩ = some (.int .i64 c) := (MR.out.2 0 (by simp)).1
    have ym1 : wr.cell? ⟨w.heap.size, 1, none⟩ = some (.int .i64 d) := (MR.out.2 1 (by simp)).1
    have yg0 : wr.cell? ⟨w.heap.size + 1, 0, none⟩ = some (.int .i64 ag) := (GR.out.2 0 (by simp)).1
    have yg1 : wr.cell? ⟨w.heap.size + 1, 1, none⟩ = some (.int .i64 ct) := (GR.out.2 1 (by simp)).1
    have yg2 : wr.cell? ⟨w.heap.size + 1, 2, none⟩ = some (.int .i64 V.c) := (GR.out.2 2 (by simp)).1
    have yg3 : wr.cell? ⟨w.heap.size + 1, 3, none⟩ = some (.slice (some ⟨bW, 0, none⟩) V.nW V.nW) := (GR.out.2 3 (by simp)).1
    have yg4 : wr.cell? ⟨w.heap.size + 1, 4, none⟩ = some (.int .i64 V.g) := (GR.out.2 4 (by simp)).1
    have yg5 : wr.cell? ⟨w.heap.size + 1, 5, none⟩ = some (.slice (some ⟨bO, 0, none⟩) V.nO V.nO) := (GR.out.2 5 (by simp)).1
    have yg6 : wr.cell? ⟨w.heap.size + 1, 6, none⟩ = some (.slice (some ⟨bX, 0, none⟩) V.nX V.nX) := (GR.out.2 6 (by simp)).1
    have yg7 : wr.cell? ⟨w.heap.size + 1, 7, none⟩ = some (.slice (some ⟨bI, 0, none⟩) V.nI V.nI) := (GR.out.2 7 (by simp)).1
    have lyM : w.heap.size < wr.heap.size := MR.out.1
    have lyG : w.heap.size + 1 < wr.heap.size := GR.out.1
    by_cases hkn : k < V.nW
    · have hkn' : (k : Int) < V.nW := by omega
      have c0 : wr.cell? ⟨bW, k * 5, none⟩ = some (.int .i64 (V.W k 0)) := (BW.out.cell (p := ⟨bW, _, none⟩) hbW).trans (HO.out k 0 hkn (by omega))
      have c1 : wr.cell? ⟨bW, k * 5 + 1, none⟩ = some (.int .i64 (V.W k 1)) := (BW.out.cell (p := ⟨bW, _, none⟩) hbW).trans (HO.out k 1 hkn (by omega))
      have c2 : wr.cell? ⟨bW, k * 5 + 2, none⟩ = some (.int .i64 (V.W k 2)) := (BW.out.cell (p := ⟨bW, _, none⟩) hbW).trans (HO.out k 2 hkn (by omega))
      have c3 : wr.cell? ⟨bW, k * 5 + 3, none⟩ = some (.int .i64 (V.W k 3)) := (BW.out.cell (p := ⟨bW, _, none⟩) hbW).trans (HO.out k 3 hkn (by omega))
      have c4 : wr.cell? ⟨bW, k * 5 + 4, none⟩ = some (.int .i64 (V.W k 4)) := (BW.out.cell (p := ⟨bW, _, none⟩) hbW).trans (HO.out k 4 hkn (by omega))
      go_wp2_with fail
      obtain ⟨w2, e2⟩ : ∃ wq, wq = wr.alloc (.cells #[.int .i64 (V.W k 0), .int .i64 (V.W k 1), .int .i64 (V.W k 2), .int .i64 (V.W k 3), .int .i64 (V.W k 4)] 57) := ⟨_, rfl⟩
      rw [← e2]
      have hb2 : Below wr.heap.size wr w2 := by rw [e2]; exact (Below.refl _ _).alloc (Nat.le_refl _) _
      have X2 : Bk w2 wr.heap.size [.int .i64 (V.W k 0), .int .i64 (V.W k 1), .int .i64 (V.W k 2), .int .i64 (V.W k 3), .int .i64 (V.W k 4)] := by rw [e2]; exact bk_new wr 57 [.int .i64 (V.W k 0), .int .i64 (V.W k 1), .int .i64 (V.W k 2), .int .i64 (V.W k 3), .int .i64 (V.W k 4)]
      clear e2 c0 c1 c2 c3 c4
      clear ym0 ym1 yg0 yg1 yg2 yg3 yg4 yg5 yg6 yg7 lyM lyG
      obtain ⟨gw, egw⟩ : ∃ g, g = wr.heap.size := ⟨_, rfl⟩
      rw [← egw] at X2 ⊢
      have eg1 : gw ≤ wr.heap.size := by omega
      have eg2 : wr.heap.size ≤ gw := by omega
      clear egw
      refine (plcEdge_spec c d _ side _).mono ?_
      rintro e w3 ⟨rfl, hb3⟩
      have hb23 : Below wr.heap.size wr w3 := bthen hb2 hb3
      have X3 : Hid (Bk w3 gw [.int .i64 (V.W k 0), .int .i64 (V.W k 1), .int .i64 (V.W k 2), .int .i64 (V.W k 3), .int .i64 (V.W k 4)]) := X2.below hb3
      have z3 : wr.heap.size ≤ w3.heap.size := hb23.size
      have OW3 : Hid (w3.ownsRow (w.heap.size + 2) 60 7 (.slice a l cp) (outL c d V side k).length ((outL c d V side k).flatMap (gh V ct))) := own_keep OW.out hb23
      have BE3 : Hid (Below (w.heap.size + 2) w1 w3) := BE.out.trans (hb23.mono (by omega))
      have M3 : Hid (Bk w3 w.heap.size [.int .i64 c, .int .i64 d]) := MR.out.below hb23
      have G3 : Hid (Bk w3 (w.heap.size + 1) [.int .i64 ag, .int .i64 ct, .int .i64 V.c, .slice (some ⟨bW, 0, none⟩) V.nW V.nW, .int .i64 V.g, .slice (some ⟨bO, 0, none⟩) V.nO V.nO, .slice (some ⟨bX, 0, none⟩) V.nX V.nX, .slice (some ⟨bI, 0, none⟩) V.nI V.nI]) := GR.out.below hb23
      clear hb2 hb3 hb23 X2 MR GR
      cases hE : edgeB c d (V.W k 1) side
      · go_wp2
        go_roundw
        case rel => exact ⟨k + 1, a, l, cp, by omega, by go_num, rfl, by rw [outL_no hE]; exact OW3.out, by omega, BE3.out⟩
        case measure => simp [intOf]; omega
      · have ym0 : w3.cell? ⟨w.heap.size, 0, none⟩ = some (.int .i64 c) := (M3.out.2 0 (by simp)).1
        have ym1 : w3.cell? ⟨w.heap.size, 1, none⟩ = some (.int .i64 d) := (M3.out.2 1 (by simp)).1
        have yg0 : w3.cell? ⟨w.heap.size + 1, 0, none⟩ = some (.int .i64 ag) := (G3.out.2 0 (by simp)).1
        have yg1 : w3.cell? ⟨w.heap.size + 1, 1, none⟩ = some (.int .i64 ct) := (G3.out.2 1 (by simp)).1
        have yg2 : w3.cell? ⟨w.heap.size + 1, 2, none⟩ = some (.int .i64 V.c) := (G3.out.2 2 (by simp)).1
        have yg3 : w3.cell? ⟨w.heap.size + 1, 3, none⟩ = some (.slice (some ⟨bW, 0, none⟩) V.nW V.nW) := (G3.out.2 3 (by simp)).1
        have yg4 : w3.cell? ⟨w.heap.size + 1, 4, none⟩ = some (.int .i64 V.g) := (G3.out.2 4 (by simp)).1
        have yg5 : w3.cell? ⟨w.heap.size + 1, 5, none⟩ = some (.slice (some ⟨bO, 0, none⟩) V.nO V.nO) := (G3.out.2 5 (by simp)).1
        have yg6 : w3.cell? ⟨w.heap.size + 1, 6, none⟩ = some (.slice (some ⟨bX, 0, none⟩) V.nX V.nX) := (G3.out.2 6 (by simp)).1
        have yg7 : w3.cell? ⟨w.heap.size + 1, 7, none⟩ = some (.slice (some ⟨bI, 0, none⟩) V.nI V.nI) := (G3.out.2 7 (by simp)).1
        have lyM : w.heap.size < w3.heap.size := M3.out.1
        have lyG : w.heap.size + 1 < w3.heap.size := G3.out.1
        have yw0 : w3.cell? ⟨gw, 0, none⟩ = some (.int .i64 (V.W k 0)) := (X3.out.2 0 (by simp)).1
        have yw1 : w3.cell? ⟨gw, 1, none⟩ = some (.int .i64 (V.W k 1)) := (X3.out.2 1 (by simp)).1
        have yw2 : w3.cell? ⟨gw, 2, none⟩ = some (.int .i64 (V.W k 2)) := (X3.out.2 2 (by simp)).1
        have yw3 : w3.cell? ⟨gw, 3, none⟩ = some (.int .i64 (V.W k 3)) := (X3.out.2 3 (by simp)).1
        have yw4 : w3.cell? ⟨gw, 4, none⟩ = some (.int .i64 (V.W k 4)) := (X3.out.2 4 (by simp)).1
        have lyW : gw < w3.heap.size := X3.out.1
        have kb : Below w3.heap.size w3 (w3.alloc (.cells #[.int .i64 V.c, .int .i64 ct, .int .i64 (V.W k 0), .int .i64 (V.W k 1), .int .i64 (V.W k 2), .int .i64 (V.W k 3), .int .i64 (V.W k 4)] 60)) := (Below.refl _ _).alloc (Nat.le_refl _) _
        have OW4 : Hid ((w3.alloc (.cells #[.int .i64 V.c, .int .i64 ct, .int .i64 (V.W k 0), .int .i64 (V.W k 1), .int .i64 (V.W k 2), .int .i64 (V.W k 3), .int .i64 (V.W k 4)] 60)).ownsRow (w.heap.size + 2) 60 7 (.slice a l cp) (outL c d V side k).length ((outL c d V side k).flatMap (gh V ct))) := own_keep OW3.out kb
        have HCg : Hid (∀ j u, (gh V ct k)[j]? = some u → (w3.alloc (.cells #[.int .i64 V.c, .int .i64 ct, .int .i64 (V.W k 0), .int .i64 (V.W k 1), .int .i64 (V.W k 2), .int .i64 (V.W k 3), .int .i64 (V.W k 4)] 60)).cell? ((⟨w3.heap.size, 0, none⟩ : Addr).add j) = some u) := cells_gh w3 V ct k
        have KB : Hid (Below w3.heap.size w3 (w3.alloc (.cells #[.int .i64 V.c, .int .i64 ct, .int .i64 (V.W k 0), .int .i64 (V.W k 1), .int .i64 (V.W k 2), .int .i64 (V.W k 3), .int .i64 (V.W k 4)] 60))) := kb
        clear kb
        have hlen := outL_len c d V side k
        go_wp2_with (at_builtin; refine wpList_append_own _ rfl _ _ 44 rfl (w.heap.size + 2) 60 i7 (.agg #[.int .i64 0, .int .i64 0, .int .i64 0, .int .i64 0, .int .i64 0, .int .i64 0, .int .i64 0]) 7 56 Try.underlying44 hi7 hz0 hz1 hz2 rfl (by decide) _ _ _ rfl OW4.out ⟨w3.heap.size, 0, none⟩ 1 1 (gh V ct k) rfl rfl HCg.out (one_gh V ct k) (by unfold maxLen; omega) (by omega) (by simp; omega) ?_)
        intro v5 w5 hown5 hg5 _
        obtain ⟨a5, l5, c5, ev5⟩ := own_shape hown5
        subst ev5
        have OW5 : Hid (w5.ownsRow (w.heap.size + 2) 60 7 (.slice a5 l5 c5) (outL c d V side (k + 1)).length ((outL c d V side (k + 1)).flatMap (gh V ct))) := by
          unfold Hid; rw [outL_yes hE, List.length_append, List.flatMap_append]; simpa using hown5
        have z5 : w3.heap.size < w5.heap.size := by have := hg5.size; simp at this; omega
        have BE5 : Hid (Below (w.heap.size + 2) w1 w5) := (BE3.out.trans (KB.out.mono (by omega))).grown hg5 (by simp; omega) (fun b e => (OW3.out.lt b e).1)
        clear hown5 hg5 OW4 HCg KB OW3 BE3 ym0 ym1 yg0 yg1 yg2 yg3 yg4 yg5 yg6 yg7 lyM lyG yw0 yw1 yw2 yw3 yw4 lyW
        go_wp2
        go_roundw
        case rel => exact ⟨k + 1, a5, l5, c5, by omega, by go_num, rfl, OW5.out, by omega, BE5.out⟩
        case measure => simp [intOf]; omega
    · have hkk : k = V.nW := by omega
      subst hkk
      go_wp2
      go_ret
      refine ⟨⟨_, rfl, ?_⟩, BW.out⟩
      rw [HV.out]
      have := OW.out
      rw [gof_rows] at this
      exact rl_mono (P7.rl_of_own this) (by omega)

end Go.Proofs.Ytdmfncopcmhcjaa
