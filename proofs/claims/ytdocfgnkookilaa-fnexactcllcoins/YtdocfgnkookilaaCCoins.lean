/- The walks of CllCoins, the program's and the model's; conditions: the cell lies in memory of its own. -/
import Derived.Test.YtdocfgnkookilaaLawOk
namespace Go.Proofs.Ytdocfgnkookilaa
open Go.RowKit Go.Deep
set_option linter.unusedVariables false

/-- The coins of the first k walkers, behind g. -/
def sumW (g : Int) (W : Nat → Nat → Int) : Nat → Int
  | 0 => g
  | k + 1 => sumW g W k + W k 2
/-- The coins of the first k parcels, behind g. -/
def sumP (g : Int) (Z : Nat → Nat → Int) : Nat → Int
  | 0 => g
  | k + 1 => sumP g Z k + (Z k 7 + Z k 4)
/-- The coins of the first k lists of parcels, behind g. -/
def sumO (g : Int) (N : Nat → Nat) (O : Nat → Nat → Nat → Int) : Nat → Int
  | 0 => g
  | k + 1 => sumP (sumO g N O k) (O k) (N k)
def wr64 (x : Int) : Int := IntKind.wrap .i64 x
theorem wr64_l (a b : Int) : wrap64 (wr64 a + b) = wr64 (a + b) := by
  unfold wr64
  rw [IntKind.wrap_i64, IntKind.wrap_i64]
  unfold wrap64
  omega
theorem wr64_r (a b : Int) : wrap64 (wr64 a + wrap64 b) = wr64 (a + b) := by
  unfold wr64
  rw [IntKind.wrap_i64, IntKind.wrap_i64]
  unfold wrap64
  omega
theorem wr64_2 (a b c : Int) : wrap64 (wrap64 (wr64 a + b) + c) = wr64 (a + (b + c)) := by
  unfold wr64
  rw [IntKind.wrap_i64, IntKind.wrap_i64]
  unfold wrap64
  omega
theorem coins_facts {c d : Int} {V : CV} (h : cllB c d V = true) : V.nO = 2 ∧ wr64 V.g = V.g := by
  simp only [cllB, Bool.and_eq_true, inB_true] at h
  obtain ⟨_, _, ⟨g0, g1⟩, h2, _⟩ := h
  refine ⟨by simpa using h2, ?_⟩
  unfold wr64
  rw [IntKind.wrap_i64]
  omega

set_option maxHeartbeats 4000000 in
theorem coins_impl (c d : Int) (v : Value) (V : CV) (lo : Nat) (hs0 : V.short 1048576) (w : World) (h : CopyAt lo w v V) :
    Calls Try.prog 28 #[.agg #[.int .i64 c, .int .i64 d], v] w fun e w' => e = .returned (.int .i64 (if cllB c d V = true then wr64 (sumO (sumW V.g V.W V.nW) V.N V.O 2) else 0)) ∧ Below w.heap.size w w' := by
  obtain ⟨bW, bO, bX, bI, q0, q1, q2, q3, q4, rfl, g1, g2, g3, g4⟩ := h
  obtain ⟨VC, nW, W, VG, nO, N, O, nX, X, nI, I⟩ := V
  simp only at g1 g2 g3 g4
  have CP : Hid (CopyAt lo w (.agg #[.int .i64 VC, .slice (some ⟨bW, 0, none⟩) nW nW, .int .i64 VG, .slice (some ⟨bO, 0, none⟩) nO nO, .slice (some ⟨bX, 0, none⟩) nX nX, .slice (some ⟨bI, 0, none⟩) nI nI]) ⟨VC, nW, W, VG, nO, N, O, nX, X, nI, I⟩) := ⟨bW, bO, bX, bI, q0, q1, q2, q3, q4, rfl, g1, g2, g3, g4⟩
  have gW : Hid (Own5 w bW nW W nW) := g1
  have gO : Hid (OwnO w bO nO N O nO) := g2
  have hs : Hid (CV.short ⟨VC, nW, W, VG, nO, N, O, nX, X, nI, I⟩ 1048576) := hs0
  have sW : nW ≤ 1048576 := hs0.1
  have lW : bW < w.heap.size := by omega
  have lO : bO < w.heap.size := by omega
  clear g1 g2 g3 g4 hs0 q0 q1 q2 q3 q4
  cases h1 : cllB c d ⟨VC, nW, W, VG, nO, N, O, nX, X, nI, I⟩
  · go_enter Try.func28, Try.ntmps28
    go_wp2_with fail
    obtain ⟨w0, e0⟩ : ∃ w0, w0 = ((w.alloc (.cells #[.int .i64 c, .int .i64 d] 32)).alloc (.cells #[.int .i64 VC, .slice (some ⟨bW, 0, none⟩) nW nW, .int .i64 VG, .slice (some ⟨bO, 0, none⟩) nO nO, .slice (some ⟨bX, 0, none⟩) nX nX, .slice (some ⟨bI, 0, none⟩) nI nI] 30)) := ⟨_, rfl⟩
    have z0 : w.heap.size + 2 ≤ w0.heap.size := by rw [e0]; simp
    have B0 : Hid (Below w.heap.size w w0) := by rw [e0]; exact ((Below.refl _ _).alloc (by simp) _).alloc (by simp) _
    have A0 : Hid (Six w0 (w.heap.size + 1) [.int .i64 VC, .slice (some ⟨bW, 0, none⟩) nW nW, .int .i64 VG, .slice (some ⟨bO, 0, none⟩) nO nO, .slice (some ⟨bX, 0, none⟩) nX nX, .slice (some ⟨bI, 0, none⟩) nI nI]) := by rw [e0]; exact six_box2 w #[.int .i64 c, .int .i64 d] 32 30 (.int .i64 VC) (.slice (some ⟨bW, 0, none⟩) nW nW) (.int .i64 VG) (.slice (some ⟨bO, 0, none⟩) nO nO) (.slice (some ⟨bX, 0, none⟩) nX nX) (.slice (some ⟨bI, 0, none⟩) nI nI)
    rw [← e0]
    clear e0
    refine (cllOk_impl c d _ ⟨VC, nW, W, VG, nO, N, O, nX, X, nI, I⟩ lo hs.out _ (CP.out.below B0.out)).mono ?_
    rintro e w1 ⟨rfl, hb1⟩
    rw [h1]
    have B1 : Hid (Below w.heap.size w w1) := bthen B0.out hb1
    have A1 : Hid (Six w1 (w.heap.size + 1) [.int .i64 VC, .slice (some ⟨bW, 0, none⟩) nW nW, .int .i64 VG, .slice (some ⟨bO, 0, none⟩) nO nO, .slice (some ⟨bX, 0, none⟩) nX nX, .slice (some ⟨bI, 0, none⟩) nI nI]) := A0.out.below (by omega) hb1
    have z1 : w.heap.size + 2 ≤ w1.heap.size := Nat.le_trans z0 hb1.size
    clear hb1 A0 B0
    have a0 : w1.cell? ⟨w.heap.size + 1, 0, none⟩ = some (.int .i64 VC) := (A1.out 0 (by decide)).1
    have a1 : w1.cell? ⟨w.heap.size + 1, 1, none⟩ = some (.slice (some ⟨bW, 0, none⟩) nW nW) := (A1.out 1 (by decide)).1
    have a2 : w1.cell? ⟨w.heap.size + 1, 2, none⟩ = some (.int .i64 VG) := (A1.out 2 (by decide)).1
    have a3 : w1.cell? ⟨w.heap.size + 1, 3, none⟩ = some (.slice (some ⟨bO, 0, none⟩) nO nO) := (A1.out 3 (by decide)).1
    have a4 : w1.cell? ⟨w.heap.size + 1, 4, none⟩ = some (.slice (some ⟨bX, 0, none⟩) nX nX) := (A1.out 4 (by decide)).1
    have a5 : w1.cell? ⟨w.heap.size + 1, 5, none⟩ = some (.slice (some ⟨bI, 0, none⟩) nI nI) := (A1.out 5 (by decide)).1
    have lA : w.heap.size + 1 < w1.heap.size := by omega
    go_wp2
    go_ret
    exact ⟨rfl, B1.out⟩
  obtain ⟨hO2, hG⟩ := coins_facts h1
  simp only at hO2 hG
  subst hO2
  have HG : Hid (wr64 VG = VG) := hG
  clear hG
  go_enter Try.func28, Try.ntmps28
  go_wp2_with fail
  obtain ⟨w0, e0⟩ : ∃ w0, w0 = ((w.alloc (.cells #[.int .i64 c, .int .i64 d] 32)).alloc (.cells #[.int .i64 VC, .slice (some ⟨bW, 0, none⟩) nW nW, .int .i64 VG, .slice (some ⟨bO, 0, none⟩) 2 2, .slice (some ⟨bX, 0, none⟩) nX nX, .slice (some ⟨bI, 0, none⟩) nI nI] 30)) := ⟨_, rfl⟩
  have z0 : w.heap.size + 2 ≤ w0.heap.size := by rw [e0]; simp
  have B0 : Hid (Below w.heap.size w w0) := by rw [e0]; exact ((Below.refl _ _).alloc (by simp) _).alloc (by simp) _
  have A0 : Hid (Six w0 (w.heap.size + 1) [.int .i64 VC, .slice (some ⟨bW, 0, none⟩) nW nW, .int .i64 VG, .slice (some ⟨bO, 0, none⟩) 2 2, .slice (some ⟨bX, 0, none⟩) nX nX, .slice (some ⟨bI, 0, none⟩) nI nI]) := by rw [e0]; exact six_box2 w #[.int .i64 c, .int .i64 d] 32 30 (.int .i64 VC) (.slice (some ⟨bW, 0, none⟩) nW nW) (.int .i64 VG) (.slice (some ⟨bO, 0, none⟩) 2 2) (.slice (some ⟨bX, 0, none⟩) nX nX) (.slice (some ⟨bI, 0, none⟩) nI nI)
  rw [← e0]
  clear e0
  refine (cllOk_impl c d _ ⟨VC, nW, W, VG, 2, N, O, nX, X, nI, I⟩ lo hs.out _ (CP.out.below B0.out)).mono ?_
  rintro e w1 ⟨rfl, hb1⟩
  rw [h1]
  have B1 : Hid (Below w.heap.size w w1) := bthen B0.out hb1
  have A1 : Hid (Six w1 (w.heap.size + 1) [.int .i64 VC, .slice (some ⟨bW, 0, none⟩) nW nW, .int .i64 VG, .slice (some ⟨bO, 0, none⟩) 2 2, .slice (some ⟨bX, 0, none⟩) nX nX, .slice (some ⟨bI, 0, none⟩) nI nI]) := A0.out.below (by omega) hb1
  have z1 : w.heap.size + 2 ≤ w1.heap.size := Nat.le_trans z0 hb1.size
  clear hb1 A0 B0
  have a0 : w1.cell? ⟨w.heap.size + 1, 0, none⟩ = some (.int .i64 VC) := (A1.out 0 (by decide)).1
  have a1 : w1.cell? ⟨w.heap.size + 1, 1, none⟩ = some (.slice (some ⟨bW, 0, none⟩) nW nW) := (A1.out 1 (by decide)).1
  have a2 : w1.cell? ⟨w.heap.size + 1, 2, none⟩ = some (.int .i64 VG) := (A1.out 2 (by decide)).1
  have a3 : w1.cell? ⟨w.heap.size + 1, 3, none⟩ = some (.slice (some ⟨bO, 0, none⟩) 2 2) := (A1.out 3 (by decide)).1
  have a4 : w1.cell? ⟨w.heap.size + 1, 4, none⟩ = some (.slice (some ⟨bX, 0, none⟩) nX nX) := (A1.out 4 (by decide)).1
  have a5 : w1.cell? ⟨w.heap.size + 1, 5, none⟩ = some (.slice (some ⟨bI, 0, none⟩) nI nI) := (A1.out 5 (by decide)).1
  have lA : w.heap.size + 1 < w1.heap.size := by omega
  go_wp2
  go_loopw [5, 21] (fun s i wr => ∃ k : Nat, k ≤ nW ∧ i = .int .i64 k ∧ s = .int .i64 (wr64 (sumW VG W k)) ∧ Below w1.heap.size w1 wr) (fun _ i _ => nW - (intOf i).toNat)
  case atStart => exact ⟨0, Nat.zero_le _, rfl, by rw [show sumW VG W 0 = VG from rfl, HG.out], Below.refl _ _⟩
  case round =>
    clear a0 a1 a2 a3 a4 a5 lA
    obtain ⟨k, hk, rfl, rfl, BR⟩ := hrel
    have hl3 := BR.size
    have a0 : wr.cell? ⟨w.heap.size + 1, 0, none⟩ = some (.int .i64 VC) := (BR.cell (p := ⟨w.heap.size + 1, 0, none⟩) (by show w.heap.size + 1 < _; omega)).trans (A1.out 0 (by decide)).1
    have a1 : wr.cell? ⟨w.heap.size + 1, 1, none⟩ = some (.slice (some ⟨bW, 0, none⟩) nW nW) := (BR.cell (p := ⟨w.heap.size + 1, 1, none⟩) (by show w.heap.size + 1 < _; omega)).trans (A1.out 1 (by decide)).1
    have a2 : wr.cell? ⟨w.heap.size + 1, 2, none⟩ = some (.int .i64 VG) := (BR.cell (p := ⟨w.heap.size + 1, 2, none⟩) (by show w.heap.size + 1 < _; omega)).trans (A1.out 2 (by decide)).1
    have a3 : wr.cell? ⟨w.heap.size + 1, 3, none⟩ = some (.slice (some ⟨bO, 0, none⟩) 2 2) := (BR.cell (p := ⟨w.heap.size + 1, 3, none⟩) (by show w.heap.size + 1 < _; omega)).trans (A1.out 3 (by decide)).1
    have a4 : wr.cell? ⟨w.heap.size + 1, 4, none⟩ = some (.slice (some ⟨bX, 0, none⟩) nX nX) := (BR.cell (p := ⟨w.heap.size + 1, 4, none⟩) (by show w.heap.size + 1 < _; omega)).trans (A1.out 4 (by decide)).1
    have a5 : wr.cell? ⟨w.heap.size + 1, 5, none⟩ = some (.slice (some ⟨bI, 0, none⟩) nI nI) := (BR.cell (p := ⟨w.heap.size + 1, 5, none⟩) (by show w.heap.size + 1 < _; omega)).trans (A1.out 5 (by decide)).1
    have lA : w.heap.size + 1 < wr.heap.size := by omega
    have lW2 : bW < wr.heap.size := by omega
    by_cases hkn : k < nW
    · have hkn' : (k : Int) < nW := by omega
      have c0 : wr.cell? ⟨bW, k * 5, none⟩ = some (.int .i64 (W k 0)) := by have := (BR.cell (p := ⟨bW, 0 + k * 5 + 0, none⟩) (by show bW < _; omega)).trans ((B1.out.cell (p := ⟨bW, 0 + k * 5 + 0, none⟩) lW).trans (own_row gW.out k 0 hkn (by omega))); simpa using this
      have c1 : wr.cell? ⟨bW, k * 5 + 1, none⟩ = some (.int .i64 (W k 1)) := by have := (BR.cell (p := ⟨bW, 0 + k * 5 + 1, none⟩) (by show bW < _; omega)).trans ((B1.out.cell (p := ⟨bW, 0 + k * 5 + 1, none⟩) lW).trans (own_row gW.out k 1 hkn (by omega))); simpa using this
      have c2 : wr.cell? ⟨bW, k * 5 + 2, none⟩ = some (.int .i64 (W k 2)) := by have := (BR.cell (p := ⟨bW, 0 + k * 5 + 2, none⟩) (by show bW < _; omega)).trans ((B1.out.cell (p := ⟨bW, 0 + k * 5 + 2, none⟩) lW).trans (own_row gW.out k 2 hkn (by omega))); simpa using this
      have c3 : wr.cell? ⟨bW, k * 5 + 3, none⟩ = some (.int .i64 (W k 3)) := by have := (BR.cell (p := ⟨bW, 0 + k * 5 + 3, none⟩) (by show bW < _; omega)).trans ((B1.out.cell (p := ⟨bW, 0 + k * 5 + 3, none⟩) lW).trans (own_row gW.out k 3 hkn (by omega))); simpa using this
      have c4 : wr.cell? ⟨bW, k * 5 + 4, none⟩ = some (.int .i64 (W k 4)) := by have := (BR.cell (p := ⟨bW, 0 + k * 5 + 4, none⟩) (by show bW < _; omega)).trans ((B1.out.cell (p := ⟨bW, 0 + k * 5 + 4, none⟩) lW).trans (own_row gW.out k 4 hkn (by omega))); simpa using this
      have hw := wr64_l (sumW VG W k) (W k 2)
      have BR1 : Below w1.heap.size w1 (wr.alloc (.cells #[.int .i64 (W k 0), .int .i64 (W k 1), .int .i64 (W k 2), .int .i64 (W k 3), .int .i64 (W k 4)] 63)) := BR.alloc (by omega) _
      clear BR
      go_wp2
      go_roundw
      case rel => exact ⟨k + 1, by omega, by go_num, by first | rfl | (rw [hw]; rfl) | exact congrArg (Value.int .i64) hw, BR1⟩
      case measure => simp [intOf]; omega
    · have hkk : k = nW := by omega
      subst hkk
      generalize wr = wA at *
      go_wp2
      go_loopw [5, 33] (fun s i wr => ∃ k2 : Nat, k2 ≤ 2 ∧ i = .int .i64 k2 ∧ s = .int .i64 (wr64 (sumO (sumW VG W k) N O k2)) ∧ Below wA.heap.size wA wr) (fun _ i _ => 2 - (intOf i).toNat)
      case atStart => exact ⟨0, Nat.zero_le _, rfl, rfl, Below.refl _ _⟩
      case round =>
        clear a0 a1 a2 a3 a4 a5 lA
        obtain ⟨k2, hk2, rfl, rfl, BS⟩ := hrel
        have hl4 := BS.size
        have BA : Below w1.heap.size w1 wr := bthen BR BS
        have a0 : wr.cell? ⟨w.heap.size + 1, 0, none⟩ = some (.int .i64 VC) := (BA.cell (p := ⟨w.heap.size + 1, 0, none⟩) (by show w.heap.size + 1 < _; omega)).trans (A1.out 0 (by decide)).1
        have a1 : wr.cell? ⟨w.heap.size + 1, 1, none⟩ = some (.slice (some ⟨bW, 0, none⟩) k k) := (BA.cell (p := ⟨w.heap.size + 1, 1, none⟩) (by show w.heap.size + 1 < _; omega)).trans (A1.out 1 (by decide)).1
        have a2 : wr.cell? ⟨w.heap.size + 1, 2, none⟩ = some (.int .i64 VG) := (BA.cell (p := ⟨w.heap.size + 1, 2, none⟩) (by show w.heap.size + 1 < _; omega)).trans (A1.out 2 (by decide)).1
        have a3 : wr.cell? ⟨w.heap.size + 1, 3, none⟩ = some (.slice (some ⟨bO, 0, none⟩) 2 2) := (BA.cell (p := ⟨w.heap.size + 1, 3, none⟩) (by show w.heap.size + 1 < _; omega)).trans (A1.out 3 (by decide)).1
        have a4 : wr.cell? ⟨w.heap.size + 1, 4, none⟩ = some (.slice (some ⟨bX, 0, none⟩) nX nX) := (BA.cell (p := ⟨w.heap.size + 1, 4, none⟩) (by show w.heap.size + 1 < _; omega)).trans (A1.out 4 (by decide)).1
        have a5 : wr.cell? ⟨w.heap.size + 1, 5, none⟩ = some (.slice (some ⟨bI, 0, none⟩) nI nI) := (BA.cell (p := ⟨w.heap.size + 1, 5, none⟩) (by show w.heap.size + 1 < _; omega)).trans (A1.out 5 (by decide)).1
        have lA : w.heap.size + 1 < wr.heap.size := by omega
        have lO2 : bO < wr.heap.size := by omega
        by_cases hk2n : k2 < 2
        · have hk2' : (k2 : Int) < 2 := by omega
          obtain ⟨_, xs, _, hxs⟩ := gO.out
          obtain ⟨_, x2, x3, x4⟩ := hxs k2 hk2n
          have X8 : Hid (P8.Own8 w (xs k2) (N k2) (O k2) (N k2)) := x4
          have hxo : wr.cell? ⟨bO, k2, none⟩ = some (.slice (some ⟨xs k2, 0, none⟩) (N k2) (N k2)) := (BA.cell (p := ⟨bO, k2, none⟩) (by show bO < _; omega)).trans ((B1.out.cell (p := ⟨bO, k2, none⟩) lO).trans x3)
          have hN : N k2 ≤ 1048576 := hs.out.2.2.1 k2 hk2n
          generalize xs k2 = g at *
          clear x3 x4 hxs
          go_wp2
          generalize wr = wB at *
          have HXO : Hid (wB.cell? ⟨bO, k2, none⟩ = some (.slice (some ⟨g, 0, none⟩) (N k2) (N k2))) := hxo
          go_loopw [5, 39] (fun s i wr => ∃ j : Nat, j ≤ N k2 ∧ i = .int .i64 j ∧ s = .int .i64 (wr64 (sumP (sumO (sumW VG W k) N O k2) (O k2) j)) ∧ Below wB.heap.size wB wr) (fun _ i _ => N k2 - (intOf i).toNat)
          case atStart => exact ⟨0, Nat.zero_le _, rfl, rfl, Below.refl _ _⟩
          case round =>
            clear a0 a1 a2 a3 a4 a5 lA
            clear hxo
            obtain ⟨j, hj, rfl, rfl, BT⟩ := hrel
            have hl5 := BT.size
            have BB : Below w1.heap.size w1 wr := bthen BA BT
            have a0 : wr.cell? ⟨w.heap.size + 1, 0, none⟩ = some (.int .i64 VC) := (BB.cell (p := ⟨w.heap.size + 1, 0, none⟩) (by show w.heap.size + 1 < _; omega)).trans (A1.out 0 (by decide)).1
            have a1 : wr.cell? ⟨w.heap.size + 1, 1, none⟩ = some (.slice (some ⟨bW, 0, none⟩) k k) := (BB.cell (p := ⟨w.heap.size + 1, 1, none⟩) (by show w.heap.size + 1 < _; omega)).trans (A1.out 1 (by decide)).1
            have a2 : wr.cell? ⟨w.heap.size + 1, 2, none⟩ = some (.int .i64 VG) := (BB.cell (p := ⟨w.heap.size + 1, 2, none⟩) (by show w.heap.size + 1 < _; omega)).trans (A1.out 2 (by decide)).1
            have a3 : wr.cell? ⟨w.heap.size + 1, 3, none⟩ = some (.slice (some ⟨bO, 0, none⟩) 2 2) := (BB.cell (p := ⟨w.heap.size + 1, 3, none⟩) (by show w.heap.size + 1 < _; omega)).trans (A1.out 3 (by decide)).1
            have a4 : wr.cell? ⟨w.heap.size + 1, 4, none⟩ = some (.slice (some ⟨bX, 0, none⟩) nX nX) := (BB.cell (p := ⟨w.heap.size + 1, 4, none⟩) (by show w.heap.size + 1 < _; omega)).trans (A1.out 4 (by decide)).1
            have a5 : wr.cell? ⟨w.heap.size + 1, 5, none⟩ = some (.slice (some ⟨bI, 0, none⟩) nI nI) := (BB.cell (p := ⟨w.heap.size + 1, 5, none⟩) (by show w.heap.size + 1 < _; omega)).trans (A1.out 5 (by decide)).1
            have lA : w.heap.size + 1 < wr.heap.size := by omega
            have hxo : wr.cell? ⟨bO, k2, none⟩ = some (.slice (some ⟨g, 0, none⟩) (N k2) (N k2)) := (BT.cell (p := ⟨bO, k2, none⟩) (by show bO < _; omega)).trans HXO.out
            have lO3 : bO < wr.heap.size := by omega
            have lg3 : g < wr.heap.size := by omega
            by_cases hjn : j < N k2
            · have hjn' : (j : Int) < N k2 := by omega
              have c0 : wr.cell? ⟨g, j * 8, none⟩ = some (.int .i64 (O k2 j 0)) := by have := (BB.cell (p := ⟨g, 0 + j * 8 + 0, none⟩) (by show g < _; omega)).trans ((B1.out.cell (p := ⟨g, 0 + j * 8 + 0, none⟩) x2).trans (P8.own_row X8.out j 0 hjn (by omega))); simpa using this
              have c1 : wr.cell? ⟨g, j * 8 + 1, none⟩ = some (.int .i64 (O k2 j 1)) := by have := (BB.cell (p := ⟨g, 0 + j * 8 + 1, none⟩) (by show g < _; omega)).trans ((B1.out.cell (p := ⟨g, 0 + j * 8 + 1, none⟩) x2).trans (P8.own_row X8.out j 1 hjn (by omega))); simpa using this
              have c2 : wr.cell? ⟨g, j * 8 + 2, none⟩ = some (.int .i64 (O k2 j 2)) := by have := (BB.cell (p := ⟨g, 0 + j * 8 + 2, none⟩) (by show g < _; omega)).trans ((B1.out.cell (p := ⟨g, 0 + j * 8 + 2, none⟩) x2).trans (P8.own_row X8.out j 2 hjn (by omega))); simpa using this
              have c3 : wr.cell? ⟨g, j * 8 + 3, none⟩ = some (.int .i64 (O k2 j 3)) := by have := (BB.cell (p := ⟨g, 0 + j * 8 + 3, none⟩) (by show g < _; omega)).trans ((B1.out.cell (p := ⟨g, 0 + j * 8 + 3, none⟩) x2).trans (P8.own_row X8.out j 3 hjn (by omega))); simpa using this
              have c4 : wr.cell? ⟨g, j * 8 + 4, none⟩ = some (.int .i64 (O k2 j 4)) := by have := (BB.cell (p := ⟨g, 0 + j * 8 + 4, none⟩) (by show g < _; omega)).trans ((B1.out.cell (p := ⟨g, 0 + j * 8 + 4, none⟩) x2).trans (P8.own_row X8.out j 4 hjn (by omega))); simpa using this
              have c5 : wr.cell? ⟨g, j * 8 + 5, none⟩ = some (.int .i64 (O k2 j 5)) := by have := (BB.cell (p := ⟨g, 0 + j * 8 + 5, none⟩) (by show g < _; omega)).trans ((B1.out.cell (p := ⟨g, 0 + j * 8 + 5, none⟩) x2).trans (P8.own_row X8.out j 5 hjn (by omega))); simpa using this
              have c6 : wr.cell? ⟨g, j * 8 + 6, none⟩ = some (.int .i64 (O k2 j 6)) := by have := (BB.cell (p := ⟨g, 0 + j * 8 + 6, none⟩) (by show g < _; omega)).trans ((B1.out.cell (p := ⟨g, 0 + j * 8 + 6, none⟩) x2).trans (P8.own_row X8.out j 6 hjn (by omega))); simpa using this
              have c7 : wr.cell? ⟨g, j * 8 + 7, none⟩ = some (.int .i64 (O k2 j 7)) := by have := (BB.cell (p := ⟨g, 0 + j * 8 + 7, none⟩) (by show g < _; omega)).trans ((B1.out.cell (p := ⟨g, 0 + j * 8 + 7, none⟩) x2).trans (P8.own_row X8.out j 7 hjn (by omega))); simpa using this
              have hw := wr64_r (sumP (sumO (sumW VG W k) N O k2) (O k2) j) (O k2 j 7 + O k2 j 4)
              have BT1 : Below wB.heap.size wB (wr.alloc (.cells #[.int .i64 (O k2 j 0), .int .i64 (O k2 j 1), .int .i64 (O k2 j 2), .int .i64 (O k2 j 3), .int .i64 (O k2 j 4), .int .i64 (O k2 j 5), .int .i64 (O k2 j 6), .int .i64 (O k2 j 7)] 87)) := BT.alloc (by omega) _
              clear BT BB
              go_wp2
              go_roundw
              case rel => exact ⟨j + 1, by omega, by go_num, by first | rfl | (rw [hw]; rfl) | exact congrArg (Value.int .i64) hw, BT1⟩
              case measure => simp [intOf]; omega
            · have hjj : j = N k2 := by omega
              go_wp2
              go_roundw
              case rel => exact ⟨k2 + 1, by omega, by go_num, by rw [hjj]; rfl, bthen BS BT⟩
              case measure => simp [intOf]; omega
        · have hkk2 : k2 = 2 := by omega
          subst hkk2
          go_wp2
          go_ret
          exact ⟨by first | rfl | simp, bthen B1.out BA⟩

set_option maxHeartbeats 4000000 in
theorem coins_spec (c d : Int) (v : Value) (V : CV) (lo : Nat) (hs0 : V.short 1048576) (w : World) (h : CopyAt lo w v V) :
    Calls Try.prog 27 #[.agg #[.int .i64 c, .int .i64 d], v] w fun e w' => e = .returned (.int .i64 (if cllB c d V = true then wr64 (sumO (sumW V.g V.W V.nW) V.N V.O 2) else 0)) ∧ Below w.heap.size w w' := by
  obtain ⟨bW, bO, bX, bI, q0, q1, q2, q3, q4, rfl, g1, g2, g3, g4⟩ := h
  obtain ⟨VC, nW, W, VG, nO, N, O, nX, X, nI, I⟩ := V
  simp only at g1 g2 g3 g4
  have CP : Hid (CopyAt lo w (.agg #[.int .i64 VC, .slice (some ⟨bW, 0, none⟩) nW nW, .int .i64 VG, .slice (some ⟨bO, 0, none⟩) nO nO, .slice (some ⟨bX, 0, none⟩) nX nX, .slice (some ⟨bI, 0, none⟩) nI nI]) ⟨VC, nW, W, VG, nO, N, O, nX, X, nI, I⟩) := ⟨bW, bO, bX, bI, q0, q1, q2, q3, q4, rfl, g1, g2, g3, g4⟩
  have gW : Hid (Own5 w bW nW W nW) := g1
  have gO : Hid (OwnO w bO nO N O nO) := g2
  have hs : Hid (CV.short ⟨VC, nW, W, VG, nO, N, O, nX, X, nI, I⟩ 1048576) := hs0
  have sW : nW ≤ 1048576 := hs0.1
  have lW : bW < w.heap.size := by omega
  have lO : bO < w.heap.size := by omega
  clear g1 g2 g3 g4 hs0 q0 q1 q2 q3 q4
  cases h1 : cllB c d ⟨VC, nW, W, VG, nO, N, O, nX, X, nI, I⟩
  · go_enter Try.func27, Try.ntmps27
    go_wp2_with fail
    obtain ⟨w0, e0⟩ : ∃ w0, w0 = ((w.alloc (.cells #[.int .i64 c, .int .i64 d] 32)).alloc (.cells #[.int .i64 VC, .slice (some ⟨bW, 0, none⟩) nW nW, .int .i64 VG, .slice (some ⟨bO, 0, none⟩) nO nO, .slice (some ⟨bX, 0, none⟩) nX nX, .slice (some ⟨bI, 0, none⟩) nI nI] 30)) := ⟨_, rfl⟩
    have z0 : w.heap.size + 2 ≤ w0.heap.size := by rw [e0]; simp
    have B0 : Hid (Below w.heap.size w w0) := by rw [e0]; exact ((Below.refl _ _).alloc (by simp) _).alloc (by simp) _
    have A0 : Hid (Six w0 (w.heap.size + 1) [.int .i64 VC, .slice (some ⟨bW, 0, none⟩) nW nW, .int .i64 VG, .slice (some ⟨bO, 0, none⟩) nO nO, .slice (some ⟨bX, 0, none⟩) nX nX, .slice (some ⟨bI, 0, none⟩) nI nI]) := by rw [e0]; exact six_box2 w #[.int .i64 c, .int .i64 d] 32 30 (.int .i64 VC) (.slice (some ⟨bW, 0, none⟩) nW nW) (.int .i64 VG) (.slice (some ⟨bO, 0, none⟩) nO nO) (.slice (some ⟨bX, 0, none⟩) nX nX) (.slice (some ⟨bI, 0, none⟩) nI nI)
    rw [← e0]
    clear e0
    refine (cllOk_spec c d _ ⟨VC, nW, W, VG, nO, N, O, nX, X, nI, I⟩ lo hs.out _ (CP.out.below B0.out)).mono ?_
    rintro e w1 ⟨rfl, hb1⟩
    rw [h1]
    have B1 : Hid (Below w.heap.size w w1) := bthen B0.out hb1
    have A1 : Hid (Six w1 (w.heap.size + 1) [.int .i64 VC, .slice (some ⟨bW, 0, none⟩) nW nW, .int .i64 VG, .slice (some ⟨bO, 0, none⟩) nO nO, .slice (some ⟨bX, 0, none⟩) nX nX, .slice (some ⟨bI, 0, none⟩) nI nI]) := A0.out.below (by omega) hb1
    have z1 : w.heap.size + 2 ≤ w1.heap.size := Nat.le_trans z0 hb1.size
    clear hb1 A0 B0
    have a0 : w1.cell? ⟨w.heap.size + 1, 0, none⟩ = some (.int .i64 VC) := (A1.out 0 (by decide)).1
    have a1 : w1.cell? ⟨w.heap.size + 1, 1, none⟩ = some (.slice (some ⟨bW, 0, none⟩) nW nW) := (A1.out 1 (by decide)).1
    have a2 : w1.cell? ⟨w.heap.size + 1, 2, none⟩ = some (.int .i64 VG) := (A1.out 2 (by decide)).1
    have a3 : w1.cell? ⟨w.heap.size + 1, 3, none⟩ = some (.slice (some ⟨bO, 0, none⟩) nO nO) := (A1.out 3 (by decide)).1
    have a4 : w1.cell? ⟨w.heap.size + 1, 4, none⟩ = some (.slice (some ⟨bX, 0, none⟩) nX nX) := (A1.out 4 (by decide)).1
    have a5 : w1.cell? ⟨w.heap.size + 1, 5, none⟩ = some (.slice (some ⟨bI, 0, none⟩) nI nI) := (A1.out 5 (by decide)).1
    have lA : w.heap.size + 1 < w1.heap.size := by omega
    go_wp2
    go_ret
    exact ⟨rfl, B1.out⟩
  obtain ⟨hO2, hG⟩ := coins_facts h1
  simp only at hO2 hG
  subst hO2
  have HG : Hid (wr64 VG = VG) := hG
  clear hG
  go_enter Try.func27, Try.ntmps27
  go_wp2_with fail
  obtain ⟨w0, e0⟩ : ∃ w0, w0 = ((w.alloc (.cells #[.int .i64 c, .int .i64 d] 32)).alloc (.cells #[.int .i64 VC, .slice (some ⟨bW, 0, none⟩) nW nW, .int .i64 VG, .slice (some ⟨bO, 0, none⟩) 2 2, .slice (some ⟨bX, 0, none⟩) nX nX, .slice (some ⟨bI, 0, none⟩) nI nI] 30)) := ⟨_, rfl⟩
  have z0 : w.heap.size + 2 ≤ w0.heap.size := by rw [e0]; simp
  have B0 : Hid (Below w.heap.size w w0) := by rw [e0]; exact ((Below.refl _ _).alloc (by simp) _).alloc (by simp) _
  have A0 : Hid (Six w0 (w.heap.size + 1) [.int .i64 VC, .slice (some ⟨bW, 0, none⟩) nW nW, .int .i64 VG, .slice (some ⟨bO, 0, none⟩) 2 2, .slice (some ⟨bX, 0, none⟩) nX nX, .slice (some ⟨bI, 0, none⟩) nI nI]) := by rw [e0]; exact six_box2 w #[.int .i64 c, .int .i64 d] 32 30 (.int .i64 VC) (.slice (some ⟨bW, 0, none⟩) nW nW) (.int .i64 VG) (.slice (some ⟨bO, 0, none⟩) 2 2) (.slice (some ⟨bX, 0, none⟩) nX nX) (.slice (some ⟨bI, 0, none⟩) nI nI)
  rw [← e0]
  clear e0
  refine (cllOk_spec c d _ ⟨VC, nW, W, VG, 2, N, O, nX, X, nI, I⟩ lo hs.out _ (CP.out.below B0.out)).mono ?_
  rintro e w1 ⟨rfl, hb1⟩
  rw [h1]
  have B1 : Hid (Below w.heap.size w w1) := bthen B0.out hb1
  have A1 : Hid (Six w1 (w.heap.size + 1) [.int .i64 VC, .slice (some ⟨bW, 0, none⟩) nW nW, .int .i64 VG, .slice (some ⟨bO, 0, none⟩) 2 2, .slice (some ⟨bX, 0, none⟩) nX nX, .slice (some ⟨bI, 0, none⟩) nI nI]) := A0.out.below (by omega) hb1
  have z1 : w.heap.size + 2 ≤ w1.heap.size := Nat.le_trans z0 hb1.size
  clear hb1 A0 B0
  have a0 : w1.cell? ⟨w.heap.size + 1, 0, none⟩ = some (.int .i64 VC) := (A1.out 0 (by decide)).1
  have a1 : w1.cell? ⟨w.heap.size + 1, 1, none⟩ = some (.slice (some ⟨bW, 0, none⟩) nW nW) := (A1.out 1 (by decide)).1
  have a2 : w1.cell? ⟨w.heap.size + 1, 2, none⟩ = some (.int .i64 VG) := (A1.out 2 (by decide)).1
  have a3 : w1.cell? ⟨w.heap.size + 1, 3, none⟩ = some (.slice (some ⟨bO, 0, none⟩) 2 2) := (A1.out 3 (by decide)).1
  have a4 : w1.cell? ⟨w.heap.size + 1, 4, none⟩ = some (.slice (some ⟨bX, 0, none⟩) nX nX) := (A1.out 4 (by decide)).1
  have a5 : w1.cell? ⟨w.heap.size + 1, 5, none⟩ = some (.slice (some ⟨bI, 0, none⟩) nI nI) := (A1.out 5 (by decide)).1
  have lA : w.heap.size + 1 < w1.heap.size := by omega
  go_wp2
  go_loopw [5, 6] (fun s i wr => ∃ k : Nat, k ≤ nW ∧ i = .int .i64 k ∧ s = .int .i64 (wr64 (sumW VG W k)) ∧ Below w1.heap.size w1 wr) (fun _ i _ => nW - (intOf i).toNat)
  case atStart => exact ⟨0, Nat.zero_le _, rfl, by rw [show sumW VG W 0 = VG from rfl, HG.out], Below.refl _ _⟩
  case round =>
    clear a0 a1 a2 a3 a4 a5 lA
    obtain ⟨k, hk, rfl, rfl, BR⟩ := hrel
    have hl3 := BR.size
    have a0 : wr.cell? ⟨w.heap.size + 1, 0, none⟩ = some (.int .i64 VC) := (BR.cell (p := ⟨w.heap.size + 1, 0, none⟩) (by show w.heap.size + 1 < _; omega)).trans (A1.out 0 (by decide)).1
    have a1 : wr.cell? ⟨w.heap.size + 1, 1, none⟩ = some (.slice (some ⟨bW, 0, none⟩) nW nW) := (BR.cell (p := ⟨w.heap.size + 1, 1, none⟩) (by show w.heap.size + 1 < _; omega)).trans (A1.out 1 (by decide)).1
    have a2 : wr.cell? ⟨w.heap.size + 1, 2, none⟩ = some (.int .i64 VG) := (BR.cell (p := ⟨w.heap.size + 1, 2, none⟩) (by show w.heap.size + 1 < _; omega)).trans (A1.out 2 (by decide)).1
    have a3 : wr.cell? ⟨w.heap.size + 1, 3, none⟩ = some (.slice (some ⟨bO, 0, none⟩) 2 2) := (BR.cell (p := ⟨w.heap.size + 1, 3, none⟩) (by show w.heap.size + 1 < _; omega)).trans (A1.out 3 (by decide)).1
    have a4 : wr.cell? ⟨w.heap.size + 1, 4, none⟩ = some (.slice (some ⟨bX, 0, none⟩) nX nX) := (BR.cell (p := ⟨w.heap.size + 1, 4, none⟩) (by show w.heap.size + 1 < _; omega)).trans (A1.out 4 (by decide)).1
    have a5 : wr.cell? ⟨w.heap.size + 1, 5, none⟩ = some (.slice (some ⟨bI, 0, none⟩) nI nI) := (BR.cell (p := ⟨w.heap.size + 1, 5, none⟩) (by show w.heap.size + 1 < _; omega)).trans (A1.out 5 (by decide)).1
    have lA : w.heap.size + 1 < wr.heap.size := by omega
    have lW2 : bW < wr.heap.size := by omega
    by_cases hkn : k < nW
    · have hkn' : (k : Int) < nW := by omega
      have c0 : wr.cell? ⟨bW, k * 5, none⟩ = some (.int .i64 (W k 0)) := by have := (BR.cell (p := ⟨bW, 0 + k * 5 + 0, none⟩) (by show bW < _; omega)).trans ((B1.out.cell (p := ⟨bW, 0 + k * 5 + 0, none⟩) lW).trans (own_row gW.out k 0 hkn (by omega))); simpa using this
      have c1 : wr.cell? ⟨bW, k * 5 + 1, none⟩ = some (.int .i64 (W k 1)) := by have := (BR.cell (p := ⟨bW, 0 + k * 5 + 1, none⟩) (by show bW < _; omega)).trans ((B1.out.cell (p := ⟨bW, 0 + k * 5 + 1, none⟩) lW).trans (own_row gW.out k 1 hkn (by omega))); simpa using this
      have c2 : wr.cell? ⟨bW, k * 5 + 2, none⟩ = some (.int .i64 (W k 2)) := by have := (BR.cell (p := ⟨bW, 0 + k * 5 + 2, none⟩) (by show bW < _; omega)).trans ((B1.out.cell (p := ⟨bW, 0 + k * 5 + 2, none⟩) lW).trans (own_row gW.out k 2 hkn (by omega))); simpa using this
      have c3 : wr.cell? ⟨bW, k * 5 + 3, none⟩ = some (.int .i64 (W k 3)) := by have := (BR.cell (p := ⟨bW, 0 + k * 5 + 3, none⟩) (by show bW < _; omega)).trans ((B1.out.cell (p := ⟨bW, 0 + k * 5 + 3, none⟩) lW).trans (own_row gW.out k 3 hkn (by omega))); simpa using this
      have c4 : wr.cell? ⟨bW, k * 5 + 4, none⟩ = some (.int .i64 (W k 4)) := by have := (BR.cell (p := ⟨bW, 0 + k * 5 + 4, none⟩) (by show bW < _; omega)).trans ((B1.out.cell (p := ⟨bW, 0 + k * 5 + 4, none⟩) lW).trans (own_row gW.out k 4 hkn (by omega))); simpa using this
      have hw := wr64_l (sumW VG W k) (W k 2)
      have BR1 : Below w1.heap.size w1 (wr) := BR
      clear BR
      go_wp2
      go_roundw
      case rel => exact ⟨k + 1, by omega, by go_num, by first | rfl | (rw [hw]; rfl) | exact congrArg (Value.int .i64) hw, BR1⟩
      case measure => simp [intOf]; omega
    · have hkk : k = nW := by omega
      subst hkk
      generalize wr = wA at *
      go_wp2
      go_loopw [5, 7] (fun s i wr => ∃ k2 : Nat, k2 ≤ 2 ∧ i = .int .i64 k2 ∧ s = .int .i64 (wr64 (sumO (sumW VG W k) N O k2)) ∧ Below wA.heap.size wA wr) (fun _ i _ => 2 - (intOf i).toNat)
      case atStart => exact ⟨0, Nat.zero_le _, rfl, rfl, Below.refl _ _⟩
      case round =>
        clear a0 a1 a2 a3 a4 a5 lA
        obtain ⟨k2, hk2, rfl, rfl, BS⟩ := hrel
        have hl4 := BS.size
        have BA : Below w1.heap.size w1 wr := bthen BR BS
        have a0 : wr.cell? ⟨w.heap.size + 1, 0, none⟩ = some (.int .i64 VC) := (BA.cell (p := ⟨w.heap.size + 1, 0, none⟩) (by show w.heap.size + 1 < _; omega)).trans (A1.out 0 (by decide)).1
        have a1 : wr.cell? ⟨w.heap.size + 1, 1, none⟩ = some (.slice (some ⟨bW, 0, none⟩) k k) := (BA.cell (p := ⟨w.heap.size + 1, 1, none⟩) (by show w.heap.size + 1 < _; omega)).trans (A1.out 1 (by decide)).1
        have a2 : wr.cell? ⟨w.heap.size + 1, 2, none⟩ = some (.int .i64 VG) := (BA.cell (p := ⟨w.heap.size + 1, 2, none⟩) (by show w.heap.size + 1 < _; omega)).trans (A1.out 2 (by decide)).1
        have a3 : wr.cell? ⟨w.heap.size + 1, 3, none⟩ = some (.slice (some ⟨bO, 0, none⟩) 2 2) := (BA.cell (p := ⟨w.heap.size + 1, 3, none⟩) (by show w.heap.size + 1 < _; omega)).trans (A1.out 3 (by decide)).1
        have a4 : wr.cell? ⟨w.heap.size + 1, 4, none⟩ = some (.slice (some ⟨bX, 0, none⟩) nX nX) := (BA.cell (p := ⟨w.heap.size + 1, 4, none⟩) (by show w.heap.size + 1 < _; omega)).trans (A1.out 4 (by decide)).1
        have a5 : wr.cell? ⟨w.heap.size + 1, 5, none⟩ = some (.slice (some ⟨bI, 0, none⟩) nI nI) := (BA.cell (p := ⟨w.heap.size + 1, 5, none⟩) (by show w.heap.size + 1 < _; omega)).trans (A1.out 5 (by decide)).1
        have lA : w.heap.size + 1 < wr.heap.size := by omega
        have lO2 : bO < wr.heap.size := by omega
        by_cases hk2n : k2 < 2
        · have hk2' : (k2 : Int) < 2 := by omega
          obtain ⟨_, xs, _, hxs⟩ := gO.out
          obtain ⟨_, x2, x3, x4⟩ := hxs k2 hk2n
          have X8 : Hid (P8.Own8 w (xs k2) (N k2) (O k2) (N k2)) := x4
          have hxo : wr.cell? ⟨bO, k2, none⟩ = some (.slice (some ⟨xs k2, 0, none⟩) (N k2) (N k2)) := (BA.cell (p := ⟨bO, k2, none⟩) (by show bO < _; omega)).trans ((B1.out.cell (p := ⟨bO, k2, none⟩) lO).trans x3)
          have hN : N k2 ≤ 1048576 := hs.out.2.2.1 k2 hk2n
          generalize xs k2 = g at *
          clear x3 x4 hxs
          go_wp2
          generalize wr = wB at *
          have HXO : Hid (wB.cell? ⟨bO, k2, none⟩ = some (.slice (some ⟨g, 0, none⟩) (N k2) (N k2))) := hxo
          go_loopw [5, 8] (fun s i wr => ∃ j : Nat, j ≤ N k2 ∧ i = .int .i64 j ∧ s = .int .i64 (wr64 (sumP (sumO (sumW VG W k) N O k2) (O k2) j)) ∧ Below wB.heap.size wB wr) (fun _ i _ => N k2 - (intOf i).toNat)
          case atStart => exact ⟨0, Nat.zero_le _, rfl, rfl, Below.refl _ _⟩
          case round =>
            clear a0 a1 a2 a3 a4 a5 lA
            clear hxo
            obtain ⟨j, hj, rfl, rfl, BT⟩ := hrel
            have hl5 := BT.size
            have BB : Below w1.heap.size w1 wr := bthen BA BT
            have a0 : wr.cell? ⟨w.heap.size + 1, 0, none⟩ = some (.int .i64 VC) := (BB.cell (p := ⟨w.heap.size + 1, 0, none⟩) (by show w.heap.size + 1 < _; omega)).trans (A1.out 0 (by decide)).1
            have a1 : wr.cell? ⟨w.heap.size + 1, 1, none⟩ = some (.slice (some ⟨bW, 0, none⟩) k k) := (BB.cell (p := ⟨w.heap.size + 1, 1, none⟩) (by show w.heap.size + 1 < _; omega)).trans (A1.out 1 (by decide)).1
            have a2 : wr.cell? ⟨w.heap.size + 1, 2, none⟩ = some (.int .i64 VG) := (BB.cell (p := ⟨w.heap.size + 1, 2, none⟩) (by show w.heap.size + 1 < _; omega)).trans (A1.out 2 (by decide)).1
            have a3 : wr.cell? ⟨w.heap.size + 1, 3, none⟩ = some (.slice (some ⟨bO, 0, none⟩) 2 2) := (BB.cell (p := ⟨w.heap.size + 1, 3, none⟩) (by show w.heap.size + 1 < _; omega)).trans (A1.out 3 (by decide)).1
            have a4 : wr.cell? ⟨w.heap.size + 1, 4, none⟩ = some (.slice (some ⟨bX, 0, none⟩) nX nX) := (BB.cell (p := ⟨w.heap.size + 1, 4, none⟩) (by show w.heap.size + 1 < _; omega)).trans (A1.out 4 (by decide)).1
            have a5 : wr.cell? ⟨w.heap.size + 1, 5, none⟩ = some (.slice (some ⟨bI, 0, none⟩) nI nI) := (BB.cell (p := ⟨w.heap.size + 1, 5, none⟩) (by show w.heap.size + 1 < _; omega)).trans (A1.out 5 (by decide)).1
            have lA : w.heap.size + 1 < wr.heap.size := by omega
            have hxo : wr.cell? ⟨bO, k2, none⟩ = some (.slice (some ⟨g, 0, none⟩) (N k2) (N k2)) := (BT.cell (p := ⟨bO, k2, none⟩) (by show bO < _; omega)).trans HXO.out
            have lO3 : bO < wr.heap.size := by omega
            have lg3 : g < wr.heap.size := by omega
            by_cases hjn : j < N k2
            · have hjn' : (j : Int) < N k2 := by omega
              have c0 : wr.cell? ⟨g, j * 8, none⟩ = some (.int .i64 (O k2 j 0)) := by have := (BB.cell (p := ⟨g, 0 + j * 8 + 0, none⟩) (by show g < _; omega)).trans ((B1.out.cell (p := ⟨g, 0 + j * 8 + 0, none⟩) x2).trans (P8.own_row X8.out j 0 hjn (by omega))); simpa using this
              have c1 : wr.cell? ⟨g, j * 8 + 1, none⟩ = some (.int .i64 (O k2 j 1)) := by have := (BB.cell (p := ⟨g, 0 + j * 8 + 1, none⟩) (by show g < _; omega)).trans ((B1.out.cell (p := ⟨g, 0 + j * 8 + 1, none⟩) x2).trans (P8.own_row X8.out j 1 hjn (by omega))); simpa using this
              have c2 : wr.cell? ⟨g, j * 8 + 2, none⟩ = some (.int .i64 (O k2 j 2)) := by have := (BB.cell (p := ⟨g, 0 + j * 8 + 2, none⟩) (by show g < _; omega)).trans ((B1.out.cell (p := ⟨g, 0 + j * 8 + 2, none⟩) x2).trans (P8.own_row X8.out j 2 hjn (by omega))); simpa using this
              have c3 : wr.cell? ⟨g, j * 8 + 3, none⟩ = some (.int .i64 (O k2 j 3)) := by have := (BB.cell (p := ⟨g, 0 + j * 8 + 3, none⟩) (by show g < _; omega)).trans ((B1.out.cell (p := ⟨g, 0 + j * 8 + 3, none⟩) x2).trans (P8.own_row X8.out j 3 hjn (by omega))); simpa using this
              have c4 : wr.cell? ⟨g, j * 8 + 4, none⟩ = some (.int .i64 (O k2 j 4)) := by have := (BB.cell (p := ⟨g, 0 + j * 8 + 4, none⟩) (by show g < _; omega)).trans ((B1.out.cell (p := ⟨g, 0 + j * 8 + 4, none⟩) x2).trans (P8.own_row X8.out j 4 hjn (by omega))); simpa using this
              have c5 : wr.cell? ⟨g, j * 8 + 5, none⟩ = some (.int .i64 (O k2 j 5)) := by have := (BB.cell (p := ⟨g, 0 + j * 8 + 5, none⟩) (by show g < _; omega)).trans ((B1.out.cell (p := ⟨g, 0 + j * 8 + 5, none⟩) x2).trans (P8.own_row X8.out j 5 hjn (by omega))); simpa using this
              have c6 : wr.cell? ⟨g, j * 8 + 6, none⟩ = some (.int .i64 (O k2 j 6)) := by have := (BB.cell (p := ⟨g, 0 + j * 8 + 6, none⟩) (by show g < _; omega)).trans ((B1.out.cell (p := ⟨g, 0 + j * 8 + 6, none⟩) x2).trans (P8.own_row X8.out j 6 hjn (by omega))); simpa using this
              have c7 : wr.cell? ⟨g, j * 8 + 7, none⟩ = some (.int .i64 (O k2 j 7)) := by have := (BB.cell (p := ⟨g, 0 + j * 8 + 7, none⟩) (by show g < _; omega)).trans ((B1.out.cell (p := ⟨g, 0 + j * 8 + 7, none⟩) x2).trans (P8.own_row X8.out j 7 hjn (by omega))); simpa using this
              have hw := wr64_2 (sumP (sumO (sumW VG W k) N O k2) (O k2) j) (O k2 j 7) (O k2 j 4)
              have BT1 : Below wB.heap.size wB (wr.drew) := BT.drew
              clear BT BB
              go_wp2
              go_region
              go_wp2
              go_roundw
              case rel => exact ⟨j + 1, by omega, by go_num, by first | rfl | (rw [hw]; rfl) | exact congrArg (Value.int .i64) hw, BT1⟩
              case measure => simp [intOf]; omega
            · have hjj : j = N k2 := by omega
              go_wp2
              go_roundw
              case rel => exact ⟨k2 + 1, by omega, by go_num, by rw [hjj]; rfl, bthen BS BT⟩
              case measure => simp [intOf]; omega
        · have hkk2 : k2 = 2 := by omega
          subst hkk2
          go_wp2
          go_ret
          exact ⟨by first | rfl | simp, bthen B1.out BA⟩
end Go.Proofs.Ytdocfgnkookilaa
