/- SrvOk of the program; conditions: the holds and ghosts lie in memory. -/
import Derived.Test.YtlbjgecjonegkaaHL4
namespace Go.Proofs.Ytlbjgecjonegkaa
open Go.RowKit Go.Deep
set_option linter.unusedVariables false

set_option maxRecDepth 100000 in
set_option maxHeartbeats 4000000 in
theorem impl0 (c d : Int) (up : Bool) (B n : Nat) (F : Nat → HV) (aG : Option Addr) (g cG : Nat) (Z : Nat → Nat → Int) (hn : n ≤ 1048576) (hg : g ≤ 1048576) (hS : ∀ k, k < n → (F k).V.short 1048576) (w : World) (hB : B < w.heap.size) (h : HOwn w B n F n) (hG : P7.RowK w aG g Z) (h0 : okB c d = false) :
    Calls Try.prog 9 #[.agg #[.int .i64 c, .int .i64 d], .agg #[.bool up, .slice (some ⟨B, 0, none⟩) n n, .slice aG g cG]] w fun e w' => e = .returned (.bool (false)) ∧ Below w.heap.size w w' := by
  have HO : Hid (HOwn w B n F n) := h
  have HG : Hid (P7.RowK w aG g Z) := hG
  have HS : Hid (∀ k, k < n → (F k).V.short 1048576) := hS
  clear h hG hS
  go_enter Try.func9, Try.ntmps9
  go_wp2_with fail
  obtain ⟨w0, e0⟩ : ∃ w0, w0 = (w.alloc (.cells #[.int .i64 c, .int .i64 d] 30)).alloc (.cells #[.bool up, .slice (some ⟨B, 0, none⟩) n n, .slice aG g cG] 35) := ⟨_, rfl⟩
  have B1 : Hid (Below w.heap.size w w0) := by rw [e0]; exact ((Below.refl _ _).alloc (by simp) _).alloc (by simp) _
  have M2 : Hid (Bk w0 w.heap.size [.int .i64 c, .int .i64 d]) := by rw [e0]; exact (bk_new w 30 [.int .i64 c, .int .i64 d]).below ((Below.refl _ _).alloc (Nat.le_refl _) _)
  have V3 : Hid (Bk w0 (w.heap.size + 1) [.bool up, .slice (some ⟨B, 0, none⟩) n n, .slice aG g cG]) := by rw [e0]; have := bk_new (w.alloc (.cells #[.int .i64 c, .int .i64 d] 30)) 35 [.bool up, .slice (some ⟨B, 0, none⟩) n n, .slice aG g cG]; rwa [show (w.alloc (.cells #[.int .i64 c, .int .i64 d] 30)).heap.size = w.heap.size + 1 by simp] at this
  rw [← e0]
  clear e0
  refine (ok_impl _ _ _).mono ?_
  rintro e w1 ⟨rfl, hb1⟩
  have B4 : Hid (Below w.heap.size w w1) := bthen B1.out hb1
  have M4 : Hid (Bk w1 w.heap.size [.int .i64 c, .int .i64 d]) := M2.out.below hb1
  have V4 : Hid (Bk w1 (w.heap.size + 1) [.bool up, .slice (some ⟨B, 0, none⟩) n n, .slice aG g cG]) := V3.out.below hb1
  clear B1 M2 V3
  clear hb1
  rw [h0]
  have yM0 : w1.cell? ⟨w.heap.size, 0, none⟩ = some (.int .i64 c) := (M4.out.2 0 (by simp)).1
  have yM1 : w1.cell? ⟨w.heap.size, 1, none⟩ = some (.int .i64 d) := (M4.out.2 1 (by simp)).1
  have hlM : w.heap.size < w1.heap.size := M4.out.1
  have yV0 : w1.cell? ⟨(w.heap.size + 1), 0, none⟩ = some (.bool up) := (V4.out.2 0 (by simp)).1
  have yV1 : w1.cell? ⟨(w.heap.size + 1), 1, none⟩ = some (.slice (some ⟨B, 0, none⟩) n n) := (V4.out.2 1 (by simp)).1
  have yV2 : w1.cell? ⟨(w.heap.size + 1), 2, none⟩ = some (.slice aG g cG) := (V4.out.2 2 (by simp)).1
  have hlV : (w.heap.size + 1) < w1.heap.size := V4.out.1
  go_wp2
  go_ret
  exact ⟨rfl, B4.out⟩

set_option maxRecDepth 100000 in
set_option maxHeartbeats 4000000 in
theorem impl1 (c d : Int) (up : Bool) (B n : Nat) (F : Nat → HV) (aG : Option Addr) (g cG : Nat) (Z : Nat → Nat → Int) (hn : n ≤ 1048576) (hg : g ≤ 1048576) (hS : ∀ k, k < n → (F k).V.short 1048576) (w : World) (hB : B < w.heap.size) (h : HOwn w B n F n) (hG : P7.RowK w aG g Z) (h0 : okB c d = true) (h1 : ghostsB c d g Z = false) :
    Calls Try.prog 9 #[.agg #[.int .i64 c, .int .i64 d], .agg #[.bool up, .slice (some ⟨B, 0, none⟩) n n, .slice aG g cG]] w fun e w' => e = .returned (.bool (false)) ∧ Below w.heap.size w w' := by
  have HO : Hid (HOwn w B n F n) := h
  have HG : Hid (P7.RowK w aG g Z) := hG
  have HS : Hid (∀ k, k < n → (F k).V.short 1048576) := hS
  clear h hG hS
  go_enter Try.func9, Try.ntmps9
  go_wp2_with fail
  obtain ⟨w0, e0⟩ : ∃ w0, w0 = (w.alloc (.cells #[.int .i64 c, .int .i64 d] 30)).alloc (.cells #[.bool up, .slice (some ⟨B, 0, none⟩) n n, .slice aG g cG] 35) := ⟨_, rfl⟩
  have B1 : Hid (Below w.heap.size w w0) := by rw [e0]; exact ((Below.refl _ _).alloc (by simp) _).alloc (by simp) _
  have M2 : Hid (Bk w0 w.heap.size [.int .i64 c, .int .i64 d]) := by rw [e0]; exact (bk_new w 30 [.int .i64 c, .int .i64 d]).below ((Below.refl _ _).alloc (Nat.le_refl _) _)
  have V3 : Hid (Bk w0 (w.heap.size + 1) [.bool up, .slice (some ⟨B, 0, none⟩) n n, .slice aG g cG]) := by rw [e0]; have := bk_new (w.alloc (.cells #[.int .i64 c, .int .i64 d] 30)) 35 [.bool up, .slice (some ⟨B, 0, none⟩) n n, .slice aG g cG]; rwa [show (w.alloc (.cells #[.int .i64 c, .int .i64 d] 30)).heap.size = w.heap.size + 1 by simp] at this
  rw [← e0]
  clear e0
  refine (ok_impl _ _ _).mono ?_
  rintro e w1 ⟨rfl, hb1⟩
  have B4 : Hid (Below w.heap.size w w1) := bthen B1.out hb1
  have M4 : Hid (Bk w1 w.heap.size [.int .i64 c, .int .i64 d]) := M2.out.below hb1
  have V4 : Hid (Bk w1 (w.heap.size + 1) [.bool up, .slice (some ⟨B, 0, none⟩) n n, .slice aG g cG]) := V3.out.below hb1
  clear B1 M2 V3
  clear hb1
  rw [h0]
  have yM0 : w1.cell? ⟨w.heap.size, 0, none⟩ = some (.int .i64 c) := (M4.out.2 0 (by simp)).1
  have yM1 : w1.cell? ⟨w.heap.size, 1, none⟩ = some (.int .i64 d) := (M4.out.2 1 (by simp)).1
  have hlM : w.heap.size < w1.heap.size := M4.out.1
  have yV0 : w1.cell? ⟨(w.heap.size + 1), 0, none⟩ = some (.bool up) := (V4.out.2 0 (by simp)).1
  have yV1 : w1.cell? ⟨(w.heap.size + 1), 1, none⟩ = some (.slice (some ⟨B, 0, none⟩) n n) := (V4.out.2 1 (by simp)).1
  have yV2 : w1.cell? ⟨(w.heap.size + 1), 2, none⟩ = some (.slice aG g cG) := (V4.out.2 2 (by simp)).1
  have hlV : (w.heap.size + 1) < w1.heap.size := V4.out.1
  go_wp2_with fail
  refine (ghosts_impl c d aG g cG Z (by omega) _ (P7.row_below HG.out B4.out)).mono ?_
  rintro e w2 ⟨rfl, hb2⟩
  clear yM0 yM1 hlM yV0 yV1 yV2 hlV
  have B5 : Hid (Below w.heap.size w w2) := bthen B4.out hb2
  have M5 : Hid (Bk w2 w.heap.size [.int .i64 c, .int .i64 d]) := M4.out.below hb2
  have V5 : Hid (Bk w2 (w.heap.size + 1) [.bool up, .slice (some ⟨B, 0, none⟩) n n, .slice aG g cG]) := V4.out.below hb2
  clear B4 M4 V4
  clear hb2
  rw [h1]
  have yM0 : w2.cell? ⟨w.heap.size, 0, none⟩ = some (.int .i64 c) := (M5.out.2 0 (by simp)).1
  have yM1 : w2.cell? ⟨w.heap.size, 1, none⟩ = some (.int .i64 d) := (M5.out.2 1 (by simp)).1
  have hlM : w.heap.size < w2.heap.size := M5.out.1
  have yV0 : w2.cell? ⟨(w.heap.size + 1), 0, none⟩ = some (.bool up) := (V5.out.2 0 (by simp)).1
  have yV1 : w2.cell? ⟨(w.heap.size + 1), 1, none⟩ = some (.slice (some ⟨B, 0, none⟩) n n) := (V5.out.2 1 (by simp)).1
  have yV2 : w2.cell? ⟨(w.heap.size + 1), 2, none⟩ = some (.slice aG g cG) := (V5.out.2 2 (by simp)).1
  have hlV : (w.heap.size + 1) < w2.heap.size := V5.out.1
  go_wp2
  go_ret
  exact ⟨rfl, B5.out⟩

set_option maxRecDepth 100000 in
set_option maxHeartbeats 4000000 in
theorem implT (c d : Int) (up : Bool) (B n : Nat) (F : Nat → HV) (aG : Option Addr) (g cG : Nat) (Z : Nat → Nat → Int) (hn : n ≤ 1048576) (hg : g ≤ 1048576) (hS : ∀ k, k < n → (F k).V.short 1048576) (w : World) (hB : B < w.heap.size) (h : HOwn w B n F n) (hG : P7.RowK w aG g Z) (h0 : okB c d = true) (h1 : ghostsB c d g Z = true) :
    Calls Try.prog 9 #[.agg #[.int .i64 c, .int .i64 d], .agg #[.bool true, .slice (some ⟨B, 0, none⟩) n n, .slice aG g cG]] w fun e w' => e = .returned (.bool (holdsB c d n F)) ∧ Below w.heap.size w w' := by
  have HO : Hid (HOwn w B n F n) := h
  have HG : Hid (P7.RowK w aG g Z) := hG
  have HS : Hid (∀ k, k < n → (F k).V.short 1048576) := hS
  clear h hG hS
  go_enter Try.func9, Try.ntmps9
  go_wp2_with fail
  obtain ⟨w0, e0⟩ : ∃ w0, w0 = (w.alloc (.cells #[.int .i64 c, .int .i64 d] 30)).alloc (.cells #[.bool true, .slice (some ⟨B, 0, none⟩) n n, .slice aG g cG] 35) := ⟨_, rfl⟩
  have B1 : Hid (Below w.heap.size w w0) := by rw [e0]; exact ((Below.refl _ _).alloc (by simp) _).alloc (by simp) _
  have M2 : Hid (Bk w0 w.heap.size [.int .i64 c, .int .i64 d]) := by rw [e0]; exact (bk_new w 30 [.int .i64 c, .int .i64 d]).below ((Below.refl _ _).alloc (Nat.le_refl _) _)
  have V3 : Hid (Bk w0 (w.heap.size + 1) [.bool true, .slice (some ⟨B, 0, none⟩) n n, .slice aG g cG]) := by rw [e0]; have := bk_new (w.alloc (.cells #[.int .i64 c, .int .i64 d] 30)) 35 [.bool true, .slice (some ⟨B, 0, none⟩) n n, .slice aG g cG]; rwa [show (w.alloc (.cells #[.int .i64 c, .int .i64 d] 30)).heap.size = w.heap.size + 1 by simp] at this
  rw [← e0]
  clear e0
  refine (ok_impl _ _ _).mono ?_
  rintro e w1 ⟨rfl, hb1⟩
  have B4 : Hid (Below w.heap.size w w1) := bthen B1.out hb1
  have M4 : Hid (Bk w1 w.heap.size [.int .i64 c, .int .i64 d]) := M2.out.below hb1
  have V4 : Hid (Bk w1 (w.heap.size + 1) [.bool true, .slice (some ⟨B, 0, none⟩) n n, .slice aG g cG]) := V3.out.below hb1
  clear B1 M2 V3
  clear hb1
  rw [h0]
  have yM0 : w1.cell? ⟨w.heap.size, 0, none⟩ = some (.int .i64 c) := (M4.out.2 0 (by simp)).1
  have yM1 : w1.cell? ⟨w.heap.size, 1, none⟩ = some (.int .i64 d) := (M4.out.2 1 (by simp)).1
  have hlM : w.heap.size < w1.heap.size := M4.out.1
  have yV0 : w1.cell? ⟨(w.heap.size + 1), 0, none⟩ = some (.bool true) := (V4.out.2 0 (by simp)).1
  have yV1 : w1.cell? ⟨(w.heap.size + 1), 1, none⟩ = some (.slice (some ⟨B, 0, none⟩) n n) := (V4.out.2 1 (by simp)).1
  have yV2 : w1.cell? ⟨(w.heap.size + 1), 2, none⟩ = some (.slice aG g cG) := (V4.out.2 2 (by simp)).1
  have hlV : (w.heap.size + 1) < w1.heap.size := V4.out.1
  go_wp2_with fail
  refine (ghosts_impl c d aG g cG Z (by omega) _ (P7.row_below HG.out B4.out)).mono ?_
  rintro e w2 ⟨rfl, hb2⟩
  clear yM0 yM1 hlM yV0 yV1 yV2 hlV
  have B5 : Hid (Below w.heap.size w w2) := bthen B4.out hb2
  have M5 : Hid (Bk w2 w.heap.size [.int .i64 c, .int .i64 d]) := M4.out.below hb2
  have V5 : Hid (Bk w2 (w.heap.size + 1) [.bool true, .slice (some ⟨B, 0, none⟩) n n, .slice aG g cG]) := V4.out.below hb2
  clear B4 M4 V4
  clear hb2
  rw [h1]
  have yM0 : w2.cell? ⟨w.heap.size, 0, none⟩ = some (.int .i64 c) := (M5.out.2 0 (by simp)).1
  have yM1 : w2.cell? ⟨w.heap.size, 1, none⟩ = some (.int .i64 d) := (M5.out.2 1 (by simp)).1
  have hlM : w.heap.size < w2.heap.size := M5.out.1
  have yV0 : w2.cell? ⟨(w.heap.size + 1), 0, none⟩ = some (.bool true) := (V5.out.2 0 (by simp)).1
  have yV1 : w2.cell? ⟨(w.heap.size + 1), 1, none⟩ = some (.slice (some ⟨B, 0, none⟩) n n) := (V5.out.2 1 (by simp)).1
  have yV2 : w2.cell? ⟨(w.heap.size + 1), 2, none⟩ = some (.slice aG g cG) := (V5.out.2 2 (by simp)).1
  have hlV : (w.heap.size + 1) < w2.heap.size := V5.out.1
  go_wp2
  clear yM0 yM1 hlM yV0 yV1 yV2 hlV
  go_loopw [20] (fun i wr => ∃ k : Nat, k ≤ n ∧ i = .int .i64 k ∧ (∀ j, j < k → stepH c d F j = true) ∧ Below w2.heap.size w2 wr) (fun i _ => n - (intOf i).toNat)
  case atStart => exact ⟨0, Nat.zero_le _, rfl, fun _ h => absurd h (by omega), Below.refl _ _⟩
  case round =>
    obtain ⟨k, hk, rfl, hall, hbel⟩ := hrel
    have HL : Hid (∀ j, j < k → stepH c d F j = true) := hall
    have HB : Hid (Below w2.heap.size w2 wr) := hbel
    have BW : Hid (Below w.heap.size w wr) := bthen B5.out hbel
    have MW : Hid (Bk wr w.heap.size [.int .i64 c, .int .i64 d]) := M5.out.below hbel
    have VW : Hid (Bk wr (w.heap.size + 1) [.bool true, .slice (some ⟨B, 0, none⟩) n n, .slice aG g cG]) := V5.out.below hbel
    have OW : Hid (HOwn wr B n F n) := HO.out.below hB BW.out
    clear hall hbel B5 M5 V5
    have hBw : B < wr.heap.size := Nat.lt_of_lt_of_le hB BW.out.size
    by_cases hkn : k < n
    · have hkn' : (k : Int) < n := by omega
      obtain ⟨lo, bW, bO, bX, bI, hlo, hcs, hcp⟩ := OW.out.2 k hkn
      have HCP : Hid (HCopy lo wr (.agg #[.int .i64 (F k).ag, .int .i64 (F k).ct, .int .i64 (F k).V.c, .slice (some ⟨bW, 0, none⟩) (F k).V.nW (F k).V.nW, .int .i64 (F k).V.g, .slice (some ⟨bO, 0, none⟩) (F k).V.nO (F k).V.nO, .slice (some ⟨bX, 0, none⟩) (F k).V.nX (F k).V.nX, .slice (some ⟨bI, 0, none⟩) (F k).V.nI (F k).V.nI]) (F k).ag (F k).ct (F k).V) := ⟨bW, bO, bX, bI, rfl, hcp⟩
      have HCS : Hid (wr.cell? ⟨B, k * 8, none⟩ = some (.int .i64 (F k).ag) ∧ wr.cell? ⟨B, k * 8 + 1, none⟩ = some (.int .i64 (F k).ct) ∧ wr.cell? ⟨B, k * 8 + 2, none⟩ = some (.int .i64 (F k).V.c) ∧ wr.cell? ⟨B, k * 8 + 3, none⟩ = some (.slice (some ⟨bW, 0, none⟩) (F k).V.nW (F k).V.nW) ∧ wr.cell? ⟨B, k * 8 + 4, none⟩ = some (.int .i64 (F k).V.g) ∧ wr.cell? ⟨B, k * 8 + 5, none⟩ = some (.slice (some ⟨bO, 0, none⟩) (F k).V.nO (F k).V.nO) ∧ wr.cell? ⟨B, k * 8 + 6, none⟩ = some (.slice (some ⟨bX, 0, none⟩) (F k).V.nX (F k).V.nX) ∧ wr.cell? ⟨B, k * 8 + 7, none⟩ = some (.slice (some ⟨bI, 0, none⟩) (F k).V.nI (F k).V.nI)) := hcs
      clear hcp hcs
      cases hh : hldB c d (F k).ag (F k).ct (F k).V
      · have hst : stepH c d F k = false := by simp [stepH, hh]
        obtain ⟨c0, c1, c2, c3, c4, c5, c6, c7⟩ := HCS.out
        have yM0 : wr.cell? ⟨w.heap.size, 0, none⟩ = some (.int .i64 c) := (MW.out.2 0 (by simp)).1
        have yM1 : wr.cell? ⟨w.heap.size, 1, none⟩ = some (.int .i64 d) := (MW.out.2 1 (by simp)).1
        have hlM : w.heap.size < wr.heap.size := MW.out.1
        have yV0 : wr.cell? ⟨(w.heap.size + 1), 0, none⟩ = some (.bool true) := (VW.out.2 0 (by simp)).1
        have yV1 : wr.cell? ⟨(w.heap.size + 1), 1, none⟩ = some (.slice (some ⟨B, 0, none⟩) n n) := (VW.out.2 1 (by simp)).1
        have yV2 : wr.cell? ⟨(w.heap.size + 1), 2, none⟩ = some (.slice aG g cG) := (VW.out.2 2 (by simp)).1
        have hlV : (w.heap.size + 1) < wr.heap.size := VW.out.1
        go_wp2
        obtain ⟨w1, e1⟩ : ∃ w1, w1 = wr.alloc (.cells #[.int .i64 (F k).ag, .int .i64 (F k).ct, .int .i64 (F k).V.c, .slice (some ⟨bW, 0, none⟩) (F k).V.nW (F k).V.nW, .int .i64 (F k).V.g, .slice (some ⟨bO, 0, none⟩) (F k).V.nO (F k).V.nO, .slice (some ⟨bX, 0, none⟩) (F k).V.nX (F k).V.nX, .slice (some ⟨bI, 0, none⟩) (F k).V.nI (F k).V.nI] 45) := ⟨_, rfl⟩
        rw [← e1]
        have hb1 : Below wr.heap.size wr w1 := by rw [e1]; exact (Below.refl _ _).alloc (Nat.le_refl _) _
        have X1 : Hid (Bk w1 wr.heap.size [.int .i64 (F k).ag, .int .i64 (F k).ct, .int .i64 (F k).V.c, .slice (some ⟨bW, 0, none⟩) (F k).V.nW (F k).V.nW, .int .i64 (F k).V.g, .slice (some ⟨bO, 0, none⟩) (F k).V.nO (F k).V.nO, .slice (some ⟨bX, 0, none⟩) (F k).V.nX (F k).V.nX, .slice (some ⟨bI, 0, none⟩) (F k).V.nI (F k).V.nI]) := by rw [e1]; exact bk_new wr 45 [.int .i64 (F k).ag, .int .i64 (F k).ct, .int .i64 (F k).V.c, .slice (some ⟨bW, 0, none⟩) (F k).V.nW (F k).V.nW, .int .i64 (F k).V.g, .slice (some ⟨bO, 0, none⟩) (F k).V.nO (F k).V.nO, .slice (some ⟨bX, 0, none⟩) (F k).V.nX (F k).V.nX, .slice (some ⟨bI, 0, none⟩) (F k).V.nI (F k).V.nI]
        clear e1
        clear yM0 yM1 hlM yV0 yV1 yV2 hlV
        clear c0 c1 c2 c3 c4 c5 c6 c7
        have HB1 : Hid (Below w2.heap.size w2 w1) := bthen HB.out hb1
        have BW1 : Hid (Below w.heap.size w w1) := bthen BW.out hb1
        have MW1 : Hid (Bk w1 w.heap.size [.int .i64 c, .int .i64 d]) := MW.out.below hb1
        have VW1 : Hid (Bk w1 (w.heap.size + 1) [.bool true, .slice (some ⟨B, 0, none⟩) n n, .slice aG g cG]) := VW.out.below hb1
        have HCP1 : Hid (HCopy lo w1 (.agg #[.int .i64 (F k).ag, .int .i64 (F k).ct, .int .i64 (F k).V.c, .slice (some ⟨bW, 0, none⟩) (F k).V.nW (F k).V.nW, .int .i64 (F k).V.g, .slice (some ⟨bO, 0, none⟩) (F k).V.nO (F k).V.nO, .slice (some ⟨bX, 0, none⟩) (F k).V.nX (F k).V.nX, .slice (some ⟨bI, 0, none⟩) (F k).V.nI (F k).V.nI]) (F k).ag (F k).ct (F k).V) := HCP.out.below hb1
        have hBw1 : B < w1.heap.size := Nat.lt_of_lt_of_le hBw hb1.size
        clear HCP hb1 MW VW HB BW hBw
        generalize wr.heap.size = gg at *
        have yM0 : w1.cell? ⟨w.heap.size, 0, none⟩ = some (.int .i64 c) := (MW1.out.2 0 (by simp)).1
        have yM1 : w1.cell? ⟨w.heap.size, 1, none⟩ = some (.int .i64 d) := (MW1.out.2 1 (by simp)).1
        have hlM : w.heap.size < w1.heap.size := MW1.out.1
        have yV0 : w1.cell? ⟨(w.heap.size + 1), 0, none⟩ = some (.bool true) := (VW1.out.2 0 (by simp)).1
        have yV1 : w1.cell? ⟨(w.heap.size + 1), 1, none⟩ = some (.slice (some ⟨B, 0, none⟩) n n) := (VW1.out.2 1 (by simp)).1
        have yV2 : w1.cell? ⟨(w.heap.size + 1), 2, none⟩ = some (.slice aG g cG) := (VW1.out.2 2 (by simp)).1
        have hlV : (w.heap.size + 1) < w1.heap.size := VW1.out.1
        have yG0 : w1.cell? ⟨gg, 0, none⟩ = some (.int .i64 (F k).ag) := (X1.out.2 0 (by simp)).1
        have yG1 : w1.cell? ⟨gg, 1, none⟩ = some (.int .i64 (F k).ct) := (X1.out.2 1 (by simp)).1
        have yG2 : w1.cell? ⟨gg, 2, none⟩ = some (.int .i64 (F k).V.c) := (X1.out.2 2 (by simp)).1
        have yG3 : w1.cell? ⟨gg, 3, none⟩ = some (.slice (some ⟨bW, 0, none⟩) (F k).V.nW (F k).V.nW) := (X1.out.2 3 (by simp)).1
        have yG4 : w1.cell? ⟨gg, 4, none⟩ = some (.int .i64 (F k).V.g) := (X1.out.2 4 (by simp)).1
        have yG5 : w1.cell? ⟨gg, 5, none⟩ = some (.slice (some ⟨bO, 0, none⟩) (F k).V.nO (F k).V.nO) := (X1.out.2 5 (by simp)).1
        have yG6 : w1.cell? ⟨gg, 6, none⟩ = some (.slice (some ⟨bX, 0, none⟩) (F k).V.nX (F k).V.nX) := (X1.out.2 6 (by simp)).1
        have yG7 : w1.cell? ⟨gg, 7, none⟩ = some (.slice (some ⟨bI, 0, none⟩) (F k).V.nI (F k).V.nI) := (X1.out.2 7 (by simp)).1
        have hlG : gg < w1.heap.size := X1.out.1
        refine wp_region_held_drew (S := fun w' => (∀ b o, b < w1.heap.size → w'.cell? ⟨b, o, none⟩ = w1.cell? ⟨b, o, none⟩) ∧ w1.heap.size ≤ w'.heap.size) (by kernel_rfl) ⟨fun _ _ _ => rfl, Nat.le_refl _⟩ ?_
        intro hHeld
        refine wpAnyH_take (i := 0) (v := .agg #[.int .i64 c, .int .i64 d]) rfl (by kernel_rfl) (by kernel_rfl) (by kernel_rfl) (fun _ _ _ h => h) (Or.inl ⟨by rfl, ?_⟩) (by assumption) ?_
        · intro wx hSw; go_simp
        try simp only [Act.put, List.setIfInBounds_toArray, List.set_cons_zero, List.set_cons_succ, List.getElem_toArray, List.getElem_cons_zero]
        refine wpAnyH_take (i := 1) (v := .agg #[.int .i64 (F k).ag, .int .i64 (F k).ct, .int .i64 (F k).V.c, .slice (some ⟨bW, 0, none⟩) (F k).V.nW (F k).V.nW, .int .i64 (F k).V.g, .slice (some ⟨bO, 0, none⟩) (F k).V.nO (F k).V.nO, .slice (some ⟨bX, 0, none⟩) (F k).V.nX (F k).V.nX, .slice (some ⟨bI, 0, none⟩) (F k).V.nI (F k).V.nI]) rfl (by kernel_rfl) (by kernel_rfl) (by kernel_rfl) (fun _ _ _ h => h) (Or.inl ⟨by rfl, ?_⟩) (by assumption) ?_
        · intro wx hSw; go_simp
        try simp only [Act.put, List.setIfInBounds_toArray, List.set_cons_zero, List.set_cons_succ, List.getElem_toArray, List.getElem_cons_zero, List.getElem_cons_succ]
        refine wpAnyH_ready (rs := [2]) (by kernel_rfl) (by simp) ?_
        refine AllReadyH.cons rfl (fun K hK => ?_) AllReadyH.nil
        go_simp
        go_wp2_with fail
        refine (hldOk_impl c d _ (F k).ag (F k).ct (F k).V lo (HS.out k hkn) _ (HCP1.out.below Below.drewB)).mono ?_
        rintro e x1 ⟨rfl, hx1⟩
        rw [hh]
        refine hK.out _ _ (keepS (by assumption) hx1) (fun hNew => ?_)
        clear hK K hHeld
        have hHeld := hNew
        clear hNew
        try simp only [Act.put, List.setIfInBounds_toArray, List.set_cons_zero, List.set_cons_succ, List.getElem_toArray, List.getElem_cons_zero, List.getElem_cons_succ]
        refine wpAnyH_take (i := 3) (v := .bool true) rfl (by kernel_rfl) (by kernel_rfl) (by kernel_rfl) (fun _ _ _ h => h) (Or.inl ⟨by rfl, ?_⟩) (by assumption) ?_
        · intro wx hSw; go_simp
        try simp only [Act.put, List.setIfInBounds_toArray, List.set_cons_zero, List.set_cons_succ, List.getElem_toArray, List.getElem_cons_zero, List.getElem_cons_succ]
        refine wpAnyH_take (i := 4) (v := .bool true) rfl (by kernel_rfl) (by kernel_rfl) (by kernel_rfl) (fun _ _ _ h => h) (Or.inl ⟨by rfl, ?_⟩) (by assumption) ?_
        · intro wx hSw; go_simp
        try simp only [Act.put, List.setIfInBounds_toArray, List.set_cons_zero, List.set_cons_succ, List.getElem_toArray, List.getElem_cons_zero, List.getElem_cons_succ]
        refine wpAnyH_take (i := 5) (v := undef) rfl (by kernel_rfl) (by kernel_rfl) (by kernel_rfl) (fun _ _ _ h => h) (Or.inr ⟨by rfl, rfl⟩) (by assumption) ?_
        try simp only [Act.put, List.setIfInBounds_toArray, List.set_cons_zero, List.set_cons_succ, List.getElem_toArray, List.getElem_cons_zero, List.getElem_cons_succ]
        refine wpAnyH_take (i := 6) (v := undef) rfl (by kernel_rfl) (by kernel_rfl) (by kernel_rfl) (fun _ _ _ h => h) (Or.inr ⟨by rfl, rfl⟩) (by assumption) ?_
        try simp only [Act.put, List.setIfInBounds_toArray, List.set_cons_zero, List.set_cons_succ, List.getElem_toArray, List.getElem_cons_zero, List.getElem_cons_succ]
        refine wpAnyH_take (i := 7) (v := undef) rfl (by kernel_rfl) (by kernel_rfl) (by kernel_rfl) (fun _ _ _ h => h) (Or.inr ⟨by rfl, rfl⟩) (by assumption) ?_
        try simp only [Act.put, List.setIfInBounds_toArray, List.set_cons_zero, List.set_cons_succ, List.getElem_toArray, List.getElem_cons_zero, List.getElem_cons_succ]
        refine wpAnyH_take (i := 8) (v := undef) rfl (by kernel_rfl) (by kernel_rfl) (by kernel_rfl) (fun _ _ _ h => h) (Or.inr ⟨by rfl, rfl⟩) (by assumption) ?_
        try simp only [Act.put, List.setIfInBounds_toArray, List.set_cons_zero, List.set_cons_succ, List.getElem_toArray, List.getElem_cons_zero, List.getElem_cons_succ]
        refine wpAnyH_take (i := 9) (v := undef) rfl (by kernel_rfl) (by kernel_rfl) (by kernel_rfl) (fun _ _ _ h => h) (Or.inr ⟨by rfl, rfl⟩) (by assumption) ?_
        try simp only [Act.put, List.setIfInBounds_toArray, List.set_cons_zero, List.set_cons_succ, List.getElem_toArray, List.getElem_cons_zero, List.getElem_cons_succ]
        refine wpAnyH_take (i := 10) (v := undef) rfl (by kernel_rfl) (by kernel_rfl) (by kernel_rfl) (fun _ _ _ h => h) (Or.inr ⟨by rfl, rfl⟩) (by assumption) ?_
        try simp only [Act.put, List.setIfInBounds_toArray, List.set_cons_zero, List.set_cons_succ, List.getElem_toArray, List.getElem_cons_zero, List.getElem_cons_succ]
        refine wpAnyH_take (i := 11) (v := undef) rfl (by kernel_rfl) (by kernel_rfl) (by kernel_rfl) (fun _ _ _ h => h) (Or.inr ⟨by rfl, rfl⟩) (by assumption) ?_
        try simp only [Act.put, List.setIfInBounds_toArray, List.set_cons_zero, List.set_cons_succ, List.getElem_toArray, List.getElem_cons_zero, List.getElem_cons_succ]
        refine wpAnyH_take (i := 12) (v := undef) rfl (by kernel_rfl) (by kernel_rfl) (by kernel_rfl) (fun _ _ _ h => h) (Or.inr ⟨by rfl, rfl⟩) (by assumption) ?_
        try simp only [Act.put, List.setIfInBounds_toArray, List.set_cons_zero, List.set_cons_succ, List.getElem_toArray, List.getElem_cons_zero, List.getElem_cons_succ]
        refine wpAnyH_take (i := 13) (v := undef) rfl (by kernel_rfl) (by kernel_rfl) (by kernel_rfl) (fun _ _ _ h => h) (Or.inr ⟨by rfl, rfl⟩) (by assumption) ?_
        try simp only [Act.put, List.setIfInBounds_toArray, List.set_cons_zero, List.set_cons_succ, List.getElem_toArray, List.getElem_cons_zero, List.getElem_cons_succ]
        refine wpAnyH_take (i := 14) (v := undef) rfl (by kernel_rfl) (by kernel_rfl) (by kernel_rfl) (fun _ _ _ h => h) (Or.inr ⟨by rfl, rfl⟩) (by assumption) ?_
        try simp only [Act.put, List.setIfInBounds_toArray, List.set_cons_zero, List.set_cons_succ, List.getElem_toArray, List.getElem_cons_zero, List.getElem_cons_succ]
        refine wpAnyH_take (i := 15) (v := undef) rfl (by kernel_rfl) (by kernel_rfl) (by kernel_rfl) (fun _ _ _ h => h) (Or.inr ⟨by rfl, rfl⟩) (by assumption) ?_
        try simp only [Act.put, List.setIfInBounds_toArray, List.set_cons_zero, List.set_cons_succ, List.getElem_toArray, List.getElem_cons_zero, List.getElem_cons_succ]
        refine wpAnyH_take (i := 16) (v := undef) rfl (by kernel_rfl) (by kernel_rfl) (by kernel_rfl) (fun _ _ _ h => h) (Or.inr ⟨by rfl, rfl⟩) (by assumption) ?_
        try simp only [Act.put, List.setIfInBounds_toArray, List.set_cons_zero, List.set_cons_succ, List.getElem_toArray, List.getElem_cons_zero, List.getElem_cons_succ]
        refine wpAnyH_take (i := 17) (v := undef) rfl (by kernel_rfl) (by kernel_rfl) (by kernel_rfl) (fun _ _ _ h => h) (Or.inr ⟨by rfl, rfl⟩) (by assumption) ?_
        try simp only [Act.put, List.setIfInBounds_toArray, List.set_cons_zero, List.set_cons_succ, List.getElem_toArray, List.getElem_cons_zero, List.getElem_cons_succ]
        refine wpAnyH_take (i := 18) (v := undef) rfl (by kernel_rfl) (by kernel_rfl) (by kernel_rfl) (fun _ _ _ h => h) (Or.inr ⟨by rfl, rfl⟩) (by assumption) ?_
        try simp only [Act.put, List.setIfInBounds_toArray, List.set_cons_zero, List.set_cons_succ, List.getElem_toArray, List.getElem_cons_zero, List.getElem_cons_succ]
        refine wpAnyH_take (i := 19) (v := undef) rfl (by kernel_rfl) (by kernel_rfl) (by kernel_rfl) (fun _ _ _ h => h) (Or.inr ⟨by rfl, rfl⟩) (by assumption) ?_
        try simp only [Act.put, List.setIfInBounds_toArray, List.set_cons_zero, List.set_cons_succ, List.getElem_toArray, List.getElem_cons_zero, List.getElem_cons_succ]
        refine wpAnyH_take (i := 20) (v := undef) rfl (by kernel_rfl) (by kernel_rfl) (by kernel_rfl) (fun _ _ _ h => h) (Or.inr ⟨by rfl, rfl⟩) (by assumption) ?_
        try simp only [Act.put, List.setIfInBounds_toArray, List.set_cons_zero, List.set_cons_succ, List.getElem_toArray, List.getElem_cons_zero, List.getElem_cons_succ]
        refine wpAnyH_take (i := 21) (v := .bool true) rfl (by kernel_rfl) (by kernel_rfl) (by kernel_rfl) (fun _ _ _ h => h) (Or.inl ⟨by rfl, ?_⟩) (by assumption) ?_
        · intro wx hSw; go_simp
        try simp only [Act.put, List.setIfInBounds_toArray, List.set_cons_zero, List.set_cons_succ, List.getElem_toArray, List.getElem_cons_zero, List.getElem_cons_succ]
        refine wpAnyH_done (by kernel_rfl) ?_ _
        clear hHeld
        clear yM0 yM1 hlM yV0 yV1 yV2 hlV yG0 yG1 yG2 yG3 yG4 yG5 yG6 yG7 hlG
        go_wp2
        go_ret
        exact ⟨by rw [holdsB_false hkn hst] <;> rfl, bthen BW1.out (by repeat (first | exact Below.refl _ _ | refine bthen ?_ (by assumption) | apply Below.drew))⟩
      by_cases hk0 : k = 0
      · have hst : stepH c d F k = true := by unfold stepH; rw [hh]; simp [hk0]
        have hk1 : ¬ (0 : Int) < k := by omega
        clear hk0
        obtain ⟨c0, c1, c2, c3, c4, c5, c6, c7⟩ := HCS.out
        have yM0 : wr.cell? ⟨w.heap.size, 0, none⟩ = some (.int .i64 c) := (MW.out.2 0 (by simp)).1
        have yM1 : wr.cell? ⟨w.heap.size, 1, none⟩ = some (.int .i64 d) := (MW.out.2 1 (by simp)).1
        have hlM : w.heap.size < wr.heap.size := MW.out.1
        have yV0 : wr.cell? ⟨(w.heap.size + 1), 0, none⟩ = some (.bool true) := (VW.out.2 0 (by simp)).1
        have yV1 : wr.cell? ⟨(w.heap.size + 1), 1, none⟩ = some (.slice (some ⟨B, 0, none⟩) n n) := (VW.out.2 1 (by simp)).1
        have yV2 : wr.cell? ⟨(w.heap.size + 1), 2, none⟩ = some (.slice aG g cG) := (VW.out.2 2 (by simp)).1
        have hlV : (w.heap.size + 1) < wr.heap.size := VW.out.1
        go_wp2
        obtain ⟨w1, e1⟩ : ∃ w1, w1 = wr.alloc (.cells #[.int .i64 (F k).ag, .int .i64 (F k).ct, .int .i64 (F k).V.c, .slice (some ⟨bW, 0, none⟩) (F k).V.nW (F k).V.nW, .int .i64 (F k).V.g, .slice (some ⟨bO, 0, none⟩) (F k).V.nO (F k).V.nO, .slice (some ⟨bX, 0, none⟩) (F k).V.nX (F k).V.nX, .slice (some ⟨bI, 0, none⟩) (F k).V.nI (F k).V.nI] 45) := ⟨_, rfl⟩
        rw [← e1]
        have hb1 : Below wr.heap.size wr w1 := by rw [e1]; exact (Below.refl _ _).alloc (Nat.le_refl _) _
        have X1 : Hid (Bk w1 wr.heap.size [.int .i64 (F k).ag, .int .i64 (F k).ct, .int .i64 (F k).V.c, .slice (some ⟨bW, 0, none⟩) (F k).V.nW (F k).V.nW, .int .i64 (F k).V.g, .slice (some ⟨bO, 0, none⟩) (F k).V.nO (F k).V.nO, .slice (some ⟨bX, 0, none⟩) (F k).V.nX (F k).V.nX, .slice (some ⟨bI, 0, none⟩) (F k).V.nI (F k).V.nI]) := by rw [e1]; exact bk_new wr 45 [.int .i64 (F k).ag, .int .i64 (F k).ct, .int .i64 (F k).V.c, .slice (some ⟨bW, 0, none⟩) (F k).V.nW (F k).V.nW, .int .i64 (F k).V.g, .slice (some ⟨bO, 0, none⟩) (F k).V.nO (F k).V.nO, .slice (some ⟨bX, 0, none⟩) (F k).V.nX (F k).V.nX, .slice (some ⟨bI, 0, none⟩) (F k).V.nI (F k).V.nI]
        clear e1
        clear yM0 yM1 hlM yV0 yV1 yV2 hlV
        clear c0 c1 c2 c3 c4 c5 c6 c7
        have HB1 : Hid (Below w2.heap.size w2 w1) := bthen HB.out hb1
        have BW1 : Hid (Below w.heap.size w w1) := bthen BW.out hb1
        have MW1 : Hid (Bk w1 w.heap.size [.int .i64 c, .int .i64 d]) := MW.out.below hb1
        have VW1 : Hid (Bk w1 (w.heap.size + 1) [.bool true, .slice (some ⟨B, 0, none⟩) n n, .slice aG g cG]) := VW.out.below hb1
        have HCP1 : Hid (HCopy lo w1 (.agg #[.int .i64 (F k).ag, .int .i64 (F k).ct, .int .i64 (F k).V.c, .slice (some ⟨bW, 0, none⟩) (F k).V.nW (F k).V.nW, .int .i64 (F k).V.g, .slice (some ⟨bO, 0, none⟩) (F k).V.nO (F k).V.nO, .slice (some ⟨bX, 0, none⟩) (F k).V.nX (F k).V.nX, .slice (some ⟨bI, 0, none⟩) (F k).V.nI (F k).V.nI]) (F k).ag (F k).ct (F k).V) := HCP.out.below hb1
        have hBw1 : B < w1.heap.size := Nat.lt_of_lt_of_le hBw hb1.size
        clear HCP hb1 MW VW HB BW hBw
        generalize wr.heap.size = gg at *
        have yM0 : w1.cell? ⟨w.heap.size, 0, none⟩ = some (.int .i64 c) := (MW1.out.2 0 (by simp)).1
        have yM1 : w1.cell? ⟨w.heap.size, 1, none⟩ = some (.int .i64 d) := (MW1.out.2 1 (by simp)).1
        have hlM : w.heap.size < w1.heap.size := MW1.out.1
        have yV0 : w1.cell? ⟨(w.heap.size + 1), 0, none⟩ = some (.bool true) := (VW1.out.2 0 (by simp)).1
        have yV1 : w1.cell? ⟨(w.heap.size + 1), 1, none⟩ = some (.slice (some ⟨B, 0, none⟩) n n) := (VW1.out.2 1 (by simp)).1
        have yV2 : w1.cell? ⟨(w.heap.size + 1), 2, none⟩ = some (.slice aG g cG) := (VW1.out.2 2 (by simp)).1
        have hlV : (w.heap.size + 1) < w1.heap.size := VW1.out.1
        have yG0 : w1.cell? ⟨gg, 0, none⟩ = some (.int .i64 (F k).ag) := (X1.out.2 0 (by simp)).1
        have yG1 : w1.cell? ⟨gg, 1, none⟩ = some (.int .i64 (F k).ct) := (X1.out.2 1 (by simp)).1
        have yG2 : w1.cell? ⟨gg, 2, none⟩ = some (.int .i64 (F k).V.c) := (X1.out.2 2 (by simp)).1
        have yG3 : w1.cell? ⟨gg, 3, none⟩ = some (.slice (some ⟨bW, 0, none⟩) (F k).V.nW (F k).V.nW) := (X1.out.2 3 (by simp)).1
        have yG4 : w1.cell? ⟨gg, 4, none⟩ = some (.int .i64 (F k).V.g) := (X1.out.2 4 (by simp)).1
        have yG5 : w1.cell? ⟨gg, 5, none⟩ = some (.slice (some ⟨bO, 0, none⟩) (F k).V.nO (F k).V.nO) := (X1.out.2 5 (by simp)).1
        have yG6 : w1.cell? ⟨gg, 6, none⟩ = some (.slice (some ⟨bX, 0, none⟩) (F k).V.nX (F k).V.nX) := (X1.out.2 6 (by simp)).1
        have yG7 : w1.cell? ⟨gg, 7, none⟩ = some (.slice (some ⟨bI, 0, none⟩) (F k).V.nI (F k).V.nI) := (X1.out.2 7 (by simp)).1
        have hlG : gg < w1.heap.size := X1.out.1
        refine wp_region_held_drew (S := fun w' => (∀ b o, b < w1.heap.size → w'.cell? ⟨b, o, none⟩ = w1.cell? ⟨b, o, none⟩) ∧ w1.heap.size ≤ w'.heap.size) (by kernel_rfl) ⟨fun _ _ _ => rfl, Nat.le_refl _⟩ ?_
        intro hHeld
        refine wpAnyH_take (i := 0) (v := .agg #[.int .i64 c, .int .i64 d]) rfl (by kernel_rfl) (by kernel_rfl) (by kernel_rfl) (fun _ _ _ h => h) (Or.inl ⟨by rfl, ?_⟩) (by assumption) ?_
        · intro wx hSw; go_simp
        try simp only [Act.put, List.setIfInBounds_toArray, List.set_cons_zero, List.set_cons_succ, List.getElem_toArray, List.getElem_cons_zero]
        refine wpAnyH_take (i := 1) (v := .agg #[.int .i64 (F k).ag, .int .i64 (F k).ct, .int .i64 (F k).V.c, .slice (some ⟨bW, 0, none⟩) (F k).V.nW (F k).V.nW, .int .i64 (F k).V.g, .slice (some ⟨bO, 0, none⟩) (F k).V.nO (F k).V.nO, .slice (some ⟨bX, 0, none⟩) (F k).V.nX (F k).V.nX, .slice (some ⟨bI, 0, none⟩) (F k).V.nI (F k).V.nI]) rfl (by kernel_rfl) (by kernel_rfl) (by kernel_rfl) (fun _ _ _ h => h) (Or.inl ⟨by rfl, ?_⟩) (by assumption) ?_
        · intro wx hSw; go_simp
        try simp only [Act.put, List.setIfInBounds_toArray, List.set_cons_zero, List.set_cons_succ, List.getElem_toArray, List.getElem_cons_zero, List.getElem_cons_succ]
        refine wpAnyH_ready (rs := [2]) (by kernel_rfl) (by simp) ?_
        refine AllReadyH.cons rfl (fun K hK => ?_) AllReadyH.nil
        go_simp
        go_wp2_with fail
        refine (hldOk_impl c d _ (F k).ag (F k).ct (F k).V lo (HS.out k hkn) _ (HCP1.out.below Below.drewB)).mono ?_
        rintro e x1 ⟨rfl, hx1⟩
        rw [hh]
        refine hK.out _ _ (keepS (by assumption) hx1) (fun hNew => ?_)
        clear hK K hHeld
        have hHeld := hNew
        clear hNew
        try simp only [Act.put, List.setIfInBounds_toArray, List.set_cons_zero, List.set_cons_succ, List.getElem_toArray, List.getElem_cons_zero, List.getElem_cons_succ]
        refine wpAnyH_take (i := 3) (v := .bool false) rfl (by kernel_rfl) (by kernel_rfl) (by kernel_rfl) (fun _ _ _ h => h) (Or.inl ⟨by rfl, ?_⟩) (by assumption) ?_
        · intro wx hSw; go_simp
        try simp only [Act.put, List.setIfInBounds_toArray, List.set_cons_zero, List.set_cons_succ, List.getElem_toArray, List.getElem_cons_zero, List.getElem_cons_succ]
        refine wpAnyH_take (i := 4) (v := .bool false) rfl (by kernel_rfl) (by kernel_rfl) (by kernel_rfl) (fun _ _ _ h => h) (Or.inl ⟨by rfl, ?_⟩) (by assumption) ?_
        · intro wx hSw; go_simp
        try simp only [Act.put, List.setIfInBounds_toArray, List.set_cons_zero, List.set_cons_succ, List.getElem_toArray, List.getElem_cons_zero, List.getElem_cons_succ]
        refine wpAnyH_take (i := 5) (v := .int .i64 (k : Int)) rfl (by kernel_rfl) (by kernel_rfl) (by kernel_rfl) (fun _ _ _ h => h) (Or.inl ⟨by rfl, ?_⟩) (by assumption) ?_
        · intro wx hSw; go_simp
        try simp only [Act.put, List.setIfInBounds_toArray, List.set_cons_zero, List.set_cons_succ, List.getElem_toArray, List.getElem_cons_zero, List.getElem_cons_succ]
        refine wpAnyH_take (i := 6) (v := .bool false) rfl (by kernel_rfl) (by kernel_rfl) (by kernel_rfl) (fun _ _ _ h => h) (Or.inl ⟨by rfl, ?_⟩) (by assumption) ?_
        · intro wx hSw; go_simp <;> first | omega | (exact IntWalk.i64_in _ (by omega)) | go_num
        try simp only [Act.put, List.setIfInBounds_toArray, List.set_cons_zero, List.set_cons_succ, List.getElem_toArray, List.getElem_cons_zero, List.getElem_cons_succ]
        refine wpAnyH_take (i := 7) (v := .bool false) rfl (by kernel_rfl) (by kernel_rfl) (by kernel_rfl) (fun _ _ _ h => h) (Or.inl ⟨by rfl, ?_⟩) (by assumption) ?_
        · intro wx hSw; go_simp
        try simp only [Act.put, List.setIfInBounds_toArray, List.set_cons_zero, List.set_cons_succ, List.getElem_toArray, List.getElem_cons_zero, List.getElem_cons_succ]
        refine wpAnyH_take (i := 8) (v := undef) rfl (by kernel_rfl) (by kernel_rfl) (by kernel_rfl) (fun _ _ _ h => h) (Or.inr ⟨by rfl, rfl⟩) (by assumption) ?_
        try simp only [Act.put, List.setIfInBounds_toArray, List.set_cons_zero, List.set_cons_succ, List.getElem_toArray, List.getElem_cons_zero, List.getElem_cons_succ]
        refine wpAnyH_take (i := 9) (v := undef) rfl (by kernel_rfl) (by kernel_rfl) (by kernel_rfl) (fun _ _ _ h => h) (Or.inr ⟨by rfl, rfl⟩) (by assumption) ?_
        try simp only [Act.put, List.setIfInBounds_toArray, List.set_cons_zero, List.set_cons_succ, List.getElem_toArray, List.getElem_cons_zero, List.getElem_cons_succ]
        refine wpAnyH_take (i := 10) (v := undef) rfl (by kernel_rfl) (by kernel_rfl) (by kernel_rfl) (fun _ _ _ h => h) (Or.inr ⟨by rfl, rfl⟩) (by assumption) ?_
        try simp only [Act.put, List.setIfInBounds_toArray, List.set_cons_zero, List.set_cons_succ, List.getElem_toArray, List.getElem_cons_zero, List.getElem_cons_succ]
        refine wpAnyH_take (i := 11) (v := undef) rfl (by kernel_rfl) (by kernel_rfl) (by kernel_rfl) (fun _ _ _ h => h) (Or.inr ⟨by rfl, rfl⟩) (by assumption) ?_
        try simp only [Act.put, List.setIfInBounds_toArray, List.set_cons_zero, List.set_cons_succ, List.getElem_toArray, List.getElem_cons_zero, List.getElem_cons_succ]
        refine wpAnyH_take (i := 12) (v := undef) rfl (by kernel_rfl) (by kernel_rfl) (by kernel_rfl) (fun _ _ _ h => h) (Or.inr ⟨by rfl, rfl⟩) (by assumption) ?_
        try simp only [Act.put, List.setIfInBounds_toArray, List.set_cons_zero, List.set_cons_succ, List.getElem_toArray, List.getElem_cons_zero, List.getElem_cons_succ]
        refine wpAnyH_take (i := 13) (v := undef) rfl (by kernel_rfl) (by kernel_rfl) (by kernel_rfl) (fun _ _ _ h => h) (Or.inr ⟨by rfl, rfl⟩) (by assumption) ?_
        try simp only [Act.put, List.setIfInBounds_toArray, List.set_cons_zero, List.set_cons_succ, List.getElem_toArray, List.getElem_cons_zero, List.getElem_cons_succ]
        refine wpAnyH_take (i := 14) (v := undef) rfl (by kernel_rfl) (by kernel_rfl) (by kernel_rfl) (fun _ _ _ h => h) (Or.inr ⟨by rfl, rfl⟩) (by assumption) ?_
        try simp only [Act.put, List.setIfInBounds_toArray, List.set_cons_zero, List.set_cons_succ, List.getElem_toArray, List.getElem_cons_zero, List.getElem_cons_succ]
        refine wpAnyH_take (i := 15) (v := undef) rfl (by kernel_rfl) (by kernel_rfl) (by kernel_rfl) (fun _ _ _ h => h) (Or.inr ⟨by rfl, rfl⟩) (by assumption) ?_
        try simp only [Act.put, List.setIfInBounds_toArray, List.set_cons_zero, List.set_cons_succ, List.getElem_toArray, List.getElem_cons_zero, List.getElem_cons_succ]
        refine wpAnyH_take (i := 16) (v := undef) rfl (by kernel_rfl) (by kernel_rfl) (by kernel_rfl) (fun _ _ _ h => h) (Or.inr ⟨by rfl, rfl⟩) (by assumption) ?_
        try simp only [Act.put, List.setIfInBounds_toArray, List.set_cons_zero, List.set_cons_succ, List.getElem_toArray, List.getElem_cons_zero, List.getElem_cons_succ]
        refine wpAnyH_take (i := 17) (v := undef) rfl (by kernel_rfl) (by kernel_rfl) (by kernel_rfl) (fun _ _ _ h => h) (Or.inr ⟨by rfl, rfl⟩) (by assumption) ?_
        try simp only [Act.put, List.setIfInBounds_toArray, List.set_cons_zero, List.set_cons_succ, List.getElem_toArray, List.getElem_cons_zero, List.getElem_cons_succ]
        refine wpAnyH_take (i := 18) (v := undef) rfl (by kernel_rfl) (by kernel_rfl) (by kernel_rfl) (fun _ _ _ h => h) (Or.inr ⟨by rfl, rfl⟩) (by assumption) ?_
        try simp only [Act.put, List.setIfInBounds_toArray, List.set_cons_zero, List.set_cons_succ, List.getElem_toArray, List.getElem_cons_zero, List.getElem_cons_succ]
        refine wpAnyH_take (i := 19) (v := undef) rfl (by kernel_rfl) (by kernel_rfl) (by kernel_rfl) (fun _ _ _ h => h) (Or.inr ⟨by rfl, rfl⟩) (by assumption) ?_
        try simp only [Act.put, List.setIfInBounds_toArray, List.set_cons_zero, List.set_cons_succ, List.getElem_toArray, List.getElem_cons_zero, List.getElem_cons_succ]
        refine wpAnyH_take (i := 20) (v := .bool false) rfl (by kernel_rfl) (by kernel_rfl) (by kernel_rfl) (fun _ _ _ h => h) (Or.inl ⟨by rfl, ?_⟩) (by assumption) ?_
        · intro wx hSw; go_simp
        try simp only [Act.put, List.setIfInBounds_toArray, List.set_cons_zero, List.set_cons_succ, List.getElem_toArray, List.getElem_cons_zero, List.getElem_cons_succ]
        refine wpAnyH_take (i := 21) (v := .bool false) rfl (by kernel_rfl) (by kernel_rfl) (by kernel_rfl) (fun _ _ _ h => h) (Or.inl ⟨by rfl, ?_⟩) (by assumption) ?_
        · intro wx hSw; go_simp
        try simp only [Act.put, List.setIfInBounds_toArray, List.set_cons_zero, List.set_cons_succ, List.getElem_toArray, List.getElem_cons_zero, List.getElem_cons_succ]
        refine wpAnyH_done (by kernel_rfl) ?_ _
        clear hHeld
        clear yM0 yM1 hlM yV0 yV1 yV2 hlV yG0 yG1 yG2 yG3 yG4 yG5 yG6 yG7 hlG
        go_wp2
        go_roundw
        case rel => exact ⟨k + 1, by omega, by go_num, fun j hj => by
          by_cases hjk : j = k
          · subst hjk; exact hst
          · exact HL.out j (by omega), bthen HB1.out (by repeat (first | exact Below.refl _ _ | refine bthen ?_ (by assumption) | apply Below.drew))⟩
        case measure => simp [intOf]; omega
      obtain ⟨m, hm⟩ : ∃ m, k = m + 1 := ⟨k - 1, by omega⟩
      have hkm : (k : Int) - 1 = (m : Int) := by omega
      have hk1 : (0 : Int) < k := by omega
      have hmn : (m : Int) < n := by omega
      have hmk : k - 1 = m := by omega
      have CM : Hid (wr.cell? ⟨B, m * 8 + 2, none⟩ = some (.int .i64 (F m).V.c)) := by
        obtain ⟨_, _, _, _, _, _, hcs, _⟩ := OW.out.2 m (by omega)
        exact hcs.2.2.1
      by_cases hl : (F k).V.c ≤ (F m).V.c
      · have hst : stepH c d F k = false := by
          have : ¬ (F m).V.c < (F k).V.c := by omega
          simp [stepH, hh, hk0, hmk, this]
        clear hmk hk0
        have hm1 : m < k := by omega
        clear hm
        obtain ⟨c0, c1, c2, c3, c4, c5, c6, c7⟩ := HCS.out
        have yM0 : wr.cell? ⟨w.heap.size, 0, none⟩ = some (.int .i64 c) := (MW.out.2 0 (by simp)).1
        have yM1 : wr.cell? ⟨w.heap.size, 1, none⟩ = some (.int .i64 d) := (MW.out.2 1 (by simp)).1
        have hlM : w.heap.size < wr.heap.size := MW.out.1
        have yV0 : wr.cell? ⟨(w.heap.size + 1), 0, none⟩ = some (.bool true) := (VW.out.2 0 (by simp)).1
        have yV1 : wr.cell? ⟨(w.heap.size + 1), 1, none⟩ = some (.slice (some ⟨B, 0, none⟩) n n) := (VW.out.2 1 (by simp)).1
        have yV2 : wr.cell? ⟨(w.heap.size + 1), 2, none⟩ = some (.slice aG g cG) := (VW.out.2 2 (by simp)).1
        have hlV : (w.heap.size + 1) < wr.heap.size := VW.out.1
        go_wp2
        obtain ⟨w1, e1⟩ : ∃ w1, w1 = wr.alloc (.cells #[.int .i64 (F k).ag, .int .i64 (F k).ct, .int .i64 (F k).V.c, .slice (some ⟨bW, 0, none⟩) (F k).V.nW (F k).V.nW, .int .i64 (F k).V.g, .slice (some ⟨bO, 0, none⟩) (F k).V.nO (F k).V.nO, .slice (some ⟨bX, 0, none⟩) (F k).V.nX (F k).V.nX, .slice (some ⟨bI, 0, none⟩) (F k).V.nI (F k).V.nI] 45) := ⟨_, rfl⟩
        rw [← e1]
        have hb1 : Below wr.heap.size wr w1 := by rw [e1]; exact (Below.refl _ _).alloc (Nat.le_refl _) _
        have X1 : Hid (Bk w1 wr.heap.size [.int .i64 (F k).ag, .int .i64 (F k).ct, .int .i64 (F k).V.c, .slice (some ⟨bW, 0, none⟩) (F k).V.nW (F k).V.nW, .int .i64 (F k).V.g, .slice (some ⟨bO, 0, none⟩) (F k).V.nO (F k).V.nO, .slice (some ⟨bX, 0, none⟩) (F k).V.nX (F k).V.nX, .slice (some ⟨bI, 0, none⟩) (F k).V.nI (F k).V.nI]) := by rw [e1]; exact bk_new wr 45 [.int .i64 (F k).ag, .int .i64 (F k).ct, .int .i64 (F k).V.c, .slice (some ⟨bW, 0, none⟩) (F k).V.nW (F k).V.nW, .int .i64 (F k).V.g, .slice (some ⟨bO, 0, none⟩) (F k).V.nO (F k).V.nO, .slice (some ⟨bX, 0, none⟩) (F k).V.nX (F k).V.nX, .slice (some ⟨bI, 0, none⟩) (F k).V.nI (F k).V.nI]
        clear e1
        clear yM0 yM1 hlM yV0 yV1 yV2 hlV
        clear c0 c1 c2 c3 c4 c5 c6 c7
        have HB1 : Hid (Below w2.heap.size w2 w1) := bthen HB.out hb1
        have BW1 : Hid (Below w.heap.size w w1) := bthen BW.out hb1
        have MW1 : Hid (Bk w1 w.heap.size [.int .i64 c, .int .i64 d]) := MW.out.below hb1
        have VW1 : Hid (Bk w1 (w.heap.size + 1) [.bool true, .slice (some ⟨B, 0, none⟩) n n, .slice aG g cG]) := VW.out.below hb1
        have HCP1 : Hid (HCopy lo w1 (.agg #[.int .i64 (F k).ag, .int .i64 (F k).ct, .int .i64 (F k).V.c, .slice (some ⟨bW, 0, none⟩) (F k).V.nW (F k).V.nW, .int .i64 (F k).V.g, .slice (some ⟨bO, 0, none⟩) (F k).V.nO (F k).V.nO, .slice (some ⟨bX, 0, none⟩) (F k).V.nX (F k).V.nX, .slice (some ⟨bI, 0, none⟩) (F k).V.nI (F k).V.nI]) (F k).ag (F k).ct (F k).V) := HCP.out.below hb1
        have hBw1 : B < w1.heap.size := Nat.lt_of_lt_of_le hBw hb1.size
        have cm : w1.cell? ⟨B, m * 8 + 2, none⟩ = some (.int .i64 (F m).V.c) := (hb1.cell (p := ⟨B, m * 8 + 2, none⟩) hBw).trans CM.out
        clear HCP hb1 MW VW HB BW hBw
        generalize wr.heap.size = gg at *
        have yM0 : w1.cell? ⟨w.heap.size, 0, none⟩ = some (.int .i64 c) := (MW1.out.2 0 (by simp)).1
        have yM1 : w1.cell? ⟨w.heap.size, 1, none⟩ = some (.int .i64 d) := (MW1.out.2 1 (by simp)).1
        have hlM : w.heap.size < w1.heap.size := MW1.out.1
        have yV0 : w1.cell? ⟨(w.heap.size + 1), 0, none⟩ = some (.bool true) := (VW1.out.2 0 (by simp)).1
        have yV1 : w1.cell? ⟨(w.heap.size + 1), 1, none⟩ = some (.slice (some ⟨B, 0, none⟩) n n) := (VW1.out.2 1 (by simp)).1
        have yV2 : w1.cell? ⟨(w.heap.size + 1), 2, none⟩ = some (.slice aG g cG) := (VW1.out.2 2 (by simp)).1
        have hlV : (w.heap.size + 1) < w1.heap.size := VW1.out.1
        have yG0 : w1.cell? ⟨gg, 0, none⟩ = some (.int .i64 (F k).ag) := (X1.out.2 0 (by simp)).1
        have yG1 : w1.cell? ⟨gg, 1, none⟩ = some (.int .i64 (F k).ct) := (X1.out.2 1 (by simp)).1
        have yG2 : w1.cell? ⟨gg, 2, none⟩ = some (.int .i64 (F k).V.c) := (X1.out.2 2 (by simp)).1
        have yG3 : w1.cell? ⟨gg, 3, none⟩ = some (.slice (some ⟨bW, 0, none⟩) (F k).V.nW (F k).V.nW) := (X1.out.2 3 (by simp)).1
        have yG4 : w1.cell? ⟨gg, 4, none⟩ = some (.int .i64 (F k).V.g) := (X1.out.2 4 (by simp)).1
        have yG5 : w1.cell? ⟨gg, 5, none⟩ = some (.slice (some ⟨bO, 0, none⟩) (F k).V.nO (F k).V.nO) := (X1.out.2 5 (by simp)).1
        have yG6 : w1.cell? ⟨gg, 6, none⟩ = some (.slice (some ⟨bX, 0, none⟩) (F k).V.nX (F k).V.nX) := (X1.out.2 6 (by simp)).1
        have yG7 : w1.cell? ⟨gg, 7, none⟩ = some (.slice (some ⟨bI, 0, none⟩) (F k).V.nI (F k).V.nI) := (X1.out.2 7 (by simp)).1
        have hlG : gg < w1.heap.size := X1.out.1
        refine wp_region_held_drew (S := fun w' => (∀ b o, b < w1.heap.size → w'.cell? ⟨b, o, none⟩ = w1.cell? ⟨b, o, none⟩) ∧ w1.heap.size ≤ w'.heap.size) (by kernel_rfl) ⟨fun _ _ _ => rfl, Nat.le_refl _⟩ ?_
        intro hHeld
        refine wpAnyH_take (i := 0) (v := .agg #[.int .i64 c, .int .i64 d]) rfl (by kernel_rfl) (by kernel_rfl) (by kernel_rfl) (fun _ _ _ h => h) (Or.inl ⟨by rfl, ?_⟩) (by assumption) ?_
        · intro wx hSw; go_simp
        try simp only [Act.put, List.setIfInBounds_toArray, List.set_cons_zero, List.set_cons_succ, List.getElem_toArray, List.getElem_cons_zero]
        refine wpAnyH_take (i := 1) (v := .agg #[.int .i64 (F k).ag, .int .i64 (F k).ct, .int .i64 (F k).V.c, .slice (some ⟨bW, 0, none⟩) (F k).V.nW (F k).V.nW, .int .i64 (F k).V.g, .slice (some ⟨bO, 0, none⟩) (F k).V.nO (F k).V.nO, .slice (some ⟨bX, 0, none⟩) (F k).V.nX (F k).V.nX, .slice (some ⟨bI, 0, none⟩) (F k).V.nI (F k).V.nI]) rfl (by kernel_rfl) (by kernel_rfl) (by kernel_rfl) (fun _ _ _ h => h) (Or.inl ⟨by rfl, ?_⟩) (by assumption) ?_
        · intro wx hSw; go_simp
        try simp only [Act.put, List.setIfInBounds_toArray, List.set_cons_zero, List.set_cons_succ, List.getElem_toArray, List.getElem_cons_zero, List.getElem_cons_succ]
        refine wpAnyH_ready (rs := [2]) (by kernel_rfl) (by simp) ?_
        refine AllReadyH.cons rfl (fun K hK => ?_) AllReadyH.nil
        go_simp
        go_wp2_with fail
        refine (hldOk_impl c d _ (F k).ag (F k).ct (F k).V lo (HS.out k hkn) _ (HCP1.out.below Below.drewB)).mono ?_
        rintro e x1 ⟨rfl, hx1⟩
        rw [hh]
        refine hK.out _ _ (keepS (by assumption) hx1) (fun hNew => ?_)
        clear hK K hHeld
        have hHeld := hNew
        clear hNew
        try simp only [Act.put, List.setIfInBounds_toArray, List.set_cons_zero, List.set_cons_succ, List.getElem_toArray, List.getElem_cons_zero, List.getElem_cons_succ]
        refine wpAnyH_take (i := 3) (v := .bool false) rfl (by kernel_rfl) (by kernel_rfl) (by kernel_rfl) (fun _ _ _ h => h) (Or.inl ⟨by rfl, ?_⟩) (by assumption) ?_
        · intro wx hSw; go_simp
        try simp only [Act.put, List.setIfInBounds_toArray, List.set_cons_zero, List.set_cons_succ, List.getElem_toArray, List.getElem_cons_zero, List.getElem_cons_succ]
        refine wpAnyH_take (i := 4) (v := .bool false) rfl (by kernel_rfl) (by kernel_rfl) (by kernel_rfl) (fun _ _ _ h => h) (Or.inl ⟨by rfl, ?_⟩) (by assumption) ?_
        · intro wx hSw; go_simp
        try simp only [Act.put, List.setIfInBounds_toArray, List.set_cons_zero, List.set_cons_succ, List.getElem_toArray, List.getElem_cons_zero, List.getElem_cons_succ]
        refine wpAnyH_take (i := 5) (v := .int .i64 (k : Int)) rfl (by kernel_rfl) (by kernel_rfl) (by kernel_rfl) (fun _ _ _ h => h) (Or.inl ⟨by rfl, ?_⟩) (by assumption) ?_
        · intro wx hSw; go_simp
        try simp only [Act.put, List.setIfInBounds_toArray, List.set_cons_zero, List.set_cons_succ, List.getElem_toArray, List.getElem_cons_zero, List.getElem_cons_succ]
        refine wpAnyH_take (i := 6) (v := .bool true) rfl (by kernel_rfl) (by kernel_rfl) (by kernel_rfl) (fun _ _ _ h => h) (Or.inl ⟨by rfl, ?_⟩) (by assumption) ?_
        · intro wx hSw; go_simp <;> first | omega | (exact IntWalk.i64_in _ (by omega)) | go_num
        try simp only [Act.put, List.setIfInBounds_toArray, List.set_cons_zero, List.set_cons_succ, List.getElem_toArray, List.getElem_cons_zero, List.getElem_cons_succ]
        refine wpAnyH_take (i := 7) (v := .bool true) rfl (by kernel_rfl) (by kernel_rfl) (by kernel_rfl) (fun _ _ _ h => h) (Or.inl ⟨by rfl, ?_⟩) (by assumption) ?_
        · intro wx hSw; go_simp
        try simp only [Act.put, List.setIfInBounds_toArray, List.set_cons_zero, List.set_cons_succ, List.getElem_toArray, List.getElem_cons_zero, List.getElem_cons_succ]
        refine wpAnyH_take (i := 8) (v := .pointer (some ⟨(w.heap.size + 1), 1, none⟩)) rfl (by kernel_rfl) (by kernel_rfl) (by kernel_rfl) (fun _ _ _ h => h) (Or.inl ⟨by rfl, ?_⟩) (by assumption) ?_
        · intro wx hSw; go_simp
        try simp only [Act.put, List.setIfInBounds_toArray, List.set_cons_zero, List.set_cons_succ, List.getElem_toArray, List.getElem_cons_zero, List.getElem_cons_succ]
        refine wpAnyH_take (i := 9) (v := .slice (some ⟨B, 0, none⟩) n n) rfl (by kernel_rfl) (by kernel_rfl) (by kernel_rfl) (fun _ _ _ h => h) (Or.inl ⟨by rfl, ?_⟩) (by assumption) ?_
        · intro wx hSw; go_simp
        try simp only [Act.put, List.setIfInBounds_toArray, List.set_cons_zero, List.set_cons_succ, List.getElem_toArray, List.getElem_cons_zero, List.getElem_cons_succ]
        refine wpAnyH_take (i := 10) (v := .int .i64 (k : Int)) rfl (by kernel_rfl) (by kernel_rfl) (by kernel_rfl) (fun _ _ _ h => h) (Or.inl ⟨by rfl, ?_⟩) (by assumption) ?_
        · intro wx hSw; go_simp
        try simp only [Act.put, List.setIfInBounds_toArray, List.set_cons_zero, List.set_cons_succ, List.getElem_toArray, List.getElem_cons_zero, List.getElem_cons_succ]
        refine wpAnyH_take (i := 11) (v := .int .i64 (m : Int)) rfl (by kernel_rfl) (by kernel_rfl) (by kernel_rfl) (fun _ _ _ h => h) (Or.inl ⟨by rfl, ?_⟩) (by assumption) ?_
        · intro wx hSw; go_simp <;> first | omega | (exact IntWalk.i64_in _ (by omega)) | go_num
        try simp only [Act.put, List.setIfInBounds_toArray, List.set_cons_zero, List.set_cons_succ, List.getElem_toArray, List.getElem_cons_zero, List.getElem_cons_succ]
        refine wpAnyH_take (i := 12) (v := .pointer (some ⟨B, m * 8, none⟩)) rfl (by kernel_rfl) (by kernel_rfl) (by kernel_rfl) (fun _ _ _ h => h) (Or.inl ⟨by rfl, ?_⟩) (by assumption) ?_
        · intro wx hSw; go_simp
        try simp only [Act.put, List.setIfInBounds_toArray, List.set_cons_zero, List.set_cons_succ, List.getElem_toArray, List.getElem_cons_zero, List.getElem_cons_succ]
        refine wpAnyH_take (i := 13) (v := .pointer (some ⟨B, m * 8 + 2, none⟩)) rfl (by kernel_rfl) (by kernel_rfl) (by kernel_rfl) (fun _ _ _ h => h) (Or.inl ⟨by rfl, ?_⟩) (by assumption) ?_
        · intro wx hSw; go_simp
        try simp only [Act.put, List.setIfInBounds_toArray, List.set_cons_zero, List.set_cons_succ, List.getElem_toArray, List.getElem_cons_zero, List.getElem_cons_succ]
        refine wpAnyH_take (i := 14) (v := .pointer (some ⟨B, m * 8 + 2, none⟩)) rfl (by kernel_rfl) (by kernel_rfl) (by kernel_rfl) (fun _ _ _ h => h) (Or.inl ⟨by rfl, ?_⟩) (by assumption) ?_
        · intro wx hSw; go_simp
        try simp only [Act.put, List.setIfInBounds_toArray, List.set_cons_zero, List.set_cons_succ, List.getElem_toArray, List.getElem_cons_zero, List.getElem_cons_succ]
        refine wpAnyH_take (i := 15) (v := .int .i64 (F m).V.c) rfl (by kernel_rfl) (by kernel_rfl) (by kernel_rfl) (fun _ _ _ h => h) (Or.inl ⟨by rfl, ?_⟩) (by assumption) ?_
        · intro wx hSw; go_simp
        try simp only [Act.put, List.setIfInBounds_toArray, List.set_cons_zero, List.set_cons_succ, List.getElem_toArray, List.getElem_cons_zero, List.getElem_cons_succ]
        refine wpAnyH_take (i := 16) (v := .pointer (some ⟨gg, 2, none⟩)) rfl (by kernel_rfl) (by kernel_rfl) (by kernel_rfl) (fun _ _ _ h => h) (Or.inl ⟨by rfl, ?_⟩) (by assumption) ?_
        · intro wx hSw; go_simp
        try simp only [Act.put, List.setIfInBounds_toArray, List.set_cons_zero, List.set_cons_succ, List.getElem_toArray, List.getElem_cons_zero, List.getElem_cons_succ]
        refine wpAnyH_take (i := 17) (v := .pointer (some ⟨gg, 2, none⟩)) rfl (by kernel_rfl) (by kernel_rfl) (by kernel_rfl) (fun _ _ _ h => h) (Or.inl ⟨by rfl, ?_⟩) (by assumption) ?_
        · intro wx hSw; go_simp
        try simp only [Act.put, List.setIfInBounds_toArray, List.set_cons_zero, List.set_cons_succ, List.getElem_toArray, List.getElem_cons_zero, List.getElem_cons_succ]
        refine wpAnyH_take (i := 18) (v := .int .i64 (F k).V.c) rfl (by kernel_rfl) (by kernel_rfl) (by kernel_rfl) (fun _ _ _ h => h) (Or.inl ⟨by rfl, ?_⟩) (by assumption) ?_
        · intro wx hSw; go_simp
        try simp only [Act.put, List.setIfInBounds_toArray, List.set_cons_zero, List.set_cons_succ, List.getElem_toArray, List.getElem_cons_zero, List.getElem_cons_succ]
        refine wpAnyH_take (i := 19) (v := .bool true) rfl (by kernel_rfl) (by kernel_rfl) (by kernel_rfl) (fun _ _ _ h => h) (Or.inl ⟨by rfl, ?_⟩) (by assumption) ?_
        · intro wx hSw; go_simp <;> first | omega | (exact IntWalk.i64_in _ (by omega)) | go_num
        try simp only [Act.put, List.setIfInBounds_toArray, List.set_cons_zero, List.set_cons_succ, List.getElem_toArray, List.getElem_cons_zero, List.getElem_cons_succ]
        refine wpAnyH_take (i := 20) (v := .bool true) rfl (by kernel_rfl) (by kernel_rfl) (by kernel_rfl) (fun _ _ _ h => h) (Or.inl ⟨by rfl, ?_⟩) (by assumption) ?_
        · intro wx hSw; go_simp
        try simp only [Act.put, List.setIfInBounds_toArray, List.set_cons_zero, List.set_cons_succ, List.getElem_toArray, List.getElem_cons_zero, List.getElem_cons_succ]
        refine wpAnyH_take (i := 21) (v := .bool true) rfl (by kernel_rfl) (by kernel_rfl) (by kernel_rfl) (fun _ _ _ h => h) (Or.inl ⟨by rfl, ?_⟩) (by assumption) ?_
        · intro wx hSw; go_simp
        try simp only [Act.put, List.setIfInBounds_toArray, List.set_cons_zero, List.set_cons_succ, List.getElem_toArray, List.getElem_cons_zero, List.getElem_cons_succ]
        refine wpAnyH_done (by kernel_rfl) ?_ _
        clear hHeld
        clear yM0 yM1 hlM yV0 yV1 yV2 hlV yG0 yG1 yG2 yG3 yG4 yG5 yG6 yG7 hlG
        clear cm
        go_wp2
        go_ret
        exact ⟨by rw [holdsB_false hkn hst] <;> rfl, bthen BW1.out (by repeat (first | exact Below.refl _ _ | refine bthen ?_ (by assumption) | apply Below.drew))⟩
      · have hst : stepH c d F k = true := by
          have : (F m).V.c < (F k).V.c := by omega
          simp [stepH, hh, hmk, this]
        clear hmk hk0
        have hm1 : m < k := by omega
        clear hm
        obtain ⟨c0, c1, c2, c3, c4, c5, c6, c7⟩ := HCS.out
        have yM0 : wr.cell? ⟨w.heap.size, 0, none⟩ = some (.int .i64 c) := (MW.out.2 0 (by simp)).1
        have yM1 : wr.cell? ⟨w.heap.size, 1, none⟩ = some (.int .i64 d) := (MW.out.2 1 (by simp)).1
        have hlM : w.heap.size < wr.heap.size := MW.out.1
        have yV0 : wr.cell? ⟨(w.heap.size + 1), 0, none⟩ = some (.bool true) := (VW.out.2 0 (by simp)).1
        have yV1 : wr.cell? ⟨(w.heap.size + 1), 1, none⟩ = some (.slice (some ⟨B, 0, none⟩) n n) := (VW.out.2 1 (by simp)).1
        have yV2 : wr.cell? ⟨(w.heap.size + 1), 2, none⟩ = some (.slice aG g cG) := (VW.out.2 2 (by simp)).1
        have hlV : (w.heap.size + 1) < wr.heap.size := VW.out.1
        go_wp2
        obtain ⟨w1, e1⟩ : ∃ w1, w1 = wr.alloc (.cells #[.int .i64 (F k).ag, .int .i64 (F k).ct, .int .i64 (F k).V.c, .slice (some ⟨bW, 0, none⟩) (F k).V.nW (F k).V.nW, .int .i64 (F k).V.g, .slice (some ⟨bO, 0, none⟩) (F k).V.nO (F k).V.nO, .slice (some ⟨bX, 0, none⟩) (F k).V.nX (F k).V.nX, .slice (some ⟨bI, 0, none⟩) (F k).V.nI (F k).V.nI] 45) := ⟨_, rfl⟩
        rw [← e1]
        have hb1 : Below wr.heap.size wr w1 := by rw [e1]; exact (Below.refl _ _).alloc (Nat.le_refl _) _
        have X1 : Hid (Bk w1 wr.heap.size [.int .i64 (F k).ag, .int .i64 (F k).ct, .int .i64 (F k).V.c, .slice (some ⟨bW, 0, none⟩) (F k).V.nW (F k).V.nW, .int .i64 (F k).V.g, .slice (some ⟨bO, 0, none⟩) (F k).V.nO (F k).V.nO, .slice (some ⟨bX, 0, none⟩) (F k).V.nX (F k).V.nX, .slice (some ⟨bI, 0, none⟩) (F k).V.nI (F k).V.nI]) := by rw [e1]; exact bk_new wr 45 [.int .i64 (F k).ag, .int .i64 (F k).ct, .int .i64 (F k).V.c, .slice (some ⟨bW, 0, none⟩) (F k).V.nW (F k).V.nW, .int .i64 (F k).V.g, .slice (some ⟨bO, 0, none⟩) (F k).V.nO (F k).V.nO, .slice (some ⟨bX, 0, none⟩) (F k).V.nX (F k).V.nX, .slice (some ⟨bI, 0, none⟩) (F k).V.nI (F k).V.nI]
        clear e1
        clear yM0 yM1 hlM yV0 yV1 yV2 hlV
        clear c0 c1 c2 c3 c4 c5 c6 c7
        have HB1 : Hid (Below w2.heap.size w2 w1) := bthen HB.out hb1
        have BW1 : Hid (Below w.heap.size w w1) := bthen BW.out hb1
        have MW1 : Hid (Bk w1 w.heap.size [.int .i64 c, .int .i64 d]) := MW.out.below hb1
        have VW1 : Hid (Bk w1 (w.heap.size + 1) [.bool true, .slice (some ⟨B, 0, none⟩) n n, .slice aG g cG]) := VW.out.below hb1
        have HCP1 : Hid (HCopy lo w1 (.agg #[.int .i64 (F k).ag, .int .i64 (F k).ct, .int .i64 (F k).V.c, .slice (some ⟨bW, 0, none⟩) (F k).V.nW (F k).V.nW, .int .i64 (F k).V.g, .slice (some ⟨bO, 0, none⟩) (F k).V.nO (F k).V.nO, .slice (some ⟨bX, 0, none⟩) (F k).V.nX (F k).V.nX, .slice (some ⟨bI, 0, none⟩) (F k).V.nI (F k).V.nI]) (F k).ag (F k).ct (F k).V) := HCP.out.below hb1
        have hBw1 : B < w1.heap.size := Nat.lt_of_lt_of_le hBw hb1.size
        have cm : w1.cell? ⟨B, m * 8 + 2, none⟩ = some (.int .i64 (F m).V.c) := (hb1.cell (p := ⟨B, m * 8 + 2, none⟩) hBw).trans CM.out
        clear HCP hb1 MW VW HB BW hBw
        generalize wr.heap.size = gg at *
        have yM0 : w1.cell? ⟨w.heap.size, 0, none⟩ = some (.int .i64 c) := (MW1.out.2 0 (by simp)).1
        have yM1 : w1.cell? ⟨w.heap.size, 1, none⟩ = some (.int .i64 d) := (MW1.out.2 1 (by simp)).1
        have hlM : w.heap.size < w1.heap.size := MW1.out.1
        have yV0 : w1.cell? ⟨(w.heap.size + 1), 0, none⟩ = some (.bool true) := (VW1.out.2 0 (by simp)).1
        have yV1 : w1.cell? ⟨(w.heap.size + 1), 1, none⟩ = some (.slice (some ⟨B, 0, none⟩) n n) := (VW1.out.2 1 (by simp)).1
        have yV2 : w1.cell? ⟨(w.heap.size + 1), 2, none⟩ = some (.slice aG g cG) := (VW1.out.2 2 (by simp)).1
        have hlV : (w.heap.size + 1) < w1.heap.size := VW1.out.1
        have yG0 : w1.cell? ⟨gg, 0, none⟩ = some (.int .i64 (F k).ag) := (X1.out.2 0 (by simp)).1
        have yG1 : w1.cell? ⟨gg, 1, none⟩ = some (.int .i64 (F k).ct) := (X1.out.2 1 (by simp)).1
        have yG2 : w1.cell? ⟨gg, 2, none⟩ = some (.int .i64 (F k).V.c) := (X1.out.2 2 (by simp)).1
        have yG3 : w1.cell? ⟨gg, 3, none⟩ = some (.slice (some ⟨bW, 0, none⟩) (F k).V.nW (F k).V.nW) := (X1.out.2 3 (by simp)).1
        have yG4 : w1.cell? ⟨gg, 4, none⟩ = some (.int .i64 (F k).V.g) := (X1.out.2 4 (by simp)).1
        have yG5 : w1.cell? ⟨gg, 5, none⟩ = some (.slice (some ⟨bO, 0, none⟩) (F k).V.nO (F k).V.nO) := (X1.out.2 5 (by simp)).1
        have yG6 : w1.cell? ⟨gg, 6, none⟩ = some (.slice (some ⟨bX, 0, none⟩) (F k).V.nX (F k).V.nX) := (X1.out.2 6 (by simp)).1
        have yG7 : w1.cell? ⟨gg, 7, none⟩ = some (.slice (some ⟨bI, 0, none⟩) (F k).V.nI (F k).V.nI) := (X1.out.2 7 (by simp)).1
        have hlG : gg < w1.heap.size := X1.out.1
        refine wp_region_held_drew (S := fun w' => (∀ b o, b < w1.heap.size → w'.cell? ⟨b, o, none⟩ = w1.cell? ⟨b, o, none⟩) ∧ w1.heap.size ≤ w'.heap.size) (by kernel_rfl) ⟨fun _ _ _ => rfl, Nat.le_refl _⟩ ?_
        intro hHeld
        refine wpAnyH_take (i := 0) (v := .agg #[.int .i64 c, .int .i64 d]) rfl (by kernel_rfl) (by kernel_rfl) (by kernel_rfl) (fun _ _ _ h => h) (Or.inl ⟨by rfl, ?_⟩) (by assumption) ?_
        · intro wx hSw; go_simp
        try simp only [Act.put, List.setIfInBounds_toArray, List.set_cons_zero, List.set_cons_succ, List.getElem_toArray, List.getElem_cons_zero]
        refine wpAnyH_take (i := 1) (v := .agg #[.int .i64 (F k).ag, .int .i64 (F k).ct, .int .i64 (F k).V.c, .slice (some ⟨bW, 0, none⟩) (F k).V.nW (F k).V.nW, .int .i64 (F k).V.g, .slice (some ⟨bO, 0, none⟩) (F k).V.nO (F k).V.nO, .slice (some ⟨bX, 0, none⟩) (F k).V.nX (F k).V.nX, .slice (some ⟨bI, 0, none⟩) (F k).V.nI (F k).V.nI]) rfl (by kernel_rfl) (by kernel_rfl) (by kernel_rfl) (fun _ _ _ h => h) (Or.inl ⟨by rfl, ?_⟩) (by assumption) ?_
        · intro wx hSw; go_simp
        try simp only [Act.put, List.setIfInBounds_toArray, List.set_cons_zero, List.set_cons_succ, List.getElem_toArray, List.getElem_cons_zero, List.getElem_cons_succ]
        refine wpAnyH_ready (rs := [2]) (by kernel_rfl) (by simp) ?_
        refine AllReadyH.cons rfl (fun K hK => ?_) AllReadyH.nil
        go_simp
        go_wp2_with fail
        refine (hldOk_impl c d _ (F k).ag (F k).ct (F k).V lo (HS.out k hkn) _ (HCP1.out.below Below.drewB)).mono ?_
        rintro e x1 ⟨rfl, hx1⟩
        rw [hh]
        refine hK.out _ _ (keepS (by assumption) hx1) (fun hNew => ?_)
        clear hK K hHeld
        have hHeld := hNew
        clear hNew
        try simp only [Act.put, List.setIfInBounds_toArray, List.set_cons_zero, List.set_cons_succ, List.getElem_toArray, List.getElem_cons_zero, List.getElem_cons_succ]
        refine wpAnyH_take (i := 3) (v := .bool false) rfl (by kernel_rfl) (by kernel_rfl) (by kernel_rfl) (fun _ _ _ h => h) (Or.inl ⟨by rfl, ?_⟩) (by assumption) ?_
        · intro wx hSw; go_simp
        try simp only [Act.put, List.setIfInBounds_toArray, List.set_cons_zero, List.set_cons_succ, List.getElem_toArray, List.getElem_cons_zero, List.getElem_cons_succ]
        refine wpAnyH_take (i := 4) (v := .bool false) rfl (by kernel_rfl) (by kernel_rfl) (by kernel_rfl) (fun _ _ _ h => h) (Or.inl ⟨by rfl, ?_⟩) (by assumption) ?_
        · intro wx hSw; go_simp
        try simp only [Act.put, List.setIfInBounds_toArray, List.set_cons_zero, List.set_cons_succ, List.getElem_toArray, List.getElem_cons_zero, List.getElem_cons_succ]
        refine wpAnyH_take (i := 5) (v := .int .i64 (k : Int)) rfl (by kernel_rfl) (by kernel_rfl) (by kernel_rfl) (fun _ _ _ h => h) (Or.inl ⟨by rfl, ?_⟩) (by assumption) ?_
        · intro wx hSw; go_simp
        try simp only [Act.put, List.setIfInBounds_toArray, List.set_cons_zero, List.set_cons_succ, List.getElem_toArray, List.getElem_cons_zero, List.getElem_cons_succ]
        refine wpAnyH_take (i := 6) (v := .bool true) rfl (by kernel_rfl) (by kernel_rfl) (by kernel_rfl) (fun _ _ _ h => h) (Or.inl ⟨by rfl, ?_⟩) (by assumption) ?_
        · intro wx hSw; go_simp <;> first | omega | (exact IntWalk.i64_in _ (by omega)) | go_num
        try simp only [Act.put, List.setIfInBounds_toArray, List.set_cons_zero, List.set_cons_succ, List.getElem_toArray, List.getElem_cons_zero, List.getElem_cons_succ]
        refine wpAnyH_take (i := 7) (v := .bool true) rfl (by kernel_rfl) (by kernel_rfl) (by kernel_rfl) (fun _ _ _ h => h) (Or.inl ⟨by rfl, ?_⟩) (by assumption) ?_
        · intro wx hSw; go_simp
        try simp only [Act.put, List.setIfInBounds_toArray, List.set_cons_zero, List.set_cons_succ, List.getElem_toArray, List.getElem_cons_zero, List.getElem_cons_succ]
        refine wpAnyH_take (i := 8) (v := .pointer (some ⟨(w.heap.size + 1), 1, none⟩)) rfl (by kernel_rfl) (by kernel_rfl) (by kernel_rfl) (fun _ _ _ h => h) (Or.inl ⟨by rfl, ?_⟩) (by assumption) ?_
        · intro wx hSw; go_simp
        try simp only [Act.put, List.setIfInBounds_toArray, List.set_cons_zero, List.set_cons_succ, List.getElem_toArray, List.getElem_cons_zero, List.getElem_cons_succ]
        refine wpAnyH_take (i := 9) (v := .slice (some ⟨B, 0, none⟩) n n) rfl (by kernel_rfl) (by kernel_rfl) (by kernel_rfl) (fun _ _ _ h => h) (Or.inl ⟨by rfl, ?_⟩) (by assumption) ?_
        · intro wx hSw; go_simp
        try simp only [Act.put, List.setIfInBounds_toArray, List.set_cons_zero, List.set_cons_succ, List.getElem_toArray, List.getElem_cons_zero, List.getElem_cons_succ]
        refine wpAnyH_take (i := 10) (v := .int .i64 (k : Int)) rfl (by kernel_rfl) (by kernel_rfl) (by kernel_rfl) (fun _ _ _ h => h) (Or.inl ⟨by rfl, ?_⟩) (by assumption) ?_
        · intro wx hSw; go_simp
        try simp only [Act.put, List.setIfInBounds_toArray, List.set_cons_zero, List.set_cons_succ, List.getElem_toArray, List.getElem_cons_zero, List.getElem_cons_succ]
        refine wpAnyH_take (i := 11) (v := .int .i64 (m : Int)) rfl (by kernel_rfl) (by kernel_rfl) (by kernel_rfl) (fun _ _ _ h => h) (Or.inl ⟨by rfl, ?_⟩) (by assumption) ?_
        · intro wx hSw; go_simp <;> first | omega | (exact IntWalk.i64_in _ (by omega)) | go_num
        try simp only [Act.put, List.setIfInBounds_toArray, List.set_cons_zero, List.set_cons_succ, List.getElem_toArray, List.getElem_cons_zero, List.getElem_cons_succ]
        refine wpAnyH_take (i := 12) (v := .pointer (some ⟨B, m * 8, none⟩)) rfl (by kernel_rfl) (by kernel_rfl) (by kernel_rfl) (fun _ _ _ h => h) (Or.inl ⟨by rfl, ?_⟩) (by assumption) ?_
        · intro wx hSw; go_simp
        try simp only [Act.put, List.setIfInBounds_toArray, List.set_cons_zero, List.set_cons_succ, List.getElem_toArray, List.getElem_cons_zero, List.getElem_cons_succ]
        refine wpAnyH_take (i := 13) (v := .pointer (some ⟨B, m * 8 + 2, none⟩)) rfl (by kernel_rfl) (by kernel_rfl) (by kernel_rfl) (fun _ _ _ h => h) (Or.inl ⟨by rfl, ?_⟩) (by assumption) ?_
        · intro wx hSw; go_simp
        try simp only [Act.put, List.setIfInBounds_toArray, List.set_cons_zero, List.set_cons_succ, List.getElem_toArray, List.getElem_cons_zero, List.getElem_cons_succ]
        refine wpAnyH_take (i := 14) (v := .pointer (some ⟨B, m * 8 + 2, none⟩)) rfl (by kernel_rfl) (by kernel_rfl) (by kernel_rfl) (fun _ _ _ h => h) (Or.inl ⟨by rfl, ?_⟩) (by assumption) ?_
        · intro wx hSw; go_simp
        try simp only [Act.put, List.setIfInBounds_toArray, List.set_cons_zero, List.set_cons_succ, List.getElem_toArray, List.getElem_cons_zero, List.getElem_cons_succ]
        refine wpAnyH_take (i := 15) (v := .int .i64 (F m).V.c) rfl (by kernel_rfl) (by kernel_rfl) (by kernel_rfl) (fun _ _ _ h => h) (Or.inl ⟨by rfl, ?_⟩) (by assumption) ?_
        · intro wx hSw; go_simp
        try simp only [Act.put, List.setIfInBounds_toArray, List.set_cons_zero, List.set_cons_succ, List.getElem_toArray, List.getElem_cons_zero, List.getElem_cons_succ]
        refine wpAnyH_take (i := 16) (v := .pointer (some ⟨gg, 2, none⟩)) rfl (by kernel_rfl) (by kernel_rfl) (by kernel_rfl) (fun _ _ _ h => h) (Or.inl ⟨by rfl, ?_⟩) (by assumption) ?_
        · intro wx hSw; go_simp
        try simp only [Act.put, List.setIfInBounds_toArray, List.set_cons_zero, List.set_cons_succ, List.getElem_toArray, List.getElem_cons_zero, List.getElem_cons_succ]
        refine wpAnyH_take (i := 17) (v := .pointer (some ⟨gg, 2, none⟩)) rfl (by kernel_rfl) (by kernel_rfl) (by kernel_rfl) (fun _ _ _ h => h) (Or.inl ⟨by rfl, ?_⟩) (by assumption) ?_
        · intro wx hSw; go_simp
        try simp only [Act.put, List.setIfInBounds_toArray, List.set_cons_zero, List.set_cons_succ, List.getElem_toArray, List.getElem_cons_zero, List.getElem_cons_succ]
        refine wpAnyH_take (i := 18) (v := .int .i64 (F k).V.c) rfl (by kernel_rfl) (by kernel_rfl) (by kernel_rfl) (fun _ _ _ h => h) (Or.inl ⟨by rfl, ?_⟩) (by assumption) ?_
        · intro wx hSw; go_simp
        try simp only [Act.put, List.setIfInBounds_toArray, List.set_cons_zero, List.set_cons_succ, List.getElem_toArray, List.getElem_cons_zero, List.getElem_cons_succ]
        refine wpAnyH_take (i := 19) (v := .bool false) rfl (by kernel_rfl) (by kernel_rfl) (by kernel_rfl) (fun _ _ _ h => h) (Or.inl ⟨by rfl, ?_⟩) (by assumption) ?_
        · intro wx hSw; go_simp <;> first | omega | (exact IntWalk.i64_in _ (by omega)) | go_num
        try simp only [Act.put, List.setIfInBounds_toArray, List.set_cons_zero, List.set_cons_succ, List.getElem_toArray, List.getElem_cons_zero, List.getElem_cons_succ]
        refine wpAnyH_take (i := 20) (v := .bool false) rfl (by kernel_rfl) (by kernel_rfl) (by kernel_rfl) (fun _ _ _ h => h) (Or.inl ⟨by rfl, ?_⟩) (by assumption) ?_
        · intro wx hSw; go_simp
        try simp only [Act.put, List.setIfInBounds_toArray, List.set_cons_zero, List.set_cons_succ, List.getElem_toArray, List.getElem_cons_zero, List.getElem_cons_succ]
        refine wpAnyH_take (i := 21) (v := .bool false) rfl (by kernel_rfl) (by kernel_rfl) (by kernel_rfl) (fun _ _ _ h => h) (Or.inl ⟨by rfl, ?_⟩) (by assumption) ?_
        · intro wx hSw; go_simp
        try simp only [Act.put, List.setIfInBounds_toArray, List.set_cons_zero, List.set_cons_succ, List.getElem_toArray, List.getElem_cons_zero, List.getElem_cons_succ]
        refine wpAnyH_done (by kernel_rfl) ?_ _
        clear hHeld
        clear yM0 yM1 hlM yV0 yV1 yV2 hlV yG0 yG1 yG2 yG3 yG4 yG5 yG6 yG7 hlG
        clear cm
        go_wp2
        go_roundw
        case rel => exact ⟨k + 1, by omega, by go_num, fun j hj => by
          by_cases hjk : j = k
          · subst hjk; exact hst
          · exact HL.out j (by omega), bthen HB1.out (by repeat (first | exact Below.refl _ _ | refine bthen ?_ (by assumption) | apply Below.drew))⟩
        case measure => simp [intOf]; omega
    · have hkk : k = n := by omega
      subst hkk
      have yV0 : wr.cell? ⟨(w.heap.size + 1), 0, none⟩ = some (.bool true) := (VW.out.2 0 (by simp)).1
      have yV1 : wr.cell? ⟨(w.heap.size + 1), 1, none⟩ = some (.slice (some ⟨B, 0, none⟩) k k) := (VW.out.2 1 (by simp)).1
      have yV2 : wr.cell? ⟨(w.heap.size + 1), 2, none⟩ = some (.slice aG g cG) := (VW.out.2 2 (by simp)).1
      have hlV : (w.heap.size + 1) < wr.heap.size := VW.out.1
      go_wp2
      go_ret
      exact ⟨by rw [holdsB_true HL.out] <;> rfl, BW.out⟩

set_option maxRecDepth 100000 in
set_option maxHeartbeats 4000000 in
theorem implU (c d : Int) (up : Bool) (B n : Nat) (F : Nat → HV) (aG : Option Addr) (g cG : Nat) (Z : Nat → Nat → Int) (hn : n ≤ 1048576) (hg : g ≤ 1048576) (hS : ∀ k, k < n → (F k).V.short 1048576) (w : World) (hB : B < w.heap.size) (h : HOwn w B n F n) (hG : P7.RowK w aG g Z) (h0 : okB c d = true) (h1 : ghostsB c d g Z = true) :
    Calls Try.prog 9 #[.agg #[.int .i64 c, .int .i64 d], .agg #[.bool false, .slice (some ⟨B, 0, none⟩) n n, .slice aG g cG]] w fun e w' => e = .returned (.bool ((decide (n = 0) && decide (g = 0)) && holdsB c d n F)) ∧ Below w.heap.size w w' := by
  have HO : Hid (HOwn w B n F n) := h
  have HG : Hid (P7.RowK w aG g Z) := hG
  have HS : Hid (∀ k, k < n → (F k).V.short 1048576) := hS
  clear h hG hS
  go_enter Try.func9, Try.ntmps9
  go_wp2_with fail
  obtain ⟨w0, e0⟩ : ∃ w0, w0 = (w.alloc (.cells #[.int .i64 c, .int .i64 d] 30)).alloc (.cells #[.bool false, .slice (some ⟨B, 0, none⟩) n n, .slice aG g cG] 35) := ⟨_, rfl⟩
  have B1 : Hid (Below w.heap.size w w0) := by rw [e0]; exact ((Below.refl _ _).alloc (by simp) _).alloc (by simp) _
  have M2 : Hid (Bk w0 w.heap.size [.int .i64 c, .int .i64 d]) := by rw [e0]; exact (bk_new w 30 [.int .i64 c, .int .i64 d]).below ((Below.refl _ _).alloc (Nat.le_refl _) _)
  have V3 : Hid (Bk w0 (w.heap.size + 1) [.bool false, .slice (some ⟨B, 0, none⟩) n n, .slice aG g cG]) := by rw [e0]; have := bk_new (w.alloc (.cells #[.int .i64 c, .int .i64 d] 30)) 35 [.bool false, .slice (some ⟨B, 0, none⟩) n n, .slice aG g cG]; rwa [show (w.alloc (.cells #[.int .i64 c, .int .i64 d] 30)).heap.size = w.heap.size + 1 by simp] at this
  rw [← e0]
  clear e0
  refine (ok_impl _ _ _).mono ?_
  rintro e w1 ⟨rfl, hb1⟩
  have B4 : Hid (Below w.heap.size w w1) := bthen B1.out hb1
  have M4 : Hid (Bk w1 w.heap.size [.int .i64 c, .int .i64 d]) := M2.out.below hb1
  have V4 : Hid (Bk w1 (w.heap.size + 1) [.bool false, .slice (some ⟨B, 0, none⟩) n n, .slice aG g cG]) := V3.out.below hb1
  clear B1 M2 V3
  clear hb1
  rw [h0]
  have yM0 : w1.cell? ⟨w.heap.size, 0, none⟩ = some (.int .i64 c) := (M4.out.2 0 (by simp)).1
  have yM1 : w1.cell? ⟨w.heap.size, 1, none⟩ = some (.int .i64 d) := (M4.out.2 1 (by simp)).1
  have hlM : w.heap.size < w1.heap.size := M4.out.1
  have yV0 : w1.cell? ⟨(w.heap.size + 1), 0, none⟩ = some (.bool false) := (V4.out.2 0 (by simp)).1
  have yV1 : w1.cell? ⟨(w.heap.size + 1), 1, none⟩ = some (.slice (some ⟨B, 0, none⟩) n n) := (V4.out.2 1 (by simp)).1
  have yV2 : w1.cell? ⟨(w.heap.size + 1), 2, none⟩ = some (.slice aG g cG) := (V4.out.2 2 (by simp)).1
  have hlV : (w.heap.size + 1) < w1.heap.size := V4.out.1
  go_wp2_with fail
  refine (ghosts_impl c d aG g cG Z (by omega) _ (P7.row_below HG.out B4.out)).mono ?_
  rintro e w2 ⟨rfl, hb2⟩
  clear yM0 yM1 hlM yV0 yV1 yV2 hlV
  have B5 : Hid (Below w.heap.size w w2) := bthen B4.out hb2
  have M5 : Hid (Bk w2 w.heap.size [.int .i64 c, .int .i64 d]) := M4.out.below hb2
  have V5 : Hid (Bk w2 (w.heap.size + 1) [.bool false, .slice (some ⟨B, 0, none⟩) n n, .slice aG g cG]) := V4.out.below hb2
  clear B4 M4 V4
  clear hb2
  rw [h1]
  have yM0 : w2.cell? ⟨w.heap.size, 0, none⟩ = some (.int .i64 c) := (M5.out.2 0 (by simp)).1
  have yM1 : w2.cell? ⟨w.heap.size, 1, none⟩ = some (.int .i64 d) := (M5.out.2 1 (by simp)).1
  have hlM : w.heap.size < w2.heap.size := M5.out.1
  have yV0 : w2.cell? ⟨(w.heap.size + 1), 0, none⟩ = some (.bool false) := (V5.out.2 0 (by simp)).1
  have yV1 : w2.cell? ⟨(w.heap.size + 1), 1, none⟩ = some (.slice (some ⟨B, 0, none⟩) n n) := (V5.out.2 1 (by simp)).1
  have yV2 : w2.cell? ⟨(w.heap.size + 1), 2, none⟩ = some (.slice aG g cG) := (V5.out.2 2 (by simp)).1
  have hlV : (w.heap.size + 1) < w2.heap.size := V5.out.1
  go_wp2
  clear yM0 yM1 hlM yV0 yV1 yV2 hlV
  go_loopw [20] (fun i wr => ∃ k : Nat, k ≤ n ∧ i = .int .i64 k ∧ (∀ j, j < k → stepH c d F j = true) ∧ Below w2.heap.size w2 wr) (fun i _ => n - (intOf i).toNat)
  case atStart => exact ⟨0, Nat.zero_le _, rfl, fun _ h => absurd h (by omega), Below.refl _ _⟩
  case round =>
    obtain ⟨k, hk, rfl, hall, hbel⟩ := hrel
    have HL : Hid (∀ j, j < k → stepH c d F j = true) := hall
    have HB : Hid (Below w2.heap.size w2 wr) := hbel
    have BW : Hid (Below w.heap.size w wr) := bthen B5.out hbel
    have MW : Hid (Bk wr w.heap.size [.int .i64 c, .int .i64 d]) := M5.out.below hbel
    have VW : Hid (Bk wr (w.heap.size + 1) [.bool false, .slice (some ⟨B, 0, none⟩) n n, .slice aG g cG]) := V5.out.below hbel
    have OW : Hid (HOwn wr B n F n) := HO.out.below hB BW.out
    clear hall hbel B5 M5 V5
    have hBw : B < wr.heap.size := Nat.lt_of_lt_of_le hB BW.out.size
    by_cases hkn : k < n
    · have hkn' : (k : Int) < n := by omega
      obtain ⟨lo, bW, bO, bX, bI, hlo, hcs, hcp⟩ := OW.out.2 k hkn
      have HCP : Hid (HCopy lo wr (.agg #[.int .i64 (F k).ag, .int .i64 (F k).ct, .int .i64 (F k).V.c, .slice (some ⟨bW, 0, none⟩) (F k).V.nW (F k).V.nW, .int .i64 (F k).V.g, .slice (some ⟨bO, 0, none⟩) (F k).V.nO (F k).V.nO, .slice (some ⟨bX, 0, none⟩) (F k).V.nX (F k).V.nX, .slice (some ⟨bI, 0, none⟩) (F k).V.nI (F k).V.nI]) (F k).ag (F k).ct (F k).V) := ⟨bW, bO, bX, bI, rfl, hcp⟩
      have HCS : Hid (wr.cell? ⟨B, k * 8, none⟩ = some (.int .i64 (F k).ag) ∧ wr.cell? ⟨B, k * 8 + 1, none⟩ = some (.int .i64 (F k).ct) ∧ wr.cell? ⟨B, k * 8 + 2, none⟩ = some (.int .i64 (F k).V.c) ∧ wr.cell? ⟨B, k * 8 + 3, none⟩ = some (.slice (some ⟨bW, 0, none⟩) (F k).V.nW (F k).V.nW) ∧ wr.cell? ⟨B, k * 8 + 4, none⟩ = some (.int .i64 (F k).V.g) ∧ wr.cell? ⟨B, k * 8 + 5, none⟩ = some (.slice (some ⟨bO, 0, none⟩) (F k).V.nO (F k).V.nO) ∧ wr.cell? ⟨B, k * 8 + 6, none⟩ = some (.slice (some ⟨bX, 0, none⟩) (F k).V.nX (F k).V.nX) ∧ wr.cell? ⟨B, k * 8 + 7, none⟩ = some (.slice (some ⟨bI, 0, none⟩) (F k).V.nI (F k).V.nI)) := hcs
      clear hcp hcs
      cases hh : hldB c d (F k).ag (F k).ct (F k).V
      · have hst : stepH c d F k = false := by simp [stepH, hh]
        obtain ⟨c0, c1, c2, c3, c4, c5, c6, c7⟩ := HCS.out
        have yM0 : wr.cell? ⟨w.heap.size, 0, none⟩ = some (.int .i64 c) := (MW.out.2 0 (by simp)).1
        have yM1 : wr.cell? ⟨w.heap.size, 1, none⟩ = some (.int .i64 d) := (MW.out.2 1 (by simp)).1
        have hlM : w.heap.size < wr.heap.size := MW.out.1
        have yV0 : wr.cell? ⟨(w.heap.size + 1), 0, none⟩ = some (.bool false) := (VW.out.2 0 (by simp)).1
        have yV1 : wr.cell? ⟨(w.heap.size + 1), 1, none⟩ = some (.slice (some ⟨B, 0, none⟩) n n) := (VW.out.2 1 (by simp)).1
        have yV2 : wr.cell? ⟨(w.heap.size + 1), 2, none⟩ = some (.slice aG g cG) := (VW.out.2 2 (by simp)).1
        have hlV : (w.heap.size + 1) < wr.heap.size := VW.out.1
        go_wp2
        obtain ⟨w1, e1⟩ : ∃ w1, w1 = wr.alloc (.cells #[.int .i64 (F k).ag, .int .i64 (F k).ct, .int .i64 (F k).V.c, .slice (some ⟨bW, 0, none⟩) (F k).V.nW (F k).V.nW, .int .i64 (F k).V.g, .slice (some ⟨bO, 0, none⟩) (F k).V.nO (F k).V.nO, .slice (some ⟨bX, 0, none⟩) (F k).V.nX (F k).V.nX, .slice (some ⟨bI, 0, none⟩) (F k).V.nI (F k).V.nI] 45) := ⟨_, rfl⟩
        rw [← e1]
        have hb1 : Below wr.heap.size wr w1 := by rw [e1]; exact (Below.refl _ _).alloc (Nat.le_refl _) _
        have X1 : Hid (Bk w1 wr.heap.size [.int .i64 (F k).ag, .int .i64 (F k).ct, .int .i64 (F k).V.c, .slice (some ⟨bW, 0, none⟩) (F k).V.nW (F k).V.nW, .int .i64 (F k).V.g, .slice (some ⟨bO, 0, none⟩) (F k).V.nO (F k).V.nO, .slice (some ⟨bX, 0, none⟩) (F k).V.nX (F k).V.nX, .slice (some ⟨bI, 0, none⟩) (F k).V.nI (F k).V.nI]) := by rw [e1]; exact bk_new wr 45 [.int .i64 (F k).ag, .int .i64 (F k).ct, .int .i64 (F k).V.c, .slice (some ⟨bW, 0, none⟩) (F k).V.nW (F k).V.nW, .int .i64 (F k).V.g, .slice (some ⟨bO, 0, none⟩) (F k).V.nO (F k).V.nO, .slice (some ⟨bX, 0, none⟩) (F k).V.nX (F k).V.nX, .slice (some ⟨bI, 0, none⟩) (F k).V.nI (F k).V.nI]
        clear e1
        clear yM0 yM1 hlM yV0 yV1 yV2 hlV
        clear c0 c1 c2 c3 c4 c5 c6 c7
        have HB1 : Hid (Below w2.heap.size w2 w1) := bthen HB.out hb1
        have BW1 : Hid (Below w.heap.size w w1) := bthen BW.out hb1
        have MW1 : Hid (Bk w1 w.heap.size [.int .i64 c, .int .i64 d]) := MW.out.below hb1
        have VW1 : Hid (Bk w1 (w.heap.size + 1) [.bool false, .slice (some ⟨B, 0, none⟩) n n, .slice aG g cG]) := VW.out.below hb1
        have HCP1 : Hid (HCopy lo w1 (.agg #[.int .i64 (F k).ag, .int .i64 (F k).ct, .int .i64 (F k).V.c, .slice (some ⟨bW, 0, none⟩) (F k).V.nW (F k).V.nW, .int .i64 (F k).V.g, .slice (some ⟨bO, 0, none⟩) (F k).V.nO (F k).V.nO, .slice (some ⟨bX, 0, none⟩) (F k).V.nX (F k).V.nX, .slice (some ⟨bI, 0, none⟩) (F k).V.nI (F k).V.nI]) (F k).ag (F k).ct (F k).V) := HCP.out.below hb1
        have hBw1 : B < w1.heap.size := Nat.lt_of_lt_of_le hBw hb1.size
        clear HCP hb1 MW VW HB BW hBw
        generalize wr.heap.size = gg at *
        have yM0 : w1.cell? ⟨w.heap.size, 0, none⟩ = some (.int .i64 c) := (MW1.out.2 0 (by simp)).1
        have yM1 : w1.cell? ⟨w.heap.size, 1, none⟩ = some (.int .i64 d) := (MW1.out.2 1 (by simp)).1
        have hlM : w.heap.size < w1.heap.size := MW1.out.1
        have yV0 : w1.cell? ⟨(w.heap.size + 1), 0, none⟩ = some (.bool false) := (VW1.out.2 0 (by simp)).1
        have yV1 : w1.cell? ⟨(w.heap.size + 1), 1, none⟩ = some (.slice (some ⟨B, 0, none⟩) n n) := (VW1.out.2 1 (by simp)).1
        have yV2 : w1.cell? ⟨(w.heap.size + 1), 2, none⟩ = some (.slice aG g cG) := (VW1.out.2 2 (by simp)).1
        have hlV : (w.heap.size + 1) < w1.heap.size := VW1.out.1
        have yG0 : w1.cell? ⟨gg, 0, none⟩ = some (.int .i64 (F k).ag) := (X1.out.2 0 (by simp)).1
        have yG1 : w1.cell? ⟨gg, 1, none⟩ = some (.int .i64 (F k).ct) := (X1.out.2 1 (by simp)).1
        have yG2 : w1.cell? ⟨gg, 2, none⟩ = some (.int .i64 (F k).V.c) := (X1.out.2 2 (by simp)).1
        have yG3 : w1.cell? ⟨gg, 3, none⟩ = some (.slice (some ⟨bW, 0, none⟩) (F k).V.nW (F k).V.nW) := (X1.out.2 3 (by simp)).1
        have yG4 : w1.cell? ⟨gg, 4, none⟩ = some (.int .i64 (F k).V.g) := (X1.out.2 4 (by simp)).1
        have yG5 : w1.cell? ⟨gg, 5, none⟩ = some (.slice (some ⟨bO, 0, none⟩) (F k).V.nO (F k).V.nO) := (X1.out.2 5 (by simp)).1
        have yG6 : w1.cell? ⟨gg, 6, none⟩ = some (.slice (some ⟨bX, 0, none⟩) (F k).V.nX (F k).V.nX) := (X1.out.2 6 (by simp)).1
        have yG7 : w1.cell? ⟨gg, 7, none⟩ = some (.slice (some ⟨bI, 0, none⟩) (F k).V.nI (F k).V.nI) := (X1.out.2 7 (by simp)).1
        have hlG : gg < w1.heap.size := X1.out.1
        refine wp_region_held_drew (S := fun w' => (∀ b o, b < w1.heap.size → w'.cell? ⟨b, o, none⟩ = w1.cell? ⟨b, o, none⟩) ∧ w1.heap.size ≤ w'.heap.size) (by kernel_rfl) ⟨fun _ _ _ => rfl, Nat.le_refl _⟩ ?_
        intro hHeld
        refine wpAnyH_take (i := 0) (v := .agg #[.int .i64 c, .int .i64 d]) rfl (by kernel_rfl) (by kernel_rfl) (by kernel_rfl) (fun _ _ _ h => h) (Or.inl ⟨by rfl, ?_⟩) (by assumption) ?_
        · intro wx hSw; go_simp
        try simp only [Act.put, List.setIfInBounds_toArray, List.set_cons_zero, List.set_cons_succ, List.getElem_toArray, List.getElem_cons_zero]
        refine wpAnyH_take (i := 1) (v := .agg #[.int .i64 (F k).ag, .int .i64 (F k).ct, .int .i64 (F k).V.c, .slice (some ⟨bW, 0, none⟩) (F k).V.nW (F k).V.nW, .int .i64 (F k).V.g, .slice (some ⟨bO, 0, none⟩) (F k).V.nO (F k).V.nO, .slice (some ⟨bX, 0, none⟩) (F k).V.nX (F k).V.nX, .slice (some ⟨bI, 0, none⟩) (F k).V.nI (F k).V.nI]) rfl (by kernel_rfl) (by kernel_rfl) (by kernel_rfl) (fun _ _ _ h => h) (Or.inl ⟨by rfl, ?_⟩) (by assumption) ?_
        · intro wx hSw; go_simp
        try simp only [Act.put, List.setIfInBounds_toArray, List.set_cons_zero, List.set_cons_succ, List.getElem_toArray, List.getElem_cons_zero, List.getElem_cons_succ]
        refine wpAnyH_ready (rs := [2]) (by kernel_rfl) (by simp) ?_
        refine AllReadyH.cons rfl (fun K hK => ?_) AllReadyH.nil
        go_simp
        go_wp2_with fail
        refine (hldOk_impl c d _ (F k).ag (F k).ct (F k).V lo (HS.out k hkn) _ (HCP1.out.below Below.drewB)).mono ?_
        rintro e x1 ⟨rfl, hx1⟩
        rw [hh]
        refine hK.out _ _ (keepS (by assumption) hx1) (fun hNew => ?_)
        clear hK K hHeld
        have hHeld := hNew
        clear hNew
        try simp only [Act.put, List.setIfInBounds_toArray, List.set_cons_zero, List.set_cons_succ, List.getElem_toArray, List.getElem_cons_zero, List.getElem_cons_succ]
        refine wpAnyH_take (i := 3) (v := .bool true) rfl (by kernel_rfl) (by kernel_rfl) (by kernel_rfl) (fun _ _ _ h => h) (Or.inl ⟨by rfl, ?_⟩) (by assumption) ?_
        · intro wx hSw; go_simp
        try simp only [Act.put, List.setIfInBounds_toArray, List.set_cons_zero, List.set_cons_succ, List.getElem_toArray, List.getElem_cons_zero, List.getElem_cons_succ]
        refine wpAnyH_take (i := 4) (v := .bool true) rfl (by kernel_rfl) (by kernel_rfl) (by kernel_rfl) (fun _ _ _ h => h) (Or.inl ⟨by rfl, ?_⟩) (by assumption) ?_
        · intro wx hSw; go_simp
        try simp only [Act.put, List.setIfInBounds_toArray, List.set_cons_zero, List.set_cons_succ, List.getElem_toArray, List.getElem_cons_zero, List.getElem_cons_succ]
        refine wpAnyH_take (i := 5) (v := undef) rfl (by kernel_rfl) (by kernel_rfl) (by kernel_rfl) (fun _ _ _ h => h) (Or.inr ⟨by rfl, rfl⟩) (by assumption) ?_
        try simp only [Act.put, List.setIfInBounds_toArray, List.set_cons_zero, List.set_cons_succ, List.getElem_toArray, List.getElem_cons_zero, List.getElem_cons_succ]
        refine wpAnyH_take (i := 6) (v := undef) rfl (by kernel_rfl) (by kernel_rfl) (by kernel_rfl) (fun _ _ _ h => h) (Or.inr ⟨by rfl, rfl⟩) (by assumption) ?_
        try simp only [Act.put, List.setIfInBounds_toArray, List.set_cons_zero, List.set_cons_succ, List.getElem_toArray, List.getElem_cons_zero, List.getElem_cons_succ]
        refine wpAnyH_take (i := 7) (v := undef) rfl (by kernel_rfl) (by kernel_rfl) (by kernel_rfl) (fun _ _ _ h => h) (Or.inr ⟨by rfl, rfl⟩) (by assumption) ?_
        try simp only [Act.put, List.setIfInBounds_toArray, List.set_cons_zero, List.set_cons_succ, List.getElem_toArray, List.getElem_cons_zero, List.getElem_cons_succ]
        refine wpAnyH_take (i := 8) (v := undef) rfl (by kernel_rfl) (by kernel_rfl) (by kernel_rfl) (fun _ _ _ h => h) (Or.inr ⟨by rfl, rfl⟩) (by assumption) ?_
        try simp only [Act.put, List.setIfInBounds_toArray, List.set_cons_zero, List.set_cons_succ, List.getElem_toArray, List.getElem_cons_zero, List.getElem_cons_succ]
        refine wpAnyH_take (i := 9) (v := undef) rfl (by kernel_rfl) (by kernel_rfl) (by kernel_rfl) (fun _ _ _ h => h) (Or.inr ⟨by rfl, rfl⟩) (by assumption) ?_
        try simp only [Act.put, List.setIfInBounds_toArray, List.set_cons_zero, List.set_cons_succ, List.getElem_toArray, List.getElem_cons_zero, List.getElem_cons_succ]
        refine wpAnyH_take (i := 10) (v := undef) rfl (by kernel_rfl) (by kernel_rfl) (by kernel_rfl) (fun _ _ _ h => h) (Or.inr ⟨by rfl, rfl⟩) (by assumption) ?_
        try simp only [Act.put, List.setIfInBounds_toArray, List.set_cons_zero, List.set_cons_succ, List.getElem_toArray, List.getElem_cons_zero, List.getElem_cons_succ]
        refine wpAnyH_take (i := 11) (v := undef) rfl (by kernel_rfl) (by kernel_rfl) (by kernel_rfl) (fun _ _ _ h => h) (Or.inr ⟨by rfl, rfl⟩) (by assumption) ?_
        try simp only [Act.put, List.setIfInBounds_toArray, List.set_cons_zero, List.set_cons_succ, List.getElem_toArray, List.getElem_cons_zero, List.getElem_cons_succ]
        refine wpAnyH_take (i := 12) (v := undef) rfl (by kernel_rfl) (by kernel_rfl) (by kernel_rfl) (fun _ _ _ h => h) (Or.inr ⟨by rfl, rfl⟩) (by assumption) ?_
        try simp only [Act.put, List.setIfInBounds_toArray, List.set_cons_zero, List.set_cons_succ, List.getElem_toArray, List.getElem_cons_zero, List.getElem_cons_succ]
        refine wpAnyH_take (i := 13) (v := undef) rfl (by kernel_rfl) (by kernel_rfl) (by kernel_rfl) (fun _ _ _ h => h) (Or.inr ⟨by rfl, rfl⟩) (by assumption) ?_
        try simp only [Act.put, List.setIfInBounds_toArray, List.set_cons_zero, List.set_cons_succ, List.getElem_toArray, List.getElem_cons_zero, List.getElem_cons_succ]
        refine wpAnyH_take (i := 14) (v := undef) rfl (by kernel_rfl) (by kernel_rfl) (by kernel_rfl) (fun _ _ _ h => h) (Or.inr ⟨by rfl, rfl⟩) (by assumption) ?_
        try simp only [Act.put, List.setIfInBounds_toArray, List.set_cons_zero, List.set_cons_succ, List.getElem_toArray, List.getElem_cons_zero, List.getElem_cons_succ]
        refine wpAnyH_take (i := 15) (v := undef) rfl (by kernel_rfl) (by kernel_rfl) (by kernel_rfl) (fun _ _ _ h => h) (Or.inr ⟨by rfl, rfl⟩) (by assumption) ?_
        try simp only [Act.put, List.setIfInBounds_toArray, List.set_cons_zero, List.set_cons_succ, List.getElem_toArray, List.getElem_cons_zero, List.getElem_cons_succ]
        refine wpAnyH_take (i := 16) (v := undef) rfl (by kernel_rfl) (by kernel_rfl) (by kernel_rfl) (fun _ _ _ h => h) (Or.inr ⟨by rfl, rfl⟩) (by assumption) ?_
        try simp only [Act.put, List.setIfInBounds_toArray, List.set_cons_zero, List.set_cons_succ, List.getElem_toArray, List.getElem_cons_zero, List.getElem_cons_succ]
        refine wpAnyH_take (i := 17) (v := undef) rfl (by kernel_rfl) (by kernel_rfl) (by kernel_rfl) (fun _ _ _ h => h) (Or.inr ⟨by rfl, rfl⟩) (by assumption) ?_
        try simp only [Act.put, List.setIfInBounds_toArray, List.set_cons_zero, List.set_cons_succ, List.getElem_toArray, List.getElem_cons_zero, List.getElem_cons_succ]
        refine wpAnyH_take (i := 18) (v := undef) rfl (by kernel_rfl) (by kernel_rfl) (by kernel_rfl) (fun _ _ _ h => h) (Or.inr ⟨by rfl, rfl⟩) (by assumption) ?_
        try simp only [Act.put, List.setIfInBounds_toArray, List.set_cons_zero, List.set_cons_succ, List.getElem_toArray, List.getElem_cons_zero, List.getElem_cons_succ]
        refine wpAnyH_take (i := 19) (v := undef) rfl (by kernel_rfl) (by kernel_rfl) (by kernel_rfl) (fun _ _ _ h => h) (Or.inr ⟨by rfl, rfl⟩) (by assumption) ?_
        try simp only [Act.put, List.setIfInBounds_toArray, List.set_cons_zero, List.set_cons_succ, List.getElem_toArray, List.getElem_cons_zero, List.getElem_cons_succ]
        refine wpAnyH_take (i := 20) (v := undef) rfl (by kernel_rfl) (by kernel_rfl) (by kernel_rfl) (fun _ _ _ h => h) (Or.inr ⟨by rfl, rfl⟩) (by assumption) ?_
        try simp only [Act.put, List.setIfInBounds_toArray, List.set_cons_zero, List.set_cons_succ, List.getElem_toArray, List.getElem_cons_zero, List.getElem_cons_succ]
        refine wpAnyH_take (i := 21) (v := .bool true) rfl (by kernel_rfl) (by kernel_rfl) (by kernel_rfl) (fun _ _ _ h => h) (Or.inl ⟨by rfl, ?_⟩) (by assumption) ?_
        · intro wx hSw; go_simp
        try simp only [Act.put, List.setIfInBounds_toArray, List.set_cons_zero, List.set_cons_succ, List.getElem_toArray, List.getElem_cons_zero, List.getElem_cons_succ]
        refine wpAnyH_done (by kernel_rfl) ?_ _
        clear hHeld
        clear yM0 yM1 hlM yV0 yV1 yV2 hlV yG0 yG1 yG2 yG3 yG4 yG5 yG6 yG7 hlG
        go_wp2
        go_ret
        exact ⟨by rw [holdsB_false hkn hst, Bool.and_false] <;> rfl, bthen BW1.out (by repeat (first | exact Below.refl _ _ | refine bthen ?_ (by assumption) | apply Below.drew))⟩
      by_cases hk0 : k = 0
      · have hst : stepH c d F k = true := by unfold stepH; rw [hh]; simp [hk0]
        have hk1 : ¬ (0 : Int) < k := by omega
        clear hk0
        obtain ⟨c0, c1, c2, c3, c4, c5, c6, c7⟩ := HCS.out
        have yM0 : wr.cell? ⟨w.heap.size, 0, none⟩ = some (.int .i64 c) := (MW.out.2 0 (by simp)).1
        have yM1 : wr.cell? ⟨w.heap.size, 1, none⟩ = some (.int .i64 d) := (MW.out.2 1 (by simp)).1
        have hlM : w.heap.size < wr.heap.size := MW.out.1
        have yV0 : wr.cell? ⟨(w.heap.size + 1), 0, none⟩ = some (.bool false) := (VW.out.2 0 (by simp)).1
        have yV1 : wr.cell? ⟨(w.heap.size + 1), 1, none⟩ = some (.slice (some ⟨B, 0, none⟩) n n) := (VW.out.2 1 (by simp)).1
        have yV2 : wr.cell? ⟨(w.heap.size + 1), 2, none⟩ = some (.slice aG g cG) := (VW.out.2 2 (by simp)).1
        have hlV : (w.heap.size + 1) < wr.heap.size := VW.out.1
        go_wp2
        obtain ⟨w1, e1⟩ : ∃ w1, w1 = wr.alloc (.cells #[.int .i64 (F k).ag, .int .i64 (F k).ct, .int .i64 (F k).V.c, .slice (some ⟨bW, 0, none⟩) (F k).V.nW (F k).V.nW, .int .i64 (F k).V.g, .slice (some ⟨bO, 0, none⟩) (F k).V.nO (F k).V.nO, .slice (some ⟨bX, 0, none⟩) (F k).V.nX (F k).V.nX, .slice (some ⟨bI, 0, none⟩) (F k).V.nI (F k).V.nI] 45) := ⟨_, rfl⟩
        rw [← e1]
        have hb1 : Below wr.heap.size wr w1 := by rw [e1]; exact (Below.refl _ _).alloc (Nat.le_refl _) _
        have X1 : Hid (Bk w1 wr.heap.size [.int .i64 (F k).ag, .int .i64 (F k).ct, .int .i64 (F k).V.c, .slice (some ⟨bW, 0, none⟩) (F k).V.nW (F k).V.nW, .int .i64 (F k).V.g, .slice (some ⟨bO, 0, none⟩) (F k).V.nO (F k).V.nO, .slice (some ⟨bX, 0, none⟩) (F k).V.nX (F k).V.nX, .slice (some ⟨bI, 0, none⟩) (F k).V.nI (F k).V.nI]) := by rw [e1]; exact bk_new wr 45 [.int .i64 (F k).ag, .int .i64 (F k).ct, .int .i64 (F k).V.c, .slice (some ⟨bW, 0, none⟩) (F k).V.nW (F k).V.nW, .int .i64 (F k).V.g, .slice (some ⟨bO, 0, none⟩) (F k).V.nO (F k).V.nO, .slice (some ⟨bX, 0, none⟩) (F k).V.nX (F k).V.nX, .slice (some ⟨bI, 0, none⟩) (F k).V.nI (F k).V.nI]
        clear e1
        clear yM0 yM1 hlM yV0 yV1 yV2 hlV
        clear c0 c1 c2 c3 c4 c5 c6 c7
        have HB1 : Hid (Below w2.heap.size w2 w1) := bthen HB.out hb1
        have BW1 : Hid (Below w.heap.size w w1) := bthen BW.out hb1
        have MW1 : Hid (Bk w1 w.heap.size [.int .i64 c, .int .i64 d]) := MW.out.below hb1
        have VW1 : Hid (Bk w1 (w.heap.size + 1) [.bool false, .slice (some ⟨B, 0, none⟩) n n, .slice aG g cG]) := VW.out.below hb1
        have HCP1 : Hid (HCopy lo w1 (.agg #[.int .i64 (F k).ag, .int .i64 (F k).ct, .int .i64 (F k).V.c, .slice (some ⟨bW, 0, none⟩) (F k).V.nW (F k).V.nW, .int .i64 (F k).V.g, .slice (some ⟨bO, 0, none⟩) (F k).V.nO (F k).V.nO, .slice (some ⟨bX, 0, none⟩) (F k).V.nX (F k).V.nX, .slice (some ⟨bI, 0, none⟩) (F k).V.nI (F k).V.nI]) (F k).ag (F k).ct (F k).V) := HCP.out.below hb1
        have hBw1 : B < w1.heap.size := Nat.lt_of_lt_of_le hBw hb1.size
        clear HCP hb1 MW VW HB BW hBw
        generalize wr.heap.size = gg at *
        have yM0 : w1.cell? ⟨w.heap.size, 0, none⟩ = some (.int .i64 c) := (MW1.out.2 0 (by simp)).1
        have yM1 : w1.cell? ⟨w.heap.size, 1, none⟩ = some (.int .i64 d) := (MW1.out.2 1 (by simp)).1
        have hlM : w.heap.size < w1.heap.size := MW1.out.1
        have yV0 : w1.cell? ⟨(w.heap.size + 1), 0, none⟩ = some (.bool false) := (VW1.out.2 0 (by simp)).1
        have yV1 : w1.cell? ⟨(w.heap.size + 1), 1, none⟩ = some (.slice (some ⟨B, 0, none⟩) n n) := (VW1.out.2 1 (by simp)).1
        have yV2 : w1.cell? ⟨(w.heap.size + 1), 2, none⟩ = some (.slice aG g cG) := (VW1.out.2 2 (by simp)).1
        have hlV : (w.heap.size + 1) < w1.heap.size := VW1.out.1
        have yG0 : w1.cell? ⟨gg, 0, none⟩ = some (.int .i64 (F k).ag) := (X1.out.2 0 (by simp)).1
        have yG1 : w1.cell? ⟨gg, 1, none⟩ = some (.int .i64 (F k).ct) := (X1.out.2 1 (by simp)).1
        have yG2 : w1.cell? ⟨gg, 2, none⟩ = some (.int .i64 (F k).V.c) := (X1.out.2 2 (by simp)).1
        have yG3 : w1.cell? ⟨gg, 3, none⟩ = some (.slice (some ⟨bW, 0, none⟩) (F k).V.nW (F k).V.nW) := (X1.out.2 3 (by simp)).1
        have yG4 : w1.cell? ⟨gg, 4, none⟩ = some (.int .i64 (F k).V.g) := (X1.out.2 4 (by simp)).1
        have yG5 : w1.cell? ⟨gg, 5, none⟩ = some (.slice (some ⟨bO, 0, none⟩) (F k).V.nO (F k).V.nO) := (X1.out.2 5 (by simp)).1
        have yG6 : w1.cell? ⟨gg, 6, none⟩ = some (.slice (some ⟨bX, 0, none⟩) (F k).V.nX (F k).V.nX) := (X1.out.2 6 (by simp)).1
        have yG7 : w1.cell? ⟨gg, 7, none⟩ = some (.slice (some ⟨bI, 0, none⟩) (F k).V.nI (F k).V.nI) := (X1.out.2 7 (by simp)).1
        have hlG : gg < w1.heap.size := X1.out.1
        refine wp_region_held_drew (S := fun w' => (∀ b o, b < w1.heap.size → w'.cell? ⟨b, o, none⟩ = w1.cell? ⟨b, o, none⟩) ∧ w1.heap.size ≤ w'.heap.size) (by kernel_rfl) ⟨fun _ _ _ => rfl, Nat.le_refl _⟩ ?_
        intro hHeld
        refine wpAnyH_take (i := 0) (v := .agg #[.int .i64 c, .int .i64 d]) rfl (by kernel_rfl) (by kernel_rfl) (by kernel_rfl) (fun _ _ _ h => h) (Or.inl ⟨by rfl, ?_⟩) (by assumption) ?_
        · intro wx hSw; go_simp
        try simp only [Act.put, List.setIfInBounds_toArray, List.set_cons_zero, List.set_cons_succ, List.getElem_toArray, List.getElem_cons_zero]
        refine wpAnyH_take (i := 1) (v := .agg #[.int .i64 (F k).ag, .int .i64 (F k).ct, .int .i64 (F k).V.c, .slice (some ⟨bW, 0, none⟩) (F k).V.nW (F k).V.nW, .int .i64 (F k).V.g, .slice (some ⟨bO, 0, none⟩) (F k).V.nO (F k).V.nO, .slice (some ⟨bX, 0, none⟩) (F k).V.nX (F k).V.nX, .slice (some ⟨bI, 0, none⟩) (F k).V.nI (F k).V.nI]) rfl (by kernel_rfl) (by kernel_rfl) (by kernel_rfl) (fun _ _ _ h => h) (Or.inl ⟨by rfl, ?_⟩) (by assumption) ?_
        · intro wx hSw; go_simp
        try simp only [Act.put, List.setIfInBounds_toArray, List.set_cons_zero, List.set_cons_succ, List.getElem_toArray, List.getElem_cons_zero, List.getElem_cons_succ]
        refine wpAnyH_ready (rs := [2]) (by kernel_rfl) (by simp) ?_
        refine AllReadyH.cons rfl (fun K hK => ?_) AllReadyH.nil
        go_simp
        go_wp2_with fail
        refine (hldOk_impl c d _ (F k).ag (F k).ct (F k).V lo (HS.out k hkn) _ (HCP1.out.below Below.drewB)).mono ?_
        rintro e x1 ⟨rfl, hx1⟩
        rw [hh]
        refine hK.out _ _ (keepS (by assumption) hx1) (fun hNew => ?_)
        clear hK K hHeld
        have hHeld := hNew
        clear hNew
        try simp only [Act.put, List.setIfInBounds_toArray, List.set_cons_zero, List.set_cons_succ, List.getElem_toArray, List.getElem_cons_zero, List.getElem_cons_succ]
        refine wpAnyH_take (i := 3) (v := .bool false) rfl (by kernel_rfl) (by kernel_rfl) (by kernel_rfl) (fun _ _ _ h => h) (Or.inl ⟨by rfl, ?_⟩) (by assumption) ?_
        · intro wx hSw; go_simp
        try simp only [Act.put, List.setIfInBounds_toArray, List.set_cons_zero, List.set_cons_succ, List.getElem_toArray, List.getElem_cons_zero, List.getElem_cons_succ]
        refine wpAnyH_take (i := 4) (v := .bool false) rfl (by kernel_rfl) (by kernel_rfl) (by kernel_rfl) (fun _ _ _ h => h) (Or.inl ⟨by rfl, ?_⟩) (by assumption) ?_
        · intro wx hSw; go_simp
        try simp only [Act.put, List.setIfInBounds_toArray, List.set_cons_zero, List.set_cons_succ, List.getElem_toArray, List.getElem_cons_zero, List.getElem_cons_succ]
        refine wpAnyH_take (i := 5) (v := .int .i64 (k : Int)) rfl (by kernel_rfl) (by kernel_rfl) (by kernel_rfl) (fun _ _ _ h => h) (Or.inl ⟨by rfl, ?_⟩) (by assumption) ?_
        · intro wx hSw; go_simp
        try simp only [Act.put, List.setIfInBounds_toArray, List.set_cons_zero, List.set_cons_succ, List.getElem_toArray, List.getElem_cons_zero, List.getElem_cons_succ]
        refine wpAnyH_take (i := 6) (v := .bool false) rfl (by kernel_rfl) (by kernel_rfl) (by kernel_rfl) (fun _ _ _ h => h) (Or.inl ⟨by rfl, ?_⟩) (by assumption) ?_
        · intro wx hSw; go_simp <;> first | omega | (exact IntWalk.i64_in _ (by omega)) | go_num
        try simp only [Act.put, List.setIfInBounds_toArray, List.set_cons_zero, List.set_cons_succ, List.getElem_toArray, List.getElem_cons_zero, List.getElem_cons_succ]
        refine wpAnyH_take (i := 7) (v := .bool false) rfl (by kernel_rfl) (by kernel_rfl) (by kernel_rfl) (fun _ _ _ h => h) (Or.inl ⟨by rfl, ?_⟩) (by assumption) ?_
        · intro wx hSw; go_simp
        try simp only [Act.put, List.setIfInBounds_toArray, List.set_cons_zero, List.set_cons_succ, List.getElem_toArray, List.getElem_cons_zero, List.getElem_cons_succ]
        refine wpAnyH_take (i := 8) (v := undef) rfl (by kernel_rfl) (by kernel_rfl) (by kernel_rfl) (fun _ _ _ h => h) (Or.inr ⟨by rfl, rfl⟩) (by assumption) ?_
        try simp only [Act.put, List.setIfInBounds_toArray, List.set_cons_zero, List.set_cons_succ, List.getElem_toArray, List.getElem_cons_zero, List.getElem_cons_succ]
        refine wpAnyH_take (i := 9) (v := undef) rfl (by kernel_rfl) (by kernel_rfl) (by kernel_rfl) (fun _ _ _ h => h) (Or.inr ⟨by rfl, rfl⟩) (by assumption) ?_
        try simp only [Act.put, List.setIfInBounds_toArray, List.set_cons_zero, List.set_cons_succ, List.getElem_toArray, List.getElem_cons_zero, List.getElem_cons_succ]
        refine wpAnyH_take (i := 10) (v := undef) rfl (by kernel_rfl) (by kernel_rfl) (by kernel_rfl) (fun _ _ _ h => h) (Or.inr ⟨by rfl, rfl⟩) (by assumption) ?_
        try simp only [Act.put, List.setIfInBounds_toArray, List.set_cons_zero, List.set_cons_succ, List.getElem_toArray, List.getElem_cons_zero, List.getElem_cons_succ]
        refine wpAnyH_take (i := 11) (v := undef) rfl (by kernel_rfl) (by kernel_rfl) (by kernel_rfl) (fun _ _ _ h => h) (Or.inr ⟨by rfl, rfl⟩) (by assumption) ?_
        try simp only [Act.put, List.setIfInBounds_toArray, List.set_cons_zero, List.set_cons_succ, List.getElem_toArray, List.getElem_cons_zero, List.getElem_cons_succ]
        refine wpAnyH_take (i := 12) (v := undef) rfl (by kernel_rfl) (by kernel_rfl) (by kernel_rfl) (fun _ _ _ h => h) (Or.inr ⟨by rfl, rfl⟩) (by assumption) ?_
        try simp only [Act.put, List.setIfInBounds_toArray, List.set_cons_zero, List.set_cons_succ, List.getElem_toArray, List.getElem_cons_zero, List.getElem_cons_succ]
        refine wpAnyH_take (i := 13) (v := undef) rfl (by kernel_rfl) (by kernel_rfl) (by kernel_rfl) (fun _ _ _ h => h) (Or.inr ⟨by rfl, rfl⟩) (by assumption) ?_
        try simp only [Act.put, List.setIfInBounds_toArray, List.set_cons_zero, List.set_cons_succ, List.getElem_toArray, List.getElem_cons_zero, List.getElem_cons_succ]
        refine wpAnyH_take (i := 14) (v := undef) rfl (by kernel_rfl) (by kernel_rfl) (by kernel_rfl) (fun _ _ _ h => h) (Or.inr ⟨by rfl, rfl⟩) (by assumption) ?_
        try simp only [Act.put, List.setIfInBounds_toArray, List.set_cons_zero, List.set_cons_succ, List.getElem_toArray, List.getElem_cons_zero, List.getElem_cons_succ]
        refine wpAnyH_take (i := 15) (v := undef) rfl (by kernel_rfl) (by kernel_rfl) (by kernel_rfl) (fun _ _ _ h => h) (Or.inr ⟨by rfl, rfl⟩) (by assumption) ?_
        try simp only [Act.put, List.setIfInBounds_toArray, List.set_cons_zero, List.set_cons_succ, List.getElem_toArray, List.getElem_cons_zero, List.getElem_cons_succ]
        refine wpAnyH_take (i := 16) (v := undef) rfl (by kernel_rfl) (by kernel_rfl) (by kernel_rfl) (fun _ _ _ h => h) (Or.inr ⟨by rfl, rfl⟩) (by assumption) ?_
        try simp only [Act.put, List.setIfInBounds_toArray, List.set_cons_zero, List.set_cons_succ, List.getElem_toArray, List.getElem_cons_zero, List.getElem_cons_succ]
        refine wpAnyH_take (i := 17) (v := undef) rfl (by kernel_rfl) (by kernel_rfl) (by kernel_rfl) (fun _ _ _ h => h) (Or.inr ⟨by rfl, rfl⟩) (by assumption) ?_
        try simp only [Act.put, List.setIfInBounds_toArray, List.set_cons_zero, List.set_cons_succ, List.getElem_toArray, List.getElem_cons_zero, List.getElem_cons_succ]
        refine wpAnyH_take (i := 18) (v := undef) rfl (by kernel_rfl) (by kernel_rfl) (by kernel_rfl) (fun _ _ _ h => h) (Or.inr ⟨by rfl, rfl⟩) (by assumption) ?_
        try simp only [Act.put, List.setIfInBounds_toArray, List.set_cons_zero, List.set_cons_succ, List.getElem_toArray, List.getElem_cons_zero, List.getElem_cons_succ]
        refine wpAnyH_take (i := 19) (v := undef) rfl (by kernel_rfl) (by kernel_rfl) (by kernel_rfl) (fun _ _ _ h => h) (Or.inr ⟨by rfl, rfl⟩) (by assumption) ?_
        try simp only [Act.put, List.setIfInBounds_toArray, List.set_cons_zero, List.set_cons_succ, List.getElem_toArray, List.getElem_cons_zero, List.getElem_cons_succ]
        refine wpAnyH_take (i := 20) (v := .bool false) rfl (by kernel_rfl) (by kernel_rfl) (by kernel_rfl) (fun _ _ _ h => h) (Or.inl ⟨by rfl, ?_⟩) (by assumption) ?_
        · intro wx hSw; go_simp
        try simp only [Act.put, List.setIfInBounds_toArray, List.set_cons_zero, List.set_cons_succ, List.getElem_toArray, List.getElem_cons_zero, List.getElem_cons_succ]
        refine wpAnyH_take (i := 21) (v := .bool false) rfl (by kernel_rfl) (by kernel_rfl) (by kernel_rfl) (fun _ _ _ h => h) (Or.inl ⟨by rfl, ?_⟩) (by assumption) ?_
        · intro wx hSw; go_simp
        try simp only [Act.put, List.setIfInBounds_toArray, List.set_cons_zero, List.set_cons_succ, List.getElem_toArray, List.getElem_cons_zero, List.getElem_cons_succ]
        refine wpAnyH_done (by kernel_rfl) ?_ _
        clear hHeld
        clear yM0 yM1 hlM yV0 yV1 yV2 hlV yG0 yG1 yG2 yG3 yG4 yG5 yG6 yG7 hlG
        go_wp2
        go_roundw
        case rel => exact ⟨k + 1, by omega, by go_num, fun j hj => by
          by_cases hjk : j = k
          · subst hjk; exact hst
          · exact HL.out j (by omega), bthen HB1.out (by repeat (first | exact Below.refl _ _ | refine bthen ?_ (by assumption) | apply Below.drew))⟩
        case measure => simp [intOf]; omega
      obtain ⟨m, hm⟩ : ∃ m, k = m + 1 := ⟨k - 1, by omega⟩
      have hkm : (k : Int) - 1 = (m : Int) := by omega
      have hk1 : (0 : Int) < k := by omega
      have hmn : (m : Int) < n := by omega
      have hmk : k - 1 = m := by omega
      have CM : Hid (wr.cell? ⟨B, m * 8 + 2, none⟩ = some (.int .i64 (F m).V.c)) := by
        obtain ⟨_, _, _, _, _, _, hcs, _⟩ := OW.out.2 m (by omega)
        exact hcs.2.2.1
      by_cases hl : (F k).V.c ≤ (F m).V.c
      · have hst : stepH c d F k = false := by
          have : ¬ (F m).V.c < (F k).V.c := by omega
          simp [stepH, hh, hk0, hmk, this]
        clear hmk hk0
        have hm1 : m < k := by omega
        clear hm
        obtain ⟨c0, c1, c2, c3, c4, c5, c6, c7⟩ := HCS.out
        have yM0 : wr.cell? ⟨w.heap.size, 0, none⟩ = some (.int .i64 c) := (MW.out.2 0 (by simp)).1
        have yM1 : wr.cell? ⟨w.heap.size, 1, none⟩ = some (.int .i64 d) := (MW.out.2 1 (by simp)).1
        have hlM : w.heap.size < wr.heap.size := MW.out.1
        have yV0 : wr.cell? ⟨(w.heap.size + 1), 0, none⟩ = some (.bool false) := (VW.out.2 0 (by simp)).1
        have yV1 : wr.cell? ⟨(w.heap.size + 1), 1, none⟩ = some (.slice (some ⟨B, 0, none⟩) n n) := (VW.out.2 1 (by simp)).1
        have yV2 : wr.cell? ⟨(w.heap.size + 1), 2, none⟩ = some (.slice aG g cG) := (VW.out.2 2 (by simp)).1
        have hlV : (w.heap.size + 1) < wr.heap.size := VW.out.1
        go_wp2
        obtain ⟨w1, e1⟩ : ∃ w1, w1 = wr.alloc (.cells #[.int .i64 (F k).ag, .int .i64 (F k).ct, .int .i64 (F k).V.c, .slice (some ⟨bW, 0, none⟩) (F k).V.nW (F k).V.nW, .int .i64 (F k).V.g, .slice (some ⟨bO, 0, none⟩) (F k).V.nO (F k).V.nO, .slice (some ⟨bX, 0, none⟩) (F k).V.nX (F k).V.nX, .slice (some ⟨bI, 0, none⟩) (F k).V.nI (F k).V.nI] 45) := ⟨_, rfl⟩
        rw [← e1]
        have hb1 : Below wr.heap.size wr w1 := by rw [e1]; exact (Below.refl _ _).alloc (Nat.le_refl _) _
        have X1 : Hid (Bk w1 wr.heap.size [.int .i64 (F k).ag, .int .i64 (F k).ct, .int .i64 (F k).V.c, .slice (some ⟨bW, 0, none⟩) (F k).V.nW (F k).V.nW, .int .i64 (F k).V.g, .slice (some ⟨bO, 0, none⟩) (F k).V.nO (F k).V.nO, .slice (some ⟨bX, 0, none⟩) (F k).V.nX (F k).V.nX, .slice (some ⟨bI, 0, none⟩) (F k).V.nI (F k).V.nI]) := by rw [e1]; exact bk_new wr 45 [.int .i64 (F k).ag, .int .i64 (F k).ct, .int .i64 (F k).V.c, .slice (some ⟨bW, 0, none⟩) (F k).V.nW (F k).V.nW, .int .i64 (F k).V.g, .slice (some ⟨bO, 0, none⟩) (F k).V.nO (F k).V.nO, .slice (some ⟨bX, 0, none⟩) (F k).V.nX (F k).V.nX, .slice (some ⟨bI, 0, none⟩) (F k).V.nI (F k).V.nI]
        clear e1
        clear yM0 yM1 hlM yV0 yV1 yV2 hlV
        clear c0 c1 c2 c3 c4 c5 c6 c7
        have HB1 : Hid (Below w2.heap.size w2 w1) := bthen HB.out hb1
        have BW1 : Hid (Below w.heap.size w w1) := bthen BW.out hb1
        have MW1 : Hid (Bk w1 w.heap.size [.int .i64 c, .int .i64 d]) := MW.out.below hb1
        have VW1 : Hid (Bk w1 (w.heap.size + 1) [.bool false, .slice (some ⟨B, 0, none⟩) n n, .slice aG g cG]) := VW.out.below hb1
        have HCP1 : Hid (HCopy lo w1 (.agg #[.int .i64 (F k).ag, .int .i64 (F k).ct, .int .i64 (F k).V.c, .slice (some ⟨bW, 0, none⟩) (F k).V.nW (F k).V.nW, .int .i64 (F k).V.g, .slice (some ⟨bO, 0, none⟩) (F k).V.nO (F k).V.nO, .slice (some ⟨bX, 0, none⟩) (F k).V.nX (F k).V.nX, .slice (some ⟨bI, 0, none⟩) (F k).V.nI (F k).V.nI]) (F k).ag (F k).ct (F k).V) := HCP.out.below hb1
        have hBw1 : B < w1.heap.size := Nat.lt_of_lt_of_le hBw hb1.size
        have cm : w1.cell? ⟨B, m * 8 + 2, none⟩ = some (.int .i64 (F m).V.c) := (hb1.cell (p := ⟨B, m * 8 + 2, none⟩) hBw).trans CM.out
        clear HCP hb1 MW VW HB BW hBw
        generalize wr.heap.size = gg at *
        have yM0 : w1.cell? ⟨w.heap.size, 0, none⟩ = some (.int .i64 c) := (MW1.out.2 0 (by simp)).1
        have yM1 : w1.cell? ⟨w.heap.size, 1, none⟩ = some (.int .i64 d) := (MW1.out.2 1 (by simp)).1
        have hlM : w.heap.size < w1.heap.size := MW1.out.1
        have yV0 : w1.cell? ⟨(w.heap.size + 1), 0, none⟩ = some (.bool false) := (VW1.out.2 0 (by simp)).1
        have yV1 : w1.cell? ⟨(w.heap.size + 1), 1, none⟩ = some (.slice (some ⟨B, 0, none⟩) n n) := (VW1.out.2 1 (by simp)).1
        have yV2 : w1.cell? ⟨(w.heap.size + 1), 2, none⟩ = some (.slice aG g cG) := (VW1.out.2 2 (by simp)).1
        have hlV : (w.heap.size + 1) < w1.heap.size := VW1.out.1
        have yG0 : w1.cell? ⟨gg, 0, none⟩ = some (.int .i64 (F k).ag) := (X1.out.2 0 (by simp)).1
        have yG1 : w1.cell? ⟨gg, 1, none⟩ = some (.int .i64 (F k).ct) := (X1.out.2 1 (by simp)).1
        have yG2 : w1.cell? ⟨gg, 2, none⟩ = some (.int .i64 (F k).V.c) := (X1.out.2 2 (by simp)).1
        have yG3 : w1.cell? ⟨gg, 3, none⟩ = some (.slice (some ⟨bW, 0, none⟩) (F k).V.nW (F k).V.nW) := (X1.out.2 3 (by simp)).1
        have yG4 : w1.cell? ⟨gg, 4, none⟩ = some (.int .i64 (F k).V.g) := (X1.out.2 4 (by simp)).1
        have yG5 : w1.cell? ⟨gg, 5, none⟩ = some (.slice (some ⟨bO, 0, none⟩) (F k).V.nO (F k).V.nO) := (X1.out.2 5 (by simp)).1
        have yG6 : w1.cell? ⟨gg, 6, none⟩ = some (.slice (some ⟨bX, 0, none⟩) (F k).V.nX (F k).V.nX) := (X1.out.2 6 (by simp)).1
        have yG7 : w1.cell? ⟨gg, 7, none⟩ = some (.slice (some ⟨bI, 0, none⟩) (F k).V.nI (F k).V.nI) := (X1.out.2 7 (by simp)).1
        have hlG : gg < w1.heap.size := X1.out.1
        refine wp_region_held_drew (S := fun w' => (∀ b o, b < w1.heap.size → w'.cell? ⟨b, o, none⟩ = w1.cell? ⟨b, o, none⟩) ∧ w1.heap.size ≤ w'.heap.size) (by kernel_rfl) ⟨fun _ _ _ => rfl, Nat.le_refl _⟩ ?_
        intro hHeld
        refine wpAnyH_take (i := 0) (v := .agg #[.int .i64 c, .int .i64 d]) rfl (by kernel_rfl) (by kernel_rfl) (by kernel_rfl) (fun _ _ _ h => h) (Or.inl ⟨by rfl, ?_⟩) (by assumption) ?_
        · intro wx hSw; go_simp
        try simp only [Act.put, List.setIfInBounds_toArray, List.set_cons_zero, List.set_cons_succ, List.getElem_toArray, List.getElem_cons_zero]
        refine wpAnyH_take (i := 1) (v := .agg #[.int .i64 (F k).ag, .int .i64 (F k).ct, .int .i64 (F k).V.c, .slice (some ⟨bW, 0, none⟩) (F k).V.nW (F k).V.nW, .int .i64 (F k).V.g, .slice (some ⟨bO, 0, none⟩) (F k).V.nO (F k).V.nO, .slice (some ⟨bX, 0, none⟩) (F k).V.nX (F k).V.nX, .slice (some ⟨bI, 0, none⟩) (F k).V.nI (F k).V.nI]) rfl (by kernel_rfl) (by kernel_rfl) (by kernel_rfl) (fun _ _ _ h => h) (Or.inl ⟨by rfl, ?_⟩) (by assumption) ?_
        · intro wx hSw; go_simp
        try simp only [Act.put, List.setIfInBounds_toArray, List.set_cons_zero, List.set_cons_succ, List.getElem_toArray, List.getElem_cons_zero, List.getElem_cons_succ]
        refine wpAnyH_ready (rs := [2]) (by kernel_rfl) (by simp) ?_
        refine AllReadyH.cons rfl (fun K hK => ?_) AllReadyH.nil
        go_simp
        go_wp2_with fail
        refine (hldOk_impl c d _ (F k).ag (F k).ct (F k).V lo (HS.out k hkn) _ (HCP1.out.below Below.drewB)).mono ?_
        rintro e x1 ⟨rfl, hx1⟩
        rw [hh]
        refine hK.out _ _ (keepS (by assumption) hx1) (fun hNew => ?_)
        clear hK K hHeld
        have hHeld := hNew
        clear hNew
        try simp only [Act.put, List.setIfInBounds_toArray, List.set_cons_zero, List.set_cons_succ, List.getElem_toArray, List.getElem_cons_zero, List.getElem_cons_succ]
        refine wpAnyH_take (i := 3) (v := .bool false) rfl (by kernel_rfl) (by kernel_rfl) (by kernel_rfl) (fun _ _ _ h => h) (Or.inl ⟨by rfl, ?_⟩) (by assumption) ?_
        · intro wx hSw; go_simp
        try simp only [Act.put, List.setIfInBounds_toArray, List.set_cons_zero, List.set_cons_succ, List.getElem_toArray, List.getElem_cons_zero, List.getElem_cons_succ]
        refine wpAnyH_take (i := 4) (v := .bool false) rfl (by kernel_rfl) (by kernel_rfl) (by kernel_rfl) (fun _ _ _ h => h) (Or.inl ⟨by rfl, ?_⟩) (by assumption) ?_
        · intro wx hSw; go_simp
        try simp only [Act.put, List.setIfInBounds_toArray, List.set_cons_zero, List.set_cons_succ, List.getElem_toArray, List.getElem_cons_zero, List.getElem_cons_succ]
        refine wpAnyH_take (i := 5) (v := .int .i64 (k : Int)) rfl (by kernel_rfl) (by kernel_rfl) (by kernel_rfl) (fun _ _ _ h => h) (Or.inl ⟨by rfl, ?_⟩) (by assumption) ?_
        · intro wx hSw; go_simp
        try simp only [Act.put, List.setIfInBounds_toArray, List.set_cons_zero, List.set_cons_succ, List.getElem_toArray, List.getElem_cons_zero, List.getElem_cons_succ]
        refine wpAnyH_take (i := 6) (v := .bool true) rfl (by kernel_rfl) (by kernel_rfl) (by kernel_rfl) (fun _ _ _ h => h) (Or.inl ⟨by rfl, ?_⟩) (by assumption) ?_
        · intro wx hSw; go_simp <;> first | omega | (exact IntWalk.i64_in _ (by omega)) | go_num
        try simp only [Act.put, List.setIfInBounds_toArray, List.set_cons_zero, List.set_cons_succ, List.getElem_toArray, List.getElem_cons_zero, List.getElem_cons_succ]
        refine wpAnyH_take (i := 7) (v := .bool true) rfl (by kernel_rfl) (by kernel_rfl) (by kernel_rfl) (fun _ _ _ h => h) (Or.inl ⟨by rfl, ?_⟩) (by assumption) ?_
        · intro wx hSw; go_simp
        try simp only [Act.put, List.setIfInBounds_toArray, List.set_cons_zero, List.set_cons_succ, List.getElem_toArray, List.getElem_cons_zero, List.getElem_cons_succ]
        refine wpAnyH_take (i := 8) (v := .pointer (some ⟨(w.heap.size + 1), 1, none⟩)) rfl (by kernel_rfl) (by kernel_rfl) (by kernel_rfl) (fun _ _ _ h => h) (Or.inl ⟨by rfl, ?_⟩) (by assumption) ?_
        · intro wx hSw; go_simp
        try simp only [Act.put, List.setIfInBounds_toArray, List.set_cons_zero, List.set_cons_succ, List.getElem_toArray, List.getElem_cons_zero, List.getElem_cons_succ]
        refine wpAnyH_take (i := 9) (v := .slice (some ⟨B, 0, none⟩) n n) rfl (by kernel_rfl) (by kernel_rfl) (by kernel_rfl) (fun _ _ _ h => h) (Or.inl ⟨by rfl, ?_⟩) (by assumption) ?_
        · intro wx hSw; go_simp
        try simp only [Act.put, List.setIfInBounds_toArray, List.set_cons_zero, List.set_cons_succ, List.getElem_toArray, List.getElem_cons_zero, List.getElem_cons_succ]
        refine wpAnyH_take (i := 10) (v := .int .i64 (k : Int)) rfl (by kernel_rfl) (by kernel_rfl) (by kernel_rfl) (fun _ _ _ h => h) (Or.inl ⟨by rfl, ?_⟩) (by assumption) ?_
        · intro wx hSw; go_simp
        try simp only [Act.put, List.setIfInBounds_toArray, List.set_cons_zero, List.set_cons_succ, List.getElem_toArray, List.getElem_cons_zero, List.getElem_cons_succ]
        refine wpAnyH_take (i := 11) (v := .int .i64 (m : Int)) rfl (by kernel_rfl) (by kernel_rfl) (by kernel_rfl) (fun _ _ _ h => h) (Or.inl ⟨by rfl, ?_⟩) (by assumption) ?_
        · intro wx hSw; go_simp <;> first | omega | (exact IntWalk.i64_in _ (by omega)) | go_num
        try simp only [Act.put, List.setIfInBounds_toArray, List.set_cons_zero, List.set_cons_succ, List.getElem_toArray, List.getElem_cons_zero, List.getElem_cons_succ]
        refine wpAnyH_take (i := 12) (v := .pointer (some ⟨B, m * 8, none⟩)) rfl (by kernel_rfl) (by kernel_rfl) (by kernel_rfl) (fun _ _ _ h => h) (Or.inl ⟨by rfl, ?_⟩) (by assumption) ?_
        · intro wx hSw; go_simp
        try simp only [Act.put, List.setIfInBounds_toArray, List.set_cons_zero, List.set_cons_succ, List.getElem_toArray, List.getElem_cons_zero, List.getElem_cons_succ]
        refine wpAnyH_take (i := 13) (v := .pointer (some ⟨B, m * 8 + 2, none⟩)) rfl (by kernel_rfl) (by kernel_rfl) (by kernel_rfl) (fun _ _ _ h => h) (Or.inl ⟨by rfl, ?_⟩) (by assumption) ?_
        · intro wx hSw; go_simp
        try simp only [Act.put, List.setIfInBounds_toArray, List.set_cons_zero, List.set_cons_succ, List.getElem_toArray, List.getElem_cons_zero, List.getElem_cons_succ]
        refine wpAnyH_take (i := 14) (v := .pointer (some ⟨B, m * 8 + 2, none⟩)) rfl (by kernel_rfl) (by kernel_rfl) (by kernel_rfl) (fun _ _ _ h => h) (Or.inl ⟨by rfl, ?_⟩) (by assumption) ?_
        · intro wx hSw; go_simp
        try simp only [Act.put, List.setIfInBounds_toArray, List.set_cons_zero, List.set_cons_succ, List.getElem_toArray, List.getElem_cons_zero, List.getElem_cons_succ]
        refine wpAnyH_take (i := 15) (v := .int .i64 (F m).V.c) rfl (by kernel_rfl) (by kernel_rfl) (by kernel_rfl) (fun _ _ _ h => h) (Or.inl ⟨by rfl, ?_⟩) (by assumption) ?_
        · intro wx hSw; go_simp
        try simp only [Act.put, List.setIfInBounds_toArray, List.set_cons_zero, List.set_cons_succ, List.getElem_toArray, List.getElem_cons_zero, List.getElem_cons_succ]
        refine wpAnyH_take (i := 16) (v := .pointer (some ⟨gg, 2, none⟩)) rfl (by kernel_rfl) (by kernel_rfl) (by kernel_rfl) (fun _ _ _ h => h) (Or.inl ⟨by rfl, ?_⟩) (by assumption) ?_
        · intro wx hSw; go_simp
        try simp only [Act.put, List.setIfInBounds_toArray, List.set_cons_zero, List.set_cons_succ, List.getElem_toArray, List.getElem_cons_zero, List.getElem_cons_succ]
        refine wpAnyH_take (i := 17) (v := .pointer (some ⟨gg, 2, none⟩)) rfl (by kernel_rfl) (by kernel_rfl) (by kernel_rfl) (fun _ _ _ h => h) (Or.inl ⟨by rfl, ?_⟩) (by assumption) ?_
        · intro wx hSw; go_simp
        try simp only [Act.put, List.setIfInBounds_toArray, List.set_cons_zero, List.set_cons_succ, List.getElem_toArray, List.getElem_cons_zero, List.getElem_cons_succ]
        refine wpAnyH_take (i := 18) (v := .int .i64 (F k).V.c) rfl (by kernel_rfl) (by kernel_rfl) (by kernel_rfl) (fun _ _ _ h => h) (Or.inl ⟨by rfl, ?_⟩) (by assumption) ?_
        · intro wx hSw; go_simp
        try simp only [Act.put, List.setIfInBounds_toArray, List.set_cons_zero, List.set_cons_succ, List.getElem_toArray, List.getElem_cons_zero, List.getElem_cons_succ]
        refine wpAnyH_take (i := 19) (v := .bool true) rfl (by kernel_rfl) (by kernel_rfl) (by kernel_rfl) (fun _ _ _ h => h) (Or.inl ⟨by rfl, ?_⟩) (by assumption) ?_
        · intro wx hSw; go_simp <;> first | omega | (exact IntWalk.i64_in _ (by omega)) | go_num
        try simp only [Act.put, List.setIfInBounds_toArray, List.set_cons_zero, List.set_cons_succ, List.getElem_toArray, List.getElem_cons_zero, List.getElem_cons_succ]
        refine wpAnyH_take (i := 20) (v := .bool true) rfl (by kernel_rfl) (by kernel_rfl) (by kernel_rfl) (fun _ _ _ h => h) (Or.inl ⟨by rfl, ?_⟩) (by assumption) ?_
        · intro wx hSw; go_simp
        try simp only [Act.put, List.setIfInBounds_toArray, List.set_cons_zero, List.set_cons_succ, List.getElem_toArray, List.getElem_cons_zero, List.getElem_cons_succ]
        refine wpAnyH_take (i := 21) (v := .bool true) rfl (by kernel_rfl) (by kernel_rfl) (by kernel_rfl) (fun _ _ _ h => h) (Or.inl ⟨by rfl, ?_⟩) (by assumption) ?_
        · intro wx hSw; go_simp
        try simp only [Act.put, List.setIfInBounds_toArray, List.set_cons_zero, List.set_cons_succ, List.getElem_toArray, List.getElem_cons_zero, List.getElem_cons_succ]
        refine wpAnyH_done (by kernel_rfl) ?_ _
        clear hHeld
        clear yM0 yM1 hlM yV0 yV1 yV2 hlV yG0 yG1 yG2 yG3 yG4 yG5 yG6 yG7 hlG
        clear cm
        go_wp2
        go_ret
        exact ⟨by rw [holdsB_false hkn hst, Bool.and_false] <;> rfl, bthen BW1.out (by repeat (first | exact Below.refl _ _ | refine bthen ?_ (by assumption) | apply Below.drew))⟩
      · have hst : stepH c d F k = true := by
          have : (F m).V.c < (F k).V.c := by omega
          simp [stepH, hh, hmk, this]
        clear hmk hk0
        have hm1 : m < k := by omega
        clear hm
        obtain ⟨c0, c1, c2, c3, c4, c5, c6, c7⟩ := HCS.out
        have yM0 : wr.cell? ⟨w.heap.size, 0, none⟩ = some (.int .i64 c) := (MW.out.2 0 (by simp)).1
        have yM1 : wr.cell? ⟨w.heap.size, 1, none⟩ = some (.int .i64 d) := (MW.out.2 1 (by simp)).1
        have hlM : w.heap.size < wr.heap.size := MW.out.1
        have yV0 : wr.cell? ⟨(w.heap.size + 1), 0, none⟩ = some (.bool false) := (VW.out.2 0 (by simp)).1
        have yV1 : wr.cell? ⟨(w.heap.size + 1), 1, none⟩ = some (.slice (some ⟨B, 0, none⟩) n n) := (VW.out.2 1 (by simp)).1
        have yV2 : wr.cell? ⟨(w.heap.size + 1), 2, none⟩ = some (.slice aG g cG) := (VW.out.2 2 (by simp)).1
        have hlV : (w.heap.size + 1) < wr.heap.size := VW.out.1
        go_wp2
        obtain ⟨w1, e1⟩ : ∃ w1, w1 = wr.alloc (.cells #[.int .i64 (F k).ag, .int .i64 (F k).ct, .int .i64 (F k).V.c, .slice (some ⟨bW, 0, none⟩) (F k).V.nW (F k).V.nW, .int .i64 (F k).V.g, .slice (some ⟨bO, 0, none⟩) (F k).V.nO (F k).V.nO, .slice (some ⟨bX, 0, none⟩) (F k).V.nX (F k).V.nX, .slice (some ⟨bI, 0, none⟩) (F k).V.nI (F k).V.nI] 45) := ⟨_, rfl⟩
        rw [← e1]
        have hb1 : Below wr.heap.size wr w1 := by rw [e1]; exact (Below.refl _ _).alloc (Nat.le_refl _) _
        have X1 : Hid (Bk w1 wr.heap.size [.int .i64 (F k).ag, .int .i64 (F k).ct, .int .i64 (F k).V.c, .slice (some ⟨bW, 0, none⟩) (F k).V.nW (F k).V.nW, .int .i64 (F k).V.g, .slice (some ⟨bO, 0, none⟩) (F k).V.nO (F k).V.nO, .slice (some ⟨bX, 0, none⟩) (F k).V.nX (F k).V.nX, .slice (some ⟨bI, 0, none⟩) (F k).V.nI (F k).V.nI]) := by rw [e1]; exact bk_new wr 45 [.int .i64 (F k).ag, .int .i64 (F k).ct, .int .i64 (F k).V.c, .slice (some ⟨bW, 0, none⟩) (F k).V.nW (F k).V.nW, .int .i64 (F k).V.g, .slice (some ⟨bO, 0, none⟩) (F k).V.nO (F k).V.nO, .slice (some ⟨bX, 0, none⟩) (F k).V.nX (F k).V.nX, .slice (some ⟨bI, 0, none⟩) (F k).V.nI (F k).V.nI]
        clear e1
        clear yM0 yM1 hlM yV0 yV1 yV2 hlV
        clear c0 c1 c2 c3 c4 c5 c6 c7
        have HB1 : Hid (Below w2.heap.size w2 w1) := bthen HB.out hb1
        have BW1 : Hid (Below w.heap.size w w1) := bthen BW.out hb1
        have MW1 : Hid (Bk w1 w.heap.size [.int .i64 c, .int .i64 d]) := MW.out.below hb1
        have VW1 : Hid (Bk w1 (w.heap.size + 1) [.bool false, .slice (some ⟨B, 0, none⟩) n n, .slice aG g cG]) := VW.out.below hb1
        have HCP1 : Hid (HCopy lo w1 (.agg #[.int .i64 (F k).ag, .int .i64 (F k).ct, .int .i64 (F k).V.c, .slice (some ⟨bW, 0, none⟩) (F k).V.nW (F k).V.nW, .int .i64 (F k).V.g, .slice (some ⟨bO, 0, none⟩) (F k).V.nO (F k).V.nO, .slice (some ⟨bX, 0, none⟩) (F k).V.nX (F k).V.nX, .slice (some ⟨bI, 0, none⟩) (F k).V.nI (F k).V.nI]) (F k).ag (F k).ct (F k).V) := HCP.out.below hb1
        have hBw1 : B < w1.heap.size := Nat.lt_of_lt_of_le hBw hb1.size
        have cm : w1.cell? ⟨B, m * 8 + 2, none⟩ = some (.int .i64 (F m).V.c) := (hb1.cell (p := ⟨B, m * 8 + 2, none⟩) hBw).trans CM.out
        clear HCP hb1 MW VW HB BW hBw
        generalize wr.heap.size = gg at *
        have yM0 : w1.cell? ⟨w.heap.size, 0, none⟩ = some (.int .i64 c) := (MW1.out.2 0 (by simp)).1
        have yM1 : w1.cell? ⟨w.heap.size, 1, none⟩ = some (.int .i64 d) := (MW1.out.2 1 (by simp)).1
        have hlM : w.heap.size < w1.heap.size := MW1.out.1
        have yV0 : w1.cell? ⟨(w.heap.size + 1), 0, none⟩ = some (.bool false) := (VW1.out.2 0 (by simp)).1
        have yV1 : w1.cell? ⟨(w.heap.size + 1), 1, none⟩ = some (.slice (some ⟨B, 0, none⟩) n n) := (VW1.out.2 1 (by simp)).1
        have yV2 : w1.cell? ⟨(w.heap.size + 1), 2, none⟩ = some (.slice aG g cG) := (VW1.out.2 2 (by simp)).1
        have hlV : (w.heap.size + 1) < w1.heap.size := VW1.out.1
        have yG0 : w1.cell? ⟨gg, 0, none⟩ = some (.int .i64 (F k).ag) := (X1.out.2 0 (by simp)).1
        have yG1 : w1.cell? ⟨gg, 1, none⟩ = some (.int .i64 (F k).ct) := (X1.out.2 1 (by simp)).1
        have yG2 : w1.cell? ⟨gg, 2, none⟩ = some (.int .i64 (F k).V.c) := (X1.out.2 2 (by simp)).1
        have yG3 : w1.cell? ⟨gg, 3, none⟩ = some (.slice (some ⟨bW, 0, none⟩) (F k).V.nW (F k).V.nW) := (X1.out.2 3 (by simp)).1
        have yG4 : w1.cell? ⟨gg, 4, none⟩ = some (.int .i64 (F k).V.g) := (X1.out.2 4 (by simp)).1
        have yG5 : w1.cell? ⟨gg, 5, none⟩ = some (.slice (some ⟨bO, 0, none⟩) (F k).V.nO (F k).V.nO) := (X1.out.2 5 (by simp)).1
        have yG6 : w1.cell? ⟨gg, 6, none⟩ = some (.slice (some ⟨bX, 0, none⟩) (F k).V.nX (F k).V.nX) := (X1.out.2 6 (by simp)).1
        have yG7 : w1.cell? ⟨gg, 7, none⟩ = some (.slice (some ⟨bI, 0, none⟩) (F k).V.nI (F k).V.nI) := (X1.out.2 7 (by simp)).1
        have hlG : gg < w1.heap.size := X1.out.1
        refine wp_region_held_drew (S := fun w' => (∀ b o, b < w1.heap.size → w'.cell? ⟨b, o, none⟩ = w1.cell? ⟨b, o, none⟩) ∧ w1.heap.size ≤ w'.heap.size) (by kernel_rfl) ⟨fun _ _ _ => rfl, Nat.le_refl _⟩ ?_
        intro hHeld
        refine wpAnyH_take (i := 0) (v := .agg #[.int .i64 c, .int .i64 d]) rfl (by kernel_rfl) (by kernel_rfl) (by kernel_rfl) (fun _ _ _ h => h) (Or.inl ⟨by rfl, ?_⟩) (by assumption) ?_
        · intro wx hSw; go_simp
        try simp only [Act.put, List.setIfInBounds_toArray, List.set_cons_zero, List.set_cons_succ, List.getElem_toArray, List.getElem_cons_zero]
        refine wpAnyH_take (i := 1) (v := .agg #[.int .i64 (F k).ag, .int .i64 (F k).ct, .int .i64 (F k).V.c, .slice (some ⟨bW, 0, none⟩) (F k).V.nW (F k).V.nW, .int .i64 (F k).V.g, .slice (some ⟨bO, 0, none⟩) (F k).V.nO (F k).V.nO, .slice (some ⟨bX, 0, none⟩) (F k).V.nX (F k).V.nX, .slice (some ⟨bI, 0, none⟩) (F k).V.nI (F k).V.nI]) rfl (by kernel_rfl) (by kernel_rfl) (by kernel_rfl) (fun _ _ _ h => h) (Or.inl ⟨by rfl, ?_⟩) (by assumption) ?_
        · intro wx hSw; go_simp
        try simp only [Act.put, List.setIfInBounds_toArray, List.set_cons_zero, List.set_cons_succ, List.getElem_toArray, List.getElem_cons_zero, List.getElem_cons_succ]
        refine wpAnyH_ready (rs := [2]) (by kernel_rfl) (by simp) ?_
        refine AllReadyH.cons rfl (fun K hK => ?_) AllReadyH.nil
        go_simp
        go_wp2_with fail
        refine (hldOk_impl c d _ (F k).ag (F k).ct (F k).V lo (HS.out k hkn) _ (HCP1.out.below Below.drewB)).mono ?_
        rintro e x1 ⟨rfl, hx1⟩
        rw [hh]
        refine hK.out _ _ (keepS (by assumption) hx1) (fun hNew => ?_)
        clear hK K hHeld
        have hHeld := hNew
        clear hNew
        try simp only [Act.put, List.setIfInBounds_toArray, List.set_cons_zero, List.set_cons_succ, List.getElem_toArray, List.getElem_cons_zero, List.getElem_cons_succ]
        refine wpAnyH_take (i := 3) (v := .bool false) rfl (by kernel_rfl) (by kernel_rfl) (by kernel_rfl) (fun _ _ _ h => h) (Or.inl ⟨by rfl, ?_⟩) (by assumption) ?_
        · intro wx hSw; go_simp
        try simp only [Act.put, List.setIfInBounds_toArray, List.set_cons_zero, List.set_cons_succ, List.getElem_toArray, List.getElem_cons_zero, List.getElem_cons_succ]
        refine wpAnyH_take (i := 4) (v := .bool false) rfl (by kernel_rfl) (by kernel_rfl) (by kernel_rfl) (fun _ _ _ h => h) (Or.inl ⟨by rfl, ?_⟩) (by assumption) ?_
        · intro wx hSw; go_simp
        try simp only [Act.put, List.setIfInBounds_toArray, List.set_cons_zero, List.set_cons_succ, List.getElem_toArray, List.getElem_cons_zero, List.getElem_cons_succ]
        refine wpAnyH_take (i := 5) (v := .int .i64 (k : Int)) rfl (by kernel_rfl) (by kernel_rfl) (by kernel_rfl) (fun _ _ _ h => h) (Or.inl ⟨by rfl, ?_⟩) (by assumption) ?_
        · intro wx hSw; go_simp
        try simp only [Act.put, List.setIfInBounds_toArray, List.set_cons_zero, List.set_cons_succ, List.getElem_toArray, List.getElem_cons_zero, List.getElem_cons_succ]
        refine wpAnyH_take (i := 6) (v := .bool true) rfl (by kernel_rfl) (by kernel_rfl) (by kernel_rfl) (fun _ _ _ h => h) (Or.inl ⟨by rfl, ?_⟩) (by assumption) ?_
        · intro wx hSw; go_simp <;> first | omega | (exact IntWalk.i64_in _ (by omega)) | go_num
        try simp only [Act.put, List.setIfInBounds_toArray, List.set_cons_zero, List.set_cons_succ, List.getElem_toArray, List.getElem_cons_zero, List.getElem_cons_succ]
        refine wpAnyH_take (i := 7) (v := .bool true) rfl (by kernel_rfl) (by kernel_rfl) (by kernel_rfl) (fun _ _ _ h => h) (Or.inl ⟨by rfl, ?_⟩) (by assumption) ?_
        · intro wx hSw; go_simp
        try simp only [Act.put, List.setIfInBounds_toArray, List.set_cons_zero, List.set_cons_succ, List.getElem_toArray, List.getElem_cons_zero, List.getElem_cons_succ]
        refine wpAnyH_take (i := 8) (v := .pointer (some ⟨(w.heap.size + 1), 1, none⟩)) rfl (by kernel_rfl) (by kernel_rfl) (by kernel_rfl) (fun _ _ _ h => h) (Or.inl ⟨by rfl, ?_⟩) (by assumption) ?_
        · intro wx hSw; go_simp
        try simp only [Act.put, List.setIfInBounds_toArray, List.set_cons_zero, List.set_cons_succ, List.getElem_toArray, List.getElem_cons_zero, List.getElem_cons_succ]
        refine wpAnyH_take (i := 9) (v := .slice (some ⟨B, 0, none⟩) n n) rfl (by kernel_rfl) (by kernel_rfl) (by kernel_rfl) (fun _ _ _ h => h) (Or.inl ⟨by rfl, ?_⟩) (by assumption) ?_
        · intro wx hSw; go_simp
        try simp only [Act.put, List.setIfInBounds_toArray, List.set_cons_zero, List.set_cons_succ, List.getElem_toArray, List.getElem_cons_zero, List.getElem_cons_succ]
        refine wpAnyH_take (i := 10) (v := .int .i64 (k : Int)) rfl (by kernel_rfl) (by kernel_rfl) (by kernel_rfl) (fun _ _ _ h => h) (Or.inl ⟨by rfl, ?_⟩) (by assumption) ?_
        · intro wx hSw; go_simp
        try simp only [Act.put, List.setIfInBounds_toArray, List.set_cons_zero, List.set_cons_succ, List.getElem_toArray, List.getElem_cons_zero, List.getElem_cons_succ]
        refine wpAnyH_take (i := 11) (v := .int .i64 (m : Int)) rfl (by kernel_rfl) (by kernel_rfl) (by kernel_rfl) (fun _ _ _ h => h) (Or.inl ⟨by rfl, ?_⟩) (by assumption) ?_
        · intro wx hSw; go_simp <;> first | omega | (exact IntWalk.i64_in _ (by omega)) | go_num
        try simp only [Act.put, List.setIfInBounds_toArray, List.set_cons_zero, List.set_cons_succ, List.getElem_toArray, List.getElem_cons_zero, List.getElem_cons_succ]
        refine wpAnyH_take (i := 12) (v := .pointer (some ⟨B, m * 8, none⟩)) rfl (by kernel_rfl) (by kernel_rfl) (by kernel_rfl) (fun _ _ _ h => h) (Or.inl ⟨by rfl, ?_⟩) (by assumption) ?_
        · intro wx hSw; go_simp
        try simp only [Act.put, List.setIfInBounds_toArray, List.set_cons_zero, List.set_cons_succ, List.getElem_toArray, List.getElem_cons_zero, List.getElem_cons_succ]
        refine wpAnyH_take (i := 13) (v := .pointer (some ⟨B, m * 8 + 2, none⟩)) rfl (by kernel_rfl) (by kernel_rfl) (by kernel_rfl) (fun _ _ _ h => h) (Or.inl ⟨by rfl, ?_⟩) (by assumption) ?_
        · intro wx hSw; go_simp
        try simp only [Act.put, List.setIfInBounds_toArray, List.set_cons_zero, List.set_cons_succ, List.getElem_toArray, List.getElem_cons_zero, List.getElem_cons_succ]
        refine wpAnyH_take (i := 14) (v := .pointer (some ⟨B, m * 8 + 2, none⟩)) rfl (by kernel_rfl) (by kernel_rfl) (by kernel_rfl) (fun _ _ _ h => h) (Or.inl ⟨by rfl, ?_⟩) (by assumption) ?_
        · intro wx hSw; go_simp
        try simp only [Act.put, List.setIfInBounds_toArray, List.set_cons_zero, List.set_cons_succ, List.getElem_toArray, List.getElem_cons_zero, List.getElem_cons_succ]
        refine wpAnyH_take (i := 15) (v := .int .i64 (F m).V.c) rfl (by kernel_rfl) (by kernel_rfl) (by kernel_rfl) (fun _ _ _ h => h) (Or.inl ⟨by rfl, ?_⟩) (by assumption) ?_
        · intro wx hSw; go_simp
        try simp only [Act.put, List.setIfInBounds_toArray, List.set_cons_zero, List.set_cons_succ, List.getElem_toArray, List.getElem_cons_zero, List.getElem_cons_succ]
        refine wpAnyH_take (i := 16) (v := .pointer (some ⟨gg, 2, none⟩)) rfl (by kernel_rfl) (by kernel_rfl) (by kernel_rfl) (fun _ _ _ h => h) (Or.inl ⟨by rfl, ?_⟩) (by assumption) ?_
        · intro wx hSw; go_simp
        try simp only [Act.put, List.setIfInBounds_toArray, List.set_cons_zero, List.set_cons_succ, List.getElem_toArray, List.getElem_cons_zero, List.getElem_cons_succ]
        refine wpAnyH_take (i := 17) (v := .pointer (some ⟨gg, 2, none⟩)) rfl (by kernel_rfl) (by kernel_rfl) (by kernel_rfl) (fun _ _ _ h => h) (Or.inl ⟨by rfl, ?_⟩) (by assumption) ?_
        · intro wx hSw; go_simp
        try simp only [Act.put, List.setIfInBounds_toArray, List.set_cons_zero, List.set_cons_succ, List.getElem_toArray, List.getElem_cons_zero, List.getElem_cons_succ]
        refine wpAnyH_take (i := 18) (v := .int .i64 (F k).V.c) rfl (by kernel_rfl) (by kernel_rfl) (by kernel_rfl) (fun _ _ _ h => h) (Or.inl ⟨by rfl, ?_⟩) (by assumption) ?_
        · intro wx hSw; go_simp
        try simp only [Act.put, List.setIfInBounds_toArray, List.set_cons_zero, List.set_cons_succ, List.getElem_toArray, List.getElem_cons_zero, List.getElem_cons_succ]
        refine wpAnyH_take (i := 19) (v := .bool false) rfl (by kernel_rfl) (by kernel_rfl) (by kernel_rfl) (fun _ _ _ h => h) (Or.inl ⟨by rfl, ?_⟩) (by assumption) ?_
        · intro wx hSw; go_simp <;> first | omega | (exact IntWalk.i64_in _ (by omega)) | go_num
        try simp only [Act.put, List.setIfInBounds_toArray, List.set_cons_zero, List.set_cons_succ, List.getElem_toArray, List.getElem_cons_zero, List.getElem_cons_succ]
        refine wpAnyH_take (i := 20) (v := .bool false) rfl (by kernel_rfl) (by kernel_rfl) (by kernel_rfl) (fun _ _ _ h => h) (Or.inl ⟨by rfl, ?_⟩) (by assumption) ?_
        · intro wx hSw; go_simp
        try simp only [Act.put, List.setIfInBounds_toArray, List.set_cons_zero, List.set_cons_succ, List.getElem_toArray, List.getElem_cons_zero, List.getElem_cons_succ]
        refine wpAnyH_take (i := 21) (v := .bool false) rfl (by kernel_rfl) (by kernel_rfl) (by kernel_rfl) (fun _ _ _ h => h) (Or.inl ⟨by rfl, ?_⟩) (by assumption) ?_
        · intro wx hSw; go_simp
        try simp only [Act.put, List.setIfInBounds_toArray, List.set_cons_zero, List.set_cons_succ, List.getElem_toArray, List.getElem_cons_zero, List.getElem_cons_succ]
        refine wpAnyH_done (by kernel_rfl) ?_ _
        clear hHeld
        clear yM0 yM1 hlM yV0 yV1 yV2 hlV yG0 yG1 yG2 yG3 yG4 yG5 yG6 yG7 hlG
        clear cm
        go_wp2
        go_roundw
        case rel => exact ⟨k + 1, by omega, by go_num, fun j hj => by
          by_cases hjk : j = k
          · subst hjk; exact hst
          · exact HL.out j (by omega), bthen HB1.out (by repeat (first | exact Below.refl _ _ | refine bthen ?_ (by assumption) | apply Below.drew))⟩
        case measure => simp [intOf]; omega
    · have hkk : k = n := by omega
      subst hkk
      cases hz : decide (k = 0)
      all_goals
        cases hy : decide (g = 0)
      all_goals
        have hz' := hz
        have hy' := hy
        simp only [decide_eq_true_eq, decide_eq_false_iff_not] at hz' hy'
        have yV0 : wr.cell? ⟨(w.heap.size + 1), 0, none⟩ = some (.bool false) := (VW.out.2 0 (by simp)).1
        have yV1 : wr.cell? ⟨(w.heap.size + 1), 1, none⟩ = some (.slice (some ⟨B, 0, none⟩) k k) := (VW.out.2 1 (by simp)).1
        have yV2 : wr.cell? ⟨(w.heap.size + 1), 2, none⟩ = some (.slice aG g cG) := (VW.out.2 2 (by simp)).1
        have hlV : (w.heap.size + 1) < wr.heap.size := VW.out.1
        have ez : ((k : Int) == 0) = decide (k = 0) := by by_cases q : k = 0 <;> simp [q]
        have ey : ((g : Int) == 0) = decide (g = 0) := by by_cases q : g = 0 <;> simp [q]
        rw [hz] at ez
        rw [hy] at ey
        have HZ : Hid (decide (k = 0) = _) := hz
        have HY : Hid (decide (g = 0) = _) := hy
        clear hz' hy' hz hy
        go_wp2
        go_ret
        exact ⟨by rw [holdsB_true HL.out, HZ.out, HY.out] <;> rfl, BW.out⟩
end Go.Proofs.Ytlbjgecjonegkaa
