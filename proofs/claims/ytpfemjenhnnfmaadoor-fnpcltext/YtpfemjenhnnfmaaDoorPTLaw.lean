/- The walk of the law FnPclText: it answers true; conditions: the codes are slices of bytes, the library's variables are as its text lays them. -/
import Derived.Test.YtpfemjenhnnfmaaDoorPBent
namespace Go.Proofs.YtpfemjenhnnfmaaDoor
open Go.RowKit
set_option linter.unusedVariables false
set_option maxRecDepth 20000

theorem lit_pcl : pclText 0 2 0 0 0 0 0 3 = ⟨#[48, 32, 99, 111, 105, 110, 115, 32, 51]⟩ := by decide +kernel
theorem empty_list : (⟨#[]⟩ : ByteArray).toList.isEmpty = true := by decide +kernel

/-- Block b of W begins with these values, and may be written. -/
def Bk (W : World) (b : Nat) (l : List Value) : Prop := b < W.heap.size ∧ ∀ i, i < l.length → W.cell? ⟨b, i, none⟩ = some (l.getD i undef) ∧ W.frozen? ⟨b, i, none⟩ = false
theorem Bk.below {W W' : World} {b : Nat} {l : List Value} (h : Bk W b l) (k : Below W.heap.size W W') : Bk W' b l := ⟨Nat.lt_of_lt_of_le h.1 k.size, fun i hi => by
  rw [k.cell (p := ⟨b, i, none⟩) h.1, k.frozen (p := ⟨b, i, none⟩) h.1]; exact h.2 i hi⟩
theorem bk_new (W : World) (t : TypeId) (l : List Value) : Bk (W.alloc (.cells l.toArray t)) W.heap.size l := ⟨by simp, fun i hi => by
  have e : l.getD i undef = l[i] := by simp [List.getD, List.getElem?_eq_getElem hi]
  rw [e]
  exact ⟨by simp [hi], by simp⟩⟩

set_option maxHeartbeats 8000000 in
theorem law_ptext (a0 : Option Addr) (l0 c0 : Nat) (y0 : List Int) (a1 : Option Addr) (l1 c1 : Nat) (y1 : List Int) (w : World) (h0 : IsRow w a0 l0 c0 y0) (h1 : IsRow w a1 l1 c1 y1) (hE' : Env w) :
    Calls Tryd.prog 3 #[.slice a0 l0 c0, .slice a1 l1 c1] w fun e w' => e = .returned (.bool true) ∧ Below w.heap.size w w' := by
  have hE : Hid (Env w) := hE'
  have H0 : Hid (IsRow w a0 l0 c0 y0) := h0
  have H1 : Hid (IsRow w a1 l1 c1 y1) := h1
  clear hE' h0 h1
  by_cases g0 : (1048576 : Int) < (l0 : Int)
  · go_enter Tryd.func3, Tryd.ntmps3
    go_wp2
    go_ret
    exact ⟨rfl, Below.refl _ _⟩
  by_cases g1 : (1048576 : Int) < (l1 : Int)
  · go_enter Tryd.func3, Tryd.ntmps3
    go_wp2
    go_ret
    exact ⟨rfl, Below.refl _ _⟩
  go_enter Tryd.func3, Tryd.ntmps3
  go_wp2_with fail
  refine (draw_pclText a0 l0 c0 y0 _ H0.out).mono ?_
  rintro e w1 ⟨f, rfl, hb1⟩
  clear H0
  have B41 : Hid (Below w.heap.size w w1) := hb1
  obtain ⟨w2, ew2⟩ : ∃ w2, w2 = w1.alloc (.cells #[.int .i64 (f 0), .int .i64 (f 1), .int .i64 (f 2), .int .i64 (f 3), .int .i64 (f 4), .int .i64 (f 5), .int .i64 (f 6), .int .i64 (f 7)] 26) := ⟨_, rfl⟩
  have hbw2 : Below w1.heap.size w1 w2 := by rw [ew2]; exact (Below.refl _ _).alloc (Nat.le_refl _) _
  have hkw2 : Bk w2 w1.heap.size [.int .i64 (f 0), .int .i64 (f 1), .int .i64 (f 2), .int .i64 (f 3), .int .i64 (f 4), .int .i64 (f 5), .int .i64 (f 6), .int .i64 (f 7)] := by rw [ew2]; exact bk_new w1 26 [.int .i64 (f 0), .int .i64 (f 1), .int .i64 (f 2), .int .i64 (f 3), .int .i64 (f 4), .int .i64 (f 5), .int .i64 (f 6), .int .i64 (f 7)]
  have B42 : Hid (Below w.heap.size w w2) := bthen B41.out hbw2
  clear B41
  have M43 : Hid (Bk w2 w1.heap.size [.int .i64 (f 0), .int .i64 (f 1), .int .i64 (f 2), .int .i64 (f 3), .int .i64 (f 4), .int .i64 (f 5), .int .i64 (f 6), .int .i64 (f 7)]) := hkw2
  go_wp2_with fail
  try rw [← ew2]
  clear ew2 hbw2 hkw2 hb1
  have yM0 : w2.cell? ⟨w1.heap.size, 0, none⟩ = some (.int .i64 (f 0)) := (M43.out.2 0 (by simp)).1
  have yM1 : w2.cell? ⟨w1.heap.size, 1, none⟩ = some (.int .i64 (f 1)) := (M43.out.2 1 (by simp)).1
  have yM2 : w2.cell? ⟨w1.heap.size, 2, none⟩ = some (.int .i64 (f 2)) := (M43.out.2 2 (by simp)).1
  have yM3 : w2.cell? ⟨w1.heap.size, 3, none⟩ = some (.int .i64 (f 3)) := (M43.out.2 3 (by simp)).1
  have yM4 : w2.cell? ⟨w1.heap.size, 4, none⟩ = some (.int .i64 (f 4)) := (M43.out.2 4 (by simp)).1
  have yM5 : w2.cell? ⟨w1.heap.size, 5, none⟩ = some (.int .i64 (f 5)) := (M43.out.2 5 (by simp)).1
  have yM6 : w2.cell? ⟨w1.heap.size, 6, none⟩ = some (.int .i64 (f 6)) := (M43.out.2 6 (by simp)).1
  have yM7 : w2.cell? ⟨w1.heap.size, 7, none⟩ = some (.int .i64 (f 7)) := (M43.out.2 7 (by simp)).1
  have hlM : w1.heap.size < w2.heap.size := M43.out.1
  try go_wp2_with fail
  refine (pclText_impl (f 0) (f 1) (f 2) (f 3) (f 4) (f 5) (f 6) (f 7) _ (hE.out.on B42.out).tab).mono ?_
  rintro e w3 ⟨rfl, hb3⟩
  clear yM0 yM1 yM2 yM3 yM4 yM5 yM6 yM7 hlM
  have B44 : Hid (Below w.heap.size w w3) := bthen B42.out hb3
  have M44 : Hid (Bk w3 w1.heap.size [.int .i64 (f 0), .int .i64 (f 1), .int .i64 (f 2), .int .i64 (f 3), .int .i64 (f 4), .int .i64 (f 5), .int .i64 (f 6), .int .i64 (f 7)]) := M43.out.below hb3
  clear B42 M43
  clear hb3
  obtain ⟨sx, hsx⟩ : ∃ x, x = pclText (f 0) (f 1) (f 2) (f 3) (f 4) (f 5) (f 6) (f 7) := ⟨_, rfl⟩
  rw [← hsx]
  have HSX : Hid (sx = pclText (f 0) (f 1) (f 2) (f 3) (f 4) (f 5) (f 6) (f 7)) := hsx
  clear hsx
  go_wp2_with fail
  refine (draw_pclRead a1 l1 c1 y1 _ (H1.out.below B44.out)).mono ?_
  rintro e w4 ⟨t, rfl, ht, hb4⟩
  have B45 : Hid (Below w.heap.size w w4) := bthen B44.out hb4
  have M45 : Hid (Bk w4 w1.heap.size [.int .i64 (f 0), .int .i64 (f 1), .int .i64 (f 2), .int .i64 (f 3), .int .i64 (f 4), .int .i64 (f 5), .int .i64 (f 6), .int .i64 (f 7)]) := M44.out.below hb4
  clear B44 M44
  clear hb4 H1
  by_cases hex : ∃ Q : Pcl, Q.text = t ∧ ¬ t.size = 0
  · obtain ⟨⟨q0, q1, q2, q3, q4, q5, q6, q7⟩, hq, h0⟩ := hex
    have hqt : Hid (pclText q0 q1 q2 q3 q4 q5 q6 q7 = t) := hq
    have hc := iread_yes (P := ⟨q0, q1, q2, q3, q4, q5, q6, q7⟩) hq h0 _ (hE.out.on B45.out)
    simp only [Pcl.val] at hc
    go_wp2_with fail
    refine hc.mono ?_
    rintro e w5 ⟨rfl, hb5⟩
    clear hc
    have B46 : Hid (Below w.heap.size w w5) := bthen B45.out hb5
    have M46 : Hid (Bk w5 w1.heap.size [.int .i64 (f 0), .int .i64 (f 1), .int .i64 (f 2), .int .i64 (f 3), .int .i64 (f 4), .int .i64 (f 5), .int .i64 (f 6), .int .i64 (f 7)]) := M45.out.below hb5
    clear B45 M45
    clear hb5
    obtain ⟨w6, ew6⟩ : ∃ w6, w6 = w5.alloc (.cells #[.int .i64 q0, .int .i64 q1, .int .i64 q2, .int .i64 q3, .int .i64 q4, .int .i64 q5, .int .i64 q6, .int .i64 q7] 26) := ⟨_, rfl⟩
    have hbw6 : Below w5.heap.size w5 w6 := by rw [ew6]; exact (Below.refl _ _).alloc (Nat.le_refl _) _
    have hkw6 : Bk w6 w5.heap.size [.int .i64 q0, .int .i64 q1, .int .i64 q2, .int .i64 q3, .int .i64 q4, .int .i64 q5, .int .i64 q6, .int .i64 q7] := by rw [ew6]; exact bk_new w5 26 [.int .i64 q0, .int .i64 q1, .int .i64 q2, .int .i64 q3, .int .i64 q4, .int .i64 q5, .int .i64 q6, .int .i64 q7]
    have B47 : Hid (Below w.heap.size w w6) := bthen B46.out hbw6
    have M47 : Hid (Bk w6 w1.heap.size [.int .i64 (f 0), .int .i64 (f 1), .int .i64 (f 2), .int .i64 (f 3), .int .i64 (f 4), .int .i64 (f 5), .int .i64 (f 6), .int .i64 (f 7)]) := M46.out.below hbw6
    clear B46 M46
    have G48 : Hid (Bk w6 w5.heap.size [.int .i64 q0, .int .i64 q1, .int .i64 q2, .int .i64 q3, .int .i64 q4, .int .i64 q5, .int .i64 q6, .int .i64 q7]) := hkw6
    clear hbw6 hkw6
    go_wp2_with fail
    try rw [← ew6]
    clear ew6
    have hc := sread_yes (P := ⟨q0, q1, q2, q3, q4, q5, q6, q7⟩) hq h0 w6
    simp only [Pcl.val] at hc
    refine hc.mono ?_
    rintro e w7 ⟨rfl, hb7⟩
    clear hc
    have B49 : Hid (Below w.heap.size w w7) := bthen B47.out hb7
    have M49 : Hid (Bk w7 w1.heap.size [.int .i64 (f 0), .int .i64 (f 1), .int .i64 (f 2), .int .i64 (f 3), .int .i64 (f 4), .int .i64 (f 5), .int .i64 (f 6), .int .i64 (f 7)]) := M47.out.below hb7
    have G49 : Hid (Bk w7 w5.heap.size [.int .i64 q0, .int .i64 q1, .int .i64 q2, .int .i64 q3, .int .i64 q4, .int .i64 q5, .int .i64 q6, .int .i64 q7]) := G48.out.below hb7
    clear B47 M47 G48
    clear hb7
    obtain ⟨w8, ew8⟩ : ∃ w8, w8 = w7.alloc (.cells #[.int .i64 q0, .int .i64 q1, .int .i64 q2, .int .i64 q3, .int .i64 q4, .int .i64 q5, .int .i64 q6, .int .i64 q7] 26) := ⟨_, rfl⟩
    have hbw8 : Below w7.heap.size w7 w8 := by rw [ew8]; exact (Below.refl _ _).alloc (Nat.le_refl _) _
    have hkw8 : Bk w8 w7.heap.size [.int .i64 q0, .int .i64 q1, .int .i64 q2, .int .i64 q3, .int .i64 q4, .int .i64 q5, .int .i64 q6, .int .i64 q7] := by rw [ew8]; exact bk_new w7 26 [.int .i64 q0, .int .i64 q1, .int .i64 q2, .int .i64 q3, .int .i64 q4, .int .i64 q5, .int .i64 q6, .int .i64 q7]
    have B50 : Hid (Below w.heap.size w w8) := bthen B49.out hbw8
    have M50 : Hid (Bk w8 w1.heap.size [.int .i64 (f 0), .int .i64 (f 1), .int .i64 (f 2), .int .i64 (f 3), .int .i64 (f 4), .int .i64 (f 5), .int .i64 (f 6), .int .i64 (f 7)]) := M49.out.below hbw8
    have G50 : Hid (Bk w8 w5.heap.size [.int .i64 q0, .int .i64 q1, .int .i64 q2, .int .i64 q3, .int .i64 q4, .int .i64 q5, .int .i64 q6, .int .i64 q7]) := G49.out.below hbw8
    clear B49 M49 G49
    have I51 : Hid (Bk w8 w7.heap.size [.int .i64 q0, .int .i64 q1, .int .i64 q2, .int .i64 q3, .int .i64 q4, .int .i64 q5, .int .i64 q6, .int .i64 q7]) := hkw8
    clear hbw8 hkw8
    go_upto_region 8 with fail
    try rw [← ew8]
    clear ew8
    have yM0 : w8.cell? ⟨w1.heap.size, 0, none⟩ = some (.int .i64 (f 0)) := (M50.out.2 0 (by simp)).1
    have yM1 : w8.cell? ⟨w1.heap.size, 1, none⟩ = some (.int .i64 (f 1)) := (M50.out.2 1 (by simp)).1
    have yM2 : w8.cell? ⟨w1.heap.size, 2, none⟩ = some (.int .i64 (f 2)) := (M50.out.2 2 (by simp)).1
    have yM3 : w8.cell? ⟨w1.heap.size, 3, none⟩ = some (.int .i64 (f 3)) := (M50.out.2 3 (by simp)).1
    have yM4 : w8.cell? ⟨w1.heap.size, 4, none⟩ = some (.int .i64 (f 4)) := (M50.out.2 4 (by simp)).1
    have yM5 : w8.cell? ⟨w1.heap.size, 5, none⟩ = some (.int .i64 (f 5)) := (M50.out.2 5 (by simp)).1
    have yM6 : w8.cell? ⟨w1.heap.size, 6, none⟩ = some (.int .i64 (f 6)) := (M50.out.2 6 (by simp)).1
    have yM7 : w8.cell? ⟨w1.heap.size, 7, none⟩ = some (.int .i64 (f 7)) := (M50.out.2 7 (by simp)).1
    have hlM : w1.heap.size < w8.heap.size := M50.out.1
    go_wp2_with fail
    refine (pclText_spec (f 0) (f 1) (f 2) (f 3) (f 4) (f 5) (f 6) (f 7) _).mono ?_
    rintro e w9 ⟨rfl, hb9⟩
    clear yM0 yM1 yM2 yM3 yM4 yM5 yM6 yM7 hlM
    have B52 : Hid (Below w.heap.size w w9) := bthen B50.out hb9
    have M52 : Hid (Bk w9 w1.heap.size [.int .i64 (f 0), .int .i64 (f 1), .int .i64 (f 2), .int .i64 (f 3), .int .i64 (f 4), .int .i64 (f 5), .int .i64 (f 6), .int .i64 (f 7)]) := M50.out.below hb9
    have G52 : Hid (Bk w9 w5.heap.size [.int .i64 q0, .int .i64 q1, .int .i64 q2, .int .i64 q3, .int .i64 q4, .int .i64 q5, .int .i64 q6, .int .i64 q7]) := G50.out.below hb9
    have I52 : Hid (Bk w9 w7.heap.size [.int .i64 q0, .int .i64 q1, .int .i64 q2, .int .i64 q3, .int .i64 q4, .int .i64 q5, .int .i64 q6, .int .i64 q7]) := I51.out.below hb9
    clear B50 M50 G50 I51
    clear hb9
    rw [← HSX.out]
    have yM0 : w9.cell? ⟨w1.heap.size, 0, none⟩ = some (.int .i64 (f 0)) := (M52.out.2 0 (by simp)).1
    have yM1 : w9.cell? ⟨w1.heap.size, 1, none⟩ = some (.int .i64 (f 1)) := (M52.out.2 1 (by simp)).1
    have yM2 : w9.cell? ⟨w1.heap.size, 2, none⟩ = some (.int .i64 (f 2)) := (M52.out.2 2 (by simp)).1
    have yM3 : w9.cell? ⟨w1.heap.size, 3, none⟩ = some (.int .i64 (f 3)) := (M52.out.2 3 (by simp)).1
    have yM4 : w9.cell? ⟨w1.heap.size, 4, none⟩ = some (.int .i64 (f 4)) := (M52.out.2 4 (by simp)).1
    have yM5 : w9.cell? ⟨w1.heap.size, 5, none⟩ = some (.int .i64 (f 5)) := (M52.out.2 5 (by simp)).1
    have yM6 : w9.cell? ⟨w1.heap.size, 6, none⟩ = some (.int .i64 (f 6)) := (M52.out.2 6 (by simp)).1
    have yM7 : w9.cell? ⟨w1.heap.size, 7, none⟩ = some (.int .i64 (f 7)) := (M52.out.2 7 (by simp)).1
    have hlM : w1.heap.size < w9.heap.size := M52.out.1
    have yG0 : w9.cell? ⟨w5.heap.size, 0, none⟩ = some (.int .i64 q0) := (G52.out.2 0 (by simp)).1
    have yG1 : w9.cell? ⟨w5.heap.size, 1, none⟩ = some (.int .i64 q1) := (G52.out.2 1 (by simp)).1
    have yG2 : w9.cell? ⟨w5.heap.size, 2, none⟩ = some (.int .i64 q2) := (G52.out.2 2 (by simp)).1
    have yG3 : w9.cell? ⟨w5.heap.size, 3, none⟩ = some (.int .i64 q3) := (G52.out.2 3 (by simp)).1
    have yG4 : w9.cell? ⟨w5.heap.size, 4, none⟩ = some (.int .i64 q4) := (G52.out.2 4 (by simp)).1
    have yG5 : w9.cell? ⟨w5.heap.size, 5, none⟩ = some (.int .i64 q5) := (G52.out.2 5 (by simp)).1
    have yG6 : w9.cell? ⟨w5.heap.size, 6, none⟩ = some (.int .i64 q6) := (G52.out.2 6 (by simp)).1
    have yG7 : w9.cell? ⟨w5.heap.size, 7, none⟩ = some (.int .i64 q7) := (G52.out.2 7 (by simp)).1
    have hlG : w5.heap.size < w9.heap.size := G52.out.1
    have yI0 : w9.cell? ⟨w7.heap.size, 0, none⟩ = some (.int .i64 q0) := (I52.out.2 0 (by simp)).1
    have yI1 : w9.cell? ⟨w7.heap.size, 1, none⟩ = some (.int .i64 q1) := (I52.out.2 1 (by simp)).1
    have yI2 : w9.cell? ⟨w7.heap.size, 2, none⟩ = some (.int .i64 q2) := (I52.out.2 2 (by simp)).1
    have yI3 : w9.cell? ⟨w7.heap.size, 3, none⟩ = some (.int .i64 q3) := (I52.out.2 3 (by simp)).1
    have yI4 : w9.cell? ⟨w7.heap.size, 4, none⟩ = some (.int .i64 q4) := (I52.out.2 4 (by simp)).1
    have yI5 : w9.cell? ⟨w7.heap.size, 5, none⟩ = some (.int .i64 q5) := (I52.out.2 5 (by simp)).1
    have yI6 : w9.cell? ⟨w7.heap.size, 6, none⟩ = some (.int .i64 q6) := (I52.out.2 6 (by simp)).1
    have yI7 : w9.cell? ⟨w7.heap.size, 7, none⟩ = some (.int .i64 q7) := (I52.out.2 7 (by simp)).1
    have hlI : w7.heap.size < w9.heap.size := I52.out.1
    go_wp2_with fail
    refine (pclText_impl q0 q1 q2 q3 q4 q5 q6 q7 _ (hE.out.on B52.out).tab).mono ?_
    rintro e w10 ⟨rfl, hb10⟩
    rw [hqt.out]
    clear yM0 yM1 yM2 yM3 yM4 yM5 yM6 yM7 hlM yG0 yG1 yG2 yG3 yG4 yG5 yG6 yG7 hlG yI0 yI1 yI2 yI3 yI4 yI5 yI6 yI7 hlI
    have B53 : Hid (Below w.heap.size w w10) := bthen B52.out hb10
    have M53 : Hid (Bk w10 w1.heap.size [.int .i64 (f 0), .int .i64 (f 1), .int .i64 (f 2), .int .i64 (f 3), .int .i64 (f 4), .int .i64 (f 5), .int .i64 (f 6), .int .i64 (f 7)]) := M52.out.below hb10
    have G53 : Hid (Bk w10 w5.heap.size [.int .i64 q0, .int .i64 q1, .int .i64 q2, .int .i64 q3, .int .i64 q4, .int .i64 q5, .int .i64 q6, .int .i64 q7]) := G52.out.below hb10
    have I53 : Hid (Bk w10 w7.heap.size [.int .i64 q0, .int .i64 q1, .int .i64 q2, .int .i64 q3, .int .i64 q4, .int .i64 q5, .int .i64 q6, .int .i64 q7]) := I52.out.below hb10
    clear B52 M52 G52 I52
    clear hb10
    by_cases hs0 : sx.size = 0
    · have hz : sx = ⟨#[]⟩ := empty_of_size hs0
      subst hz
      have he' := empty_list
      go_wp2_with fail
      refine (pclText_impl 0 2 0 0 0 0 0 3 _ (hE.out.on B53.out).tab).mono ?_
      rintro e wa ⟨rfl, hba⟩
      rw [lit_pcl]
      have B54 : Hid (Below w.heap.size w wa) := bthen B53.out hba
      have M54 : Hid (Bk wa w1.heap.size [.int .i64 (f 0), .int .i64 (f 1), .int .i64 (f 2), .int .i64 (f 3), .int .i64 (f 4), .int .i64 (f 5), .int .i64 (f 6), .int .i64 (f 7)]) := M53.out.below hba
      have G54 : Hid (Bk wa w5.heap.size [.int .i64 q0, .int .i64 q1, .int .i64 q2, .int .i64 q3, .int .i64 q4, .int .i64 q5, .int .i64 q6, .int .i64 q7]) := G53.out.below hba
      have I54 : Hid (Bk wa w7.heap.size [.int .i64 q0, .int .i64 q1, .int .i64 q2, .int .i64 q3, .int .i64 q4, .int .i64 q5, .int .i64 q6, .int .i64 q7]) := I53.out.below hba
      clear B53 M53 G53 I53
      go_wp2
      go_ret
      exact ⟨rfl, B54.out⟩
    · have he : sx.toList.isEmpty = false := nonempty_of_size hs0
      have hc := iread_yes (P := ⟨f 0, f 1, f 2, f 3, f 4, f 5, f 6, f 7⟩) (s := sx) HSX.out.symm hs0 _ (hE.out.on B53.out)
      simp only [Pcl.val] at hc
      go_wp2_with fail
      refine hc.mono ?_
      rintro e wa ⟨rfl, hba⟩
      clear hc
      have B54 : Hid (Below w.heap.size w wa) := bthen B53.out hba
      have M54 : Hid (Bk wa w1.heap.size [.int .i64 (f 0), .int .i64 (f 1), .int .i64 (f 2), .int .i64 (f 3), .int .i64 (f 4), .int .i64 (f 5), .int .i64 (f 6), .int .i64 (f 7)]) := M53.out.below hba
      have G54 : Hid (Bk wa w5.heap.size [.int .i64 q0, .int .i64 q1, .int .i64 q2, .int .i64 q3, .int .i64 q4, .int .i64 q5, .int .i64 q6, .int .i64 q7]) := G53.out.below hba
      have I54 : Hid (Bk wa w7.heap.size [.int .i64 q0, .int .i64 q1, .int .i64 q2, .int .i64 q3, .int .i64 q4, .int .i64 q5, .int .i64 q6, .int .i64 q7]) := I53.out.below hba
      clear B53 M53 G53 I53
      obtain ⟨wb, ewb⟩ : ∃ wb, wb = wa.alloc (.cells #[.int .i64 (f 0), .int .i64 (f 1), .int .i64 (f 2), .int .i64 (f 3), .int .i64 (f 4), .int .i64 (f 5), .int .i64 (f 6), .int .i64 (f 7)] 26) := ⟨_, rfl⟩
      have hbwb : Below wa.heap.size wa wb := by rw [ewb]; exact (Below.refl _ _).alloc (Nat.le_refl _) _
      have hkwb : Bk wb wa.heap.size [.int .i64 (f 0), .int .i64 (f 1), .int .i64 (f 2), .int .i64 (f 3), .int .i64 (f 4), .int .i64 (f 5), .int .i64 (f 6), .int .i64 (f 7)] := by rw [ewb]; exact bk_new wa 26 [.int .i64 (f 0), .int .i64 (f 1), .int .i64 (f 2), .int .i64 (f 3), .int .i64 (f 4), .int .i64 (f 5), .int .i64 (f 6), .int .i64 (f 7)]
      have B55 : Hid (Below w.heap.size w wb) := bthen B54.out hbwb
      have M55 : Hid (Bk wb w1.heap.size [.int .i64 (f 0), .int .i64 (f 1), .int .i64 (f 2), .int .i64 (f 3), .int .i64 (f 4), .int .i64 (f 5), .int .i64 (f 6), .int .i64 (f 7)]) := M54.out.below hbwb
      have G55 : Hid (Bk wb w5.heap.size [.int .i64 q0, .int .i64 q1, .int .i64 q2, .int .i64 q3, .int .i64 q4, .int .i64 q5, .int .i64 q6, .int .i64 q7]) := G54.out.below hbwb
      have I55 : Hid (Bk wb w7.heap.size [.int .i64 q0, .int .i64 q1, .int .i64 q2, .int .i64 q3, .int .i64 q4, .int .i64 q5, .int .i64 q6, .int .i64 q7]) := I54.out.below hbwb
      clear B54 M54 G54 I54
      have N56 : Hid (Bk wb wa.heap.size [.int .i64 (f 0), .int .i64 (f 1), .int .i64 (f 2), .int .i64 (f 3), .int .i64 (f 4), .int .i64 (f 5), .int .i64 (f 6), .int .i64 (f 7)]) := hkwb
      go_upto_region 13 with fail
      try rw [← ewb]
      clear ewb
      have yM0 : wb.cell? ⟨w1.heap.size, 0, none⟩ = some (.int .i64 (f 0)) := (M55.out.2 0 (by simp)).1
      have yM1 : wb.cell? ⟨w1.heap.size, 1, none⟩ = some (.int .i64 (f 1)) := (M55.out.2 1 (by simp)).1
      have yM2 : wb.cell? ⟨w1.heap.size, 2, none⟩ = some (.int .i64 (f 2)) := (M55.out.2 2 (by simp)).1
      have yM3 : wb.cell? ⟨w1.heap.size, 3, none⟩ = some (.int .i64 (f 3)) := (M55.out.2 3 (by simp)).1
      have yM4 : wb.cell? ⟨w1.heap.size, 4, none⟩ = some (.int .i64 (f 4)) := (M55.out.2 4 (by simp)).1
      have yM5 : wb.cell? ⟨w1.heap.size, 5, none⟩ = some (.int .i64 (f 5)) := (M55.out.2 5 (by simp)).1
      have yM6 : wb.cell? ⟨w1.heap.size, 6, none⟩ = some (.int .i64 (f 6)) := (M55.out.2 6 (by simp)).1
      have yM7 : wb.cell? ⟨w1.heap.size, 7, none⟩ = some (.int .i64 (f 7)) := (M55.out.2 7 (by simp)).1
      have hlM : w1.heap.size < wb.heap.size := M55.out.1
      have yN0 : wb.cell? ⟨wa.heap.size, 0, none⟩ = some (.int .i64 (f 0)) := (N56.out.2 0 (by simp)).1
      have yN1 : wb.cell? ⟨wa.heap.size, 1, none⟩ = some (.int .i64 (f 1)) := (N56.out.2 1 (by simp)).1
      have yN2 : wb.cell? ⟨wa.heap.size, 2, none⟩ = some (.int .i64 (f 2)) := (N56.out.2 2 (by simp)).1
      have yN3 : wb.cell? ⟨wa.heap.size, 3, none⟩ = some (.int .i64 (f 3)) := (N56.out.2 3 (by simp)).1
      have yN4 : wb.cell? ⟨wa.heap.size, 4, none⟩ = some (.int .i64 (f 4)) := (N56.out.2 4 (by simp)).1
      have yN5 : wb.cell? ⟨wa.heap.size, 5, none⟩ = some (.int .i64 (f 5)) := (N56.out.2 5 (by simp)).1
      have yN6 : wb.cell? ⟨wa.heap.size, 6, none⟩ = some (.int .i64 (f 6)) := (N56.out.2 6 (by simp)).1
      have yN7 : wb.cell? ⟨wa.heap.size, 7, none⟩ = some (.int .i64 (f 7)) := (N56.out.2 7 (by simp)).1
      have hlN : wa.heap.size < wb.heap.size := N56.out.1
      go_wp2
      go_ret
      exact ⟨rfl, B55.out⟩
  · have hv : ∀ Q : Pcl, Q.text = t → t.size = 0 := fun Q e => Classical.byContradiction fun h => hex ⟨Q, e, h⟩
    clear hex
    have hc := iread_no hv _ (hE.out.on B45.out)
    simp only [Pcl.val, nullP] at hc
    go_wp2_with fail
    refine hc.mono ?_
    rintro e w5 ⟨rfl, hb5⟩
    clear hc
    have B46 : Hid (Below w.heap.size w w5) := bthen B45.out hb5
    have M46 : Hid (Bk w5 w1.heap.size [.int .i64 (f 0), .int .i64 (f 1), .int .i64 (f 2), .int .i64 (f 3), .int .i64 (f 4), .int .i64 (f 5), .int .i64 (f 6), .int .i64 (f 7)]) := M45.out.below hb5
    clear B45 M45
    clear hb5
    obtain ⟨w6, ew6⟩ : ∃ w6, w6 = w5.alloc (.cells #[.int .i64 0, .int .i64 0, .int .i64 0, .int .i64 0, .int .i64 0, .int .i64 0, .int .i64 0, .int .i64 0] 26) := ⟨_, rfl⟩
    have hbw6 : Below w5.heap.size w5 w6 := by rw [ew6]; exact (Below.refl _ _).alloc (Nat.le_refl _) _
    have hkw6 : Bk w6 w5.heap.size [.int .i64 0, .int .i64 0, .int .i64 0, .int .i64 0, .int .i64 0, .int .i64 0, .int .i64 0, .int .i64 0] := by rw [ew6]; exact bk_new w5 26 [.int .i64 0, .int .i64 0, .int .i64 0, .int .i64 0, .int .i64 0, .int .i64 0, .int .i64 0, .int .i64 0]
    have B47 : Hid (Below w.heap.size w w6) := bthen B46.out hbw6
    have M47 : Hid (Bk w6 w1.heap.size [.int .i64 (f 0), .int .i64 (f 1), .int .i64 (f 2), .int .i64 (f 3), .int .i64 (f 4), .int .i64 (f 5), .int .i64 (f 6), .int .i64 (f 7)]) := M46.out.below hbw6
    clear B46 M46
    have G48 : Hid (Bk w6 w5.heap.size [.int .i64 0, .int .i64 0, .int .i64 0, .int .i64 0, .int .i64 0, .int .i64 0, .int .i64 0, .int .i64 0]) := hkw6
    clear hbw6 hkw6
    go_wp2_with fail
    try rw [← ew6]
    clear ew6
    have hc := sread_no hv w6
    simp only [Pcl.val, nullP] at hc
    refine hc.mono ?_
    rintro e w7 ⟨rfl, hb7⟩
    clear hc
    have B49 : Hid (Below w.heap.size w w7) := bthen B47.out hb7
    have M49 : Hid (Bk w7 w1.heap.size [.int .i64 (f 0), .int .i64 (f 1), .int .i64 (f 2), .int .i64 (f 3), .int .i64 (f 4), .int .i64 (f 5), .int .i64 (f 6), .int .i64 (f 7)]) := M47.out.below hb7
    have G49 : Hid (Bk w7 w5.heap.size [.int .i64 0, .int .i64 0, .int .i64 0, .int .i64 0, .int .i64 0, .int .i64 0, .int .i64 0, .int .i64 0]) := G48.out.below hb7
    clear B47 M47 G48
    clear hb7
    obtain ⟨w8, ew8⟩ : ∃ w8, w8 = w7.alloc (.cells #[.int .i64 0, .int .i64 0, .int .i64 0, .int .i64 0, .int .i64 0, .int .i64 0, .int .i64 0, .int .i64 0] 26) := ⟨_, rfl⟩
    have hbw8 : Below w7.heap.size w7 w8 := by rw [ew8]; exact (Below.refl _ _).alloc (Nat.le_refl _) _
    have hkw8 : Bk w8 w7.heap.size [.int .i64 0, .int .i64 0, .int .i64 0, .int .i64 0, .int .i64 0, .int .i64 0, .int .i64 0, .int .i64 0] := by rw [ew8]; exact bk_new w7 26 [.int .i64 0, .int .i64 0, .int .i64 0, .int .i64 0, .int .i64 0, .int .i64 0, .int .i64 0, .int .i64 0]
    have B50 : Hid (Below w.heap.size w w8) := bthen B49.out hbw8
    have M50 : Hid (Bk w8 w1.heap.size [.int .i64 (f 0), .int .i64 (f 1), .int .i64 (f 2), .int .i64 (f 3), .int .i64 (f 4), .int .i64 (f 5), .int .i64 (f 6), .int .i64 (f 7)]) := M49.out.below hbw8
    have G50 : Hid (Bk w8 w5.heap.size [.int .i64 0, .int .i64 0, .int .i64 0, .int .i64 0, .int .i64 0, .int .i64 0, .int .i64 0, .int .i64 0]) := G49.out.below hbw8
    clear B49 M49 G49
    have I51 : Hid (Bk w8 w7.heap.size [.int .i64 0, .int .i64 0, .int .i64 0, .int .i64 0, .int .i64 0, .int .i64 0, .int .i64 0, .int .i64 0]) := hkw8
    clear hbw8 hkw8
    go_upto_region 8 with fail
    try rw [← ew8]
    clear ew8
    have yM0 : w8.cell? ⟨w1.heap.size, 0, none⟩ = some (.int .i64 (f 0)) := (M50.out.2 0 (by simp)).1
    have yM1 : w8.cell? ⟨w1.heap.size, 1, none⟩ = some (.int .i64 (f 1)) := (M50.out.2 1 (by simp)).1
    have yM2 : w8.cell? ⟨w1.heap.size, 2, none⟩ = some (.int .i64 (f 2)) := (M50.out.2 2 (by simp)).1
    have yM3 : w8.cell? ⟨w1.heap.size, 3, none⟩ = some (.int .i64 (f 3)) := (M50.out.2 3 (by simp)).1
    have yM4 : w8.cell? ⟨w1.heap.size, 4, none⟩ = some (.int .i64 (f 4)) := (M50.out.2 4 (by simp)).1
    have yM5 : w8.cell? ⟨w1.heap.size, 5, none⟩ = some (.int .i64 (f 5)) := (M50.out.2 5 (by simp)).1
    have yM6 : w8.cell? ⟨w1.heap.size, 6, none⟩ = some (.int .i64 (f 6)) := (M50.out.2 6 (by simp)).1
    have yM7 : w8.cell? ⟨w1.heap.size, 7, none⟩ = some (.int .i64 (f 7)) := (M50.out.2 7 (by simp)).1
    have hlM : w1.heap.size < w8.heap.size := M50.out.1
    go_wp2_with fail
    refine (pclText_spec (f 0) (f 1) (f 2) (f 3) (f 4) (f 5) (f 6) (f 7) _).mono ?_
    rintro e w9 ⟨rfl, hb9⟩
    clear yM0 yM1 yM2 yM3 yM4 yM5 yM6 yM7 hlM
    have B52 : Hid (Below w.heap.size w w9) := bthen B50.out hb9
    have M52 : Hid (Bk w9 w1.heap.size [.int .i64 (f 0), .int .i64 (f 1), .int .i64 (f 2), .int .i64 (f 3), .int .i64 (f 4), .int .i64 (f 5), .int .i64 (f 6), .int .i64 (f 7)]) := M50.out.below hb9
    have G52 : Hid (Bk w9 w5.heap.size [.int .i64 0, .int .i64 0, .int .i64 0, .int .i64 0, .int .i64 0, .int .i64 0, .int .i64 0, .int .i64 0]) := G50.out.below hb9
    have I52 : Hid (Bk w9 w7.heap.size [.int .i64 0, .int .i64 0, .int .i64 0, .int .i64 0, .int .i64 0, .int .i64 0, .int .i64 0, .int .i64 0]) := I51.out.below hb9
    clear B50 M50 G50 I51
    clear hb9
    rw [← HSX.out]
    have yM0 : w9.cell? ⟨w1.heap.size, 0, none⟩ = some (.int .i64 (f 0)) := (M52.out.2 0 (by simp)).1
    have yM1 : w9.cell? ⟨w1.heap.size, 1, none⟩ = some (.int .i64 (f 1)) := (M52.out.2 1 (by simp)).1
    have yM2 : w9.cell? ⟨w1.heap.size, 2, none⟩ = some (.int .i64 (f 2)) := (M52.out.2 2 (by simp)).1
    have yM3 : w9.cell? ⟨w1.heap.size, 3, none⟩ = some (.int .i64 (f 3)) := (M52.out.2 3 (by simp)).1
    have yM4 : w9.cell? ⟨w1.heap.size, 4, none⟩ = some (.int .i64 (f 4)) := (M52.out.2 4 (by simp)).1
    have yM5 : w9.cell? ⟨w1.heap.size, 5, none⟩ = some (.int .i64 (f 5)) := (M52.out.2 5 (by simp)).1
    have yM6 : w9.cell? ⟨w1.heap.size, 6, none⟩ = some (.int .i64 (f 6)) := (M52.out.2 6 (by simp)).1
    have yM7 : w9.cell? ⟨w1.heap.size, 7, none⟩ = some (.int .i64 (f 7)) := (M52.out.2 7 (by simp)).1
    have hlM : w1.heap.size < w9.heap.size := M52.out.1
    have yG0 : w9.cell? ⟨w5.heap.size, 0, none⟩ = some (.int .i64 0) := (G52.out.2 0 (by simp)).1
    have yG1 : w9.cell? ⟨w5.heap.size, 1, none⟩ = some (.int .i64 0) := (G52.out.2 1 (by simp)).1
    have yG2 : w9.cell? ⟨w5.heap.size, 2, none⟩ = some (.int .i64 0) := (G52.out.2 2 (by simp)).1
    have yG3 : w9.cell? ⟨w5.heap.size, 3, none⟩ = some (.int .i64 0) := (G52.out.2 3 (by simp)).1
    have yG4 : w9.cell? ⟨w5.heap.size, 4, none⟩ = some (.int .i64 0) := (G52.out.2 4 (by simp)).1
    have yG5 : w9.cell? ⟨w5.heap.size, 5, none⟩ = some (.int .i64 0) := (G52.out.2 5 (by simp)).1
    have yG6 : w9.cell? ⟨w5.heap.size, 6, none⟩ = some (.int .i64 0) := (G52.out.2 6 (by simp)).1
    have yG7 : w9.cell? ⟨w5.heap.size, 7, none⟩ = some (.int .i64 0) := (G52.out.2 7 (by simp)).1
    have hlG : w5.heap.size < w9.heap.size := G52.out.1
    have yI0 : w9.cell? ⟨w7.heap.size, 0, none⟩ = some (.int .i64 0) := (I52.out.2 0 (by simp)).1
    have yI1 : w9.cell? ⟨w7.heap.size, 1, none⟩ = some (.int .i64 0) := (I52.out.2 1 (by simp)).1
    have yI2 : w9.cell? ⟨w7.heap.size, 2, none⟩ = some (.int .i64 0) := (I52.out.2 2 (by simp)).1
    have yI3 : w9.cell? ⟨w7.heap.size, 3, none⟩ = some (.int .i64 0) := (I52.out.2 3 (by simp)).1
    have yI4 : w9.cell? ⟨w7.heap.size, 4, none⟩ = some (.int .i64 0) := (I52.out.2 4 (by simp)).1
    have yI5 : w9.cell? ⟨w7.heap.size, 5, none⟩ = some (.int .i64 0) := (I52.out.2 5 (by simp)).1
    have yI6 : w9.cell? ⟨w7.heap.size, 6, none⟩ = some (.int .i64 0) := (I52.out.2 6 (by simp)).1
    have yI7 : w9.cell? ⟨w7.heap.size, 7, none⟩ = some (.int .i64 0) := (I52.out.2 7 (by simp)).1
    have hlI : w7.heap.size < w9.heap.size := I52.out.1
    by_cases hs0 : sx.size = 0
    · have hz : sx = ⟨#[]⟩ := empty_of_size hs0
      subst hz
      have he' := empty_list
      go_wp2_with fail
      refine (pclText_impl 0 2 0 0 0 0 0 3 _ (hE.out.on B52.out).tab).mono ?_
      rintro e wa ⟨rfl, hba⟩
      rw [lit_pcl]
      have B53 : Hid (Below w.heap.size w wa) := bthen B52.out hba
      have M53 : Hid (Bk wa w1.heap.size [.int .i64 (f 0), .int .i64 (f 1), .int .i64 (f 2), .int .i64 (f 3), .int .i64 (f 4), .int .i64 (f 5), .int .i64 (f 6), .int .i64 (f 7)]) := M52.out.below hba
      have G53 : Hid (Bk wa w5.heap.size [.int .i64 0, .int .i64 0, .int .i64 0, .int .i64 0, .int .i64 0, .int .i64 0, .int .i64 0, .int .i64 0]) := G52.out.below hba
      have I53 : Hid (Bk wa w7.heap.size [.int .i64 0, .int .i64 0, .int .i64 0, .int .i64 0, .int .i64 0, .int .i64 0, .int .i64 0, .int .i64 0]) := I52.out.below hba
      clear B52 M52 G52 I52
      go_wp2
      go_ret
      exact ⟨rfl, B53.out⟩
    · have he : sx.toList.isEmpty = false := nonempty_of_size hs0
      have hc := iread_yes (P := ⟨f 0, f 1, f 2, f 3, f 4, f 5, f 6, f 7⟩) (s := sx) HSX.out.symm hs0 _ (hE.out.on B52.out)
      simp only [Pcl.val] at hc
      go_wp2_with fail
      refine hc.mono ?_
      rintro e wa ⟨rfl, hba⟩
      clear hc
      have B53 : Hid (Below w.heap.size w wa) := bthen B52.out hba
      have M53 : Hid (Bk wa w1.heap.size [.int .i64 (f 0), .int .i64 (f 1), .int .i64 (f 2), .int .i64 (f 3), .int .i64 (f 4), .int .i64 (f 5), .int .i64 (f 6), .int .i64 (f 7)]) := M52.out.below hba
      have G53 : Hid (Bk wa w5.heap.size [.int .i64 0, .int .i64 0, .int .i64 0, .int .i64 0, .int .i64 0, .int .i64 0, .int .i64 0, .int .i64 0]) := G52.out.below hba
      have I53 : Hid (Bk wa w7.heap.size [.int .i64 0, .int .i64 0, .int .i64 0, .int .i64 0, .int .i64 0, .int .i64 0, .int .i64 0, .int .i64 0]) := I52.out.below hba
      clear B52 M52 G52 I52
      obtain ⟨wb, ewb⟩ : ∃ wb, wb = wa.alloc (.cells #[.int .i64 (f 0), .int .i64 (f 1), .int .i64 (f 2), .int .i64 (f 3), .int .i64 (f 4), .int .i64 (f 5), .int .i64 (f 6), .int .i64 (f 7)] 26) := ⟨_, rfl⟩
      have hbwb : Below wa.heap.size wa wb := by rw [ewb]; exact (Below.refl _ _).alloc (Nat.le_refl _) _
      have hkwb : Bk wb wa.heap.size [.int .i64 (f 0), .int .i64 (f 1), .int .i64 (f 2), .int .i64 (f 3), .int .i64 (f 4), .int .i64 (f 5), .int .i64 (f 6), .int .i64 (f 7)] := by rw [ewb]; exact bk_new wa 26 [.int .i64 (f 0), .int .i64 (f 1), .int .i64 (f 2), .int .i64 (f 3), .int .i64 (f 4), .int .i64 (f 5), .int .i64 (f 6), .int .i64 (f 7)]
      have B54 : Hid (Below w.heap.size w wb) := bthen B53.out hbwb
      have M54 : Hid (Bk wb w1.heap.size [.int .i64 (f 0), .int .i64 (f 1), .int .i64 (f 2), .int .i64 (f 3), .int .i64 (f 4), .int .i64 (f 5), .int .i64 (f 6), .int .i64 (f 7)]) := M53.out.below hbwb
      have G54 : Hid (Bk wb w5.heap.size [.int .i64 0, .int .i64 0, .int .i64 0, .int .i64 0, .int .i64 0, .int .i64 0, .int .i64 0, .int .i64 0]) := G53.out.below hbwb
      have I54 : Hid (Bk wb w7.heap.size [.int .i64 0, .int .i64 0, .int .i64 0, .int .i64 0, .int .i64 0, .int .i64 0, .int .i64 0, .int .i64 0]) := I53.out.below hbwb
      clear B53 M53 G53 I53
      have N55 : Hid (Bk wb wa.heap.size [.int .i64 (f 0), .int .i64 (f 1), .int .i64 (f 2), .int .i64 (f 3), .int .i64 (f 4), .int .i64 (f 5), .int .i64 (f 6), .int .i64 (f 7)]) := hkwb
      go_upto_region 13 with fail
      try rw [← ewb]
      clear ewb
      have yM0 : wb.cell? ⟨w1.heap.size, 0, none⟩ = some (.int .i64 (f 0)) := (M54.out.2 0 (by simp)).1
      have yM1 : wb.cell? ⟨w1.heap.size, 1, none⟩ = some (.int .i64 (f 1)) := (M54.out.2 1 (by simp)).1
      have yM2 : wb.cell? ⟨w1.heap.size, 2, none⟩ = some (.int .i64 (f 2)) := (M54.out.2 2 (by simp)).1
      have yM3 : wb.cell? ⟨w1.heap.size, 3, none⟩ = some (.int .i64 (f 3)) := (M54.out.2 3 (by simp)).1
      have yM4 : wb.cell? ⟨w1.heap.size, 4, none⟩ = some (.int .i64 (f 4)) := (M54.out.2 4 (by simp)).1
      have yM5 : wb.cell? ⟨w1.heap.size, 5, none⟩ = some (.int .i64 (f 5)) := (M54.out.2 5 (by simp)).1
      have yM6 : wb.cell? ⟨w1.heap.size, 6, none⟩ = some (.int .i64 (f 6)) := (M54.out.2 6 (by simp)).1
      have yM7 : wb.cell? ⟨w1.heap.size, 7, none⟩ = some (.int .i64 (f 7)) := (M54.out.2 7 (by simp)).1
      have hlM : w1.heap.size < wb.heap.size := M54.out.1
      have yN0 : wb.cell? ⟨wa.heap.size, 0, none⟩ = some (.int .i64 (f 0)) := (N55.out.2 0 (by simp)).1
      have yN1 : wb.cell? ⟨wa.heap.size, 1, none⟩ = some (.int .i64 (f 1)) := (N55.out.2 1 (by simp)).1
      have yN2 : wb.cell? ⟨wa.heap.size, 2, none⟩ = some (.int .i64 (f 2)) := (N55.out.2 2 (by simp)).1
      have yN3 : wb.cell? ⟨wa.heap.size, 3, none⟩ = some (.int .i64 (f 3)) := (N55.out.2 3 (by simp)).1
      have yN4 : wb.cell? ⟨wa.heap.size, 4, none⟩ = some (.int .i64 (f 4)) := (N55.out.2 4 (by simp)).1
      have yN5 : wb.cell? ⟨wa.heap.size, 5, none⟩ = some (.int .i64 (f 5)) := (N55.out.2 5 (by simp)).1
      have yN6 : wb.cell? ⟨wa.heap.size, 6, none⟩ = some (.int .i64 (f 6)) := (N55.out.2 6 (by simp)).1
      have yN7 : wb.cell? ⟨wa.heap.size, 7, none⟩ = some (.int .i64 (f 7)) := (N55.out.2 7 (by simp)).1
      have hlN : wa.heap.size < wb.heap.size := N55.out.1
      go_wp2
      go_ret
      exact ⟨rfl, B54.out⟩
end Go.Proofs.YtpfemjenhnnfmaaDoor
