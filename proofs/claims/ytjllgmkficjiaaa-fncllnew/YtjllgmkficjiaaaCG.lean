/- maCell: two cells of the same are the same; conditions: those typed. -/
import Derived.Test.YtjllgmkficjiaaaCF
import Derived.Test.YtjllgmkficjiaaaCE2
namespace Go.Proofs.Ytjllgmkficjiaaa
open Go.RowKit Go.Deep
set_option linter.unusedVariables false


theorem maList0 (a1 a2 : Option Addr) (c1 c2 : Nat) (w : World) : Calls Try.prog 19 #[.slice a1 0 c1, .slice a2 0 c2] w fun e w' => e = .returned (.bool true) ∧ Below w.heap.size w w' := by
  go_enter Try.func19, Try.ntmps19
  go_wp2
  refine wp_loop_rounds 1 ?_
  rw [rounds_succ]
  go_wp2
  go_ret
  exact ⟨rfl, Below.refl _ _⟩
theorem maParcels0 (a1 a2 : Option Addr) (c1 c2 : Nat) (w : World) : Calls Try.prog 21 #[.slice a1 0 c1, .slice a2 0 c2] w fun e w' => e = .returned (.bool true) ∧ Below w.heap.size w w' := by
  go_enter Try.func21, Try.ntmps21
  go_wp2
  refine wp_loop_rounds 1 ?_
  rw [rounds_succ]
  go_wp2
  go_ret
  exact ⟨rfl, Below.refl _ _⟩
theorem maRW {lo hi lo' hi' : Nat} {w : World} {a1 a2 : Option Addr} {n c1 c2 : Nat} {Z : Nat → Nat → Int} {g g' : Nat} (hn : n ≤ 2000000) (h1 : RW lo hi w (.slice a1 n c1) n Z g) (h2 : RW lo' hi' w (.slice a2 n c2) n Z g') : Calls Try.prog 19 #[.slice a1 n c1, .slice a2 n c2] w fun e w' => e = .returned (.bool true) ∧ Below w.heap.size w w' := by
  by_cases h0 : n = 0
  · subst h0; exact maList0 _ _ _ _ w
  · rcases h1 with ⟨h, _⟩ | ⟨c, e1, q1, q2, q3, u1⟩
    · exact absurd h h0
    · rcases h2 with ⟨h, _⟩ | ⟨c', e2, r1, r2, r3, u2⟩
      · exact absurd h h0
      · simp at e1 e2
        obtain ⟨rfl, rfl⟩ := e1
        obtain ⟨rfl, rfl⟩ := e2
        exact maList g c1 g' c2 n Z hn w (by omega) (by omega) (own_row u1) (own_row u2)
theorem riRow {lo hi : Nat} {w : World} {a : Option Addr} {n c : Nat} {X : Nat → Int} {g : Nat} (h : RI lo hi w (.slice a n c) n X g) : Row1 w a n X := by
  rcases h with ⟨h, _⟩ | ⟨c', e, q1, q2, q3, u⟩
  · exact .inl h
  · simp at e
    obtain ⟨rfl, rfl⟩ := e
    exact row1_of_own u (by omega)
theorem riShape {lo hi : Nat} {w : World} {v : Value} {n : Nat} {X : Nat → Int} {g : Nat} (h : RI lo hi w v n X g) : ∃ a c, v = .slice a n c := by
  rcases h with ⟨rfl, a, c, rfl⟩ | ⟨c', e, _⟩
  · exact ⟨a, c, rfl⟩
  · exact ⟨_, _, e⟩
theorem rwShape {lo hi : Nat} {w : World} {v : Value} {n : Nat} {Z : Nat → Nat → Int} {g : Nat} (h : RW lo hi w v n Z g) : ∃ a c, v = .slice a n c := by
  rcases h with ⟨rfl, a, c, rfl⟩ | ⟨c', e, _⟩
  · exact ⟨a, c, rfl⟩
  · exact ⟨_, _, e⟩
theorem rpShape {lo hi : Nat} {w : World} {v : Value} {n : Nat} {Z : Nat → Nat → Int} {g : Nat} (h : RP lo hi w v n Z g) : ∃ a c, v = .slice a n c := by
  rcases h with ⟨rfl, a, c, rfl⟩ | ⟨c', e, _⟩
  · exact ⟨a, c, rfl⟩
  · exact ⟨_, _, e⟩
theorem roShape {lo hi : Nat} {w : World} {v : Value} {n : Nat} {N : Nat → Nat} {O : Nat → Nat → Nat → Int} {g : Nat} {sl : Nat → Value} {xs : Nat → Nat} (h : RO lo hi w v n N O g sl xs) (hN : ∀ k, k < n → N k = 0) : ∃ a c, v = .slice a n c ∧ (n = 0 ∨ ∃ g, a = some ⟨g, 0, none⟩ ∧ g < w.heap.size ∧ ∀ k, k < n → ∃ s t, w.cell? ⟨g, k, none⟩ = some (.slice s 0 t)) := by
  rcases h with ⟨rfl, a, c, rfl⟩ | ⟨c', e, q1, q2, q3, q5⟩
  · exact ⟨a, c, rfl, .inl rfl⟩
  · refine ⟨_, _, e, .inr ⟨g, rfl, by omega, fun k hk => ?_⟩⟩
    obtain ⟨h1, h2⟩ := q5 k hk
    obtain ⟨s, t, es⟩ := rpShape h2
    rw [hN k hk] at es
    exact ⟨s, t, by rw [h1, es]⟩
theorem nil_below {w w' : World} {a : Option Addr} {n : Nat} (h : n = 0 ∨ ∃ g, a = some ⟨g, 0, none⟩ ∧ g < w.heap.size ∧ ∀ k, k < n → ∃ s t, w.cell? ⟨g, k, none⟩ = some (.slice s 0 t)) (hb : Below w.heap.size w w') : n = 0 ∨ ∃ g, a = some ⟨g, 0, none⟩ ∧ g < w'.heap.size ∧ ∀ k, k < n → ∃ s t, w'.cell? ⟨g, k, none⟩ = some (.slice s 0 t) := by
  rcases h with h | ⟨g, e, hg, hr⟩
  · exact .inl h
  · refine .inr ⟨g, e, Nat.lt_of_lt_of_le hg hb.size, fun k hk => ?_⟩
    obtain ⟨s, t, hs⟩ := hr k hk
    exact ⟨s, t, (hb.cell (p := ⟨g, k, none⟩) hg).trans hs⟩

theorem rw_below {lo hi : Nat} {w w' : World} {v : Value} {n : Nat} {Z : Nat → Nat → Int} {g : Nat} (h : RW lo hi w v n Z g) (hb : Below w.heap.size w w') : RW lo hi w' v n Z g := by
  rcases h with h | ⟨c, h1, h2, h3, h4, h5⟩
  · exact .inl h
  · exact .inr ⟨c, h1, h2, h3, Nat.le_trans h4 hb.size, own_below h5 (by omega) hb⟩
theorem row1_below2 {w w' : World} {a : Option Addr} {n : Nat} {X : Nat → Int} (h : Row1 w a n X) (hb : Below w.heap.size w w') : Row1 w' a n X := by
  rcases h with rfl | ⟨b, o, rfl, hlt, hr⟩
  · exact .inl rfl
  · exact .inr ⟨b, o, rfl, Nat.lt_of_lt_of_le hlt hb.size, fun k hk => (hb.cell (p := ⟨b, _, none⟩) hlt).trans (hr k hk)⟩
set_option maxHeartbeats 4000000 in
theorem maCell (lo hi lo' hi' : Nat) (v1 v2 : Value) (V : CV) (s1 : V.nW ≤ 2000000) (s2 : V.nX ≤ 1000) (s3 : V.nI ≤ 1000) (s4 : V.nO ≤ 1000) (hN : ∀ k, k < V.nO → V.N k = 0) (w : World) (h1 : OwnC lo hi w v1 V) (h2 : OwnC lo' hi' w v2 V) :
    Calls Try.prog 6 #[v1, v2] w fun e w' => e = .returned (.bool true) ∧ Below w.heap.size w w' := by
  obtain ⟨vc, nW, W, vg, nO, N, O, nX, X, nI, I⟩ := V
  obtain ⟨uW, uO, uX, uI, gW, gO, gX, gI, sl, xs, rfl, a1, a2, a3, a4, _⟩ := h1
  obtain ⟨zW, zO, zX, zI, hW, hO, hX, hI, sl2, xs2, rfl, b1, b2, b3, b4, _⟩ := h2
  simp only at a1 a2 a3 a4 b1 b2 b3 b4 hN s1 s2 s3 s4
  obtain ⟨aW, kW, rfl⟩ := rwShape a1
  obtain ⟨bW, lW, rfl⟩ := rwShape b1
  obtain ⟨aO, kO, rfl, nil1⟩ := roShape a2 hN
  obtain ⟨bO, lO, rfl, nil2⟩ := roShape b2 hN
  obtain ⟨aX, kX, rfl⟩ := riShape a3
  obtain ⟨bX, lX, rfl⟩ := riShape b3
  obtain ⟨aI, kI, rfl⟩ := riShape a4
  obtain ⟨bI, lI, rfl⟩ := riShape b4
  have R1 : Hid (RW lo hi w (.slice aW nW kW) nW W gW) := a1
  have R2 : Hid (RW lo' hi' w (.slice bW nW lW) nW W hW) := b1
  have X1 : Hid (Row1 w aX nX X) := riRow a3
  have X2 : Hid (Row1 w bX nX X) := riRow b3
  have I1 : Hid (Row1 w aI nI I) := riRow a4
  have I2 : Hid (Row1 w bI nI I) := riRow b4
  have N1 : Hid (nO = 0 ∨ ∃ g, aO = some ⟨g, 0, none⟩ ∧ g < w.heap.size ∧ ∀ k, k < nO → ∃ s t, w.cell? ⟨g, k, none⟩ = some (.slice s 0 t)) := nil1
  have N2 : Hid (nO = 0 ∨ ∃ g, bO = some ⟨g, 0, none⟩ ∧ g < w.heap.size ∧ ∀ k, k < nO → ∃ s t, w.cell? ⟨g, k, none⟩ = some (.slice s 0 t)) := nil2
  clear a1 a2 a3 a4 b1 b2 b3 b4 nil1 nil2 hN
  go_enter Try.func6, Try.ntmps6
  go_wp2_with fail
  obtain ⟨w0, e0⟩ : ∃ w0, w0 = (w.alloc (.cells #[.int .i64 vc, .slice aW nW kW, .int .i64 vg, .slice aO nO kO, .slice aX nX kX, .slice aI nI kI] 31)).alloc (.cells #[.int .i64 vc, .slice bW nW lW, .int .i64 vg, .slice bO nO lO, .slice bX nX lX, .slice bI nI lI] 31) := ⟨_, rfl⟩
  have B1 : Hid (Below w.heap.size w w0) := by rw [e0]; exact ((Below.refl _ _).alloc (by simp) _).alloc (by simp) _
  have A2 : Hid (Bk w0 w.heap.size [.int .i64 vc, .slice aW nW kW, .int .i64 vg, .slice aO nO kO, .slice aX nX kX, .slice aI nI kI]) := by rw [e0]; exact (bk_new w 31 [.int .i64 vc, .slice aW nW kW, .int .i64 vg, .slice aO nO kO, .slice aX nX kX, .slice aI nI kI]).below ((Below.refl _ _).alloc (Nat.le_refl _) _)
  have C3 : Hid (Bk w0 (w.heap.size + 1) [.int .i64 vc, .slice bW nW lW, .int .i64 vg, .slice bO nO lO, .slice bX nX lX, .slice bI nI lI]) := by rw [e0]; have := bk_new (w.alloc (.cells #[.int .i64 vc, .slice aW nW kW, .int .i64 vg, .slice aO nO kO, .slice aX nX kX, .slice aI nI kI] 31)) 31 [.int .i64 vc, .slice bW nW lW, .int .i64 vg, .slice bO nO lO, .slice bX nX lX, .slice bI nI lI]; rwa [show (w.alloc (.cells #[.int .i64 vc, .slice aW nW kW, .int .i64 vg, .slice aO nO kO, .slice aX nX kX, .slice aI nI kI] 31)).heap.size = w.heap.size + 1 by simp] at this
  rw [← e0]
  clear e0
  refine (maRW s1 (rw_below R1.out B1.out) (rw_below R2.out B1.out)).mono ?_
  rintro e w1 ⟨rfl, hb1⟩
  have B4 : Hid (Below w.heap.size w w1) := bthen B1.out hb1
  have A4 : Hid (Bk w1 w.heap.size [.int .i64 vc, .slice aW nW kW, .int .i64 vg, .slice aO nO kO, .slice aX nX kX, .slice aI nI kI]) := A2.out.below hb1
  have C4 : Hid (Bk w1 (w.heap.size + 1) [.int .i64 vc, .slice bW nW lW, .int .i64 vg, .slice bO nO lO, .slice bX nX lX, .slice bI nI lI]) := C3.out.below hb1
  clear B1 A2 C3
  clear hb1
  have yA0 : w1.cell? ⟨w.heap.size, 0, none⟩ = some (.int .i64 vc) := (A4.out.2 0 (by simp)).1
  have yA1 : w1.cell? ⟨w.heap.size, 1, none⟩ = some (.slice aW nW kW) := (A4.out.2 1 (by simp)).1
  have yA2 : w1.cell? ⟨w.heap.size, 2, none⟩ = some (.int .i64 vg) := (A4.out.2 2 (by simp)).1
  have yA3 : w1.cell? ⟨w.heap.size, 3, none⟩ = some (.slice aO nO kO) := (A4.out.2 3 (by simp)).1
  have yA4 : w1.cell? ⟨w.heap.size, 4, none⟩ = some (.slice aX nX kX) := (A4.out.2 4 (by simp)).1
  have yA5 : w1.cell? ⟨w.heap.size, 5, none⟩ = some (.slice aI nI kI) := (A4.out.2 5 (by simp)).1
  have hlA : w.heap.size < w1.heap.size := A4.out.1
  have yC0 : w1.cell? ⟨(w.heap.size + 1), 0, none⟩ = some (.int .i64 vc) := (C4.out.2 0 (by simp)).1
  have yC1 : w1.cell? ⟨(w.heap.size + 1), 1, none⟩ = some (.slice bW nW lW) := (C4.out.2 1 (by simp)).1
  have yC2 : w1.cell? ⟨(w.heap.size + 1), 2, none⟩ = some (.int .i64 vg) := (C4.out.2 2 (by simp)).1
  have yC3 : w1.cell? ⟨(w.heap.size + 1), 3, none⟩ = some (.slice bO nO lO) := (C4.out.2 3 (by simp)).1
  have yC4 : w1.cell? ⟨(w.heap.size + 1), 4, none⟩ = some (.slice bX nX lX) := (C4.out.2 4 (by simp)).1
  have yC5 : w1.cell? ⟨(w.heap.size + 1), 5, none⟩ = some (.slice bI nI lI) := (C4.out.2 5 (by simp)).1
  have hlC : (w.heap.size + 1) < w1.heap.size := C4.out.1
  go_wp2_with fail
  refine (maInts (row1_below2 X1.out B4.out) (row1_below2 X2.out B4.out) s2).mono ?_
  rintro e w2 ⟨rfl, hb2⟩
  clear yA0 yA1 yA2 yA3 yA4 yA5 hlA yC0 yC1 yC2 yC3 yC4 yC5 hlC
  have B5 : Hid (Below w.heap.size w w2) := bthen B4.out hb2
  have A5 : Hid (Bk w2 w.heap.size [.int .i64 vc, .slice aW nW kW, .int .i64 vg, .slice aO nO kO, .slice aX nX kX, .slice aI nI kI]) := A4.out.below hb2
  have C5 : Hid (Bk w2 (w.heap.size + 1) [.int .i64 vc, .slice bW nW lW, .int .i64 vg, .slice bO nO lO, .slice bX nX lX, .slice bI nI lI]) := C4.out.below hb2
  clear B4 A4 C4
  clear hb2
  have yA0 : w2.cell? ⟨w.heap.size, 0, none⟩ = some (.int .i64 vc) := (A5.out.2 0 (by simp)).1
  have yA1 : w2.cell? ⟨w.heap.size, 1, none⟩ = some (.slice aW nW kW) := (A5.out.2 1 (by simp)).1
  have yA2 : w2.cell? ⟨w.heap.size, 2, none⟩ = some (.int .i64 vg) := (A5.out.2 2 (by simp)).1
  have yA3 : w2.cell? ⟨w.heap.size, 3, none⟩ = some (.slice aO nO kO) := (A5.out.2 3 (by simp)).1
  have yA4 : w2.cell? ⟨w.heap.size, 4, none⟩ = some (.slice aX nX kX) := (A5.out.2 4 (by simp)).1
  have yA5 : w2.cell? ⟨w.heap.size, 5, none⟩ = some (.slice aI nI kI) := (A5.out.2 5 (by simp)).1
  have hlA : w.heap.size < w2.heap.size := A5.out.1
  have yC0 : w2.cell? ⟨(w.heap.size + 1), 0, none⟩ = some (.int .i64 vc) := (C5.out.2 0 (by simp)).1
  have yC1 : w2.cell? ⟨(w.heap.size + 1), 1, none⟩ = some (.slice bW nW lW) := (C5.out.2 1 (by simp)).1
  have yC2 : w2.cell? ⟨(w.heap.size + 1), 2, none⟩ = some (.int .i64 vg) := (C5.out.2 2 (by simp)).1
  have yC3 : w2.cell? ⟨(w.heap.size + 1), 3, none⟩ = some (.slice bO nO lO) := (C5.out.2 3 (by simp)).1
  have yC4 : w2.cell? ⟨(w.heap.size + 1), 4, none⟩ = some (.slice bX nX lX) := (C5.out.2 4 (by simp)).1
  have yC5 : w2.cell? ⟨(w.heap.size + 1), 5, none⟩ = some (.slice bI nI lI) := (C5.out.2 5 (by simp)).1
  have hlC : (w.heap.size + 1) < w2.heap.size := C5.out.1
  go_wp2_with fail
  refine (maInts (row1_below2 I1.out B5.out) (row1_below2 I2.out B5.out) s3).mono ?_
  rintro e w3 ⟨rfl, hb3⟩
  clear yA0 yA1 yA2 yA3 yA4 yA5 hlA yC0 yC1 yC2 yC3 yC4 yC5 hlC
  have B6 : Hid (Below w.heap.size w w3) := bthen B5.out hb3
  have A6 : Hid (Bk w3 w.heap.size [.int .i64 vc, .slice aW nW kW, .int .i64 vg, .slice aO nO kO, .slice aX nX kX, .slice aI nI kI]) := A5.out.below hb3
  have C6 : Hid (Bk w3 (w.heap.size + 1) [.int .i64 vc, .slice bW nW lW, .int .i64 vg, .slice bO nO lO, .slice bX nX lX, .slice bI nI lI]) := C5.out.below hb3
  clear B5 A5 C5
  clear hb3
  have yA0 : w3.cell? ⟨w.heap.size, 0, none⟩ = some (.int .i64 vc) := (A6.out.2 0 (by simp)).1
  have yA1 : w3.cell? ⟨w.heap.size, 1, none⟩ = some (.slice aW nW kW) := (A6.out.2 1 (by simp)).1
  have yA2 : w3.cell? ⟨w.heap.size, 2, none⟩ = some (.int .i64 vg) := (A6.out.2 2 (by simp)).1
  have yA3 : w3.cell? ⟨w.heap.size, 3, none⟩ = some (.slice aO nO kO) := (A6.out.2 3 (by simp)).1
  have yA4 : w3.cell? ⟨w.heap.size, 4, none⟩ = some (.slice aX nX kX) := (A6.out.2 4 (by simp)).1
  have yA5 : w3.cell? ⟨w.heap.size, 5, none⟩ = some (.slice aI nI kI) := (A6.out.2 5 (by simp)).1
  have hlA : w.heap.size < w3.heap.size := A6.out.1
  have yC0 : w3.cell? ⟨(w.heap.size + 1), 0, none⟩ = some (.int .i64 vc) := (C6.out.2 0 (by simp)).1
  have yC1 : w3.cell? ⟨(w.heap.size + 1), 1, none⟩ = some (.slice bW nW lW) := (C6.out.2 1 (by simp)).1
  have yC2 : w3.cell? ⟨(w.heap.size + 1), 2, none⟩ = some (.int .i64 vg) := (C6.out.2 2 (by simp)).1
  have yC3 : w3.cell? ⟨(w.heap.size + 1), 3, none⟩ = some (.slice bO nO lO) := (C6.out.2 3 (by simp)).1
  have yC4 : w3.cell? ⟨(w.heap.size + 1), 4, none⟩ = some (.slice bX nX lX) := (C6.out.2 4 (by simp)).1
  have yC5 : w3.cell? ⟨(w.heap.size + 1), 5, none⟩ = some (.slice bI nI lI) := (C6.out.2 5 (by simp)).1
  have hlC : (w.heap.size + 1) < w3.heap.size := C6.out.1
  go_wp2_with fail
  clear yA0 yA1 yA2 yA3 yA4 yA5 hlA yC0 yC1 yC2 yC3 yC4 yC5 hlC
  go_loopw [5] (fun i wr => ∃ k : Nat, k ≤ nO ∧ i = .int .i64 k ∧ Below w.heap.size w wr ∧ Bk wr w.heap.size [.int .i64 vc, .slice aW nW kW, .int .i64 vg, .slice aO nO kO, .slice aX nX kX, .slice aI nI kI] ∧ Bk wr (w.heap.size + 1) [.int .i64 vc, .slice bW nW lW, .int .i64 vg, .slice bO nO lO, .slice bX nX lX, .slice bI nI lI]) (fun i _ => nO - (intOf i).toNat)
  case atStart => exact ⟨0, Nat.zero_le _, rfl, B6.out, A6.out, C6.out⟩
  case round =>
    clear B6 A6 C6
    obtain ⟨k, hk, rfl, hbel, hA, hC⟩ := hrel
    have B7 : Hid (Below w.heap.size w wr) := hbel
    have A8 : Hid (Bk wr w.heap.size [.int .i64 vc, .slice aW nW kW, .int .i64 vg, .slice aO nO kO, .slice aX nX kX, .slice aI nI kI]) := hA
    have C9 : Hid (Bk wr (w.heap.size + 1) [.int .i64 vc, .slice bW nW lW, .int .i64 vg, .slice bO nO lO, .slice bX nX lX, .slice bI nI lI]) := hC
    clear hbel hA hC
    by_cases hkn : k < nO
    · have hkn' : (k : Int) < nO := by omega
      obtain ⟨p1, rfl, lp1, rp1⟩ : ∃ g, aO = some ⟨g, 0, none⟩ ∧ g < wr.heap.size ∧ ∀ k, k < nO → ∃ s t, wr.cell? ⟨g, k, none⟩ = some (.slice s 0 t) := by
        rcases nil_below N1.out B7.out with h | h
        · omega
        · exact h
      obtain ⟨sp1, tp1, cp1⟩ := rp1 k hkn
      clear rp1
      obtain ⟨p2, rfl, lp2, rp2⟩ : ∃ g, bO = some ⟨g, 0, none⟩ ∧ g < wr.heap.size ∧ ∀ k, k < nO → ∃ s t, wr.cell? ⟨g, k, none⟩ = some (.slice s 0 t) := by
        rcases nil_below N2.out B7.out with h | h
        · omega
        · exact h
      obtain ⟨sp2, tp2, cp2⟩ := rp2 k hkn
      clear rp2
      have yA0 : wr.cell? ⟨w.heap.size, 0, none⟩ = some (.int .i64 vc) := (A8.out.2 0 (by simp)).1
      have yA1 : wr.cell? ⟨w.heap.size, 1, none⟩ = some (.slice aW nW kW) := (A8.out.2 1 (by simp)).1
      have yA2 : wr.cell? ⟨w.heap.size, 2, none⟩ = some (.int .i64 vg) := (A8.out.2 2 (by simp)).1
      have yA3 : wr.cell? ⟨w.heap.size, 3, none⟩ = some (.slice (some ⟨p1, 0, none⟩) nO kO) := (A8.out.2 3 (by simp)).1
      have yA4 : wr.cell? ⟨w.heap.size, 4, none⟩ = some (.slice aX nX kX) := (A8.out.2 4 (by simp)).1
      have yA5 : wr.cell? ⟨w.heap.size, 5, none⟩ = some (.slice aI nI kI) := (A8.out.2 5 (by simp)).1
      have hlA : w.heap.size < wr.heap.size := A8.out.1
      have yC0 : wr.cell? ⟨(w.heap.size + 1), 0, none⟩ = some (.int .i64 vc) := (C9.out.2 0 (by simp)).1
      have yC1 : wr.cell? ⟨(w.heap.size + 1), 1, none⟩ = some (.slice bW nW lW) := (C9.out.2 1 (by simp)).1
      have yC2 : wr.cell? ⟨(w.heap.size + 1), 2, none⟩ = some (.int .i64 vg) := (C9.out.2 2 (by simp)).1
      have yC3 : wr.cell? ⟨(w.heap.size + 1), 3, none⟩ = some (.slice (some ⟨p2, 0, none⟩) nO lO) := (C9.out.2 3 (by simp)).1
      have yC4 : wr.cell? ⟨(w.heap.size + 1), 4, none⟩ = some (.slice bX nX lX) := (C9.out.2 4 (by simp)).1
      have yC5 : wr.cell? ⟨(w.heap.size + 1), 5, none⟩ = some (.slice bI nI lI) := (C9.out.2 5 (by simp)).1
      have hlC : (w.heap.size + 1) < wr.heap.size := C9.out.1
      go_wp2
      refine wp_region_held_drew (S := fun w' => (∀ b o, b < wr.heap.size → w'.cell? ⟨b, o, none⟩ = wr.cell? ⟨b, o, none⟩) ∧ wr.heap.size ≤ w'.heap.size) (by kernel_rfl) ⟨fun _ _ _ => rfl, Nat.le_refl _⟩ ?_
      intro hHeld
      refine wpAnyH_take (i := 0) (v := .pointer (some ⟨w.heap.size, 3, none⟩)) rfl (by kernel_rfl) (by kernel_rfl) (by kernel_rfl) (fun _ _ _ h => h) (Or.inl ⟨by rfl, ?_⟩) (by assumption) ?_
      · intro wx hSw; go_simp
      try simp only [Act.put, List.setIfInBounds_toArray, List.set_cons_zero, List.set_cons_succ, List.getElem_toArray, List.getElem_cons_zero]
      refine wpAnyH_take (i := 1) (v := .slice (some ⟨p1, 0, none⟩) nO kO) rfl (by kernel_rfl) (by kernel_rfl) (by kernel_rfl) (fun _ _ _ h => h) (Or.inl ⟨by rfl, ?_⟩) (by assumption) ?_
      · intro wx hSw; go_simp
      try simp only [Act.put, List.setIfInBounds_toArray, List.set_cons_zero, List.set_cons_succ, List.getElem_toArray, List.getElem_cons_zero, List.getElem_cons_succ]
      refine wpAnyH_take (i := 2) (v := .int .i64 (k : Int)) rfl (by kernel_rfl) (by kernel_rfl) (by kernel_rfl) (fun _ _ _ h => h) (Or.inl ⟨by rfl, ?_⟩) (by assumption) ?_
      · intro wx hSw; go_simp
      try simp only [Act.put, List.setIfInBounds_toArray, List.set_cons_zero, List.set_cons_succ, List.getElem_toArray, List.getElem_cons_zero, List.getElem_cons_succ]
      refine wpAnyH_take (i := 3) (v := .pointer (some ⟨p1, k, none⟩)) rfl (by kernel_rfl) (by kernel_rfl) (by kernel_rfl) (fun _ _ _ h => h) (Or.inl ⟨by rfl, ?_⟩) (by assumption) ?_
      · intro wx hSw; go_simp
      try simp only [Act.put, List.setIfInBounds_toArray, List.set_cons_zero, List.set_cons_succ, List.getElem_toArray, List.getElem_cons_zero, List.getElem_cons_succ]
      refine wpAnyH_take (i := 4) (v := .slice sp1 0 tp1) rfl (by kernel_rfl) (by kernel_rfl) (by kernel_rfl) (fun _ _ _ h => h) (Or.inl ⟨by rfl, ?_⟩) (by assumption) ?_
      · intro wx hSw; go_simp
      try simp only [Act.put, List.setIfInBounds_toArray, List.set_cons_zero, List.set_cons_succ, List.getElem_toArray, List.getElem_cons_zero, List.getElem_cons_succ]
      refine wpAnyH_take (i := 5) (v := .pointer (some ⟨(w.heap.size + 1), 3, none⟩)) rfl (by kernel_rfl) (by kernel_rfl) (by kernel_rfl) (fun _ _ _ h => h) (Or.inl ⟨by rfl, ?_⟩) (by assumption) ?_
      · intro wx hSw; go_simp
      try simp only [Act.put, List.setIfInBounds_toArray, List.set_cons_zero, List.set_cons_succ, List.getElem_toArray, List.getElem_cons_zero, List.getElem_cons_succ]
      refine wpAnyH_take (i := 6) (v := .slice (some ⟨p2, 0, none⟩) nO lO) rfl (by kernel_rfl) (by kernel_rfl) (by kernel_rfl) (fun _ _ _ h => h) (Or.inl ⟨by rfl, ?_⟩) (by assumption) ?_
      · intro wx hSw; go_simp
      try simp only [Act.put, List.setIfInBounds_toArray, List.set_cons_zero, List.set_cons_succ, List.getElem_toArray, List.getElem_cons_zero, List.getElem_cons_succ]
      refine wpAnyH_take (i := 7) (v := .int .i64 (k : Int)) rfl (by kernel_rfl) (by kernel_rfl) (by kernel_rfl) (fun _ _ _ h => h) (Or.inl ⟨by rfl, ?_⟩) (by assumption) ?_
      · intro wx hSw; go_simp
      try simp only [Act.put, List.setIfInBounds_toArray, List.set_cons_zero, List.set_cons_succ, List.getElem_toArray, List.getElem_cons_zero, List.getElem_cons_succ]
      refine wpAnyH_take (i := 8) (v := .pointer (some ⟨p2, k, none⟩)) rfl (by kernel_rfl) (by kernel_rfl) (by kernel_rfl) (fun _ _ _ h => h) (Or.inl ⟨by rfl, ?_⟩) (by assumption) ?_
      · intro wx hSw; go_simp
      try simp only [Act.put, List.setIfInBounds_toArray, List.set_cons_zero, List.set_cons_succ, List.getElem_toArray, List.getElem_cons_zero, List.getElem_cons_succ]
      refine wpAnyH_take (i := 9) (v := .slice sp2 0 tp2) rfl (by kernel_rfl) (by kernel_rfl) (by kernel_rfl) (fun _ _ _ h => h) (Or.inl ⟨by rfl, ?_⟩) (by assumption) ?_
      · intro wx hSw; go_simp
      try simp only [Act.put, List.setIfInBounds_toArray, List.set_cons_zero, List.set_cons_succ, List.getElem_toArray, List.getElem_cons_zero, List.getElem_cons_succ]
      refine wpAnyH_ready (rs := [10]) (by kernel_rfl) (by simp) ?_
      refine AllReadyH.cons rfl (fun K hK => ?_) AllReadyH.nil
      go_simp
      go_wp2_with fail
      refine (maParcels0 _ _ _ _ _).mono ?_
      rintro e x1 ⟨rfl, hx1⟩
      refine hK.out _ _ (keepS (by assumption) hx1) (fun hNew => ?_)
      clear hK K hHeld
      have hHeld := hNew
      clear hNew
      try simp only [Act.put, List.setIfInBounds_toArray, List.set_cons_zero, List.set_cons_succ, List.getElem_toArray, List.getElem_cons_zero, List.getElem_cons_succ]
      refine wpAnyH_take (i := 11) (v := .bool false) rfl (by kernel_rfl) (by kernel_rfl) (by kernel_rfl) (fun _ _ _ h => h) (Or.inl ⟨by rfl, ?_⟩) (by assumption) ?_
      · intro wx hSw; go_simp
      try simp only [Act.put, List.setIfInBounds_toArray, List.set_cons_zero, List.set_cons_succ, List.getElem_toArray, List.getElem_cons_zero, List.getElem_cons_succ]
      refine wpAnyH_done (by kernel_rfl) ?_ _
      clear hHeld
      clear yA0 yA1 yA2 yA3 yA4 yA5 hlA yC0 yC1 yC2 yC3 yC4 yC5 hlC
      clear cp1 cp2
      go_wp2
      go_roundw
      case rel => exact ⟨k + 1, by omega, by go_num, bthen B7.out (by repeat (first | exact Below.refl _ _ | refine bthen ?_ (by assumption) | apply Below.drew)), A8.out.below (by repeat (first | exact Below.refl _ _ | refine bthen ?_ (by assumption) | apply Below.drew)), C9.out.below (by repeat (first | exact Below.refl _ _ | refine bthen ?_ (by assumption) | apply Below.drew))⟩
      case measure => simp [intOf]; omega
    · have hkn' : ¬ (k : Int) < nO := by omega
      have yA0 : wr.cell? ⟨w.heap.size, 0, none⟩ = some (.int .i64 vc) := (A8.out.2 0 (by simp)).1
      have yA1 : wr.cell? ⟨w.heap.size, 1, none⟩ = some (.slice aW nW kW) := (A8.out.2 1 (by simp)).1
      have yA2 : wr.cell? ⟨w.heap.size, 2, none⟩ = some (.int .i64 vg) := (A8.out.2 2 (by simp)).1
      have yA3 : wr.cell? ⟨w.heap.size, 3, none⟩ = some (.slice aO nO kO) := (A8.out.2 3 (by simp)).1
      have yA4 : wr.cell? ⟨w.heap.size, 4, none⟩ = some (.slice aX nX kX) := (A8.out.2 4 (by simp)).1
      have yA5 : wr.cell? ⟨w.heap.size, 5, none⟩ = some (.slice aI nI kI) := (A8.out.2 5 (by simp)).1
      have hlA : w.heap.size < wr.heap.size := A8.out.1
      have yC0 : wr.cell? ⟨(w.heap.size + 1), 0, none⟩ = some (.int .i64 vc) := (C9.out.2 0 (by simp)).1
      have yC1 : wr.cell? ⟨(w.heap.size + 1), 1, none⟩ = some (.slice bW nW lW) := (C9.out.2 1 (by simp)).1
      have yC2 : wr.cell? ⟨(w.heap.size + 1), 2, none⟩ = some (.int .i64 vg) := (C9.out.2 2 (by simp)).1
      have yC3 : wr.cell? ⟨(w.heap.size + 1), 3, none⟩ = some (.slice bO nO lO) := (C9.out.2 3 (by simp)).1
      have yC4 : wr.cell? ⟨(w.heap.size + 1), 4, none⟩ = some (.slice bX nX lX) := (C9.out.2 4 (by simp)).1
      have yC5 : wr.cell? ⟨(w.heap.size + 1), 5, none⟩ = some (.slice bI nI lI) := (C9.out.2 5 (by simp)).1
      have hlC : (w.heap.size + 1) < wr.heap.size := C9.out.1
      go_wp2
      go_ret
      exact ⟨rfl, B7.out⟩
end Go.Proofs.Ytjllgmkficjiaaa
