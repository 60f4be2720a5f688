/- What is ok in a message, and what is sent, of the program; conditions: none. -/
import Derived.Test.YtgjapdjidighlabGreatMsg3
namespace Go.Proofs.YtgjapdjidighlabGreat
open Go.RowKit Go.Deep
set_option linter.unusedVariables false
theorem load44_bk {w : World} {b : Nat} {l : List Value} (h : Bk w b l) (hl : l.length = 25) : (load44 (.pointer (some ⟨b, 0, none⟩))).run Tryz.prog w = .ok (.agg l.toArray) w :=
  run_loadAt_mid w b 0 53 l _ (Bk.range h) Tryz.underlying53 rfl (by rw [hl]; kernel_rfl)
theorem store44_bk {w : World} {b : Nat} {l' : List Value} (h : Bk w b l') (hl : l'.length = 25) (cells : Array Value) (hs : cells.size = 25) (h1 : cells.all (·.oneCell') = true) :
    (store44 (.pointer (some ⟨b, 0, none⟩)) (.agg cells)).run Tryz.prog w = .ok () (putL b cells.toList 0 w) := by
  rw [← put_cells]
  refine run_storeAt_mid w b 0 53 cells (fun j hj => ?_) (by rw [hs]; kernel_rfl) h1
  rw [Nat.zero_add]
  have g := h.2 j (by omega)
  exact ⟨by rw [g.1]; rfl, g.2⟩
attribute [local go_sem ↓] store44_eq load44_eq
set_option maxRecDepth 100000 in
set_option maxHeartbeats 1000000 in
theorem sent_gen (k to ce : Int) (m : Nat → Int) (t : TypeId) (V : Value) (fm : Nat)
    (hm : ∀ (w : World), (method 307 t V "loop.example/landmarch/impl.message").run Tryz.prog w = .ok (fm, V) w)
    (hcf : ∀ (a : Array Value) (w : World), (callFunc fm a).run Tryz.prog w = .ok (.enter fm a) w)
    (hmsg : ∀ w : World, Calls Tryz.prog fm #[V] w fun e w' => e = .returned (.agg #[.int .i64 k, .int .i64 0, .int .i64 0, .int .i64 (m 3), .int .i64 (m 4), .int .i64 (m 5), .int .i64 (m 6), .int .i64 (m 7), .int .i64 (m 8), .int .i64 (m 9), .int .i64 (m 10), .int .i64 (m 11), .int .i64 (m 12), .int .i64 (m 13), .int .i64 (m 14), .int .i64 (m 15), .int .i64 (m 16), .int .i64 (m 17), .int .i64 (m 18), .int .i64 (m 19), .int .i64 (m 20), .int .i64 (m 21), .int .i64 (m 22), .int .i64 (m 23), .int .i64 (m 24)]) ∧ Below w.heap.size w w') (w : World) :
    Calls Tryz.prog 46 #[.int .i64 to, .int .i64 ce, .iface t V] w fun e w' => e = .returned (.agg #[.int .i64 k, .int .i64 to, .int .i64 ce, .int .i64 (m 3), .int .i64 (m 4), .int .i64 (m 5), .int .i64 (m 6), .int .i64 (m 7), .int .i64 (m 8), .int .i64 (m 9), .int .i64 (m 10), .int .i64 (m 11), .int .i64 (m 12), .int .i64 (m 13), .int .i64 (m 14), .int .i64 (m 15), .int .i64 (m 16), .int .i64 (m 17), .int .i64 (m 18), .int .i64 (m 19), .int .i64 (m 20), .int .i64 (m 21), .int .i64 (m 22), .int .i64 (m 23), .int .i64 (m 24)]) ∧ Below w.heap.size w w' := by
  go_enter Tryz.func46, Tryz.ntmps46
  go_wp2_with fail
  obtain ⟨w0, e0⟩ : ∃ w0, w0 = w.alloc (.cells #[.int .i64 0, .int .i64 0, .int .i64 0, .int .i64 0, .int .i64 0, .int .i64 0, .int .i64 0, .int .i64 0, .int .i64 0, .int .i64 0, .int .i64 0, .int .i64 0, .int .i64 0, .int .i64 0, .int .i64 0, .int .i64 0, .int .i64 0, .int .i64 0, .int .i64 0, .int .i64 0, .int .i64 0, .int .i64 0, .int .i64 0, .int .i64 0, .int .i64 0] 53) := ⟨_, rfl⟩
  have hB0 : Hid (Below w.heap.size w w0) := by rw [e0]; exact (Below.refl _ _).alloc (by simp) _
  have hR0 : Hid (Bk w0 w.heap.size [.int .i64 0, .int .i64 0, .int .i64 0, .int .i64 0, .int .i64 0, .int .i64 0, .int .i64 0, .int .i64 0, .int .i64 0, .int .i64 0, .int .i64 0, .int .i64 0, .int .i64 0, .int .i64 0, .int .i64 0, .int .i64 0, .int .i64 0, .int .i64 0, .int .i64 0, .int .i64 0, .int .i64 0, .int .i64 0, .int .i64 0, .int .i64 0, .int .i64 0]) := by rw [e0]; exact bk_new w 53 [.int .i64 0, .int .i64 0, .int .i64 0, .int .i64 0, .int .i64 0, .int .i64 0, .int .i64 0, .int .i64 0, .int .i64 0, .int .i64 0, .int .i64 0, .int .i64 0, .int .i64 0, .int .i64 0, .int .i64 0, .int .i64 0, .int .i64 0, .int .i64 0, .int .i64 0, .int .i64 0, .int .i64 0, .int .i64 0, .int .i64 0, .int .i64 0, .int .i64 0]
  rw [← e0]
  clear e0
  refine (hmsg _).mono ?_
  rintro e w1 ⟨rfl, hb1⟩
  have hB1 := hid (bthen hB0.out hb1)
  have hR1 := hid (hR0.out.below hb1)
  clear hB0 hR0 hb1
  go_wp2
  obtain ⟨w2, e2⟩ : ∃ w2, w2 = w1.alloc (.cells #[.int .i64 0, .int .i64 0, .int .i64 0, .int .i64 0, .int .i64 0, .int .i64 0, .int .i64 0, .int .i64 0, .int .i64 0, .int .i64 0, .int .i64 0, .int .i64 0, .int .i64 0, .int .i64 0, .int .i64 0, .int .i64 0, .int .i64 0, .int .i64 0, .int .i64 0, .int .i64 0, .int .i64 0, .int .i64 0, .int .i64 0, .int .i64 0, .int .i64 0] 53) := ⟨_, rfl⟩
  have hb2 : Below w1.heap.size w1 w2 := by rw [e2]; exact (Below.refl _ _).alloc (Nat.le_refl _) _
  have hX2 : Hid (Bk w2 w1.heap.size [.int .i64 0, .int .i64 0, .int .i64 0, .int .i64 0, .int .i64 0, .int .i64 0, .int .i64 0, .int .i64 0, .int .i64 0, .int .i64 0, .int .i64 0, .int .i64 0, .int .i64 0, .int .i64 0, .int .i64 0, .int .i64 0, .int .i64 0, .int .i64 0, .int .i64 0, .int .i64 0, .int .i64 0, .int .i64 0, .int .i64 0, .int .i64 0, .int .i64 0]) := by rw [e2]; exact bk_new w1 53 [.int .i64 0, .int .i64 0, .int .i64 0, .int .i64 0, .int .i64 0, .int .i64 0, .int .i64 0, .int .i64 0, .int .i64 0, .int .i64 0, .int .i64 0, .int .i64 0, .int .i64 0, .int .i64 0, .int .i64 0, .int .i64 0, .int .i64 0, .int .i64 0, .int .i64 0, .int .i64 0, .int .i64 0, .int .i64 0, .int .i64 0, .int .i64 0, .int .i64 0]
  have hB2 := hid (bthen hB1.out hb2)
  have hR2 := hid (hR1.out.below hb2)
  have hlt : w.heap.size < w1.heap.size := hR1.out.1
  rw [← e2, store44_bk hX2.out rfl _ rfl (by kernel_rfl)]
  clear e2 hb2 hB1 hR1
  obtain ⟨w3, e3⟩ : ∃ w3, w3 = putL w1.heap.size (#[.int .i64 k, .int .i64 0, .int .i64 0, .int .i64 (m 3), .int .i64 (m 4), .int .i64 (m 5), .int .i64 (m 6), .int .i64 (m 7), .int .i64 (m 8), .int .i64 (m 9), .int .i64 (m 10), .int .i64 (m 11), .int .i64 (m 12), .int .i64 (m 13), .int .i64 (m 14), .int .i64 (m 15), .int .i64 (m 16), .int .i64 (m 17), .int .i64 (m 18), .int .i64 (m 19), .int .i64 (m 20), .int .i64 (m 21), .int .i64 (m 22), .int .i64 (m 23), .int .i64 (m 24)] : Array Value).toList 0 w2 := ⟨_, rfl⟩
  have hX3 : Hid (Bk w3 w1.heap.size [.int .i64 k, .int .i64 0, .int .i64 0, .int .i64 (m 3), .int .i64 (m 4), .int .i64 (m 5), .int .i64 (m 6), .int .i64 (m 7), .int .i64 (m 8), .int .i64 (m 9), .int .i64 (m 10), .int .i64 (m 11), .int .i64 (m 12), .int .i64 (m 13), .int .i64 (m 14), .int .i64 (m 15), .int .i64 (m 16), .int .i64 (m 17), .int .i64 (m 18), .int .i64 (m 19), .int .i64 (m 20), .int .i64 (m 21), .int .i64 (m 22), .int .i64 (m 23), .int .i64 (m 24)]) := by rw [e3]; exact bk_put hX2.out rfl
  have hB3 : Hid (Below w.heap.size w w3) := by rw [e3]; exact below_put (by omega) _ _ hB2.out
  have hR3 : Hid (Bk w3 w.heap.size [.int .i64 0, .int .i64 0, .int .i64 0, .int .i64 0, .int .i64 0, .int .i64 0, .int .i64 0, .int .i64 0, .int .i64 0, .int .i64 0, .int .i64 0, .int .i64 0, .int .i64 0, .int .i64 0, .int .i64 0, .int .i64 0, .int .i64 0, .int .i64 0, .int .i64 0, .int .i64 0, .int .i64 0, .int .i64 0, .int .i64 0, .int .i64 0, .int .i64 0]) := by rw [e3]; exact hR2.out.sm (by rw [size_put]; exact Nat.le_refl _) (sm_put (by omega) _ _ _)
  have y0 := hX3.out.a25.2.1
  have y2 := hX3.out.a25.2.2.1
  have y1 := hX3.out.f25.2.1
  have y3 := hX3.out.f25.2.2.1
  rw [← e3]
  clear e3 hX2 hB2 hR2
  go_wp2
  clear y0 y1 y2 y3
  obtain ⟨w4, e4⟩ : ∃ w4, w4 = (w3.setCell ⟨w1.heap.size, 1, none⟩ (.int .i64 to)).setCell ⟨w1.heap.size, 2, none⟩ (.int .i64 ce) := ⟨_, rfl⟩
  have hX4 : Hid (Bk w4 w1.heap.size [.int .i64 k, .int .i64 to, .int .i64 ce, .int .i64 (m 3), .int .i64 (m 4), .int .i64 (m 5), .int .i64 (m 6), .int .i64 (m 7), .int .i64 (m 8), .int .i64 (m 9), .int .i64 (m 10), .int .i64 (m 11), .int .i64 (m 12), .int .i64 (m 13), .int .i64 (m 14), .int .i64 (m 15), .int .i64 (m 16), .int .i64 (m 17), .int .i64 (m 18), .int .i64 (m 19), .int .i64 (m 20), .int .i64 (m 21), .int .i64 (m 22), .int .i64 (m 23), .int .i64 (m 24)]) := by rw [e4]; exact (hX3.out.set (j := 1) (by simp)).set (j := 2) (by simp)
  have hB4 : Hid (Below w.heap.size w w4) := by rw [e4]; exact (hB3.out.setCell (by show w.heap.size ≤ w1.heap.size; omega) _).setCell (by show w.heap.size ≤ w1.heap.size; omega) _
  have hR4 : Hid (Bk w4 w.heap.size [.int .i64 0, .int .i64 0, .int .i64 0, .int .i64 0, .int .i64 0, .int .i64 0, .int .i64 0, .int .i64 0, .int .i64 0, .int .i64 0, .int .i64 0, .int .i64 0, .int .i64 0, .int .i64 0, .int .i64 0, .int .i64 0, .int .i64 0, .int .i64 0, .int .i64 0, .int .i64 0, .int .i64 0, .int .i64 0, .int .i64 0, .int .i64 0, .int .i64 0]) := by rw [e4]; exact (hR3.out.far (by omega)).far (by omega)
  rw [← e4, load44_bk hX4.out rfl]
  clear e4 hX3 hB3 hR3
  go_wp2
  rw [store44_bk hR4.out rfl _ rfl (by kernel_rfl)]
  obtain ⟨w5, e5⟩ : ∃ w5, w5 = putL w.heap.size (#[.int .i64 k, .int .i64 to, .int .i64 ce, .int .i64 (m 3), .int .i64 (m 4), .int .i64 (m 5), .int .i64 (m 6), .int .i64 (m 7), .int .i64 (m 8), .int .i64 (m 9), .int .i64 (m 10), .int .i64 (m 11), .int .i64 (m 12), .int .i64 (m 13), .int .i64 (m 14), .int .i64 (m 15), .int .i64 (m 16), .int .i64 (m 17), .int .i64 (m 18), .int .i64 (m 19), .int .i64 (m 20), .int .i64 (m 21), .int .i64 (m 22), .int .i64 (m 23), .int .i64 (m 24)] : Array Value).toList 0 w4 := ⟨_, rfl⟩
  have hR5 : Hid (Bk w5 w.heap.size [.int .i64 k, .int .i64 to, .int .i64 ce, .int .i64 (m 3), .int .i64 (m 4), .int .i64 (m 5), .int .i64 (m 6), .int .i64 (m 7), .int .i64 (m 8), .int .i64 (m 9), .int .i64 (m 10), .int .i64 (m 11), .int .i64 (m 12), .int .i64 (m 13), .int .i64 (m 14), .int .i64 (m 15), .int .i64 (m 16), .int .i64 (m 17), .int .i64 (m 18), .int .i64 (m 19), .int .i64 (m 20), .int .i64 (m 21), .int .i64 (m 22), .int .i64 (m 23), .int .i64 (m 24)]) := by rw [e5]; exact bk_put hR4.out rfl
  have hB5 : Hid (Below w.heap.size w w5) := by rw [e5]; exact below_put (Nat.le_refl _) _ _ hB4.out
  rw [← e5]
  clear e5 hX4 hB4 hR4
  go_wp2
  have hr := fun tmps hp => results_mid (P := Tryz.prog) (fn := Tryz.f46) Tryz.results46 tmps w5 w.heap.size [.int .i64 k, .int .i64 to, .int .i64 ce, .int .i64 (m 3), .int .i64 (m 4), .int .i64 (m 5), .int .i64 (m 6), .int .i64 (m 7), .int .i64 (m 8), .int .i64 (m 9), .int .i64 (m 10), .int .i64 (m 11), .int .i64 (m 12), .int .i64 (m 13), .int .i64 (m 14), .int .i64 (m 15), .int .i64 (m 16), .int .i64 (m 17), .int .i64 (m 18), .int .i64 (m 19), .int .i64 (m 20), .int .i64 (m 21), .int .i64 (m 22), .int .i64 (m 23), .int .i64 (m 24)] _ hp (Bk.range hR5.out) Tryz.underlying53 rfl (by kernel_rfl)
  exact bodyPost_ret (v := .agg #[.int .i64 k, .int .i64 to, .int .i64 ce, .int .i64 (m 3), .int .i64 (m 4), .int .i64 (m 5), .int .i64 (m 6), .int .i64 (m 7), .int .i64 (m 8), .int .i64 (m 9), .int .i64 (m 10), .int .i64 (m 11), .int .i64 (m 12), .int .i64 (m 13), .int .i64 (m 14), .int .i64 (m 15), .int .i64 (m 16), .int .i64 (m 17), .int .i64 (m 18), .int .i64 (m 19), .int .i64 (m 20), .int .i64 (m 21), .int .i64 (m 22), .int .i64 (m 23), .int .i64 (m 24)]) (hr _ rfl) rfl ⟨rfl, hB5.out⟩
end Go.Proofs.YtgjapdjidighlabGreat
