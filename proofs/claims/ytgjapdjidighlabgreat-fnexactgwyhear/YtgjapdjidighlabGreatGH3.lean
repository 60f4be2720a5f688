/- What the gateway hears: messages of each kind; conditions: those typed. -/
import Derived.Test.YtgjapdjidighlabGreatGH2
import Derived.Test.YtgjapdjidighlabGreatMsg3
namespace Go.Proofs.YtgjapdjidighlabGreat
open Go.RowKit Go.Deep
set_option linter.unusedVariables false
theorem least_two (p : String → Bool) (f : String → String) (s t : String) : ∃ m, (Instr.least ([s, t].partition p).snd <|> Instr.least (List.map f ([s, t].partition p).fst)) = some m := by
  cases h : p s <;> cases h2 : p t <;> exact ⟨_, by simp [List.partition, List.partition.loop, h, h2, Instr.least]; rfl⟩
theorem missing_two {want : Array (String × TypeId)} {got : Array Method} {s t : String}
    (h : ((want.toList.filter fun (name, sig) => !got.any fun m => m.name == name && m.sig == sig).map (·.1)) = [s, t]) : ∃ m, Instr.missingMethod want got = some m := by
  unfold Instr.missingMethod
  simp only [h]
  exact least_two _ _ _ _
theorem gate_not112 (V : Value) (w : World) : (Instr.typeAssert (.iface 112 V) 88 96 true).run Tryz.prog w = .ok (.tuple #[.nilIface, .bool false]) w := by
  obtain ⟨m, hm⟩ : ∃ m, Instr.missingMethod _ Tryz.t112.methods = some m := missing_two (want := #[("loop.example/landmarch/impl.answered", 99), ("loop.example/landmarch/impl.heardIn", 100), ("loop.example/landmarch/impl.isOk", 92), ("loop.example/landmarch/impl.message", 128)]) (s := "loop.example/landmarch/impl.answered") (t := "loop.example/landmarch/impl.heardIn") (by kernel_rfl)
  simp [Instr.typeAssert, Sem.run_bind, Tryz.runUnderlying96, Tryz.typeInfo112, hm, Tryz.zeroValue96]
theorem gate_not114 (V : Value) (w : World) : (Instr.typeAssert (.iface 114 V) 88 96 true).run Tryz.prog w = .ok (.tuple #[.nilIface, .bool false]) w := by
  obtain ⟨m, hm⟩ : ∃ m, Instr.missingMethod _ Tryz.t114.methods = some m := missing_two (want := #[("loop.example/landmarch/impl.answered", 99), ("loop.example/landmarch/impl.heardIn", 100), ("loop.example/landmarch/impl.isOk", 92), ("loop.example/landmarch/impl.message", 128)]) (s := "loop.example/landmarch/impl.answered") (t := "loop.example/landmarch/impl.heardIn") (by kernel_rfl)
  simp [Instr.typeAssert, Sem.run_bind, Tryz.runUnderlying96, Tryz.typeInfo114, hm, Tryz.zeroValue96]
theorem gate_not119 (V : Value) (w : World) : (Instr.typeAssert (.iface 119 V) 88 96 true).run Tryz.prog w = .ok (.tuple #[.nilIface, .bool false]) w := by
  obtain ⟨m, hm⟩ : ∃ m, Instr.missingMethod _ Tryz.t119.methods = some m := missing_two (want := #[("loop.example/landmarch/impl.answered", 99), ("loop.example/landmarch/impl.heardIn", 100), ("loop.example/landmarch/impl.isOk", 92), ("loop.example/landmarch/impl.message", 128)]) (s := "loop.example/landmarch/impl.answered") (t := "loop.example/landmarch/impl.heardIn") (by kernel_rfl)
  simp [Instr.typeAssert, Sem.run_bind, Tryz.runUnderlying96, Tryz.typeInfo119, hm, Tryz.zeroValue96]
theorem gate_not121 (V : Value) (w : World) : (Instr.typeAssert (.iface 121 V) 88 96 true).run Tryz.prog w = .ok (.tuple #[.nilIface, .bool false]) w := by
  obtain ⟨m, hm⟩ : ∃ m, Instr.missingMethod _ Tryz.t121.methods = some m := missing_two (want := #[("loop.example/landmarch/impl.answered", 99), ("loop.example/landmarch/impl.heardIn", 100), ("loop.example/landmarch/impl.isOk", 92), ("loop.example/landmarch/impl.message", 128)]) (s := "loop.example/landmarch/impl.answered") (t := "loop.example/landmarch/impl.heardIn") (by kernel_rfl)
  simp [Instr.typeAssert, Sem.run_bind, Tryz.runUnderlying96, Tryz.typeInfo121, hm, Tryz.zeroValue96]
theorem gate_not123 (V : Value) (w : World) : (Instr.typeAssert (.iface 123 V) 88 96 true).run Tryz.prog w = .ok (.tuple #[.nilIface, .bool false]) w := by
  obtain ⟨m, hm⟩ : ∃ m, Instr.missingMethod _ Tryz.t123.methods = some m := missing_two (want := #[("loop.example/landmarch/impl.answered", 99), ("loop.example/landmarch/impl.heardIn", 100), ("loop.example/landmarch/impl.isOk", 92), ("loop.example/landmarch/impl.message", 128)]) (s := "loop.example/landmarch/impl.answered") (t := "loop.example/landmarch/impl.heardIn") (by kernel_rfl)
  simp [Instr.typeAssert, Sem.run_bind, Tryz.runUnderlying96, Tryz.typeInfo123, hm, Tryz.zeroValue96]
theorem gate_notN (w : World) : (Instr.typeAssert .nilIface 88 96 true).run Tryz.prog w = .ok (.tuple #[.nilIface, .bool false]) w := by kernel_rfl
theorem gate_is116 (V : Value) (w : World) : (Instr.typeAssert (.iface 116 V) 88 96 true).run Tryz.prog w = .ok (.tuple #[.iface 116 V, .bool true]) w := by kernel_rfl
theorem gate_is117 (V : Value) (w : World) : (Instr.typeAssert (.iface 117 V) 88 96 true).run Tryz.prog w = .ok (.tuple #[.iface 117 V, .bool true]) w := by kernel_rfl
attribute [local go_sem ↓] load44_eq
attribute [local go_sem] run_load44 cellD
set_option maxRecDepth 20000 in
set_option maxHeartbeats 2000000 in
theorem hear1 (lo mb n : Nat) (Bs : Nat → Nat) (Z : Nat → Nat → Int) (c d : Int) (x : Nat → Int) (w : World) (hlo : lo ≤ w.heap.size) (h : Op lo w mb n (fun k => Z k 0) Bs Z) :
    Calls Tryz.prog 25 #[.map (some mb), .agg #[.int .i64 c, .int .i64 d], .agg #[.int .i64 1, .int .i64 (x 1), .int .i64 (x 2), .int .i64 (x 3), .int .i64 (x 4), .int .i64 (x 5), .int .i64 (x 6), .int .i64 (x 7), .int .i64 (x 8), .int .i64 (x 9), .int .i64 (x 10), .int .i64 (x 11), .int .i64 (x 12), .int .i64 (x 13), .int .i64 (x 14), .int .i64 (x 15), .int .i64 (x 16), .int .i64 (x 17), .int .i64 (x 18), .int .i64 (x 19), .int .i64 (x 20), .int .i64 (x 21), .int .i64 (x 22), .int .i64 (x 23), .int .i64 (x 24)]] w fun e w' => e = .returned (.bool false) ∧ Op lo w' mb n (fun k => Z k 0) Bs Z ∧ Below lo w w' ∧ w.heap.size ≤ w'.heap.size := by
  have HO : Hid (Op lo w mb n (fun k => Z k 0) Bs Z) := h
  clear h
  go_enter Tryz.func25, Tryz.ntmps25
  go_upto_region 1 with fail
  obtain ⟨w0, e0⟩ : ∃ y, y = ((w.alloc (.cells #[.int .i64 c, .int .i64 d] 43)).alloc (.cells #[.int .i64 1, .int .i64 (x 1), .int .i64 (x 2), .int .i64 (x 3), .int .i64 (x 4), .int .i64 (x 5), .int .i64 (x 6), .int .i64 (x 7), .int .i64 (x 8), .int .i64 (x 9), .int .i64 (x 10), .int .i64 (x 11), .int .i64 (x 12), .int .i64 (x 13), .int .i64 (x 14), .int .i64 (x 15), .int .i64 (x 16), .int .i64 (x 17), .int .i64 (x 18), .int .i64 (x 19), .int .i64 (x 20), .int .i64 (x 21), .int .i64 (x 22), .int .i64 (x 23), .int .i64 (x 24)] 53)) := ⟨_, rfl⟩
  have B1 : Hid (Below w.heap.size w w0) := by rw [e0]; exact ((Below.refl _ _).alloc (by simp) _).alloc (by simp) _
  have M2 : Hid (Bk w0 w.heap.size [.int .i64 c, .int .i64 d]) := by rw [e0]; exact (bk_new w 43 [.int .i64 c, .int .i64 d]).below ((Below.refl _ _).alloc (Nat.le_refl _) _)
  have X3 : Hid (Bk w0 (w.heap.size + 1) [.int .i64 1, .int .i64 (x 1), .int .i64 (x 2), .int .i64 (x 3), .int .i64 (x 4), .int .i64 (x 5), .int .i64 (x 6), .int .i64 (x 7), .int .i64 (x 8), .int .i64 (x 9), .int .i64 (x 10), .int .i64 (x 11), .int .i64 (x 12), .int .i64 (x 13), .int .i64 (x 14), .int .i64 (x 15), .int .i64 (x 16), .int .i64 (x 17), .int .i64 (x 18), .int .i64 (x 19), .int .i64 (x 20), .int .i64 (x 21), .int .i64 (x 22), .int .i64 (x 23), .int .i64 (x 24)]) := by rw [e0]; have := bk_new (w.alloc (.cells #[.int .i64 c, .int .i64 d] 43)) 53 [.int .i64 1, .int .i64 (x 1), .int .i64 (x 2), .int .i64 (x 3), .int .i64 (x 4), .int .i64 (x 5), .int .i64 (x 6), .int .i64 (x 7), .int .i64 (x 8), .int .i64 (x 9), .int .i64 (x 10), .int .i64 (x 11), .int .i64 (x 12), .int .i64 (x 13), .int .i64 (x 14), .int .i64 (x 15), .int .i64 (x 16), .int .i64 (x 17), .int .i64 (x 18), .int .i64 (x 19), .int .i64 (x 20), .int .i64 (x 21), .int .i64 (x 22), .int .i64 (x 23), .int .i64 (x 24)]; rwa [show (w.alloc (.cells #[.int .i64 c, .int .i64 d] 43)).heap.size = w.heap.size + 1 by simp] at this
  rw [← e0]
  clear e0
  have O4 : Hid (Op lo w0 mb n (fun k => Z k 0) Bs Z) := HO.out.below B1.out
  obtain ⟨yX0, yX1, yX2, yX3, yX4, yX5, yX6, yX7, yX8, yX9, yX10, yX11, yX12, yX13, yX14, yX15, yX16, yX17, yX18, yX19, yX20, yX21, yX22, yX23, yX24⟩ := X3.out.a25
  have hlX : (w.heap.size + 1) < w0.heap.size := X3.out.1
  go_wp2_with fail
  refine (content1 x _).mono ?_
  rintro e w1 ⟨rfl, hb1⟩
  clear yX0 yX1 yX2 yX3 yX4 yX5 yX6 yX7 yX8 yX9 yX10 yX11 yX12 yX13 yX14 yX15 yX16 yX17 yX18 yX19 yX20 yX21 yX22 yX23 yX24 hlX
  have B5 := hid (bthen B1.out hb1)
  have M5 := hid (M2.out.below hb1)
  have X5 := hid (X3.out.below hb1)
  have O5 : Hid (Op lo w1 mb n (fun k => Z k 0) Bs Z) := O4.out.below hb1
  clear B1 M2 X3 O4
  clear hb1
  have hta := gate_not112
  go_wp2
  go_ret
  exact ⟨rfl, O5.out, B5.out.mono hlo, B5.out.size⟩
set_option maxRecDepth 20000 in
set_option maxHeartbeats 2000000 in
theorem hear2 (lo mb n : Nat) (Bs : Nat → Nat) (Z : Nat → Nat → Int) (c d : Int) (x : Nat → Int) (w : World) (hlo : lo ≤ w.heap.size) (h : Op lo w mb n (fun k => Z k 0) Bs Z) :
    Calls Tryz.prog 25 #[.map (some mb), .agg #[.int .i64 c, .int .i64 d], .agg #[.int .i64 2, .int .i64 (x 1), .int .i64 (x 2), .int .i64 (x 3), .int .i64 (x 4), .int .i64 (x 5), .int .i64 (x 6), .int .i64 (x 7), .int .i64 (x 8), .int .i64 (x 9), .int .i64 (x 10), .int .i64 (x 11), .int .i64 (x 12), .int .i64 (x 13), .int .i64 (x 14), .int .i64 (x 15), .int .i64 (x 16), .int .i64 (x 17), .int .i64 (x 18), .int .i64 (x 19), .int .i64 (x 20), .int .i64 (x 21), .int .i64 (x 22), .int .i64 (x 23), .int .i64 (x 24)]] w fun e w' => e = .returned (.bool false) ∧ Op lo w' mb n (fun k => Z k 0) Bs Z ∧ Below lo w w' ∧ w.heap.size ≤ w'.heap.size := by
  have HO : Hid (Op lo w mb n (fun k => Z k 0) Bs Z) := h
  clear h
  go_enter Tryz.func25, Tryz.ntmps25
  go_upto_region 1 with fail
  obtain ⟨w0, e0⟩ : ∃ y, y = ((w.alloc (.cells #[.int .i64 c, .int .i64 d] 43)).alloc (.cells #[.int .i64 2, .int .i64 (x 1), .int .i64 (x 2), .int .i64 (x 3), .int .i64 (x 4), .int .i64 (x 5), .int .i64 (x 6), .int .i64 (x 7), .int .i64 (x 8), .int .i64 (x 9), .int .i64 (x 10), .int .i64 (x 11), .int .i64 (x 12), .int .i64 (x 13), .int .i64 (x 14), .int .i64 (x 15), .int .i64 (x 16), .int .i64 (x 17), .int .i64 (x 18), .int .i64 (x 19), .int .i64 (x 20), .int .i64 (x 21), .int .i64 (x 22), .int .i64 (x 23), .int .i64 (x 24)] 53)) := ⟨_, rfl⟩
  have B1 : Hid (Below w.heap.size w w0) := by rw [e0]; exact ((Below.refl _ _).alloc (by simp) _).alloc (by simp) _
  have M2 : Hid (Bk w0 w.heap.size [.int .i64 c, .int .i64 d]) := by rw [e0]; exact (bk_new w 43 [.int .i64 c, .int .i64 d]).below ((Below.refl _ _).alloc (Nat.le_refl _) _)
  have X3 : Hid (Bk w0 (w.heap.size + 1) [.int .i64 2, .int .i64 (x 1), .int .i64 (x 2), .int .i64 (x 3), .int .i64 (x 4), .int .i64 (x 5), .int .i64 (x 6), .int .i64 (x 7), .int .i64 (x 8), .int .i64 (x 9), .int .i64 (x 10), .int .i64 (x 11), .int .i64 (x 12), .int .i64 (x 13), .int .i64 (x 14), .int .i64 (x 15), .int .i64 (x 16), .int .i64 (x 17), .int .i64 (x 18), .int .i64 (x 19), .int .i64 (x 20), .int .i64 (x 21), .int .i64 (x 22), .int .i64 (x 23), .int .i64 (x 24)]) := by rw [e0]; have := bk_new (w.alloc (.cells #[.int .i64 c, .int .i64 d] 43)) 53 [.int .i64 2, .int .i64 (x 1), .int .i64 (x 2), .int .i64 (x 3), .int .i64 (x 4), .int .i64 (x 5), .int .i64 (x 6), .int .i64 (x 7), .int .i64 (x 8), .int .i64 (x 9), .int .i64 (x 10), .int .i64 (x 11), .int .i64 (x 12), .int .i64 (x 13), .int .i64 (x 14), .int .i64 (x 15), .int .i64 (x 16), .int .i64 (x 17), .int .i64 (x 18), .int .i64 (x 19), .int .i64 (x 20), .int .i64 (x 21), .int .i64 (x 22), .int .i64 (x 23), .int .i64 (x 24)]; rwa [show (w.alloc (.cells #[.int .i64 c, .int .i64 d] 43)).heap.size = w.heap.size + 1 by simp] at this
  rw [← e0]
  clear e0
  have O4 : Hid (Op lo w0 mb n (fun k => Z k 0) Bs Z) := HO.out.below B1.out
  obtain ⟨yX0, yX1, yX2, yX3, yX4, yX5, yX6, yX7, yX8, yX9, yX10, yX11, yX12, yX13, yX14, yX15, yX16, yX17, yX18, yX19, yX20, yX21, yX22, yX23, yX24⟩ := X3.out.a25
  have hlX : (w.heap.size + 1) < w0.heap.size := X3.out.1
  go_wp2_with fail
  refine (content2 x _).mono ?_
  rintro e w1 ⟨rfl, hb1⟩
  clear yX0 yX1 yX2 yX3 yX4 yX5 yX6 yX7 yX8 yX9 yX10 yX11 yX12 yX13 yX14 yX15 yX16 yX17 yX18 yX19 yX20 yX21 yX22 yX23 yX24 hlX
  have B5 := hid (bthen B1.out hb1)
  have M5 := hid (M2.out.below hb1)
  have X5 := hid (X3.out.below hb1)
  have O5 : Hid (Op lo w1 mb n (fun k => Z k 0) Bs Z) := O4.out.below hb1
  clear B1 M2 X3 O4
  clear hb1
  have hta := gate_not114
  go_wp2
  go_ret
  exact ⟨rfl, O5.out, B5.out.mono hlo, B5.out.size⟩
set_option maxRecDepth 20000 in
set_option maxHeartbeats 2000000 in
theorem hear5 (lo mb n : Nat) (Bs : Nat → Nat) (Z : Nat → Nat → Int) (c d : Int) (x : Nat → Int) (w : World) (hlo : lo ≤ w.heap.size) (h : Op lo w mb n (fun k => Z k 0) Bs Z) :
    Calls Tryz.prog 25 #[.map (some mb), .agg #[.int .i64 c, .int .i64 d], .agg #[.int .i64 5, .int .i64 (x 1), .int .i64 (x 2), .int .i64 (x 3), .int .i64 (x 4), .int .i64 (x 5), .int .i64 (x 6), .int .i64 (x 7), .int .i64 (x 8), .int .i64 (x 9), .int .i64 (x 10), .int .i64 (x 11), .int .i64 (x 12), .int .i64 (x 13), .int .i64 (x 14), .int .i64 (x 15), .int .i64 (x 16), .int .i64 (x 17), .int .i64 (x 18), .int .i64 (x 19), .int .i64 (x 20), .int .i64 (x 21), .int .i64 (x 22), .int .i64 (x 23), .int .i64 (x 24)]] w fun e w' => e = .returned (.bool false) ∧ Op lo w' mb n (fun k => Z k 0) Bs Z ∧ Below lo w w' ∧ w.heap.size ≤ w'.heap.size := by
  have HO : Hid (Op lo w mb n (fun k => Z k 0) Bs Z) := h
  clear h
  go_enter Tryz.func25, Tryz.ntmps25
  go_upto_region 1 with fail
  obtain ⟨w0, e0⟩ : ∃ y, y = ((w.alloc (.cells #[.int .i64 c, .int .i64 d] 43)).alloc (.cells #[.int .i64 5, .int .i64 (x 1), .int .i64 (x 2), .int .i64 (x 3), .int .i64 (x 4), .int .i64 (x 5), .int .i64 (x 6), .int .i64 (x 7), .int .i64 (x 8), .int .i64 (x 9), .int .i64 (x 10), .int .i64 (x 11), .int .i64 (x 12), .int .i64 (x 13), .int .i64 (x 14), .int .i64 (x 15), .int .i64 (x 16), .int .i64 (x 17), .int .i64 (x 18), .int .i64 (x 19), .int .i64 (x 20), .int .i64 (x 21), .int .i64 (x 22), .int .i64 (x 23), .int .i64 (x 24)] 53)) := ⟨_, rfl⟩
  have B1 : Hid (Below w.heap.size w w0) := by rw [e0]; exact ((Below.refl _ _).alloc (by simp) _).alloc (by simp) _
  have M2 : Hid (Bk w0 w.heap.size [.int .i64 c, .int .i64 d]) := by rw [e0]; exact (bk_new w 43 [.int .i64 c, .int .i64 d]).below ((Below.refl _ _).alloc (Nat.le_refl _) _)
  have X3 : Hid (Bk w0 (w.heap.size + 1) [.int .i64 5, .int .i64 (x 1), .int .i64 (x 2), .int .i64 (x 3), .int .i64 (x 4), .int .i64 (x 5), .int .i64 (x 6), .int .i64 (x 7), .int .i64 (x 8), .int .i64 (x 9), .int .i64 (x 10), .int .i64 (x 11), .int .i64 (x 12), .int .i64 (x 13), .int .i64 (x 14), .int .i64 (x 15), .int .i64 (x 16), .int .i64 (x 17), .int .i64 (x 18), .int .i64 (x 19), .int .i64 (x 20), .int .i64 (x 21), .int .i64 (x 22), .int .i64 (x 23), .int .i64 (x 24)]) := by rw [e0]; have := bk_new (w.alloc (.cells #[.int .i64 c, .int .i64 d] 43)) 53 [.int .i64 5, .int .i64 (x 1), .int .i64 (x 2), .int .i64 (x 3), .int .i64 (x 4), .int .i64 (x 5), .int .i64 (x 6), .int .i64 (x 7), .int .i64 (x 8), .int .i64 (x 9), .int .i64 (x 10), .int .i64 (x 11), .int .i64 (x 12), .int .i64 (x 13), .int .i64 (x 14), .int .i64 (x 15), .int .i64 (x 16), .int .i64 (x 17), .int .i64 (x 18), .int .i64 (x 19), .int .i64 (x 20), .int .i64 (x 21), .int .i64 (x 22), .int .i64 (x 23), .int .i64 (x 24)]; rwa [show (w.alloc (.cells #[.int .i64 c, .int .i64 d] 43)).heap.size = w.heap.size + 1 by simp] at this
  rw [← e0]
  clear e0
  have O4 : Hid (Op lo w0 mb n (fun k => Z k 0) Bs Z) := HO.out.below B1.out
  obtain ⟨yX0, yX1, yX2, yX3, yX4, yX5, yX6, yX7, yX8, yX9, yX10, yX11, yX12, yX13, yX14, yX15, yX16, yX17, yX18, yX19, yX20, yX21, yX22, yX23, yX24⟩ := X3.out.a25
  have hlX : (w.heap.size + 1) < w0.heap.size := X3.out.1
  go_wp2_with fail
  refine (content5 x _).mono ?_
  rintro e w1 ⟨rfl, hb1⟩
  clear yX0 yX1 yX2 yX3 yX4 yX5 yX6 yX7 yX8 yX9 yX10 yX11 yX12 yX13 yX14 yX15 yX16 yX17 yX18 yX19 yX20 yX21 yX22 yX23 yX24 hlX
  have B5 := hid (bthen B1.out hb1)
  have M5 := hid (M2.out.below hb1)
  have X5 := hid (X3.out.below hb1)
  have O5 : Hid (Op lo w1 mb n (fun k => Z k 0) Bs Z) := O4.out.below hb1
  clear B1 M2 X3 O4
  clear hb1
  have hta := gate_not119
  go_wp2
  go_ret
  exact ⟨rfl, O5.out, B5.out.mono hlo, B5.out.size⟩
set_option maxRecDepth 20000 in
set_option maxHeartbeats 2000000 in
theorem hear6 (lo mb n : Nat) (Bs : Nat → Nat) (Z : Nat → Nat → Int) (c d : Int) (x : Nat → Int) (w : World) (hlo : lo ≤ w.heap.size) (h : Op lo w mb n (fun k => Z k 0) Bs Z) :
    Calls Tryz.prog 25 #[.map (some mb), .agg #[.int .i64 c, .int .i64 d], .agg #[.int .i64 6, .int .i64 (x 1), .int .i64 (x 2), .int .i64 (x 3), .int .i64 (x 4), .int .i64 (x 5), .int .i64 (x 6), .int .i64 (x 7), .int .i64 (x 8), .int .i64 (x 9), .int .i64 (x 10), .int .i64 (x 11), .int .i64 (x 12), .int .i64 (x 13), .int .i64 (x 14), .int .i64 (x 15), .int .i64 (x 16), .int .i64 (x 17), .int .i64 (x 18), .int .i64 (x 19), .int .i64 (x 20), .int .i64 (x 21), .int .i64 (x 22), .int .i64 (x 23), .int .i64 (x 24)]] w fun e w' => e = .returned (.bool false) ∧ Op lo w' mb n (fun k => Z k 0) Bs Z ∧ Below lo w w' ∧ w.heap.size ≤ w'.heap.size := by
  have HO : Hid (Op lo w mb n (fun k => Z k 0) Bs Z) := h
  clear h
  go_enter Tryz.func25, Tryz.ntmps25
  go_upto_region 1 with fail
  obtain ⟨w0, e0⟩ : ∃ y, y = ((w.alloc (.cells #[.int .i64 c, .int .i64 d] 43)).alloc (.cells #[.int .i64 6, .int .i64 (x 1), .int .i64 (x 2), .int .i64 (x 3), .int .i64 (x 4), .int .i64 (x 5), .int .i64 (x 6), .int .i64 (x 7), .int .i64 (x 8), .int .i64 (x 9), .int .i64 (x 10), .int .i64 (x 11), .int .i64 (x 12), .int .i64 (x 13), .int .i64 (x 14), .int .i64 (x 15), .int .i64 (x 16), .int .i64 (x 17), .int .i64 (x 18), .int .i64 (x 19), .int .i64 (x 20), .int .i64 (x 21), .int .i64 (x 22), .int .i64 (x 23), .int .i64 (x 24)] 53)) := ⟨_, rfl⟩
  have B1 : Hid (Below w.heap.size w w0) := by rw [e0]; exact ((Below.refl _ _).alloc (by simp) _).alloc (by simp) _
  have M2 : Hid (Bk w0 w.heap.size [.int .i64 c, .int .i64 d]) := by rw [e0]; exact (bk_new w 43 [.int .i64 c, .int .i64 d]).below ((Below.refl _ _).alloc (Nat.le_refl _) _)
  have X3 : Hid (Bk w0 (w.heap.size + 1) [.int .i64 6, .int .i64 (x 1), .int .i64 (x 2), .int .i64 (x 3), .int .i64 (x 4), .int .i64 (x 5), .int .i64 (x 6), .int .i64 (x 7), .int .i64 (x 8), .int .i64 (x 9), .int .i64 (x 10), .int .i64 (x 11), .int .i64 (x 12), .int .i64 (x 13), .int .i64 (x 14), .int .i64 (x 15), .int .i64 (x 16), .int .i64 (x 17), .int .i64 (x 18), .int .i64 (x 19), .int .i64 (x 20), .int .i64 (x 21), .int .i64 (x 22), .int .i64 (x 23), .int .i64 (x 24)]) := by rw [e0]; have := bk_new (w.alloc (.cells #[.int .i64 c, .int .i64 d] 43)) 53 [.int .i64 6, .int .i64 (x 1), .int .i64 (x 2), .int .i64 (x 3), .int .i64 (x 4), .int .i64 (x 5), .int .i64 (x 6), .int .i64 (x 7), .int .i64 (x 8), .int .i64 (x 9), .int .i64 (x 10), .int .i64 (x 11), .int .i64 (x 12), .int .i64 (x 13), .int .i64 (x 14), .int .i64 (x 15), .int .i64 (x 16), .int .i64 (x 17), .int .i64 (x 18), .int .i64 (x 19), .int .i64 (x 20), .int .i64 (x 21), .int .i64 (x 22), .int .i64 (x 23), .int .i64 (x 24)]; rwa [show (w.alloc (.cells #[.int .i64 c, .int .i64 d] 43)).heap.size = w.heap.size + 1 by simp] at this
  rw [← e0]
  clear e0
  have O4 : Hid (Op lo w0 mb n (fun k => Z k 0) Bs Z) := HO.out.below B1.out
  obtain ⟨yX0, yX1, yX2, yX3, yX4, yX5, yX6, yX7, yX8, yX9, yX10, yX11, yX12, yX13, yX14, yX15, yX16, yX17, yX18, yX19, yX20, yX21, yX22, yX23, yX24⟩ := X3.out.a25
  have hlX : (w.heap.size + 1) < w0.heap.size := X3.out.1
  go_wp2_with fail
  refine (content6 x _).mono ?_
  rintro e w1 ⟨rfl, hb1⟩
  clear yX0 yX1 yX2 yX3 yX4 yX5 yX6 yX7 yX8 yX9 yX10 yX11 yX12 yX13 yX14 yX15 yX16 yX17 yX18 yX19 yX20 yX21 yX22 yX23 yX24 hlX
  have B5 := hid (bthen B1.out hb1)
  have M5 := hid (M2.out.below hb1)
  have X5 := hid (X3.out.below hb1)
  have O5 : Hid (Op lo w1 mb n (fun k => Z k 0) Bs Z) := O4.out.below hb1
  clear B1 M2 X3 O4
  clear hb1
  have hta := gate_not121
  go_wp2
  go_ret
  exact ⟨rfl, O5.out, B5.out.mono hlo, B5.out.size⟩
set_option maxRecDepth 20000 in
set_option maxHeartbeats 2000000 in
theorem hear7 (lo mb n : Nat) (Bs : Nat → Nat) (Z : Nat → Nat → Int) (c d : Int) (x : Nat → Int) (w : World) (hlo : lo ≤ w.heap.size) (h : Op lo w mb n (fun k => Z k 0) Bs Z) :
    Calls Tryz.prog 25 #[.map (some mb), .agg #[.int .i64 c, .int .i64 d], .agg #[.int .i64 7, .int .i64 (x 1), .int .i64 (x 2), .int .i64 (x 3), .int .i64 (x 4), .int .i64 (x 5), .int .i64 (x 6), .int .i64 (x 7), .int .i64 (x 8), .int .i64 (x 9), .int .i64 (x 10), .int .i64 (x 11), .int .i64 (x 12), .int .i64 (x 13), .int .i64 (x 14), .int .i64 (x 15), .int .i64 (x 16), .int .i64 (x 17), .int .i64 (x 18), .int .i64 (x 19), .int .i64 (x 20), .int .i64 (x 21), .int .i64 (x 22), .int .i64 (x 23), .int .i64 (x 24)]] w fun e w' => e = .returned (.bool false) ∧ Op lo w' mb n (fun k => Z k 0) Bs Z ∧ Below lo w w' ∧ w.heap.size ≤ w'.heap.size := by
  have HO : Hid (Op lo w mb n (fun k => Z k 0) Bs Z) := h
  clear h
  go_enter Tryz.func25, Tryz.ntmps25
  go_upto_region 1 with fail
  obtain ⟨w0, e0⟩ : ∃ y, y = ((w.alloc (.cells #[.int .i64 c, .int .i64 d] 43)).alloc (.cells #[.int .i64 7, .int .i64 (x 1), .int .i64 (x 2), .int .i64 (x 3), .int .i64 (x 4), .int .i64 (x 5), .int .i64 (x 6), .int .i64 (x 7), .int .i64 (x 8), .int .i64 (x 9), .int .i64 (x 10), .int .i64 (x 11), .int .i64 (x 12), .int .i64 (x 13), .int .i64 (x 14), .int .i64 (x 15), .int .i64 (x 16), .int .i64 (x 17), .int .i64 (x 18), .int .i64 (x 19), .int .i64 (x 20), .int .i64 (x 21), .int .i64 (x 22), .int .i64 (x 23), .int .i64 (x 24)] 53)) := ⟨_, rfl⟩
  have B1 : Hid (Below w.heap.size w w0) := by rw [e0]; exact ((Below.refl _ _).alloc (by simp) _).alloc (by simp) _
  have M2 : Hid (Bk w0 w.heap.size [.int .i64 c, .int .i64 d]) := by rw [e0]; exact (bk_new w 43 [.int .i64 c, .int .i64 d]).below ((Below.refl _ _).alloc (Nat.le_refl _) _)
  have X3 : Hid (Bk w0 (w.heap.size + 1) [.int .i64 7, .int .i64 (x 1), .int .i64 (x 2), .int .i64 (x 3), .int .i64 (x 4), .int .i64 (x 5), .int .i64 (x 6), .int .i64 (x 7), .int .i64 (x 8), .int .i64 (x 9), .int .i64 (x 10), .int .i64 (x 11), .int .i64 (x 12), .int .i64 (x 13), .int .i64 (x 14), .int .i64 (x 15), .int .i64 (x 16), .int .i64 (x 17), .int .i64 (x 18), .int .i64 (x 19), .int .i64 (x 20), .int .i64 (x 21), .int .i64 (x 22), .int .i64 (x 23), .int .i64 (x 24)]) := by rw [e0]; have := bk_new (w.alloc (.cells #[.int .i64 c, .int .i64 d] 43)) 53 [.int .i64 7, .int .i64 (x 1), .int .i64 (x 2), .int .i64 (x 3), .int .i64 (x 4), .int .i64 (x 5), .int .i64 (x 6), .int .i64 (x 7), .int .i64 (x 8), .int .i64 (x 9), .int .i64 (x 10), .int .i64 (x 11), .int .i64 (x 12), .int .i64 (x 13), .int .i64 (x 14), .int .i64 (x 15), .int .i64 (x 16), .int .i64 (x 17), .int .i64 (x 18), .int .i64 (x 19), .int .i64 (x 20), .int .i64 (x 21), .int .i64 (x 22), .int .i64 (x 23), .int .i64 (x 24)]; rwa [show (w.alloc (.cells #[.int .i64 c, .int .i64 d] 43)).heap.size = w.heap.size + 1 by simp] at this
  rw [← e0]
  clear e0
  have O4 : Hid (Op lo w0 mb n (fun k => Z k 0) Bs Z) := HO.out.below B1.out
  obtain ⟨yX0, yX1, yX2, yX3, yX4, yX5, yX6, yX7, yX8, yX9, yX10, yX11, yX12, yX13, yX14, yX15, yX16, yX17, yX18, yX19, yX20, yX21, yX22, yX23, yX24⟩ := X3.out.a25
  have hlX : (w.heap.size + 1) < w0.heap.size := X3.out.1
  go_wp2_with fail
  refine (content7 x _).mono ?_
  rintro e w1 ⟨rfl, hb1⟩
  clear yX0 yX1 yX2 yX3 yX4 yX5 yX6 yX7 yX8 yX9 yX10 yX11 yX12 yX13 yX14 yX15 yX16 yX17 yX18 yX19 yX20 yX21 yX22 yX23 yX24 hlX
  have B5 := hid (bthen B1.out hb1)
  have M5 := hid (M2.out.below hb1)
  have X5 := hid (X3.out.below hb1)
  have O5 : Hid (Op lo w1 mb n (fun k => Z k 0) Bs Z) := O4.out.below hb1
  clear B1 M2 X3 O4
  clear hb1
  have hta := gate_not123
  go_wp2
  go_ret
  exact ⟨rfl, O5.out, B5.out.mono hlo, B5.out.size⟩
set_option maxRecDepth 20000 in
set_option maxHeartbeats 2000000 in
theorem hear0 (lo mb n : Nat) (Bs : Nat → Nat) (Z : Nat → Nat → Int) (c d : Int) (x : Nat → Int) (k : Int) (q1 : (k == 1) = false) (q2 : (k == 2) = false) (q3 : (k == 3) = false) (q4 : (k == 4) = false) (q5 : (k == 5) = false) (q6 : (k == 6) = false) (q7 : (k == 7) = false) (w : World) (hlo : lo ≤ w.heap.size) (h : Op lo w mb n (fun k => Z k 0) Bs Z) :
    Calls Tryz.prog 25 #[.map (some mb), .agg #[.int .i64 c, .int .i64 d], .agg #[.int .i64 k, .int .i64 (x 1), .int .i64 (x 2), .int .i64 (x 3), .int .i64 (x 4), .int .i64 (x 5), .int .i64 (x 6), .int .i64 (x 7), .int .i64 (x 8), .int .i64 (x 9), .int .i64 (x 10), .int .i64 (x 11), .int .i64 (x 12), .int .i64 (x 13), .int .i64 (x 14), .int .i64 (x 15), .int .i64 (x 16), .int .i64 (x 17), .int .i64 (x 18), .int .i64 (x 19), .int .i64 (x 20), .int .i64 (x 21), .int .i64 (x 22), .int .i64 (x 23), .int .i64 (x 24)]] w fun e w' => e = .returned (.bool false) ∧ Op lo w' mb n (fun k => Z k 0) Bs Z ∧ Below lo w w' ∧ w.heap.size ≤ w'.heap.size := by
  have HO : Hid (Op lo w mb n (fun k => Z k 0) Bs Z) := h
  clear h
  go_enter Tryz.func25, Tryz.ntmps25
  go_upto_region 1 with fail
  obtain ⟨w0, e0⟩ : ∃ y, y = ((w.alloc (.cells #[.int .i64 c, .int .i64 d] 43)).alloc (.cells #[.int .i64 k, .int .i64 (x 1), .int .i64 (x 2), .int .i64 (x 3), .int .i64 (x 4), .int .i64 (x 5), .int .i64 (x 6), .int .i64 (x 7), .int .i64 (x 8), .int .i64 (x 9), .int .i64 (x 10), .int .i64 (x 11), .int .i64 (x 12), .int .i64 (x 13), .int .i64 (x 14), .int .i64 (x 15), .int .i64 (x 16), .int .i64 (x 17), .int .i64 (x 18), .int .i64 (x 19), .int .i64 (x 20), .int .i64 (x 21), .int .i64 (x 22), .int .i64 (x 23), .int .i64 (x 24)] 53)) := ⟨_, rfl⟩
  have B1 : Hid (Below w.heap.size w w0) := by rw [e0]; exact ((Below.refl _ _).alloc (by simp) _).alloc (by simp) _
  have M2 : Hid (Bk w0 w.heap.size [.int .i64 c, .int .i64 d]) := by rw [e0]; exact (bk_new w 43 [.int .i64 c, .int .i64 d]).below ((Below.refl _ _).alloc (Nat.le_refl _) _)
  have X3 : Hid (Bk w0 (w.heap.size + 1) [.int .i64 k, .int .i64 (x 1), .int .i64 (x 2), .int .i64 (x 3), .int .i64 (x 4), .int .i64 (x 5), .int .i64 (x 6), .int .i64 (x 7), .int .i64 (x 8), .int .i64 (x 9), .int .i64 (x 10), .int .i64 (x 11), .int .i64 (x 12), .int .i64 (x 13), .int .i64 (x 14), .int .i64 (x 15), .int .i64 (x 16), .int .i64 (x 17), .int .i64 (x 18), .int .i64 (x 19), .int .i64 (x 20), .int .i64 (x 21), .int .i64 (x 22), .int .i64 (x 23), .int .i64 (x 24)]) := by rw [e0]; have := bk_new (w.alloc (.cells #[.int .i64 c, .int .i64 d] 43)) 53 [.int .i64 k, .int .i64 (x 1), .int .i64 (x 2), .int .i64 (x 3), .int .i64 (x 4), .int .i64 (x 5), .int .i64 (x 6), .int .i64 (x 7), .int .i64 (x 8), .int .i64 (x 9), .int .i64 (x 10), .int .i64 (x 11), .int .i64 (x 12), .int .i64 (x 13), .int .i64 (x 14), .int .i64 (x 15), .int .i64 (x 16), .int .i64 (x 17), .int .i64 (x 18), .int .i64 (x 19), .int .i64 (x 20), .int .i64 (x 21), .int .i64 (x 22), .int .i64 (x 23), .int .i64 (x 24)]; rwa [show (w.alloc (.cells #[.int .i64 c, .int .i64 d] 43)).heap.size = w.heap.size + 1 by simp] at this
  rw [← e0]
  clear e0
  have O4 : Hid (Op lo w0 mb n (fun k => Z k 0) Bs Z) := HO.out.below B1.out
  obtain ⟨yX0, yX1, yX2, yX3, yX4, yX5, yX6, yX7, yX8, yX9, yX10, yX11, yX12, yX13, yX14, yX15, yX16, yX17, yX18, yX19, yX20, yX21, yX22, yX23, yX24⟩ := X3.out.a25
  have hlX : (w.heap.size + 1) < w0.heap.size := X3.out.1
  go_wp2_with fail
  refine (content0 k x q1 q2 q3 q4 q5 q6 q7 _).mono ?_
  rintro e w1 ⟨rfl, hb1⟩
  clear yX0 yX1 yX2 yX3 yX4 yX5 yX6 yX7 yX8 yX9 yX10 yX11 yX12 yX13 yX14 yX15 yX16 yX17 yX18 yX19 yX20 yX21 yX22 yX23 yX24 hlX
  have B5 := hid (bthen B1.out hb1)
  have M5 := hid (M2.out.below hb1)
  have X5 := hid (X3.out.below hb1)
  have O5 : Hid (Op lo w1 mb n (fun k => Z k 0) Bs Z) := O4.out.below hb1
  clear B1 M2 X3 O4
  clear hb1
  have hta := gate_notN
  go_wp2
  go_ret
  exact ⟨rfl, O5.out, B5.out.mono hlo, B5.out.size⟩
set_option maxRecDepth 20000 in
set_option maxHeartbeats 2000000 in
theorem hear3_none (lo mb n : Nat) (Bs : Nat → Nat) (Z : Nat → Nat → Int) (c d : Int) (x : Nat → Int) (hwf : (Lit.int .i64 (x 5)).wf = true) (hno : ∀ j, j < n → ¬ Z j 0 = x 5) (w : World) (hlo : lo ≤ w.heap.size) (h : Op lo w mb n (fun k => Z k 0) Bs Z) :
    Calls Tryz.prog 25 #[.map (some mb), .agg #[.int .i64 c, .int .i64 d], .agg #[.int .i64 3, .int .i64 (x 1), .int .i64 (x 2), .int .i64 (x 3), .int .i64 (x 4), .int .i64 (x 5), .int .i64 (x 6), .int .i64 (x 7), .int .i64 (x 8), .int .i64 (x 9), .int .i64 (x 10), .int .i64 (x 11), .int .i64 (x 12), .int .i64 (x 13), .int .i64 (x 14), .int .i64 (x 15), .int .i64 (x 16), .int .i64 (x 17), .int .i64 (x 18), .int .i64 (x 19), .int .i64 (x 20), .int .i64 (x 21), .int .i64 (x 22), .int .i64 (x 23), .int .i64 (x 24)]] w fun e w' => e = .returned (.bool false) ∧ Op lo w' mb n (fun k => Z k 0) Bs Z ∧ Below lo w w' ∧ w.heap.size ≤ w'.heap.size := by
  have HO : Hid (Op lo w mb n (fun k => Z k 0) Bs Z) := h
  clear h
  have hma : ∀ W : World, (method 307 116 (.agg #[.int .i64 (x 5), .int .i64 (x 6), .int .i64 (x 7), .int .i64 (x 8), .int .i64 (x 9), .int .i64 (x 4)]) "loop.example/landmarch/impl.answered").run Tryz.prog W = .ok (110, .agg #[.int .i64 (x 5), .int .i64 (x 6), .int .i64 (x 7), .int .i64 (x 8), .int .i64 (x 9), .int .i64 (x 4)]) W := fun W => by kernel_rfl
  have hca : ∀ (a : Array Value) (W : World), (callFunc 110 a).run Tryz.prog W = .ok (.enter 110 a) W := fun a W => by kernel_rfl
  go_enter Tryz.func25, Tryz.ntmps25
  go_upto_region 1 with fail
  obtain ⟨w0, e0⟩ : ∃ y, y = ((w.alloc (.cells #[.int .i64 c, .int .i64 d] 43)).alloc (.cells #[.int .i64 3, .int .i64 (x 1), .int .i64 (x 2), .int .i64 (x 3), .int .i64 (x 4), .int .i64 (x 5), .int .i64 (x 6), .int .i64 (x 7), .int .i64 (x 8), .int .i64 (x 9), .int .i64 (x 10), .int .i64 (x 11), .int .i64 (x 12), .int .i64 (x 13), .int .i64 (x 14), .int .i64 (x 15), .int .i64 (x 16), .int .i64 (x 17), .int .i64 (x 18), .int .i64 (x 19), .int .i64 (x 20), .int .i64 (x 21), .int .i64 (x 22), .int .i64 (x 23), .int .i64 (x 24)] 53)) := ⟨_, rfl⟩
  have B1 : Hid (Below w.heap.size w w0) := by rw [e0]; exact ((Below.refl _ _).alloc (by simp) _).alloc (by simp) _
  have M2 : Hid (Bk w0 w.heap.size [.int .i64 c, .int .i64 d]) := by rw [e0]; exact (bk_new w 43 [.int .i64 c, .int .i64 d]).below ((Below.refl _ _).alloc (Nat.le_refl _) _)
  have X3 : Hid (Bk w0 (w.heap.size + 1) [.int .i64 3, .int .i64 (x 1), .int .i64 (x 2), .int .i64 (x 3), .int .i64 (x 4), .int .i64 (x 5), .int .i64 (x 6), .int .i64 (x 7), .int .i64 (x 8), .int .i64 (x 9), .int .i64 (x 10), .int .i64 (x 11), .int .i64 (x 12), .int .i64 (x 13), .int .i64 (x 14), .int .i64 (x 15), .int .i64 (x 16), .int .i64 (x 17), .int .i64 (x 18), .int .i64 (x 19), .int .i64 (x 20), .int .i64 (x 21), .int .i64 (x 22), .int .i64 (x 23), .int .i64 (x 24)]) := by rw [e0]; have := bk_new (w.alloc (.cells #[.int .i64 c, .int .i64 d] 43)) 53 [.int .i64 3, .int .i64 (x 1), .int .i64 (x 2), .int .i64 (x 3), .int .i64 (x 4), .int .i64 (x 5), .int .i64 (x 6), .int .i64 (x 7), .int .i64 (x 8), .int .i64 (x 9), .int .i64 (x 10), .int .i64 (x 11), .int .i64 (x 12), .int .i64 (x 13), .int .i64 (x 14), .int .i64 (x 15), .int .i64 (x 16), .int .i64 (x 17), .int .i64 (x 18), .int .i64 (x 19), .int .i64 (x 20), .int .i64 (x 21), .int .i64 (x 22), .int .i64 (x 23), .int .i64 (x 24)]; rwa [show (w.alloc (.cells #[.int .i64 c, .int .i64 d] 43)).heap.size = w.heap.size + 1 by simp] at this
  rw [← e0]
  clear e0
  have O4 : Hid (Op lo w0 mb n (fun k => Z k 0) Bs Z) := HO.out.below B1.out
  obtain ⟨yX0, yX1, yX2, yX3, yX4, yX5, yX6, yX7, yX8, yX9, yX10, yX11, yX12, yX13, yX14, yX15, yX16, yX17, yX18, yX19, yX20, yX21, yX22, yX23, yX24⟩ := X3.out.a25
  have hlX : (w.heap.size + 1) < w0.heap.size := X3.out.1
  go_wp2_with fail
  refine (content3 x _).mono ?_
  rintro e w1 ⟨rfl, hb1⟩
  clear yX0 yX1 yX2 yX3 yX4 yX5 yX6 yX7 yX8 yX9 yX10 yX11 yX12 yX13 yX14 yX15 yX16 yX17 yX18 yX19 yX20 yX21 yX22 yX23 yX24 hlX
  have B5 := hid (bthen B1.out hb1)
  have M5 := hid (M2.out.below hb1)
  have X5 := hid (X3.out.below hb1)
  have O5 : Hid (Op lo w1 mb n (fun k => Z k 0) Bs Z) := O4.out.below hb1
  clear B1 M2 X3 O4
  clear hb1
  have hta := gate_is116
  go_wp2_with fail
  refine (answered3 x _).mono ?_
  rintro e w2 ⟨rfl, hb2⟩
  have B6 := hid (bthen B5.out hb2)
  have M6 := hid (M5.out.below hb2)
  have X6 := hid (X5.out.below hb2)
  have O6 : Hid (Op lo w2 mb n (fun k => Z k 0) Bs Z) := O5.out.below hb2
  clear B5 M5 X5 O5
  clear hb2
  go_wp2_with fail
  refine (asking_no lo mb n (fun k => Z k 0) Bs Z x hwf hno _ O6.out).mono ?_
  rintro e w3 ⟨rfl, hb3⟩
  have B7 := hid (bthen B6.out hb3)
  have M7 := hid (M6.out.below hb3)
  have X7 := hid (X6.out.below hb3)
  have O7 : Hid (Op lo w3 mb n (fun k => Z k 0) Bs Z) := O6.out.below hb3
  clear B6 M6 X6 O6
  clear hb3
  go_wp2
  go_ret
  exact ⟨rfl, O7.out, B7.out.mono hlo, B7.out.size⟩
set_option maxRecDepth 20000 in
set_option maxHeartbeats 2000000 in
theorem hear3_ne (lo mb n : Nat) (Bs : Nat → Nat) (Z : Nat → Nat → Int) (c d : Int) (x : Nat → Int) (hwf : (Lit.int .i64 (x 5)).wf = true) (i : Nat) (hi : i < n) (hz : Z i 0 = x 5) (hr : ∀ a b, a < b → b < n → Z a 0 < Z b 0) (he : eq5 (Z i) x = false) (w : World) (hlo : lo ≤ w.heap.size) (h : Op lo w mb n (fun k => Z k 0) Bs Z) :
    Calls Tryz.prog 25 #[.map (some mb), .agg #[.int .i64 c, .int .i64 d], .agg #[.int .i64 3, .int .i64 (x 1), .int .i64 (x 2), .int .i64 (x 3), .int .i64 (x 4), .int .i64 (x 5), .int .i64 (x 6), .int .i64 (x 7), .int .i64 (x 8), .int .i64 (x 9), .int .i64 (x 10), .int .i64 (x 11), .int .i64 (x 12), .int .i64 (x 13), .int .i64 (x 14), .int .i64 (x 15), .int .i64 (x 16), .int .i64 (x 17), .int .i64 (x 18), .int .i64 (x 19), .int .i64 (x 20), .int .i64 (x 21), .int .i64 (x 22), .int .i64 (x 23), .int .i64 (x 24)]] w fun e w' => e = .returned (.bool false) ∧ Op lo w' mb n (fun k => Z k 0) Bs Z ∧ Below lo w w' ∧ w.heap.size ≤ w'.heap.size := by
  have HO : Hid (Op lo w mb n (fun k => Z k 0) Bs Z) := h
  clear h
  have hma : ∀ W : World, (method 307 116 (.agg #[.int .i64 (x 5), .int .i64 (x 6), .int .i64 (x 7), .int .i64 (x 8), .int .i64 (x 9), .int .i64 (x 4)]) "loop.example/landmarch/impl.answered").run Tryz.prog W = .ok (110, .agg #[.int .i64 (x 5), .int .i64 (x 6), .int .i64 (x 7), .int .i64 (x 8), .int .i64 (x 9), .int .i64 (x 4)]) W := fun W => by kernel_rfl
  have hca : ∀ (a : Array Value) (W : World), (callFunc 110 a).run Tryz.prog W = .ok (.enter 110 a) W := fun a W => by kernel_rfl
  go_enter Tryz.func25, Tryz.ntmps25
  go_upto_region 1 with fail
  obtain ⟨w0, e0⟩ : ∃ y, y = ((w.alloc (.cells #[.int .i64 c, .int .i64 d] 43)).alloc (.cells #[.int .i64 3, .int .i64 (x 1), .int .i64 (x 2), .int .i64 (x 3), .int .i64 (x 4), .int .i64 (x 5), .int .i64 (x 6), .int .i64 (x 7), .int .i64 (x 8), .int .i64 (x 9), .int .i64 (x 10), .int .i64 (x 11), .int .i64 (x 12), .int .i64 (x 13), .int .i64 (x 14), .int .i64 (x 15), .int .i64 (x 16), .int .i64 (x 17), .int .i64 (x 18), .int .i64 (x 19), .int .i64 (x 20), .int .i64 (x 21), .int .i64 (x 22), .int .i64 (x 23), .int .i64 (x 24)] 53)) := ⟨_, rfl⟩
  have B1 : Hid (Below w.heap.size w w0) := by rw [e0]; exact ((Below.refl _ _).alloc (by simp) _).alloc (by simp) _
  have M2 : Hid (Bk w0 w.heap.size [.int .i64 c, .int .i64 d]) := by rw [e0]; exact (bk_new w 43 [.int .i64 c, .int .i64 d]).below ((Below.refl _ _).alloc (Nat.le_refl _) _)
  have X3 : Hid (Bk w0 (w.heap.size + 1) [.int .i64 3, .int .i64 (x 1), .int .i64 (x 2), .int .i64 (x 3), .int .i64 (x 4), .int .i64 (x 5), .int .i64 (x 6), .int .i64 (x 7), .int .i64 (x 8), .int .i64 (x 9), .int .i64 (x 10), .int .i64 (x 11), .int .i64 (x 12), .int .i64 (x 13), .int .i64 (x 14), .int .i64 (x 15), .int .i64 (x 16), .int .i64 (x 17), .int .i64 (x 18), .int .i64 (x 19), .int .i64 (x 20), .int .i64 (x 21), .int .i64 (x 22), .int .i64 (x 23), .int .i64 (x 24)]) := by rw [e0]; have := bk_new (w.alloc (.cells #[.int .i64 c, .int .i64 d] 43)) 53 [.int .i64 3, .int .i64 (x 1), .int .i64 (x 2), .int .i64 (x 3), .int .i64 (x 4), .int .i64 (x 5), .int .i64 (x 6), .int .i64 (x 7), .int .i64 (x 8), .int .i64 (x 9), .int .i64 (x 10), .int .i64 (x 11), .int .i64 (x 12), .int .i64 (x 13), .int .i64 (x 14), .int .i64 (x 15), .int .i64 (x 16), .int .i64 (x 17), .int .i64 (x 18), .int .i64 (x 19), .int .i64 (x 20), .int .i64 (x 21), .int .i64 (x 22), .int .i64 (x 23), .int .i64 (x 24)]; rwa [show (w.alloc (.cells #[.int .i64 c, .int .i64 d] 43)).heap.size = w.heap.size + 1 by simp] at this
  rw [← e0]
  clear e0
  have O4 : Hid (Op lo w0 mb n (fun k => Z k 0) Bs Z) := HO.out.below B1.out
  obtain ⟨yX0, yX1, yX2, yX3, yX4, yX5, yX6, yX7, yX8, yX9, yX10, yX11, yX12, yX13, yX14, yX15, yX16, yX17, yX18, yX19, yX20, yX21, yX22, yX23, yX24⟩ := X3.out.a25
  have hlX : (w.heap.size + 1) < w0.heap.size := X3.out.1
  go_wp2_with fail
  refine (content3 x _).mono ?_
  rintro e w1 ⟨rfl, hb1⟩
  clear yX0 yX1 yX2 yX3 yX4 yX5 yX6 yX7 yX8 yX9 yX10 yX11 yX12 yX13 yX14 yX15 yX16 yX17 yX18 yX19 yX20 yX21 yX22 yX23 yX24 hlX
  have B5 := hid (bthen B1.out hb1)
  have M5 := hid (M2.out.below hb1)
  have X5 := hid (X3.out.below hb1)
  have O5 : Hid (Op lo w1 mb n (fun k => Z k 0) Bs Z) := O4.out.below hb1
  clear B1 M2 X3 O4
  clear hb1
  have hta := gate_is116
  go_wp2_with fail
  refine (answered3 x _).mono ?_
  rintro e w2 ⟨rfl, hb2⟩
  have B6 := hid (bthen B5.out hb2)
  have M6 := hid (M5.out.below hb2)
  have X6 := hid (X5.out.below hb2)
  have O6 : Hid (Op lo w2 mb n (fun k => Z k 0) Bs Z) := O5.out.below hb2
  clear B5 M5 X5 O5
  clear hb2
  go_wp2_with fail
  refine (asking_ne lo mb n i (fun k => Z k 0) Bs Z x hwf hi hz hr he _ O6.out).mono ?_
  rintro e w3 ⟨rfl, hb3⟩
  have B7 := hid (bthen B6.out hb3)
  have M7 := hid (M6.out.below hb3)
  have X7 := hid (X6.out.below hb3)
  have O7 : Hid (Op lo w3 mb n (fun k => Z k 0) Bs Z) := O6.out.below hb3
  clear B6 M6 X6 O6
  clear hb3
  go_wp2
  go_ret
  exact ⟨rfl, O7.out, B7.out.mono hlo, B7.out.size⟩
set_option maxRecDepth 20000 in
set_option maxHeartbeats 2000000 in
theorem hear3_eq (lo mb n : Nat) (Bs : Nat → Nat) (Z : Nat → Nat → Int) (c d : Int) (x : Nat → Int) (hwf : (Lit.int .i64 (x 5)).wf = true) (i : Nat) (hi : i < n) (hz : Z i 0 = x 5) (hr : ∀ a b, a < b → b < n → Z a 0 < Z b 0) (he : eq5 (Z i) x = true) (w : World) (hlo : lo ≤ w.heap.size) (h : Op lo w mb n (fun k => Z k 0) Bs Z) :
    Calls Tryz.prog 25 #[.map (some mb), .agg #[.int .i64 c, .int .i64 d], .agg #[.int .i64 3, .int .i64 (x 1), .int .i64 (x 2), .int .i64 (x 3), .int .i64 (x 4), .int .i64 (x 5), .int .i64 (x 6), .int .i64 (x 7), .int .i64 (x 8), .int .i64 (x 9), .int .i64 (x 10), .int .i64 (x 11), .int .i64 (x 12), .int .i64 (x 13), .int .i64 (x 14), .int .i64 (x 15), .int .i64 (x 16), .int .i64 (x 17), .int .i64 (x 18), .int .i64 (x 19), .int .i64 (x 20), .int .i64 (x 21), .int .i64 (x 22), .int .i64 (x 23), .int .i64 (x 24)]] w fun e w' => e = .returned (.bool true) ∧ Op lo w' mb n (fun k => Z k 0) Bs (tellZ Z i (x 2) (x 6) (x 4)) ∧ Below lo w w' ∧ w.heap.size ≤ w'.heap.size := by
  have HO : Hid (Op lo w mb n (fun k => Z k 0) Bs Z) := h
  clear h
  have hma : ∀ W : World, (method 307 116 (.agg #[.int .i64 (x 5), .int .i64 (x 6), .int .i64 (x 7), .int .i64 (x 8), .int .i64 (x 9), .int .i64 (x 4)]) "loop.example/landmarch/impl.answered").run Tryz.prog W = .ok (110, .agg #[.int .i64 (x 5), .int .i64 (x 6), .int .i64 (x 7), .int .i64 (x 8), .int .i64 (x 9), .int .i64 (x 4)]) W := fun W => by kernel_rfl
  have hca : ∀ (a : Array Value) (W : World), (callFunc 110 a).run Tryz.prog W = .ok (.enter 110 a) W := fun a W => by kernel_rfl
  have hmh : ∀ W : World, (method 307 116 (.agg #[.int .i64 (x 5), .int .i64 (x 6), .int .i64 (x 7), .int .i64 (x 8), .int .i64 (x 9), .int .i64 (x 4)]) "loop.example/landmarch/impl.heardIn").run Tryz.prog W = .ok (111, .agg #[.int .i64 (x 5), .int .i64 (x 6), .int .i64 (x 7), .int .i64 (x 8), .int .i64 (x 9), .int .i64 (x 4)]) W := fun W => by kernel_rfl
  have hch : ∀ (a : Array Value) (W : World), (callFunc 111 a).run Tryz.prog W = .ok (.enter 111 a) W := fun a W => by kernel_rfl
  go_enter Tryz.func25, Tryz.ntmps25
  go_upto_region 1 with fail
  obtain ⟨w0, e0⟩ : ∃ y, y = ((w.alloc (.cells #[.int .i64 c, .int .i64 d] 43)).alloc (.cells #[.int .i64 3, .int .i64 (x 1), .int .i64 (x 2), .int .i64 (x 3), .int .i64 (x 4), .int .i64 (x 5), .int .i64 (x 6), .int .i64 (x 7), .int .i64 (x 8), .int .i64 (x 9), .int .i64 (x 10), .int .i64 (x 11), .int .i64 (x 12), .int .i64 (x 13), .int .i64 (x 14), .int .i64 (x 15), .int .i64 (x 16), .int .i64 (x 17), .int .i64 (x 18), .int .i64 (x 19), .int .i64 (x 20), .int .i64 (x 21), .int .i64 (x 22), .int .i64 (x 23), .int .i64 (x 24)] 53)) := ⟨_, rfl⟩
  have B1 : Hid (Below w.heap.size w w0) := by rw [e0]; exact ((Below.refl _ _).alloc (by simp) _).alloc (by simp) _
  have M2 : Hid (Bk w0 w.heap.size [.int .i64 c, .int .i64 d]) := by rw [e0]; exact (bk_new w 43 [.int .i64 c, .int .i64 d]).below ((Below.refl _ _).alloc (Nat.le_refl _) _)
  have X3 : Hid (Bk w0 (w.heap.size + 1) [.int .i64 3, .int .i64 (x 1), .int .i64 (x 2), .int .i64 (x 3), .int .i64 (x 4), .int .i64 (x 5), .int .i64 (x 6), .int .i64 (x 7), .int .i64 (x 8), .int .i64 (x 9), .int .i64 (x 10), .int .i64 (x 11), .int .i64 (x 12), .int .i64 (x 13), .int .i64 (x 14), .int .i64 (x 15), .int .i64 (x 16), .int .i64 (x 17), .int .i64 (x 18), .int .i64 (x 19), .int .i64 (x 20), .int .i64 (x 21), .int .i64 (x 22), .int .i64 (x 23), .int .i64 (x 24)]) := by rw [e0]; have := bk_new (w.alloc (.cells #[.int .i64 c, .int .i64 d] 43)) 53 [.int .i64 3, .int .i64 (x 1), .int .i64 (x 2), .int .i64 (x 3), .int .i64 (x 4), .int .i64 (x 5), .int .i64 (x 6), .int .i64 (x 7), .int .i64 (x 8), .int .i64 (x 9), .int .i64 (x 10), .int .i64 (x 11), .int .i64 (x 12), .int .i64 (x 13), .int .i64 (x 14), .int .i64 (x 15), .int .i64 (x 16), .int .i64 (x 17), .int .i64 (x 18), .int .i64 (x 19), .int .i64 (x 20), .int .i64 (x 21), .int .i64 (x 22), .int .i64 (x 23), .int .i64 (x 24)]; rwa [show (w.alloc (.cells #[.int .i64 c, .int .i64 d] 43)).heap.size = w.heap.size + 1 by simp] at this
  rw [← e0]
  clear e0
  have O4 : Hid (Op lo w0 mb n (fun k => Z k 0) Bs Z) := HO.out.below B1.out
  obtain ⟨yX0, yX1, yX2, yX3, yX4, yX5, yX6, yX7, yX8, yX9, yX10, yX11, yX12, yX13, yX14, yX15, yX16, yX17, yX18, yX19, yX20, yX21, yX22, yX23, yX24⟩ := X3.out.a25
  have hlX : (w.heap.size + 1) < w0.heap.size := X3.out.1
  go_wp2_with fail
  refine (content3 x _).mono ?_
  rintro e w1 ⟨rfl, hb1⟩
  clear yX0 yX1 yX2 yX3 yX4 yX5 yX6 yX7 yX8 yX9 yX10 yX11 yX12 yX13 yX14 yX15 yX16 yX17 yX18 yX19 yX20 yX21 yX22 yX23 yX24 hlX
  have B5 := hid (bthen B1.out hb1)
  have M5 := hid (M2.out.below hb1)
  have X5 := hid (X3.out.below hb1)
  have O5 : Hid (Op lo w1 mb n (fun k => Z k 0) Bs Z) := O4.out.below hb1
  clear B1 M2 X3 O4
  clear hb1
  have hta := gate_is116
  go_wp2_with fail
  refine (answered3 x _).mono ?_
  rintro e w2 ⟨rfl, hb2⟩
  have B6 := hid (bthen B5.out hb2)
  have M6 := hid (M5.out.below hb2)
  have X6 := hid (X5.out.below hb2)
  have O6 : Hid (Op lo w2 mb n (fun k => Z k 0) Bs Z) := O5.out.below hb2
  clear B5 M5 X5 O5
  clear hb2
  go_wp2_with fail
  refine (asking_eq lo mb n i (fun k => Z k 0) Bs Z x hwf hi hz hr he _ O6.out).mono ?_
  rintro e w3 ⟨rfl, hb3⟩
  have B7 := hid (bthen B6.out hb3)
  have M7 := hid (M6.out.below hb3)
  have X7 := hid (X6.out.below hb3)
  have O7 : Hid (Op lo w3 mb n (fun k => Z k 0) Bs Z) := O6.out.below hb3
  clear B6 M6 X6 O6
  clear hb3
  have lo3 : lo ≤ w3.heap.size := by have := B7.out.size; omega
  obtain ⟨yM0, yM1⟩ := M7.out.a2
  have hlM : w.heap.size < w3.heap.size := M7.out.1
  obtain ⟨yX0, yX1, yX2, yX3, yX4, yX5, yX6, yX7, yX8, yX9, yX10, yX11, yX12, yX13, yX14, yX15, yX16, yX17, yX18, yX19, yX20, yX21, yX22, yX23, yX24⟩ := X7.out.a25
  have hlX : (w.heap.size + 1) < w3.heap.size := X7.out.1
  go_wp2_with fail
  refine (heard3 lo mb n i (fun k => Z k 0) Bs Z x c d (x 2) hi _ lo3 O7.out).mono ?_
  rintro e w4 ⟨rfl, hO4, hb4, hz4⟩
  clear yM0 yM1 hlM yX0 yX1 yX2 yX3 yX4 yX5 yX6 yX7 yX8 yX9 yX10 yX11 yX12 yX13 yX14 yX15 yX16 yX17 yX18 yX19 yX20 yX21 yX22 yX23 yX24 hlX
  have O4 := hO4
  clear hO4
  have B4 : Hid (Below lo w w4) := (B7.out.mono hlo).trans hb4
  have z4 : Hid (w.heap.size ≤ w4.heap.size) := Nat.le_trans B7.out.size hz4
  clear hb4 hz4
  have HO4 : Hid (Op lo w4 mb n (fun k => Z k 0) Bs (tellZ Z i (x 2) (x 6) (x 4))) := O4
  clear O4
  go_wp2
  go_ret
  exact ⟨rfl, HO4.out, B4.out, z4.out⟩
set_option maxRecDepth 20000 in
set_option maxHeartbeats 2000000 in
theorem hear4_none (lo mb n : Nat) (Bs : Nat → Nat) (Z : Nat → Nat → Int) (c d : Int) (x : Nat → Int) (hwf : (Lit.int .i64 (x 5)).wf = true) (hno : ∀ j, j < n → ¬ Z j 0 = x 5) (w : World) (hlo : lo ≤ w.heap.size) (h : Op lo w mb n (fun k => Z k 0) Bs Z) :
    Calls Tryz.prog 25 #[.map (some mb), .agg #[.int .i64 c, .int .i64 d], .agg #[.int .i64 4, .int .i64 (x 1), .int .i64 (x 2), .int .i64 (x 3), .int .i64 (x 4), .int .i64 (x 5), .int .i64 (x 6), .int .i64 (x 7), .int .i64 (x 8), .int .i64 (x 9), .int .i64 (x 10), .int .i64 (x 11), .int .i64 (x 12), .int .i64 (x 13), .int .i64 (x 14), .int .i64 (x 15), .int .i64 (x 16), .int .i64 (x 17), .int .i64 (x 18), .int .i64 (x 19), .int .i64 (x 20), .int .i64 (x 21), .int .i64 (x 22), .int .i64 (x 23), .int .i64 (x 24)]] w fun e w' => e = .returned (.bool false) ∧ Op lo w' mb n (fun k => Z k 0) Bs Z ∧ Below lo w w' ∧ w.heap.size ≤ w'.heap.size := by
  have HO : Hid (Op lo w mb n (fun k => Z k 0) Bs Z) := h
  clear h
  have hma : ∀ W : World, (method 307 117 (.agg #[.int .i64 (x 5), .int .i64 (x 6), .int .i64 (x 7), .int .i64 (x 8), .int .i64 (x 9)]) "loop.example/landmarch/impl.answered").run Tryz.prog W = .ok (114, .agg #[.int .i64 (x 5), .int .i64 (x 6), .int .i64 (x 7), .int .i64 (x 8), .int .i64 (x 9)]) W := fun W => by kernel_rfl
  have hca : ∀ (a : Array Value) (W : World), (callFunc 114 a).run Tryz.prog W = .ok (.enter 114 a) W := fun a W => by kernel_rfl
  go_enter Tryz.func25, Tryz.ntmps25
  go_upto_region 1 with fail
  obtain ⟨w0, e0⟩ : ∃ y, y = ((w.alloc (.cells #[.int .i64 c, .int .i64 d] 43)).alloc (.cells #[.int .i64 4, .int .i64 (x 1), .int .i64 (x 2), .int .i64 (x 3), .int .i64 (x 4), .int .i64 (x 5), .int .i64 (x 6), .int .i64 (x 7), .int .i64 (x 8), .int .i64 (x 9), .int .i64 (x 10), .int .i64 (x 11), .int .i64 (x 12), .int .i64 (x 13), .int .i64 (x 14), .int .i64 (x 15), .int .i64 (x 16), .int .i64 (x 17), .int .i64 (x 18), .int .i64 (x 19), .int .i64 (x 20), .int .i64 (x 21), .int .i64 (x 22), .int .i64 (x 23), .int .i64 (x 24)] 53)) := ⟨_, rfl⟩
  have B1 : Hid (Below w.heap.size w w0) := by rw [e0]; exact ((Below.refl _ _).alloc (by simp) _).alloc (by simp) _
  have M2 : Hid (Bk w0 w.heap.size [.int .i64 c, .int .i64 d]) := by rw [e0]; exact (bk_new w 43 [.int .i64 c, .int .i64 d]).below ((Below.refl _ _).alloc (Nat.le_refl _) _)
  have X3 : Hid (Bk w0 (w.heap.size + 1) [.int .i64 4, .int .i64 (x 1), .int .i64 (x 2), .int .i64 (x 3), .int .i64 (x 4), .int .i64 (x 5), .int .i64 (x 6), .int .i64 (x 7), .int .i64 (x 8), .int .i64 (x 9), .int .i64 (x 10), .int .i64 (x 11), .int .i64 (x 12), .int .i64 (x 13), .int .i64 (x 14), .int .i64 (x 15), .int .i64 (x 16), .int .i64 (x 17), .int .i64 (x 18), .int .i64 (x 19), .int .i64 (x 20), .int .i64 (x 21), .int .i64 (x 22), .int .i64 (x 23), .int .i64 (x 24)]) := by rw [e0]; have := bk_new (w.alloc (.cells #[.int .i64 c, .int .i64 d] 43)) 53 [.int .i64 4, .int .i64 (x 1), .int .i64 (x 2), .int .i64 (x 3), .int .i64 (x 4), .int .i64 (x 5), .int .i64 (x 6), .int .i64 (x 7), .int .i64 (x 8), .int .i64 (x 9), .int .i64 (x 10), .int .i64 (x 11), .int .i64 (x 12), .int .i64 (x 13), .int .i64 (x 14), .int .i64 (x 15), .int .i64 (x 16), .int .i64 (x 17), .int .i64 (x 18), .int .i64 (x 19), .int .i64 (x 20), .int .i64 (x 21), .int .i64 (x 22), .int .i64 (x 23), .int .i64 (x 24)]; rwa [show (w.alloc (.cells #[.int .i64 c, .int .i64 d] 43)).heap.size = w.heap.size + 1 by simp] at this
  rw [← e0]
  clear e0
  have O4 : Hid (Op lo w0 mb n (fun k => Z k 0) Bs Z) := HO.out.below B1.out
  obtain ⟨yX0, yX1, yX2, yX3, yX4, yX5, yX6, yX7, yX8, yX9, yX10, yX11, yX12, yX13, yX14, yX15, yX16, yX17, yX18, yX19, yX20, yX21, yX22, yX23, yX24⟩ := X3.out.a25
  have hlX : (w.heap.size + 1) < w0.heap.size := X3.out.1
  go_wp2_with fail
  refine (content4 x _).mono ?_
  rintro e w1 ⟨rfl, hb1⟩
  clear yX0 yX1 yX2 yX3 yX4 yX5 yX6 yX7 yX8 yX9 yX10 yX11 yX12 yX13 yX14 yX15 yX16 yX17 yX18 yX19 yX20 yX21 yX22 yX23 yX24 hlX
  have B5 := hid (bthen B1.out hb1)
  have M5 := hid (M2.out.below hb1)
  have X5 := hid (X3.out.below hb1)
  have O5 : Hid (Op lo w1 mb n (fun k => Z k 0) Bs Z) := O4.out.below hb1
  clear B1 M2 X3 O4
  clear hb1
  have hta := gate_is117
  go_wp2_with fail
  refine (answered4 x _).mono ?_
  rintro e w2 ⟨rfl, hb2⟩
  have B6 := hid (bthen B5.out hb2)
  have M6 := hid (M5.out.below hb2)
  have X6 := hid (X5.out.below hb2)
  have O6 : Hid (Op lo w2 mb n (fun k => Z k 0) Bs Z) := O5.out.below hb2
  clear B5 M5 X5 O5
  clear hb2
  go_wp2_with fail
  refine (asking_no lo mb n (fun k => Z k 0) Bs Z x hwf hno _ O6.out).mono ?_
  rintro e w3 ⟨rfl, hb3⟩
  have B7 := hid (bthen B6.out hb3)
  have M7 := hid (M6.out.below hb3)
  have X7 := hid (X6.out.below hb3)
  have O7 : Hid (Op lo w3 mb n (fun k => Z k 0) Bs Z) := O6.out.below hb3
  clear B6 M6 X6 O6
  clear hb3
  go_wp2
  go_ret
  exact ⟨rfl, O7.out, B7.out.mono hlo, B7.out.size⟩
set_option maxRecDepth 20000 in
set_option maxHeartbeats 2000000 in
theorem hear4_ne (lo mb n : Nat) (Bs : Nat → Nat) (Z : Nat → Nat → Int) (c d : Int) (x : Nat → Int) (hwf : (Lit.int .i64 (x 5)).wf = true) (i : Nat) (hi : i < n) (hz : Z i 0 = x 5) (hr : ∀ a b, a < b → b < n → Z a 0 < Z b 0) (he : eq5 (Z i) x = false) (w : World) (hlo : lo ≤ w.heap.size) (h : Op lo w mb n (fun k => Z k 0) Bs Z) :
    Calls Tryz.prog 25 #[.map (some mb), .agg #[.int .i64 c, .int .i64 d], .agg #[.int .i64 4, .int .i64 (x 1), .int .i64 (x 2), .int .i64 (x 3), .int .i64 (x 4), .int .i64 (x 5), .int .i64 (x 6), .int .i64 (x 7), .int .i64 (x 8), .int .i64 (x 9), .int .i64 (x 10), .int .i64 (x 11), .int .i64 (x 12), .int .i64 (x 13), .int .i64 (x 14), .int .i64 (x 15), .int .i64 (x 16), .int .i64 (x 17), .int .i64 (x 18), .int .i64 (x 19), .int .i64 (x 20), .int .i64 (x 21), .int .i64 (x 22), .int .i64 (x 23), .int .i64 (x 24)]] w fun e w' => e = .returned (.bool false) ∧ Op lo w' mb n (fun k => Z k 0) Bs Z ∧ Below lo w w' ∧ w.heap.size ≤ w'.heap.size := by
  have HO : Hid (Op lo w mb n (fun k => Z k 0) Bs Z) := h
  clear h
  have hma : ∀ W : World, (method 307 117 (.agg #[.int .i64 (x 5), .int .i64 (x 6), .int .i64 (x 7), .int .i64 (x 8), .int .i64 (x 9)]) "loop.example/landmarch/impl.answered").run Tryz.prog W = .ok (114, .agg #[.int .i64 (x 5), .int .i64 (x 6), .int .i64 (x 7), .int .i64 (x 8), .int .i64 (x 9)]) W := fun W => by kernel_rfl
  have hca : ∀ (a : Array Value) (W : World), (callFunc 114 a).run Tryz.prog W = .ok (.enter 114 a) W := fun a W => by kernel_rfl
  go_enter Tryz.func25, Tryz.ntmps25
  go_upto_region 1 with fail
  obtain ⟨w0, e0⟩ : ∃ y, y = ((w.alloc (.cells #[.int .i64 c, .int .i64 d] 43)).alloc (.cells #[.int .i64 4, .int .i64 (x 1), .int .i64 (x 2), .int .i64 (x 3), .int .i64 (x 4), .int .i64 (x 5), .int .i64 (x 6), .int .i64 (x 7), .int .i64 (x 8), .int .i64 (x 9), .int .i64 (x 10), .int .i64 (x 11), .int .i64 (x 12), .int .i64 (x 13), .int .i64 (x 14), .int .i64 (x 15), .int .i64 (x 16), .int .i64 (x 17), .int .i64 (x 18), .int .i64 (x 19), .int .i64 (x 20), .int .i64 (x 21), .int .i64 (x 22), .int .i64 (x 23), .int .i64 (x 24)] 53)) := ⟨_, rfl⟩
  have B1 : Hid (Below w.heap.size w w0) := by rw [e0]; exact ((Below.refl _ _).alloc (by simp) _).alloc (by simp) _
  have M2 : Hid (Bk w0 w.heap.size [.int .i64 c, .int .i64 d]) := by rw [e0]; exact (bk_new w 43 [.int .i64 c, .int .i64 d]).below ((Below.refl _ _).alloc (Nat.le_refl _) _)
  have X3 : Hid (Bk w0 (w.heap.size + 1) [.int .i64 4, .int .i64 (x 1), .int .i64 (x 2), .int .i64 (x 3), .int .i64 (x 4), .int .i64 (x 5), .int .i64 (x 6), .int .i64 (x 7), .int .i64 (x 8), .int .i64 (x 9), .int .i64 (x 10), .int .i64 (x 11), .int .i64 (x 12), .int .i64 (x 13), .int .i64 (x 14), .int .i64 (x 15), .int .i64 (x 16), .int .i64 (x 17), .int .i64 (x 18), .int .i64 (x 19), .int .i64 (x 20), .int .i64 (x 21), .int .i64 (x 22), .int .i64 (x 23), .int .i64 (x 24)]) := by rw [e0]; have := bk_new (w.alloc (.cells #[.int .i64 c, .int .i64 d] 43)) 53 [.int .i64 4, .int .i64 (x 1), .int .i64 (x 2), .int .i64 (x 3), .int .i64 (x 4), .int .i64 (x 5), .int .i64 (x 6), .int .i64 (x 7), .int .i64 (x 8), .int .i64 (x 9), .int .i64 (x 10), .int .i64 (x 11), .int .i64 (x 12), .int .i64 (x 13), .int .i64 (x 14), .int .i64 (x 15), .int .i64 (x 16), .int .i64 (x 17), .int .i64 (x 18), .int .i64 (x 19), .int .i64 (x 20), .int .i64 (x 21), .int .i64 (x 22), .int .i64 (x 23), .int .i64 (x 24)]; rwa [show (w.alloc (.cells #[.int .i64 c, .int .i64 d] 43)).heap.size = w.heap.size + 1 by simp] at this
  rw [← e0]
  clear e0
  have O4 : Hid (Op lo w0 mb n (fun k => Z k 0) Bs Z) := HO.out.below B1.out
  obtain ⟨yX0, yX1, yX2, yX3, yX4, yX5, yX6, yX7, yX8, yX9, yX10, yX11, yX12, yX13, yX14, yX15, yX16, yX17, yX18, yX19, yX20, yX21, yX22, yX23, yX24⟩ := X3.out.a25
  have hlX : (w.heap.size + 1) < w0.heap.size := X3.out.1
  go_wp2_with fail
  refine (content4 x _).mono ?_
  rintro e w1 ⟨rfl, hb1⟩
  clear yX0 yX1 yX2 yX3 yX4 yX5 yX6 yX7 yX8 yX9 yX10 yX11 yX12 yX13 yX14 yX15 yX16 yX17 yX18 yX19 yX20 yX21 yX22 yX23 yX24 hlX
  have B5 := hid (bthen B1.out hb1)
  have M5 := hid (M2.out.below hb1)
  have X5 := hid (X3.out.below hb1)
  have O5 : Hid (Op lo w1 mb n (fun k => Z k 0) Bs Z) := O4.out.below hb1
  clear B1 M2 X3 O4
  clear hb1
  have hta := gate_is117
  go_wp2_with fail
  refine (answered4 x _).mono ?_
  rintro e w2 ⟨rfl, hb2⟩
  have B6 := hid (bthen B5.out hb2)
  have M6 := hid (M5.out.below hb2)
  have X6 := hid (X5.out.below hb2)
  have O6 : Hid (Op lo w2 mb n (fun k => Z k 0) Bs Z) := O5.out.below hb2
  clear B5 M5 X5 O5
  clear hb2
  go_wp2_with fail
  refine (asking_ne lo mb n i (fun k => Z k 0) Bs Z x hwf hi hz hr he _ O6.out).mono ?_
  rintro e w3 ⟨rfl, hb3⟩
  have B7 := hid (bthen B6.out hb3)
  have M7 := hid (M6.out.below hb3)
  have X7 := hid (X6.out.below hb3)
  have O7 : Hid (Op lo w3 mb n (fun k => Z k 0) Bs Z) := O6.out.below hb3
  clear B6 M6 X6 O6
  clear hb3
  go_wp2
  go_ret
  exact ⟨rfl, O7.out, B7.out.mono hlo, B7.out.size⟩
set_option maxRecDepth 20000 in
set_option maxHeartbeats 2000000 in
theorem hear4_eq (lo mb n : Nat) (Bs : Nat → Nat) (Z : Nat → Nat → Int) (c d : Int) (x : Nat → Int) (hwf : (Lit.int .i64 (x 5)).wf = true) (i : Nat) (hi : i < n) (hz : Z i 0 = x 5) (hr : ∀ a b, a < b → b < n → Z a 0 < Z b 0) (he : eq5 (Z i) x = true) (h2 : c = 2 ∨ c = 3 ∨ c = 4) (h4 : x 2 = 0 ∨ x 2 = 1 ∨ x 2 = 2 ∨ x 2 = 3) (w : World) (hlo : lo ≤ w.heap.size) (h : Op lo w mb n (fun k => Z k 0) Bs Z) :
    Calls Tryz.prog 25 #[.map (some mb), .agg #[.int .i64 c, .int .i64 d], .agg #[.int .i64 4, .int .i64 (x 1), .int .i64 (x 2), .int .i64 (x 3), .int .i64 (x 4), .int .i64 (x 5), .int .i64 (x 6), .int .i64 (x 7), .int .i64 (x 8), .int .i64 (x 9), .int .i64 (x 10), .int .i64 (x 11), .int .i64 (x 12), .int .i64 (x 13), .int .i64 (x 14), .int .i64 (x 15), .int .i64 (x 16), .int .i64 (x 17), .int .i64 (x 18), .int .i64 (x 19), .int .i64 (x 20), .int .i64 (x 21), .int .i64 (x 22), .int .i64 (x 23), .int .i64 (x 24)]] w fun e w' => e = .returned (.bool false) ∧ Op lo w' mb n (fun k => Z k 0) Bs (awayZ c Z i (x 2)) ∧ Below lo w w' ∧ w.heap.size ≤ w'.heap.size := by
  have HO : Hid (Op lo w mb n (fun k => Z k 0) Bs Z) := h
  clear h
  have hma : ∀ W : World, (method 307 117 (.agg #[.int .i64 (x 5), .int .i64 (x 6), .int .i64 (x 7), .int .i64 (x 8), .int .i64 (x 9)]) "loop.example/landmarch/impl.answered").run Tryz.prog W = .ok (114, .agg #[.int .i64 (x 5), .int .i64 (x 6), .int .i64 (x 7), .int .i64 (x 8), .int .i64 (x 9)]) W := fun W => by kernel_rfl
  have hca : ∀ (a : Array Value) (W : World), (callFunc 114 a).run Tryz.prog W = .ok (.enter 114 a) W := fun a W => by kernel_rfl
  have hmh : ∀ W : World, (method 307 117 (.agg #[.int .i64 (x 5), .int .i64 (x 6), .int .i64 (x 7), .int .i64 (x 8), .int .i64 (x 9)]) "loop.example/landmarch/impl.heardIn").run Tryz.prog W = .ok (115, .agg #[.int .i64 (x 5), .int .i64 (x 6), .int .i64 (x 7), .int .i64 (x 8), .int .i64 (x 9)]) W := fun W => by kernel_rfl
  have hch : ∀ (a : Array Value) (W : World), (callFunc 115 a).run Tryz.prog W = .ok (.enter 115 a) W := fun a W => by kernel_rfl
  go_enter Tryz.func25, Tryz.ntmps25
  go_upto_region 1 with fail
  obtain ⟨w0, e0⟩ : ∃ y, y = ((w.alloc (.cells #[.int .i64 c, .int .i64 d] 43)).alloc (.cells #[.int .i64 4, .int .i64 (x 1), .int .i64 (x 2), .int .i64 (x 3), .int .i64 (x 4), .int .i64 (x 5), .int .i64 (x 6), .int .i64 (x 7), .int .i64 (x 8), .int .i64 (x 9), .int .i64 (x 10), .int .i64 (x 11), .int .i64 (x 12), .int .i64 (x 13), .int .i64 (x 14), .int .i64 (x 15), .int .i64 (x 16), .int .i64 (x 17), .int .i64 (x 18), .int .i64 (x 19), .int .i64 (x 20), .int .i64 (x 21), .int .i64 (x 22), .int .i64 (x 23), .int .i64 (x 24)] 53)) := ⟨_, rfl⟩
  have B1 : Hid (Below w.heap.size w w0) := by rw [e0]; exact ((Below.refl _ _).alloc (by simp) _).alloc (by simp) _
  have M2 : Hid (Bk w0 w.heap.size [.int .i64 c, .int .i64 d]) := by rw [e0]; exact (bk_new w 43 [.int .i64 c, .int .i64 d]).below ((Below.refl _ _).alloc (Nat.le_refl _) _)
  have X3 : Hid (Bk w0 (w.heap.size + 1) [.int .i64 4, .int .i64 (x 1), .int .i64 (x 2), .int .i64 (x 3), .int .i64 (x 4), .int .i64 (x 5), .int .i64 (x 6), .int .i64 (x 7), .int .i64 (x 8), .int .i64 (x 9), .int .i64 (x 10), .int .i64 (x 11), .int .i64 (x 12), .int .i64 (x 13), .int .i64 (x 14), .int .i64 (x 15), .int .i64 (x 16), .int .i64 (x 17), .int .i64 (x 18), .int .i64 (x 19), .int .i64 (x 20), .int .i64 (x 21), .int .i64 (x 22), .int .i64 (x 23), .int .i64 (x 24)]) := by rw [e0]; have := bk_new (w.alloc (.cells #[.int .i64 c, .int .i64 d] 43)) 53 [.int .i64 4, .int .i64 (x 1), .int .i64 (x 2), .int .i64 (x 3), .int .i64 (x 4), .int .i64 (x 5), .int .i64 (x 6), .int .i64 (x 7), .int .i64 (x 8), .int .i64 (x 9), .int .i64 (x 10), .int .i64 (x 11), .int .i64 (x 12), .int .i64 (x 13), .int .i64 (x 14), .int .i64 (x 15), .int .i64 (x 16), .int .i64 (x 17), .int .i64 (x 18), .int .i64 (x 19), .int .i64 (x 20), .int .i64 (x 21), .int .i64 (x 22), .int .i64 (x 23), .int .i64 (x 24)]; rwa [show (w.alloc (.cells #[.int .i64 c, .int .i64 d] 43)).heap.size = w.heap.size + 1 by simp] at this
  rw [← e0]
  clear e0
  have O4 : Hid (Op lo w0 mb n (fun k => Z k 0) Bs Z) := HO.out.below B1.out
  obtain ⟨yX0, yX1, yX2, yX3, yX4, yX5, yX6, yX7, yX8, yX9, yX10, yX11, yX12, yX13, yX14, yX15, yX16, yX17, yX18, yX19, yX20, yX21, yX22, yX23, yX24⟩ := X3.out.a25
  have hlX : (w.heap.size + 1) < w0.heap.size := X3.out.1
  go_wp2_with fail
  refine (content4 x _).mono ?_
  rintro e w1 ⟨rfl, hb1⟩
  clear yX0 yX1 yX2 yX3 yX4 yX5 yX6 yX7 yX8 yX9 yX10 yX11 yX12 yX13 yX14 yX15 yX16 yX17 yX18 yX19 yX20 yX21 yX22 yX23 yX24 hlX
  have B5 := hid (bthen B1.out hb1)
  have M5 := hid (M2.out.below hb1)
  have X5 := hid (X3.out.below hb1)
  have O5 : Hid (Op lo w1 mb n (fun k => Z k 0) Bs Z) := O4.out.below hb1
  clear B1 M2 X3 O4
  clear hb1
  have hta := gate_is117
  go_wp2_with fail
  refine (answered4 x _).mono ?_
  rintro e w2 ⟨rfl, hb2⟩
  have B6 := hid (bthen B5.out hb2)
  have M6 := hid (M5.out.below hb2)
  have X6 := hid (X5.out.below hb2)
  have O6 : Hid (Op lo w2 mb n (fun k => Z k 0) Bs Z) := O5.out.below hb2
  clear B5 M5 X5 O5
  clear hb2
  go_wp2_with fail
  refine (asking_eq lo mb n i (fun k => Z k 0) Bs Z x hwf hi hz hr he _ O6.out).mono ?_
  rintro e w3 ⟨rfl, hb3⟩
  have B7 := hid (bthen B6.out hb3)
  have M7 := hid (M6.out.below hb3)
  have X7 := hid (X6.out.below hb3)
  have O7 : Hid (Op lo w3 mb n (fun k => Z k 0) Bs Z) := O6.out.below hb3
  clear B6 M6 X6 O6
  clear hb3
  have lo3 : lo ≤ w3.heap.size := by have := B7.out.size; omega
  obtain ⟨yM0, yM1⟩ := M7.out.a2
  have hlM : w.heap.size < w3.heap.size := M7.out.1
  obtain ⟨yX0, yX1, yX2, yX3, yX4, yX5, yX6, yX7, yX8, yX9, yX10, yX11, yX12, yX13, yX14, yX15, yX16, yX17, yX18, yX19, yX20, yX21, yX22, yX23, yX24⟩ := X7.out.a25
  have hlX : (w.heap.size + 1) < w3.heap.size := X7.out.1
  go_wp2_with fail
  refine (heard4 lo mb n i (fun k => Z k 0) Bs Z x c d (x 2) hi h2 h4 _ lo3 O7.out).mono ?_
  rintro e w4 ⟨rfl, hO4, hb4, hz4⟩
  clear yM0 yM1 hlM yX0 yX1 yX2 yX3 yX4 yX5 yX6 yX7 yX8 yX9 yX10 yX11 yX12 yX13 yX14 yX15 yX16 yX17 yX18 yX19 yX20 yX21 yX22 yX23 yX24 hlX
  have O4 := hO4
  clear hO4
  have B4 : Hid (Below lo w w4) := (B7.out.mono hlo).trans hb4
  have z4 : Hid (w.heap.size ≤ w4.heap.size) := Nat.le_trans B7.out.size hz4
  clear hb4 hz4
  have HO4 : Hid (Op lo w4 mb n (fun k => Z k 0) Bs (awayZ c Z i (x 2))) := O4
  clear O4
  go_wp2
  go_ret
  exact ⟨rfl, HO4.out, B4.out, z4.out⟩
end Go.Proofs.YtgjapdjidighlabGreat
