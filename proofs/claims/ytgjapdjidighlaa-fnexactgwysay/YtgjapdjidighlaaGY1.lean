/- Messages: 25 cells read and written; what is sent; conditions: those typed. -/
import Derived.Test.YtgjapdjidighlaaBase
import Derived.Test.YtgjapdjidighlaaOrd1
import Derived.Deep.MidRow
namespace Go.Proofs.Ytgjapdjidighlaa
open Go.RowKit Go.Deep
set_option linter.unusedVariables false

theorem Bk.range {W : World} {b : Nat} {l : List Value} (h : Bk W b l) : W.rangeAt b 0 l := by
  intro j v hv
  obtain ⟨hj, rfl⟩ := List.getElem?_eq_some_iff.1 hv
  rw [Nat.zero_add]
  have g := (h.2 j hj).1
  rw [g, List.getD_eq_getElem?_getD, hv]; rfl

theorem some_getD {o : Option Value} (h : o.isSome = true) : o = some (o.getD undef) := by cases o with | none => cases h | some v => rfl
def load62 (v : Value) : Sem Value := Instr.loadAt 62 v
theorem load62_eq (v : Value) : Instr.loadAt 62 v = load62 v := rfl
def cellD (w : World) (b i : Nat) : Value := (w.cell? ⟨b, i, none⟩).getD undef
theorem run_load62 (b : Nat) (w : World) (h : (w.cell? ⟨b, 0, none⟩).isSome = true ∧ (w.cell? ⟨b, 1, none⟩).isSome = true ∧ (w.cell? ⟨b, 2, none⟩).isSome = true ∧ (w.cell? ⟨b, 3, none⟩).isSome = true ∧ (w.cell? ⟨b, 4, none⟩).isSome = true ∧ (w.cell? ⟨b, 5, none⟩).isSome = true ∧ (w.cell? ⟨b, 6, none⟩).isSome = true ∧ (w.cell? ⟨b, 7, none⟩).isSome = true ∧ (w.cell? ⟨b, 8, none⟩).isSome = true ∧ (w.cell? ⟨b, 9, none⟩).isSome = true ∧ (w.cell? ⟨b, 10, none⟩).isSome = true ∧ (w.cell? ⟨b, 11, none⟩).isSome = true ∧ (w.cell? ⟨b, 12, none⟩).isSome = true ∧ (w.cell? ⟨b, 13, none⟩).isSome = true ∧ (w.cell? ⟨b, 14, none⟩).isSome = true ∧ (w.cell? ⟨b, 15, none⟩).isSome = true ∧ (w.cell? ⟨b, 16, none⟩).isSome = true ∧ (w.cell? ⟨b, 17, none⟩).isSome = true ∧ (w.cell? ⟨b, 18, none⟩).isSome = true ∧ (w.cell? ⟨b, 19, none⟩).isSome = true ∧ (w.cell? ⟨b, 20, none⟩).isSome = true ∧ (w.cell? ⟨b, 21, none⟩).isSome = true ∧ (w.cell? ⟨b, 22, none⟩).isSome = true ∧ (w.cell? ⟨b, 23, none⟩).isSome = true ∧ (w.cell? ⟨b, 24, none⟩).isSome = true) :
    (load62 (.pointer (some ⟨b, 0, none⟩))).run Try.prog w = .ok (.agg #[cellD w b 0, cellD w b 1, cellD w b 2, cellD w b 3, cellD w b 4, cellD w b 5, cellD w b 6, cellD w b 7, cellD w b 8, cellD w b 9, cellD w b 10, cellD w b 11, cellD w b 12, cellD w b 13, cellD w b 14, cellD w b 15, cellD w b 16, cellD w b 17, cellD w b 18, cellD w b 19, cellD w b 20, cellD w b 21, cellD w b 22, cellD w b 23, cellD w b 24]) w := by
  refine run_loadAt_mid w b 0 62 [cellD w b 0, cellD w b 1, cellD w b 2, cellD w b 3, cellD w b 4, cellD w b 5, cellD w b 6, cellD w b 7, cellD w b 8, cellD w b 9, cellD w b 10, cellD w b 11, cellD w b 12, cellD w b 13, cellD w b 14, cellD w b 15, cellD w b 16, cellD w b 17, cellD w b 18, cellD w b 19, cellD w b 20, cellD w b 21, cellD w b 22, cellD w b 23, cellD w b 24] _ ?_ Try.underlying62 rfl (by kernel_rfl)
  obtain ⟨h0, h1, h2, h3, h4, h5, h6, h7, h8, h9, h10, h11, h12, h13, h14, h15, h16, h17, h18, h19, h20, h21, h22, h23, h24⟩ := h
  intro j v hv
  rw [Nat.zero_add]
  match j, hv with
  | 0, hv => cases hv; exact some_getD h0
  | 1, hv => cases hv; exact some_getD h1
  | 2, hv => cases hv; exact some_getD h2
  | 3, hv => cases hv; exact some_getD h3
  | 4, hv => cases hv; exact some_getD h4
  | 5, hv => cases hv; exact some_getD h5
  | 6, hv => cases hv; exact some_getD h6
  | 7, hv => cases hv; exact some_getD h7
  | 8, hv => cases hv; exact some_getD h8
  | 9, hv => cases hv; exact some_getD h9
  | 10, hv => cases hv; exact some_getD h10
  | 11, hv => cases hv; exact some_getD h11
  | 12, hv => cases hv; exact some_getD h12
  | 13, hv => cases hv; exact some_getD h13
  | 14, hv => cases hv; exact some_getD h14
  | 15, hv => cases hv; exact some_getD h15
  | 16, hv => cases hv; exact some_getD h16
  | 17, hv => cases hv; exact some_getD h17
  | 18, hv => cases hv; exact some_getD h18
  | 19, hv => cases hv; exact some_getD h19
  | 20, hv => cases hv; exact some_getD h20
  | 21, hv => cases hv; exact some_getD h21
  | 22, hv => cases hv; exact some_getD h22
  | 23, hv => cases hv; exact some_getD h23
  | 24, hv => cases hv; exact some_getD h24
  | j + 25, hv => simp at hv

theorem put_cells (b : Nat) : ∀ (l : List Value) (k : Nat) (W : World), W.setCells b k l = putL b l k W
  | [], _, _ => rfl
  | v :: l, k, W => by rw [World.setCells, putL, put_cells b l]
def store62 (p v : Value) : Sem Unit := Instr.storeAt 62 p v
theorem store62_eq (p v : Value) : Instr.storeAt 62 p v = store62 p v := rfl
theorem run_store62 (b : Nat) (w : World) (z0 z1 z2 z3 z4 z5 z6 z7 z8 z9 z10 z11 z12 z13 z14 z15 z16 z17 z18 z19 z20 z21 z22 z23 z24 : Int) (h : (w.cell? ⟨b, 0, none⟩).isSome = true ∧ w.frozen? ⟨b, 0, none⟩ = false ∧ (w.cell? ⟨b, 1, none⟩).isSome = true ∧ w.frozen? ⟨b, 1, none⟩ = false ∧ (w.cell? ⟨b, 2, none⟩).isSome = true ∧ w.frozen? ⟨b, 2, none⟩ = false ∧ (w.cell? ⟨b, 3, none⟩).isSome = true ∧ w.frozen? ⟨b, 3, none⟩ = false ∧ (w.cell? ⟨b, 4, none⟩).isSome = true ∧ w.frozen? ⟨b, 4, none⟩ = false ∧ (w.cell? ⟨b, 5, none⟩).isSome = true ∧ w.frozen? ⟨b, 5, none⟩ = false ∧ (w.cell? ⟨b, 6, none⟩).isSome = true ∧ w.frozen? ⟨b, 6, none⟩ = false ∧ (w.cell? ⟨b, 7, none⟩).isSome = true ∧ w.frozen? ⟨b, 7, none⟩ = false ∧ (w.cell? ⟨b, 8, none⟩).isSome = true ∧ w.frozen? ⟨b, 8, none⟩ = false ∧ (w.cell? ⟨b, 9, none⟩).isSome = true ∧ w.frozen? ⟨b, 9, none⟩ = false ∧ (w.cell? ⟨b, 10, none⟩).isSome = true ∧ w.frozen? ⟨b, 10, none⟩ = false ∧ (w.cell? ⟨b, 11, none⟩).isSome = true ∧ w.frozen? ⟨b, 11, none⟩ = false ∧ (w.cell? ⟨b, 12, none⟩).isSome = true ∧ w.frozen? ⟨b, 12, none⟩ = false ∧ (w.cell? ⟨b, 13, none⟩).isSome = true ∧ w.frozen? ⟨b, 13, none⟩ = false ∧ (w.cell? ⟨b, 14, none⟩).isSome = true ∧ w.frozen? ⟨b, 14, none⟩ = false ∧ (w.cell? ⟨b, 15, none⟩).isSome = true ∧ w.frozen? ⟨b, 15, none⟩ = false ∧ (w.cell? ⟨b, 16, none⟩).isSome = true ∧ w.frozen? ⟨b, 16, none⟩ = false ∧ (w.cell? ⟨b, 17, none⟩).isSome = true ∧ w.frozen? ⟨b, 17, none⟩ = false ∧ (w.cell? ⟨b, 18, none⟩).isSome = true ∧ w.frozen? ⟨b, 18, none⟩ = false ∧ (w.cell? ⟨b, 19, none⟩).isSome = true ∧ w.frozen? ⟨b, 19, none⟩ = false ∧ (w.cell? ⟨b, 20, none⟩).isSome = true ∧ w.frozen? ⟨b, 20, none⟩ = false ∧ (w.cell? ⟨b, 21, none⟩).isSome = true ∧ w.frozen? ⟨b, 21, none⟩ = false ∧ (w.cell? ⟨b, 22, none⟩).isSome = true ∧ w.frozen? ⟨b, 22, none⟩ = false ∧ (w.cell? ⟨b, 23, none⟩).isSome = true ∧ w.frozen? ⟨b, 23, none⟩ = false ∧ (w.cell? ⟨b, 24, none⟩).isSome = true ∧ w.frozen? ⟨b, 24, none⟩ = false) :
    (store62 (.pointer (some ⟨b, 0, none⟩)) (.agg #[.int .i64 z0, .int .i64 z1, .int .i64 z2, .int .i64 z3, .int .i64 z4, .int .i64 z5, .int .i64 z6, .int .i64 z7, .int .i64 z8, .int .i64 z9, .int .i64 z10, .int .i64 z11, .int .i64 z12, .int .i64 z13, .int .i64 z14, .int .i64 z15, .int .i64 z16, .int .i64 z17, .int .i64 z18, .int .i64 z19, .int .i64 z20, .int .i64 z21, .int .i64 z22, .int .i64 z23, .int .i64 z24])).run Try.prog w = .ok () (putL b [.int .i64 z0, .int .i64 z1, .int .i64 z2, .int .i64 z3, .int .i64 z4, .int .i64 z5, .int .i64 z6, .int .i64 z7, .int .i64 z8, .int .i64 z9, .int .i64 z10, .int .i64 z11, .int .i64 z12, .int .i64 z13, .int .i64 z14, .int .i64 z15, .int .i64 z16, .int .i64 z17, .int .i64 z18, .int .i64 z19, .int .i64 z20, .int .i64 z21, .int .i64 z22, .int .i64 z23, .int .i64 z24] 0 w) := by
  rw [← put_cells]
  obtain ⟨h0, g0, h1, g1, h2, g2, h3, g3, h4, g4, h5, g5, h6, g6, h7, g7, h8, g8, h9, g9, h10, g10, h11, g11, h12, g12, h13, g13, h14, g14, h15, g15, h16, g16, h17, g17, h18, g18, h19, g19, h20, g20, h21, g21, h22, g22, h23, g23, h24, g24⟩ := h
  refine run_storeAt_mid w b 0 62 #[.int .i64 z0, .int .i64 z1, .int .i64 z2, .int .i64 z3, .int .i64 z4, .int .i64 z5, .int .i64 z6, .int .i64 z7, .int .i64 z8, .int .i64 z9, .int .i64 z10, .int .i64 z11, .int .i64 z12, .int .i64 z13, .int .i64 z14, .int .i64 z15, .int .i64 z16, .int .i64 z17, .int .i64 z18, .int .i64 z19, .int .i64 z20, .int .i64 z21, .int .i64 z22, .int .i64 z23, .int .i64 z24] ?_ (by kernel_rfl) (by kernel_rfl)
  intro j hj
  rw [Nat.zero_add]
  match j, hj with
  | 0, _ => exact ⟨h0, g0⟩
  | 1, _ => exact ⟨h1, g1⟩
  | 2, _ => exact ⟨h2, g2⟩
  | 3, _ => exact ⟨h3, g3⟩
  | 4, _ => exact ⟨h4, g4⟩
  | 5, _ => exact ⟨h5, g5⟩
  | 6, _ => exact ⟨h6, g6⟩
  | 7, _ => exact ⟨h7, g7⟩
  | 8, _ => exact ⟨h8, g8⟩
  | 9, _ => exact ⟨h9, g9⟩
  | 10, _ => exact ⟨h10, g10⟩
  | 11, _ => exact ⟨h11, g11⟩
  | 12, _ => exact ⟨h12, g12⟩
  | 13, _ => exact ⟨h13, g13⟩
  | 14, _ => exact ⟨h14, g14⟩
  | 15, _ => exact ⟨h15, g15⟩
  | 16, _ => exact ⟨h16, g16⟩
  | 17, _ => exact ⟨h17, g17⟩
  | 18, _ => exact ⟨h18, g18⟩
  | 19, _ => exact ⟨h19, g19⟩
  | 20, _ => exact ⟨h20, g20⟩
  | 21, _ => exact ⟨h21, g21⟩
  | 22, _ => exact ⟨h22, g22⟩
  | 23, _ => exact ⟨h23, g23⟩
  | 24, _ => exact ⟨h24, g24⟩
  | j + 25, hj => exact absurd hj (by simp)
theorem results_mid {P : Program} {fn : Func} {p : Tmp} {ty : TypeId} (h : fn.results = #[.cell p ty]) (tmps : Array Value) (w : World) (b : Nat) (cs : List Value) (d : TypeDesc)
    (hp : tmps.getD p undef = .pointer (some ⟨b, 0, none⟩)) (hc : w.rangeAt b 0 cs) (hu : P.underlying ty = some d) (hd : d.isRow = true) (hi : (P.info? ty).map (·.size) = some cs.length) :
    (results fn tmps).run P w = .ok (.agg cs.toArray) w := by
  have hp' : tmps[p]?.getD undef = .pointer (some ⟨b, 0, none⟩) := by simpa using hp
  simp [results, h, hp', asAddr, run_loadVar_mid w b 0 ty cs d hc hu hd hi]
section
attribute [local go_sem ↓] load62_eq store62_eq
attribute [local go_sem] run_load62 run_store62 cellD
set_option maxRecDepth 100000 in
set_option maxHeartbeats 1000000 in
theorem message2 (x : Nat → Int) (w : World) : Calls Try.prog 123 #[.agg #[.int .i64 (x 5), .int .i64 (x 6), .int .i64 (x 7), .int .i64 (x 8), .int .i64 (x 9)]] w fun e w' => e = .returned (.agg #[.int .i64 2, .int .i64 0, .int .i64 0, .int .i64 0, .int .i64 0, .int .i64 (x 5), .int .i64 (x 6), .int .i64 (x 7), .int .i64 (x 8), .int .i64 (x 9), .int .i64 0, .int .i64 0, .int .i64 0, .int .i64 0, .int .i64 0, .int .i64 0, .int .i64 0, .int .i64 0, .int .i64 0, .int .i64 0, .int .i64 0, .int .i64 0, .int .i64 0, .int .i64 0, .int .i64 0]) ∧ Below w.heap.size w w' := by
  go_enter Try.func123, Try.ntmps123
  go_wp2
  obtain ⟨w0, e0⟩ : ∃ w0, w0 = (w.alloc (.cells #[.int .i64 (x 5), .int .i64 (x 6), .int .i64 (x 7), .int .i64 (x 8), .int .i64 (x 9)] 97)).alloc (.cells #[.int .i64 0, .int .i64 0, .int .i64 0, .int .i64 0, .int .i64 0, .int .i64 0, .int .i64 0, .int .i64 0, .int .i64 0, .int .i64 0, .int .i64 0, .int .i64 0, .int .i64 0, .int .i64 0, .int .i64 0, .int .i64 0, .int .i64 0, .int .i64 0, .int .i64 0, .int .i64 0, .int .i64 0, .int .i64 0, .int .i64 0, .int .i64 0, .int .i64 0] 62) := ⟨_, rfl⟩
  have hB : Hid (Below w.heap.size w w0) := by rw [e0]; exact ((Below.refl _ _).alloc (by simp) _).alloc (by simp) _
  have hK : Hid (Bk w0 (w.heap.size + 1) [.int .i64 0, .int .i64 0, .int .i64 0, .int .i64 0, .int .i64 0, .int .i64 0, .int .i64 0, .int .i64 0, .int .i64 0, .int .i64 0, .int .i64 0, .int .i64 0, .int .i64 0, .int .i64 0, .int .i64 0, .int .i64 0, .int .i64 0, .int .i64 0, .int .i64 0, .int .i64 0, .int .i64 0, .int .i64 0, .int .i64 0, .int .i64 0, .int .i64 0]) := by rw [e0]; have := bk_new (w.alloc (.cells #[.int .i64 (x 5), .int .i64 (x 6), .int .i64 (x 7), .int .i64 (x 8), .int .i64 (x 9)] 97)) 62 [.int .i64 0, .int .i64 0, .int .i64 0, .int .i64 0, .int .i64 0, .int .i64 0, .int .i64 0, .int .i64 0, .int .i64 0, .int .i64 0, .int .i64 0, .int .i64 0, .int .i64 0, .int .i64 0, .int .i64 0, .int .i64 0, .int .i64 0, .int .i64 0, .int .i64 0, .int .i64 0, .int .i64 0, .int .i64 0, .int .i64 0, .int .i64 0, .int .i64 0]; rwa [show (w.alloc (.cells #[.int .i64 (x 5), .int .i64 (x 6), .int .i64 (x 7), .int .i64 (x 8), .int .i64 (x 9)] 97)).heap.size = w.heap.size + 1 by simp] at this
  rw [← e0]
  clear e0
  obtain ⟨w1, e1⟩ : ∃ w1, w1 = putL (w.heap.size + 1) [.int .i64 2, .int .i64 0, .int .i64 0, .int .i64 0, .int .i64 0, .int .i64 (x 5), .int .i64 (x 6), .int .i64 (x 7), .int .i64 (x 8), .int .i64 (x 9), .int .i64 0, .int .i64 0, .int .i64 0, .int .i64 0, .int .i64 0, .int .i64 0, .int .i64 0, .int .i64 0, .int .i64 0, .int .i64 0, .int .i64 0, .int .i64 0, .int .i64 0, .int .i64 0, .int .i64 0] 0 w0 := ⟨_, rfl⟩
  have hB1 : Hid (Below w.heap.size w w1) := by rw [e1]; exact below_put (by omega) _ _ hB.out
  have hK1 : Hid (Bk w1 (w.heap.size + 1) [.int .i64 2, .int .i64 0, .int .i64 0, .int .i64 0, .int .i64 0, .int .i64 (x 5), .int .i64 (x 6), .int .i64 (x 7), .int .i64 (x 8), .int .i64 (x 9), .int .i64 0, .int .i64 0, .int .i64 0, .int .i64 0, .int .i64 0, .int .i64 0, .int .i64 0, .int .i64 0, .int .i64 0, .int .i64 0, .int .i64 0, .int .i64 0, .int .i64 0, .int .i64 0, .int .i64 0]) := by rw [e1]; exact bk_put hK.out rfl
  rw [← e1]
  clear e1
  have hr := fun tmps hp => results_mid (P := Try.prog) (fn := Try.f123) Try.results123 tmps w1 (w.heap.size + 1) [.int .i64 2, .int .i64 0, .int .i64 0, .int .i64 0, .int .i64 0, .int .i64 (x 5), .int .i64 (x 6), .int .i64 (x 7), .int .i64 (x 8), .int .i64 (x 9), .int .i64 0, .int .i64 0, .int .i64 0, .int .i64 0, .int .i64 0, .int .i64 0, .int .i64 0, .int .i64 0, .int .i64 0, .int .i64 0, .int .i64 0, .int .i64 0, .int .i64 0, .int .i64 0, .int .i64 0] _ hp (Bk.range hK1.out) Try.underlying62 rfl (by kernel_rfl)
  exact bodyPost_ret (v := .agg #[.int .i64 2, .int .i64 0, .int .i64 0, .int .i64 0, .int .i64 0, .int .i64 (x 5), .int .i64 (x 6), .int .i64 (x 7), .int .i64 (x 8), .int .i64 (x 9), .int .i64 0, .int .i64 0, .int .i64 0, .int .i64 0, .int .i64 0, .int .i64 0, .int .i64 0, .int .i64 0, .int .i64 0, .int .i64 0, .int .i64 0, .int .i64 0, .int .i64 0, .int .i64 0, .int .i64 0]) (hr _ rfl) rfl ⟨rfl, hB1.out⟩

end
theorem load62_bk {w : World} {b : Nat} {l : List Value} (h : Bk w b l) (hl : l.length = 25) : (load62 (.pointer (some ⟨b, 0, none⟩))).run Try.prog w = .ok (.agg l.toArray) w :=
  run_loadAt_mid w b 0 62 l _ (Bk.range h) Try.underlying62 rfl (by rw [hl]; kernel_rfl)
theorem store62_bk {w : World} {b : Nat} {l' : List Value} (h : Bk w b l') (hl : l'.length = 25) (cells : Array Value) (hs : cells.size = 25) (h1 : cells.all (·.oneCell') = true) :
    (store62 (.pointer (some ⟨b, 0, none⟩)) (.agg cells)).run Try.prog w = .ok () (putL b cells.toList 0 w) := by
  rw [← put_cells]
  refine run_storeAt_mid w b 0 62 cells (fun j hj => ?_) (by rw [hs]; kernel_rfl) h1
  rw [Nat.zero_add]
  have g := h.2 j (by omega)
  exact ⟨by rw [g.1]; rfl, g.2⟩

section
attribute [local go_sem ↓] store62_eq load62_eq
set_option maxRecDepth 100000 in
set_option maxHeartbeats 1000000 in
theorem sent_gen (k to ce : Int) (m : Nat → Int) (t : TypeId) (V : Value) (fm : Nat)
    (hm : ∀ (w : World), (method 287 t V "loop.example/landmarch/impl.message").run Try.prog w = .ok (fm, V) w)
    (hcf : ∀ (a : Array Value) (w : World), (callFunc fm a).run Try.prog w = .ok (.enter fm a) w)
    (hmsg : ∀ w : World, Calls Try.prog fm #[V] w fun e w' => e = .returned (.agg #[.int .i64 k, .int .i64 0, .int .i64 0, .int .i64 (m 3), .int .i64 (m 4), .int .i64 (m 5), .int .i64 (m 6), .int .i64 (m 7), .int .i64 (m 8), .int .i64 (m 9), .int .i64 (m 10), .int .i64 (m 11), .int .i64 (m 12), .int .i64 (m 13), .int .i64 (m 14), .int .i64 (m 15), .int .i64 (m 16), .int .i64 (m 17), .int .i64 (m 18), .int .i64 (m 19), .int .i64 (m 20), .int .i64 (m 21), .int .i64 (m 22), .int .i64 (m 23), .int .i64 (m 24)]) ∧ Below w.heap.size w w') (w : World) :
    Calls Try.prog 56 #[.int .i64 to, .int .i64 ce, .iface t V] w fun e w' => e = .returned (.agg #[.int .i64 k, .int .i64 to, .int .i64 ce, .int .i64 (m 3), .int .i64 (m 4), .int .i64 (m 5), .int .i64 (m 6), .int .i64 (m 7), .int .i64 (m 8), .int .i64 (m 9), .int .i64 (m 10), .int .i64 (m 11), .int .i64 (m 12), .int .i64 (m 13), .int .i64 (m 14), .int .i64 (m 15), .int .i64 (m 16), .int .i64 (m 17), .int .i64 (m 18), .int .i64 (m 19), .int .i64 (m 20), .int .i64 (m 21), .int .i64 (m 22), .int .i64 (m 23), .int .i64 (m 24)]) ∧ Below w.heap.size w w' := by
  go_enter Try.func56, Try.ntmps56
  go_wp2_with fail
  obtain ⟨w0, e0⟩ : ∃ w0, w0 = w.alloc (.cells #[.int .i64 0, .int .i64 0, .int .i64 0, .int .i64 0, .int .i64 0, .int .i64 0, .int .i64 0, .int .i64 0, .int .i64 0, .int .i64 0, .int .i64 0, .int .i64 0, .int .i64 0, .int .i64 0, .int .i64 0, .int .i64 0, .int .i64 0, .int .i64 0, .int .i64 0, .int .i64 0, .int .i64 0, .int .i64 0, .int .i64 0, .int .i64 0, .int .i64 0] 62) := ⟨_, rfl⟩
  have hB0 : Hid (Below w.heap.size w w0) := by rw [e0]; exact (Below.refl _ _).alloc (by simp) _
  have hR0 : Hid (Bk w0 w.heap.size [.int .i64 0, .int .i64 0, .int .i64 0, .int .i64 0, .int .i64 0, .int .i64 0, .int .i64 0, .int .i64 0, .int .i64 0, .int .i64 0, .int .i64 0, .int .i64 0, .int .i64 0, .int .i64 0, .int .i64 0, .int .i64 0, .int .i64 0, .int .i64 0, .int .i64 0, .int .i64 0, .int .i64 0, .int .i64 0, .int .i64 0, .int .i64 0, .int .i64 0]) := by rw [e0]; exact bk_new w 62 [.int .i64 0, .int .i64 0, .int .i64 0, .int .i64 0, .int .i64 0, .int .i64 0, .int .i64 0, .int .i64 0, .int .i64 0, .int .i64 0, .int .i64 0, .int .i64 0, .int .i64 0, .int .i64 0, .int .i64 0, .int .i64 0, .int .i64 0, .int .i64 0, .int .i64 0, .int .i64 0, .int .i64 0, .int .i64 0, .int .i64 0, .int .i64 0, .int .i64 0]
  rw [← e0]
  clear e0
  refine (hmsg _).mono ?_
  rintro e w1 ⟨rfl, hb1⟩
  have hB1 : Hid (Below w.heap.size w w1) := bthen hB0.out hb1
  have hR1 : Hid (Bk w1 w.heap.size [.int .i64 0, .int .i64 0, .int .i64 0, .int .i64 0, .int .i64 0, .int .i64 0, .int .i64 0, .int .i64 0, .int .i64 0, .int .i64 0, .int .i64 0, .int .i64 0, .int .i64 0, .int .i64 0, .int .i64 0, .int .i64 0, .int .i64 0, .int .i64 0, .int .i64 0, .int .i64 0, .int .i64 0, .int .i64 0, .int .i64 0, .int .i64 0, .int .i64 0]) := hR0.out.below hb1
  clear hB0 hR0 hb1
  go_wp2
  obtain ⟨w2, e2⟩ : ∃ w2, w2 = w1.alloc (.cells #[.int .i64 0, .int .i64 0, .int .i64 0, .int .i64 0, .int .i64 0, .int .i64 0, .int .i64 0, .int .i64 0, .int .i64 0, .int .i64 0, .int .i64 0, .int .i64 0, .int .i64 0, .int .i64 0, .int .i64 0, .int .i64 0, .int .i64 0, .int .i64 0, .int .i64 0, .int .i64 0, .int .i64 0, .int .i64 0, .int .i64 0, .int .i64 0, .int .i64 0] 62) := ⟨_, rfl⟩
  have hb2 : Below w1.heap.size w1 w2 := by rw [e2]; exact (Below.refl _ _).alloc (Nat.le_refl _) _
  have hX2 : Hid (Bk w2 w1.heap.size [.int .i64 0, .int .i64 0, .int .i64 0, .int .i64 0, .int .i64 0, .int .i64 0, .int .i64 0, .int .i64 0, .int .i64 0, .int .i64 0, .int .i64 0, .int .i64 0, .int .i64 0, .int .i64 0, .int .i64 0, .int .i64 0, .int .i64 0, .int .i64 0, .int .i64 0, .int .i64 0, .int .i64 0, .int .i64 0, .int .i64 0, .int .i64 0, .int .i64 0]) := by rw [e2]; exact bk_new w1 62 [.int .i64 0, .int .i64 0, .int .i64 0, .int .i64 0, .int .i64 0, .int .i64 0, .int .i64 0, .int .i64 0, .int .i64 0, .int .i64 0, .int .i64 0, .int .i64 0, .int .i64 0, .int .i64 0, .int .i64 0, .int .i64 0, .int .i64 0, .int .i64 0, .int .i64 0, .int .i64 0, .int .i64 0, .int .i64 0, .int .i64 0, .int .i64 0, .int .i64 0]
  have hB2 : Hid (Below w.heap.size w w2) := bthen hB1.out hb2
  have hR2 : Hid (Bk w2 w.heap.size [.int .i64 0, .int .i64 0, .int .i64 0, .int .i64 0, .int .i64 0, .int .i64 0, .int .i64 0, .int .i64 0, .int .i64 0, .int .i64 0, .int .i64 0, .int .i64 0, .int .i64 0, .int .i64 0, .int .i64 0, .int .i64 0, .int .i64 0, .int .i64 0, .int .i64 0, .int .i64 0, .int .i64 0, .int .i64 0, .int .i64 0, .int .i64 0, .int .i64 0]) := hR1.out.below hb2
  have hlt : w.heap.size < w1.heap.size := hR1.out.1
  rw [← e2, store62_bk hX2.out rfl _ rfl (by kernel_rfl)]
  clear e2 hb2 hB1 hR1
  obtain ⟨w3, e3⟩ : ∃ w3, w3 = putL w1.heap.size (#[.int .i64 k, .int .i64 0, .int .i64 0, .int .i64 (m 3), .int .i64 (m 4), .int .i64 (m 5), .int .i64 (m 6), .int .i64 (m 7), .int .i64 (m 8), .int .i64 (m 9), .int .i64 (m 10), .int .i64 (m 11), .int .i64 (m 12), .int .i64 (m 13), .int .i64 (m 14), .int .i64 (m 15), .int .i64 (m 16), .int .i64 (m 17), .int .i64 (m 18), .int .i64 (m 19), .int .i64 (m 20), .int .i64 (m 21), .int .i64 (m 22), .int .i64 (m 23), .int .i64 (m 24)] : Array Value).toList 0 w2 := ⟨_, rfl⟩
  have hX3 : Hid (Bk w3 w1.heap.size [.int .i64 k, .int .i64 0, .int .i64 0, .int .i64 (m 3), .int .i64 (m 4), .int .i64 (m 5), .int .i64 (m 6), .int .i64 (m 7), .int .i64 (m 8), .int .i64 (m 9), .int .i64 (m 10), .int .i64 (m 11), .int .i64 (m 12), .int .i64 (m 13), .int .i64 (m 14), .int .i64 (m 15), .int .i64 (m 16), .int .i64 (m 17), .int .i64 (m 18), .int .i64 (m 19), .int .i64 (m 20), .int .i64 (m 21), .int .i64 (m 22), .int .i64 (m 23), .int .i64 (m 24)]) := by rw [e3]; exact bk_put hX2.out rfl
  have hB3 : Hid (Below w.heap.size w w3) := by rw [e3]; exact below_put (by omega) _ _ hB2.out
  have hR3 : Hid (Bk w3 w.heap.size [.int .i64 0, .int .i64 0, .int .i64 0, .int .i64 0, .int .i64 0, .int .i64 0, .int .i64 0, .int .i64 0, .int .i64 0, .int .i64 0, .int .i64 0, .int .i64 0, .int .i64 0, .int .i64 0, .int .i64 0, .int .i64 0, .int .i64 0, .int .i64 0, .int .i64 0, .int .i64 0, .int .i64 0, .int .i64 0, .int .i64 0, .int .i64 0, .int .i64 0]) := by rw [e3]; exact hR2.out.sm (by rw [size_put]; exact Nat.le_refl _) (sm_put (by omega) _ _ _)
  have y0 : w3.cell? ⟨w1.heap.size, 1, none⟩ = some (.int .i64 0) := (hX3.out.2 1 (by simp)).1
  have y1 : w3.frozen? ⟨w1.heap.size, 1, none⟩ = false := (hX3.out.2 1 (by simp)).2
  have y2 : w3.cell? ⟨w1.heap.size, 2, none⟩ = some (.int .i64 0) := (hX3.out.2 2 (by simp)).1
  have y3 : w3.frozen? ⟨w1.heap.size, 2, none⟩ = false := (hX3.out.2 2 (by simp)).2
  rw [← e3]
  clear e3 hX2 hB2 hR2
  go_wp2
  clear y0 y1 y2 y3
  obtain ⟨w4, e4⟩ : ∃ w4, w4 = (w3.setCell ⟨w1.heap.size, 1, none⟩ (.int .i64 to)).setCell ⟨w1.heap.size, 2, none⟩ (.int .i64 ce) := ⟨_, rfl⟩
  have hX4 : Hid (Bk w4 w1.heap.size [.int .i64 k, .int .i64 to, .int .i64 ce, .int .i64 (m 3), .int .i64 (m 4), .int .i64 (m 5), .int .i64 (m 6), .int .i64 (m 7), .int .i64 (m 8), .int .i64 (m 9), .int .i64 (m 10), .int .i64 (m 11), .int .i64 (m 12), .int .i64 (m 13), .int .i64 (m 14), .int .i64 (m 15), .int .i64 (m 16), .int .i64 (m 17), .int .i64 (m 18), .int .i64 (m 19), .int .i64 (m 20), .int .i64 (m 21), .int .i64 (m 22), .int .i64 (m 23), .int .i64 (m 24)]) := by rw [e4]; exact (hX3.out.set (j := 1) (by simp)).set (j := 2) (by simp)
  have hB4 : Hid (Below w.heap.size w w4) := by rw [e4]; exact (hB3.out.setCell (by show w.heap.size ≤ w1.heap.size; omega) _).setCell (by show w.heap.size ≤ w1.heap.size; omega) _
  have hR4 : Hid (Bk w4 w.heap.size [.int .i64 0, .int .i64 0, .int .i64 0, .int .i64 0, .int .i64 0, .int .i64 0, .int .i64 0, .int .i64 0, .int .i64 0, .int .i64 0, .int .i64 0, .int .i64 0, .int .i64 0, .int .i64 0, .int .i64 0, .int .i64 0, .int .i64 0, .int .i64 0, .int .i64 0, .int .i64 0, .int .i64 0, .int .i64 0, .int .i64 0, .int .i64 0, .int .i64 0]) := by rw [e4]; exact (hR3.out.far (by omega)).far (by omega)
  rw [← e4, load62_bk hX4.out rfl]
  clear e4 hX3 hB3 hR3
  go_wp2
  rw [store62_bk hR4.out rfl _ rfl (by kernel_rfl)]
  obtain ⟨w5, e5⟩ : ∃ w5, w5 = putL w.heap.size (#[.int .i64 k, .int .i64 to, .int .i64 ce, .int .i64 (m 3), .int .i64 (m 4), .int .i64 (m 5), .int .i64 (m 6), .int .i64 (m 7), .int .i64 (m 8), .int .i64 (m 9), .int .i64 (m 10), .int .i64 (m 11), .int .i64 (m 12), .int .i64 (m 13), .int .i64 (m 14), .int .i64 (m 15), .int .i64 (m 16), .int .i64 (m 17), .int .i64 (m 18), .int .i64 (m 19), .int .i64 (m 20), .int .i64 (m 21), .int .i64 (m 22), .int .i64 (m 23), .int .i64 (m 24)] : Array Value).toList 0 w4 := ⟨_, rfl⟩
  have hR5 : Hid (Bk w5 w.heap.size [.int .i64 k, .int .i64 to, .int .i64 ce, .int .i64 (m 3), .int .i64 (m 4), .int .i64 (m 5), .int .i64 (m 6), .int .i64 (m 7), .int .i64 (m 8), .int .i64 (m 9), .int .i64 (m 10), .int .i64 (m 11), .int .i64 (m 12), .int .i64 (m 13), .int .i64 (m 14), .int .i64 (m 15), .int .i64 (m 16), .int .i64 (m 17), .int .i64 (m 18), .int .i64 (m 19), .int .i64 (m 20), .int .i64 (m 21), .int .i64 (m 22), .int .i64 (m 23), .int .i64 (m 24)]) := by rw [e5]; exact bk_put hR4.out rfl
  have hB5 : Hid (Below w.heap.size w w5) := by rw [e5]; exact below_put (Nat.le_refl _) _ _ hB4.out
  rw [← e5]
  clear e5 hX4 hB4 hR4
  go_wp2
  have hr := fun tmps hp => results_mid (P := Try.prog) (fn := Try.f56) Try.results56 tmps w5 w.heap.size [.int .i64 k, .int .i64 to, .int .i64 ce, .int .i64 (m 3), .int .i64 (m 4), .int .i64 (m 5), .int .i64 (m 6), .int .i64 (m 7), .int .i64 (m 8), .int .i64 (m 9), .int .i64 (m 10), .int .i64 (m 11), .int .i64 (m 12), .int .i64 (m 13), .int .i64 (m 14), .int .i64 (m 15), .int .i64 (m 16), .int .i64 (m 17), .int .i64 (m 18), .int .i64 (m 19), .int .i64 (m 20), .int .i64 (m 21), .int .i64 (m 22), .int .i64 (m 23), .int .i64 (m 24)] _ hp (Bk.range hR5.out) Try.underlying62 rfl (by kernel_rfl)
  exact bodyPost_ret (v := .agg #[.int .i64 k, .int .i64 to, .int .i64 ce, .int .i64 (m 3), .int .i64 (m 4), .int .i64 (m 5), .int .i64 (m 6), .int .i64 (m 7), .int .i64 (m 8), .int .i64 (m 9), .int .i64 (m 10), .int .i64 (m 11), .int .i64 (m 12), .int .i64 (m 13), .int .i64 (m 14), .int .i64 (m 15), .int .i64 (m 16), .int .i64 (m 17), .int .i64 (m 18), .int .i64 (m 19), .int .i64 (m 20), .int .i64 (m 21), .int .i64 (m 22), .int .i64 (m 23), .int .i64 (m 24)]) (hr _ rfl) rfl ⟨rfl, hB5.out⟩
end
end Go.Proofs.Ytgjapdjidighlaa
