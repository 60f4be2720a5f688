/- LogCount of the program; conditions: the list lies in memory. -/
import Derived.Test.YtiahmakaegnnfaaCnt1
import Derived.Test.YtiahmakaegnnfaaCTo
namespace Go.Proofs.Ytiahmakaegnnfaa
open Go.RowKit Go.Shelf
set_option linter.unusedVariables false

attribute [local go_sem] Oper.semAt_some

theorem told_stops (F : Fence) (n : Nat) (h67 : F.fn 67) (hro : F.round = none) (hn : 1 ≤ n) (Bs n₀ b off len cap : Nat) (Z : Nat → Nat → Int) (hreach : len ≤ 1048576) (hb : b < n₀) (w : World) (hBs : Bs < w.heap.size) (hn₀ : n₀ ≤ w.heap.size)
    (hc : w.cell? ⟨Bs, 0, none⟩ = some (.slice (some ⟨b, off, none⟩) len cap)) (hr : ∀ k j, k < len → j < 16 → w.cell? ⟨b, off + k * 16 + j, none⟩ = some (.int .i64 (Z k j))) :
    SeqStopsK F n Try.prog 67 #[.pointer (some ⟨Bs, 0, none⟩)] (fun x : Nat → Int => #[.agg #[.int .i64 (x 0), .int .i64 (x 1), .int .i64 (x 2), .int .i64 (x 3), .int .i64 (x 4), .int .i64 (x 5), .int .i64 (x 6), .int .i64 (x 7), .int .i64 (x 8), .int .i64 (x 9), .int .i64 (x 10), .int .i64 (x 11), .int .i64 (x 12), .int .i64 (x 13), .int .i64 (x 14), .int .i64 (x 15)]]) (Below n₀) (fun ys => ys = uptoR Z len) (fun pre => ∃ k, k ≤ len ∧ pre = uptoR Z k) len w := fun l J Jx W hW hJ _ hY h0 =>
  told1_in F n h67 hro hn l Bs n₀ b off len cap W.heap.size Z hreach hb J Jx hJ hY W (Nat.le_trans hn₀ hW.size) ((hW.cell (p := ⟨Bs, 0, none⟩) hBs).trans hc) (fun k j h1 h2 => (hW.cell (p := ⟨b, off + k * 16 + j, none⟩) (by show b < _; omega)).trans (hr k j h1 h2)) h0

/-- Whether a record has the order of a number of a walker; how many of a list have. -/
def hitB (who seq : Int) (x : Nat → Int) : Bool := x 0 == 1 && (x 1 == who && x 2 == seq)
def hits (who seq : Int) (L : List (Nat → Int)) : Nat := (L.filter (hitB who seq)).length
theorem hits_snoc (who seq : Int) (L : List (Nat → Int)) (x : Nat → Int) : hits who seq (L ++ [x]) = hits who seq L + (if hitB who seq x then 1 else 0) := by
  unfold hits
  rw [List.filter_append, List.length_append]
  by_cases h : hitB who seq x = true
  · simp [h]
  · simp [h]
theorem hits_le (who seq : Int) (L : List (Nat → Int)) : hits who seq L ≤ L.length := List.length_filter_le _ _

set_option maxRecDepth 100000 in
set_option maxHeartbeats 4000000 in
theorem count_in (F : Fence) (n : Nat) (h22 : F.fn 22) (h46 : F.fn 46) (h67 : F.fn 67) (hro : F.round = none) (hn : 3 ≤ n) (b off len cap : Nat) (who seq : Int) (Z : Nat → Nat → Int) (hreach : len ≤ 1048576) (w : World) (hb : b < w.heap.size)
    (hr : ∀ k j, k < len → j < 16 → w.cell? ⟨b, off + k * 16 + j, none⟩ = some (.int .i64 (Z k j))) :
    CallsIn F n Try.prog 22 #[.slice (some ⟨b, off, none⟩) len cap, .int .i64 who, .int .i64 seq] w fun e W' => e = .returned (.int .i64 (hits who seq (uptoR Z len) : Int)) ∧ Below w.heap.size w W' := by
  have h1 : 1 ≤ n := by omega
  refine callsIn_of_wp_marks Try.func22 rfl h22 ?_ hro
  simp only [Try.ntmps22, List.size_toArray, List.length_cons, List.length_nil, Nat.reduceAdd, Nat.reduceSub, Array.replicate_succ, Array.replicate_zero, List.push_toArray, List.append_toArray, List.nil_append, List.cons_append]
  gi_wp2_with (gi_at_call 46; refine (told_in F (n - 1) h46 hro _ _ _ _).mono ?_; rintro e w' ⟨rfl, rfl⟩)
  have bA0 := Boxed.new w 3 (.int .i64 who)
  have bB0 := Boxed.new (w.alloc (.cells #[.int .i64 who] 3)) 3 (.int .i64 seq)
  have bC0 := Boxed.new ((w.alloc (.cells #[.int .i64 who] 3)).alloc (.cells #[.int .i64 seq] 3)) 3 (.int .i64 0)
  have bN0 := Boxed.new (((w.alloc (.cells #[.int .i64 who] 3)).alloc (.cells #[.int .i64 seq] 3)).alloc (.cells #[.int .i64 0] 3)) 50 (.slice (some ⟨b, off, none⟩) len cap)
  simp only [World.size_alloc] at bB0 bC0 bN0
  have bA := ((bA0.alloc (.cells #[.int .i64 seq] 3)).alloc (.cells #[.int .i64 0] 3)).alloc (.cells #[.slice (some ⟨b, off, none⟩) len cap] 50)
  have bB := (bB0.alloc (.cells #[.int .i64 0] 3)).alloc (.cells #[.slice (some ⟨b, off, none⟩) len cap] 50)
  have bC := bC0.alloc (.cells #[.slice (some ⟨b, off, none⟩) len cap] 50)
  have hB0 : Below w.heap.size w ((((w.alloc (.cells #[.int .i64 who] 3)).alloc (.cells #[.int .i64 seq] 3)).alloc (.cells #[.int .i64 0] 3)).alloc (.cells #[.slice (some ⟨b, off, none⟩) len cap] 50)) := ((((Below.refl _ w).alloc (Nat.le_refl _) _).alloc (by simp) _).alloc (by simp; omega) _).alloc (by simp; omega) _
  obtain ⟨W0, hW0⟩ : ∃ W0, ((((w.alloc (.cells #[.int .i64 who] 3)).alloc (.cells #[.int .i64 seq] 3)).alloc (.cells #[.int .i64 0] 3)).alloc (.cells #[.slice (some ⟨b, off, none⟩) len cap] 50)) = W0 := ⟨_, rfl⟩
  have hsz : W0.heap.size = w.heap.size + 1 + 1 + 1 + 1 := by rw [← hW0]; simp
  rw [hW0] at bA bB bC bN0 hB0 ⊢
  clear hW0 bA0 bB0 bC0
  refine wpIn_rangeFunc_ownH hro h1 (gf := 67) (lb := #[.pointer (some ⟨w.heap.size + 1 + 1 + 1, 0, none⟩)]) rfl h67 (enters_of Try.func67 (by kernel_rfl) rfl)
    (told_stops F (n - 1) h67 hro (by omega) (w.heap.size + 1 + 1 + 1) w.heap.size b off len cap Z hreach hb W0 (by omega) (by omega) bN0.cell (fun k j g1 g2 => (hB0.cell (p := ⟨b, off + k * 16 + j, none⟩) hb).trans (hr k j g1 g2))) belowK_t (belowK_b (by omega)) (Below.refl _ _) (fun _ => rfl)
    (fun pre W => (W.cell? ⟨w.heap.size + 1 + 1, 0, none⟩ = some (.int .i64 (hits who seq pre : Int)) ∧ W.frozen? ⟨w.heap.size + 1 + 1, 0, none⟩ = false ∧ W.cell? ⟨w.heap.size, 0, none⟩ = some (.int .i64 who) ∧ W.cell? ⟨w.heap.size + 1, 0, none⟩ = some (.int .i64 seq) ∧ w.heap.size + 1 + 1 + 1 < W.heap.size) ∧ Below w.heap.size w W)
    (fun _ _ _ => False)
    (OwnFrom.and (Own.from (fun s A B row hs hg hr => ⟨cell_kept hs.1 hg hr, (frozen_kept hs.1 hg hr).trans hs.2.1, cell_kept hs.2.2.1 hg hr, cell_kept hs.2.2.2.1 hg hr, Nat.lt_of_lt_of_le hs.2.2.2.2 hg.size⟩) _) (ownFrom_below (Nat.le_refl _) (by omega)))
    (fun _ _ _ _ _ hs _ _ => hs)
    ⟨⟨bC.cell, bC.frozen, bA.cell, bB.cell, by omega⟩, hB0⟩
    (fun x a' W => ∃ Bx, w.heap.size + 1 + 1 + 1 < Bx ∧ (∀ j, j < 16 → W.cell? ⟨Bx, j, none⟩ = some (.int .i64 (x j))) ∧ a' = { tmps := #[.slice (some ⟨b, off, none⟩) len cap, .int .i64 who, .int .i64 seq, undef, .pointer (some ⟨w.heap.size, 0, none⟩), .pointer (some ⟨w.heap.size + 1, 0, none⟩), .int .i64 0, .pointer (some ⟨w.heap.size + 1 + 1, 0, none⟩), .pointer (some ⟨Bx, 0, none⟩), .slice (some ⟨b, off, none⟩) len cap, .func (.func 67) #[] #[.pointer (some ⟨w.heap.size + 1 + 1 + 1, 0, none⟩)], .agg #[.int .i64 (x 0), .int .i64 (x 1), .int .i64 (x 2), .int .i64 (x 3), .int .i64 (x 4), .int .i64 (x 5), .int .i64 (x 6), .int .i64 (x 7), .int .i64 (x 8), .int .i64 (x 9), .int .i64 (x 10), .int .i64 (x 11), .int .i64 (x 12), .int .i64 (x 13), .int .i64 (x 14), .int .i64 (x 15)], undef, undef, undef, undef, undef, undef, undef, undef, undef, undef, undef, undef, undef, undef, undef, undef, undef, undef, undef, undef], defers := [] })
    (fun x a' _ X Y row hs hg hr => by obtain ⟨Bx, h1, h2, h3⟩ := hs; exact ⟨Bx, h1, fun j hj => cell_kept (h2 j hj) hg (fun r e => (hr r e).2), h3⟩)
    ?assign ?body ?done ?stop
  case assign =>
    rintro l pre x W K ⟨⟨i1, i2, i3, i4, i5⟩, hB1⟩ hK
    have hz := hB1.size
    have hA := (Below.refl W.heap.size W).alloc (Nat.le_refl _) (.cells #[.int .i64 (x 0), .int .i64 (x 1), .int .i64 (x 2), .int .i64 (x 3), .int .i64 (x 4), .int .i64 (x 5), .int .i64 (x 6), .int .i64 (x 7), .int .i64 (x 8), .int .i64 (x 9), .int .i64 (x 10), .int .i64 (x 11), .int .i64 (x 12), .int .i64 (x 13), .int .i64 (x 14), .int .i64 (x 15)] 40)
    gi_wp2
    exact hK _ _ ((KeepsOthers.alloc _ _).from _) ((Below.refl _ W).alloc hB1.size _) ⟨⟨(hA.cell (p := ⟨w.heap.size + 1 + 1, 0, none⟩) (by show w.heap.size + 1 + 1 < _; omega)).trans i1, (hA.frozen (p := ⟨w.heap.size + 1 + 1, 0, none⟩) (by show w.heap.size + 1 + 1 < _; omega)).trans i2, (hA.cell (p := ⟨w.heap.size, 0, none⟩) (by show w.heap.size < _; omega)).trans i3, (hA.cell (p := ⟨w.heap.size + 1, 0, none⟩) (by show w.heap.size + 1 < _; omega)).trans i4, by rw [World.size_alloc]; omega⟩, hB1.alloc hB1.size _⟩ ⟨W.heap.size, i5, fun j hj => by
      have : j = 0 ∨ j = 1 ∨ j = 2 ∨ j = 3 ∨ j = 4 ∨ j = 5 ∨ j = 6 ∨ j = 7 ∨ j = 8 ∨ j = 9 ∨ j = 10 ∨ j = 11 ∨ j = 12 ∨ j = 13 ∨ j = 14 ∨ j = 15 := by omega
      rcases this with rfl | rfl | rfl | rfl | rfl | rfl | rfl | rfl | rfl | rfl | rfl | rfl | rfl | rfl | rfl | rfl <;> simp, rfl⟩
  case body =>
    rintro l pre x a' W hl ⟨r, hr⟩ ⟨⟨i1, i2, i3, i4, i5⟩, hB1⟩ ⟨Bx, hBx, hX, rfl⟩ hlt
    have x0 := hX 0 (by omega)
    have x1 := hX 1 (by omega)
    have x2 := hX 2 (by omega)
    clear hX
    have hle := hits_le who seq pre
    have hwr : IntKind.i64.wrap ((hits who seq pre : Int) + 1) = (hits who seq pre : Int) + 1 := by rw [IntKind.wrap_i64]; omega
    have hsn := hits_snoc who seq pre x
    have HS : Hid (hits who seq (pre ++ [x]) = hits who seq pre + (if hitB who seq x then 1 else 0)) := hsn
    clear hsn
    have hb1 : w.heap.size ≤ W.heap.size := hB1.size
    by_cases hh : hitB who seq x = true
    · have e : hits who seq (pre ++ [x]) = hits who seq pre + 1 := by rw [HS.out, if_pos hh]
      simp only [hitB, Bool.and_eq_true, beq_iff_eq] at hh
      obtain ⟨e0, e1, e2⟩ := hh
      rw [e0] at x0
      rw [e1] at x1
      rw [e2] at x2
      gi_wp2
      exact ⟨(KeepsOthers.setCell _ _ _).from _, (Below.refl w.heap.size W).setCell (p := ⟨w.heap.size + 1 + 1, 0, none⟩) (by show w.heap.size ≤ w.heap.size + 1 + 1; omega) _, ⟨by rw [e]; exact World.cell?_setCell_same' _ _ _ (by rw [i1]; rfl), by rw [World.frozen?_setCell]; exact i2, (set_out (fun e => by have := e.1; omega)).trans i3, (set_out (fun e => by have := e.1; omega)).trans i4, by rw [set_size]; exact i5⟩, hB1.setCell (p := ⟨w.heap.size + 1 + 1, 0, none⟩) (by show w.heap.size ≤ w.heap.size + 1 + 1; omega) _⟩
    · have e : hits who seq (pre ++ [x]) = hits who seq pre := by rw [HS.out, if_neg hh]; rfl
      have hh2 : hitB who seq x = false := by simpa using hh
      clear hh
      unfold hitB at hh2
      cases e0 : (x 0 == 1) <;> cases e1 : (x 1 == who) <;> cases e2 : (x 2 == seq) <;> rw [e0, e1, e2] at hh2 <;> first | (cases hh2; done) | skip
      all_goals (gi_wp2; exact ⟨KeepsFrom.refl _ _, Below.refl _ _, ⟨by rw [e]; exact i1, i2, i3, i4, i5⟩, hB1⟩)
  case done =>
    rintro D ys W hD rfl ⟨⟨i1, _⟩, hB⟩ hK
    gi_wp2
    refine ⟨by simp, .inl ⟨_, _, rfl, run_takeDeferred hK, ?_⟩⟩
    exact ⟨_, results_tmp rfl _ _ _, rfl, hB.trans (belowK_b (w := w) (Nat.le_refl _) W D _ _ (by omega) hK rfl rfl)⟩
  case stop =>
    rintro D c pre W _ _ h _
    exact h.elim

end Go.Proofs.Ytiahmakaegnnfaa
