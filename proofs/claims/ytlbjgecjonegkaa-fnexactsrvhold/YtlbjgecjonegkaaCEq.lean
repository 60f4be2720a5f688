/- Comparisons of cells that hold the same: they answer true; conditions: both lie in memory. -/
import Derived.Test.YtlbjgecjonegkaaCTo
import Derived.Test.YtlbjgecjonegkaaMark8
namespace Go.Proofs.Ytlbjgecjonegkaa
open Go.RowKit Go.Deep
set_option linter.unusedVariables false

theorem eqWalkers0 (a1 a2 : Option Addr) (c1 c2 : Nat) (w : World) :
    Calls Try.prog 52 #[.slice a1 0 c1, .slice a2 0 c2] w fun e w' => e = .returned (.bool true) ∧ Below w.heap.size w w' := by
  go_enter Try.func52, Try.ntmps52
  go_wp2
  refine wp_loop_rounds 1 ?_
  rw [rounds_succ]
  go_wp2
  go_ret
  exact ⟨rfl, Below.refl _ _⟩

theorem eqWalkers (a1 a2 : Option Addr) (n c1 c2 : Nat) (Z : Nat → Nat → Int) (hn : n ≤ 2000000) (w : World) (h1 : Row5 w a1 n Z) (h2 : Row5 w a2 n Z) :
    Calls Try.prog 52 #[.slice a1 n c1, .slice a2 n c2] w fun e w' => e = .returned (.bool true) ∧ Below w.heap.size w w' := by
  rcases h1 with rfl | ⟨b1, o1, rfl, hb1, hr1⟩
  · exact eqWalkers0 _ _ _ _ _
  rcases h2 with rfl | ⟨b2, o2, rfl, hb2, hr2⟩
  · exact eqWalkers0 _ _ _ _ _
  exact eqList b1 o1 c1 b2 o2 c2 n Z hn w hb1 hb2 hr1 hr2

theorem eqParcels (a1 a2 : Option Addr) (n c1 c2 : Nat) (Z : Nat → Nat → Int) (hn : n ≤ 2000000) (w : World) (h1 : P8.Row8 w a1 n Z) (h2 : P8.Row8 w a2 n Z) :
    Calls Try.prog 82 #[.slice a1 n c1, .slice a2 n c2] w fun e w' => e = .returned (.bool true) ∧ Below w.heap.size w w' := by
  rcases h1 with rfl | ⟨b1, o1, rfl, hb1, hr1⟩
  · exact P8.eqList0 _ _ _ _ _
  rcases h2 with rfl | ⟨b2, o2, rfl, hb2, hr2⟩
  · exact P8.eqList0 _ _ _ _ _
  exact P8.eqList b1 o1 c1 b2 o2 c2 n Z hn w hb1 hb2 hr1 hr2

set_option maxHeartbeats 1000000 in
theorem eqInts (a1 a2 : Option Addr) (n c1 c2 : Nat) (X : Nat → Int) (hn : n ≤ 2000000) (w : World) (h1 : Row1 w a1 n X) (h2 : Row1 w a2 n X) :
    Calls Try.prog 54 #[.slice a1 n c1, .slice a2 n c2] w fun e w' => e = .returned (.bool true) ∧ Below w.heap.size w w' := by
  have H1 : Hid (Row1 w a1 n X) := h1
  have H2 : Hid (Row1 w a2 n X) := h2
  clear h1 h2
  go_enter Try.func54, Try.ntmps54
  go_wp2
  go_loopw [5] (fun i wr => ∃ k : Nat, k ≤ n ∧ i = .int .i64 k ∧ Below w.heap.size w wr) (fun i _ => n - (intOf i).toNat)
  case atStart => exact ⟨0, Nat.zero_le _, rfl, Below.refl _ _⟩
  case round =>
    obtain ⟨k, hk, rfl, hbel⟩ := hrel
    by_cases hkn : k < n
    · have hkn' : (k : Int) < n := by omega
      obtain ⟨b1, o1, rfl, hb1, hr1⟩ : ∃ b o, a1 = some ⟨b, o, none⟩ ∧ b < w.heap.size ∧ ∀ k, k < n → w.cell? ⟨b, o + k, none⟩ = some (.int .i64 (X k)) := by
        rcases H1.out with h | h
        · omega
        · exact h
      obtain ⟨b2, o2, rfl, hb2, hr2⟩ : ∃ b o, a2 = some ⟨b, o, none⟩ ∧ b < w.heap.size ∧ ∀ k, k < n → w.cell? ⟨b, o + k, none⟩ = some (.int .i64 (X k)) := by
        rcases H2.out with h | h
        · omega
        · exact h
      have d1 : wr.cell? ⟨b1, o1 + k, none⟩ = some (.int .i64 (X k)) := (hbel.cell (p := ⟨b1, o1 + k, none⟩) hb1).trans (hr1 k hkn)
      have d2 : wr.cell? ⟨b2, o2 + k, none⟩ = some (.int .i64 (X k)) := (hbel.cell (p := ⟨b2, o2 + k, none⟩) hb2).trans (hr2 k hkn)
      clear hr1 hr2
      go_wp2
      go_region
      go_wp2
      go_roundw
      case rel => exact ⟨k + 1, by omega, by go_num, by repeat (first | exact hbel | apply Below.drew | apply bdrewN)⟩
      case measure => simp [intOf]; omega
    · have : k = n := by omega
      subst this
      go_wp2
      go_ret
      exact ⟨rfl, hbel⟩

theorem row8_keep {w w' : World} {a : Option Addr} {n : Nat} {Z : Nat → Nat → Int} (h : P8.Row8 w a n Z) (k : (∀ b o, b < w.heap.size → w'.cell? ⟨b, o, none⟩ = w.cell? ⟨b, o, none⟩) ∧ w.heap.size ≤ w'.heap.size) : P8.Row8 w' a n Z := by
  rcases h with rfl | ⟨b, o, rfl, hlt, hr⟩
  · exact .inl rfl
  · exact .inr ⟨b, o, rfl, Nat.lt_of_lt_of_le hlt k.2, fun i j hi hj => (k.1 b _ hlt).trans (hr i j hi hj)⟩

set_option maxHeartbeats 4000000 in
theorem eqOuts (a1 a2 : Option Addr) (n c1 c2 : Nat) (N : Nat → Nat) (O : Nat → Nat → Nat → Int) (hn : n ≤ 2000000) (hN : ∀ k, k < n → N k ≤ 2000000) (w : World) (h1 : RowO w a1 n N O) (h2 : RowO w a2 n N O) :
    Calls Try.prog 53 #[.slice a1 n c1, .slice a2 n c2] w fun e w' => e = .returned (.bool true) ∧ Below w.heap.size w w' := by
  have H1 : Hid (RowO w a1 n N O) := h1
  have H2 : Hid (RowO w a2 n N O) := h2
  have HN : Hid (∀ k, k < n → N k ≤ 2000000) := hN
  clear h1 h2 hN
  go_enter Try.func53, Try.ntmps53
  go_wp2
  go_loopw [5] (fun i wr => ∃ k : Nat, k ≤ n ∧ i = .int .i64 k ∧ ((∀ b o, b < w.heap.size → wr.cell? ⟨b, o, none⟩ = w.cell? ⟨b, o, none⟩) ∧ w.heap.size ≤ wr.heap.size) ∧ Below w.heap.size w wr) (fun i _ => n - (intOf i).toNat)
  case atStart => exact ⟨0, Nat.zero_le _, rfl, ⟨fun _ _ _ => rfl, Nat.le_refl _⟩, Below.refl _ _⟩
  case round =>
    obtain ⟨k, hk, rfl, HS, BR⟩ := hrel
    by_cases hkn : k < n
    · have hkn' : (k : Int) < n := by omega
      obtain ⟨b1, o1, rfl, hb1, hr1⟩ : ∃ b o, a1 = some ⟨b, o, none⟩ ∧ b < w.heap.size ∧ ∀ k, k < n → ∃ x c, w.cell? ⟨b, o + k, none⟩ = some (.slice x (N k) c) ∧ P8.Row8 w x (N k) (O k) := by
        rcases H1.out with h | h
        · omega
        · exact h
      obtain ⟨b2, o2, rfl, hb2, hr2⟩ : ∃ b o, a2 = some ⟨b, o, none⟩ ∧ b < w.heap.size ∧ ∀ k, k < n → ∃ x c, w.cell? ⟨b, o + k, none⟩ = some (.slice x (N k) c) ∧ P8.Row8 w x (N k) (O k) := by
        rcases H2.out with h | h
        · omega
        · exact h
      obtain ⟨x1, d1, e1, hx1⟩ := hr1 k hkn
      obtain ⟨x2, d2, e2, hx2⟩ := hr2 k hkn
      have HX1 : Hid (P8.Row8 w x1 (N k) (O k)) := hx1
      have HX2 : Hid (P8.Row8 w x2 (N k) (O k)) := hx2
      clear hr1 hr2 hx1 hx2
      go_wp2
      refine wp_region_held_drew (S := fun w' => (∀ b o, b < w.heap.size → w'.cell? ⟨b, o, none⟩ = w.cell? ⟨b, o, none⟩) ∧ w.heap.size ≤ w'.heap.size) (by kernel_rfl) HS ?_
      intro hHeld
      refine wpAnyH_take (i := 0) (v := .slice (some ⟨b1, o1, none⟩) n c1) rfl (by kernel_rfl) (by kernel_rfl) (by kernel_rfl) (fun _ _ _ h => h) (Or.inl ⟨by rfl, ?_⟩) (by assumption) ?_
      · intro wx hSw; go_simp
      try simp only [Act.put, List.setIfInBounds_toArray, List.set_cons_zero, List.set_cons_succ, List.getElem_toArray, List.getElem_cons_zero]
      refine wpAnyH_take (i := 1) (v := .int .i64 (k : Int)) rfl (by kernel_rfl) (by kernel_rfl) (by kernel_rfl) (fun _ _ _ h => h) (Or.inl ⟨by rfl, ?_⟩) (by assumption) ?_
      · intro wx hSw; go_simp
      try simp only [Act.put, List.setIfInBounds_toArray, List.set_cons_zero, List.set_cons_succ, List.getElem_toArray, List.getElem_cons_zero, List.getElem_cons_succ]
      refine wpAnyH_take (i := 2) (v := .pointer (some ⟨b1, o1 + k, none⟩)) rfl (by kernel_rfl) (by kernel_rfl) (by kernel_rfl) (fun _ _ _ h => h) (Or.inl ⟨by rfl, ?_⟩) (by assumption) ?_
      · intro wx hSw; go_simp
      try simp only [Act.put, List.setIfInBounds_toArray, List.set_cons_zero, List.set_cons_succ, List.getElem_toArray, List.getElem_cons_zero, List.getElem_cons_succ]
      refine wpAnyH_take (i := 3) (v := .slice x1 (N k) d1) rfl (by kernel_rfl) (by kernel_rfl) (by kernel_rfl) (fun _ _ _ h => h) (Or.inl ⟨by rfl, ?_⟩) (by assumption) ?_
      · intro wx hSw; go_simp
      try simp only [Act.put, List.setIfInBounds_toArray, List.set_cons_zero, List.set_cons_succ, List.getElem_toArray, List.getElem_cons_zero, List.getElem_cons_succ]
      refine wpAnyH_take (i := 4) (v := .slice (some ⟨b2, o2, none⟩) n c2) rfl (by kernel_rfl) (by kernel_rfl) (by kernel_rfl) (fun _ _ _ h => h) (Or.inl ⟨by rfl, ?_⟩) (by assumption) ?_
      · intro wx hSw; go_simp
      try simp only [Act.put, List.setIfInBounds_toArray, List.set_cons_zero, List.set_cons_succ, List.getElem_toArray, List.getElem_cons_zero, List.getElem_cons_succ]
      refine wpAnyH_take (i := 5) (v := .int .i64 (k : Int)) rfl (by kernel_rfl) (by kernel_rfl) (by kernel_rfl) (fun _ _ _ h => h) (Or.inl ⟨by rfl, ?_⟩) (by assumption) ?_
      · intro wx hSw; go_simp
      try simp only [Act.put, List.setIfInBounds_toArray, List.set_cons_zero, List.set_cons_succ, List.getElem_toArray, List.getElem_cons_zero, List.getElem_cons_succ]
      refine wpAnyH_take (i := 6) (v := .pointer (some ⟨b2, o2 + k, none⟩)) rfl (by kernel_rfl) (by kernel_rfl) (by kernel_rfl) (fun _ _ _ h => h) (Or.inl ⟨by rfl, ?_⟩) (by assumption) ?_
      · intro wx hSw; go_simp
      try simp only [Act.put, List.setIfInBounds_toArray, List.set_cons_zero, List.set_cons_succ, List.getElem_toArray, List.getElem_cons_zero, List.getElem_cons_succ]
      refine wpAnyH_take (i := 7) (v := .slice x2 (N k) d2) rfl (by kernel_rfl) (by kernel_rfl) (by kernel_rfl) (fun _ _ _ h => h) (Or.inl ⟨by rfl, ?_⟩) (by assumption) ?_
      · intro wx hSw; go_simp
      try simp only [Act.put, List.setIfInBounds_toArray, List.set_cons_zero, List.set_cons_succ, List.getElem_toArray, List.getElem_cons_zero, List.getElem_cons_succ]
      refine wpAnyH_ready (rs := [8]) (by kernel_rfl) (by simp) ?_
      refine AllReadyH.cons rfl (fun K hK => ?_) AllReadyH.nil
      go_simp
      go_wp2_with (go_at_call 82; refine (eqParcels x1 x2 (N k) d1 d2 (O k) (HN.out k hkn) _ (row8_keep HX1.out (by assumption)) (row8_keep HX2.out (by assumption))).mono ?_; rintro e w2 ⟨rfl, hbw2⟩)
      refine hK.out _ _ (keepS (by assumption) hbw2) (fun hHeld => ?_)
      clear hK K
      try simp only [Act.put, List.setIfInBounds_toArray, List.set_cons_zero, List.set_cons_succ, List.getElem_toArray, List.getElem_cons_zero, List.getElem_cons_succ]
      refine wpAnyH_take (i := 9) (v := .bool false) rfl (by kernel_rfl) (by kernel_rfl) (by kernel_rfl) (fun _ _ _ h => h) (Or.inl ⟨by rfl, ?_⟩) (by assumption) ?_
      · intro wx hSw; go_simp
      try simp only [Act.put, List.setIfInBounds_toArray, List.set_cons_zero, List.set_cons_succ, List.getElem_toArray, List.getElem_cons_zero, List.getElem_cons_succ]
      refine wpAnyH_done (by kernel_rfl) ?_ _
      go_wp2
      go_roundw
      case rel => exact ⟨k + 1, by omega, by go_num, by assumption, by repeat (first | exact BR | refine bthen ?_ (by assumption) | apply Below.drew)⟩
      case measure => simp [intOf]; omega
    · have : k = n := by omega
      subst this
      go_wp2
      go_ret
      exact ⟨rfl, BR⟩

set_option maxHeartbeats 2000000 in
theorem eqCell (v1 v2 : Value) (V : CV) (hs : V.short 2000000) (w : World) (h1 : CellAt w v1 V) (h2 : CellAt w v2 V) :
    Calls Try.prog 31 #[v1, v2] w fun e w' => e = .returned (.bool true) ∧ Below w.heap.size w w' := by
  obtain ⟨aW, kW, aO, kO, aX, kX, aI, kI, rfl, rW, rO, rX, rI⟩ := h1
  obtain ⟨bW, lW, bO, lO, bX, lX, bI, lI, rfl, sW, sO, sX, sI⟩ := h2
  obtain ⟨VC, nW, W, VG, nO, N, O, nX, X, nI, I⟩ := V
  simp only at rW rO rX rI sW sO sX sI
  obtain ⟨tW, tO, tN, tX, tI⟩ := hs
  simp only at tW tO tN tX tI
  have HW : Hid (Row5 w aW nW W ∧ Row5 w bW nW W) := ⟨rW, sW⟩
  have HO : Hid (RowO w aO nO N O ∧ RowO w bO nO N O) := ⟨rO, sO⟩
  have HX : Hid (Row1 w aX nX X ∧ Row1 w bX nX X) := ⟨rX, sX⟩
  have HI : Hid (Row1 w aI nI I ∧ Row1 w bI nI I) := ⟨rI, sI⟩
  have HN : Hid (∀ k, k < nO → N k ≤ 2000000) := tN
  clear rW rO rX rI sW sO sX sI tN
  go_enter Try.func31, Try.ntmps31
  go_wp2_with fail
  obtain ⟨w0, e0⟩ : ∃ w0, w0 = (w.alloc (.cells #[.int .i64 VC, .slice aW nW kW, .int .i64 VG, .slice aO nO kO, .slice aX nX kX, .slice aI nI kI] 43)).alloc (.cells #[.int .i64 VC, .slice bW nW lW, .int .i64 VG, .slice bO nO lO, .slice bX nX lX, .slice bI nI lI] 43) := ⟨_, rfl⟩
  have z0 : w.heap.size + 2 ≤ w0.heap.size := by rw [e0]; simp
  have B0 : Hid (Below w.heap.size w w0) := by rw [e0]; exact ((Below.refl _ _).alloc (by simp) _).alloc (by simp) _
  have A0 : Hid (Six w0 w.heap.size [.int .i64 VC, .slice aW nW kW, .int .i64 VG, .slice aO nO kO, .slice aX nX kX, .slice aI nI kI]) := by rw [e0]; exact (six_new w 43 (.int .i64 VC) (.slice aW nW kW) (.int .i64 VG) (.slice aO nO kO) (.slice aX nX kX) (.slice aI nI kI)).below (by simp) ((Below.refl _ _).alloc (by simp) _)
  have C0 : Hid (Six w0 (w.heap.size + 1) [.int .i64 VC, .slice bW nW lW, .int .i64 VG, .slice bO nO lO, .slice bX nX lX, .slice bI nI lI]) := by rw [e0]; have := six_new (w.alloc (.cells #[.int .i64 VC, .slice aW nW kW, .int .i64 VG, .slice aO nO kO, .slice aX nX kX, .slice aI nI kI] 43)) 43 (.int .i64 VC) (.slice bW nW lW) (.int .i64 VG) (.slice bO nO lO) (.slice bX nX lX) (.slice bI nI lI); rw [show (w.alloc (.cells #[.int .i64 VC, .slice aW nW kW, .int .i64 VG, .slice aO nO kO, .slice aX nX kX, .slice aI nI kI] 43)).heap.size = w.heap.size + 1 by simp] at this; exact this
  rw [← e0]
  clear e0
  refine (eqWalkers aW bW nW kW lW W tW _ (row5_below HW.out.1 B0.out) (row5_below HW.out.2 B0.out)).mono ?_
  rintro e w1 ⟨rfl, hb⟩
  have B1 : Hid (Below w.heap.size w w1) := bthen B0.out hb
  have A1 : Hid (Six w1 w.heap.size [.int .i64 VC, .slice aW nW kW, .int .i64 VG, .slice aO nO kO, .slice aX nX kX, .slice aI nI kI]) := A0.out.below (by omega) hb
  have C1 : Hid (Six w1 (w.heap.size + 1) [.int .i64 VC, .slice bW nW lW, .int .i64 VG, .slice bO nO lO, .slice bX nX lX, .slice bI nI lI]) := C0.out.below (by omega) hb
  have z1 : w.heap.size + 2 ≤ w1.heap.size := Nat.le_trans z0 hb.size
  have a0 : w1.cell? ⟨w.heap.size, 0, none⟩ = some (.int .i64 VC) := (A1.out 0 (by decide)).1
  have a1 : w1.cell? ⟨w.heap.size, 1, none⟩ = some (.slice aW nW kW) := (A1.out 1 (by decide)).1
  have a2 : w1.cell? ⟨w.heap.size, 2, none⟩ = some (.int .i64 VG) := (A1.out 2 (by decide)).1
  have a3 : w1.cell? ⟨w.heap.size, 3, none⟩ = some (.slice aO nO kO) := (A1.out 3 (by decide)).1
  have a4 : w1.cell? ⟨w.heap.size, 4, none⟩ = some (.slice aX nX kX) := (A1.out 4 (by decide)).1
  have a5 : w1.cell? ⟨w.heap.size, 5, none⟩ = some (.slice aI nI kI) := (A1.out 5 (by decide)).1
  have c0 : w1.cell? ⟨w.heap.size + 1, 0, none⟩ = some (.int .i64 VC) := (C1.out 0 (by decide)).1
  have c1 : w1.cell? ⟨w.heap.size + 1, 1, none⟩ = some (.slice bW nW lW) := (C1.out 1 (by decide)).1
  have c2 : w1.cell? ⟨w.heap.size + 1, 2, none⟩ = some (.int .i64 VG) := (C1.out 2 (by decide)).1
  have c3 : w1.cell? ⟨w.heap.size + 1, 3, none⟩ = some (.slice bO nO lO) := (C1.out 3 (by decide)).1
  have c4 : w1.cell? ⟨w.heap.size + 1, 4, none⟩ = some (.slice bX nX lX) := (C1.out 4 (by decide)).1
  have c5 : w1.cell? ⟨w.heap.size + 1, 5, none⟩ = some (.slice bI nI lI) := (C1.out 5 (by decide)).1
  clear hb A0 C0 B0
  go_wp2_with fail
  clear a0 c0 a1 c1 a2 c2 a3 c3 a4 c4 a5 c5
  refine (eqOuts aO bO nO kO lO N O tO HN.out _ (rowO_below HO.out.1 B1.out) (rowO_below HO.out.2 B1.out)).mono ?_
  rintro e w2 ⟨rfl, hb⟩
  have B2 : Hid (Below w.heap.size w w2) := bthen B1.out hb
  have A2 : Hid (Six w2 w.heap.size [.int .i64 VC, .slice aW nW kW, .int .i64 VG, .slice aO nO kO, .slice aX nX kX, .slice aI nI kI]) := A1.out.below (by omega) hb
  have C2 : Hid (Six w2 (w.heap.size + 1) [.int .i64 VC, .slice bW nW lW, .int .i64 VG, .slice bO nO lO, .slice bX nX lX, .slice bI nI lI]) := C1.out.below (by omega) hb
  have z2 : w.heap.size + 2 ≤ w2.heap.size := Nat.le_trans z1 hb.size
  have a0 : w2.cell? ⟨w.heap.size, 0, none⟩ = some (.int .i64 VC) := (A2.out 0 (by decide)).1
  have a1 : w2.cell? ⟨w.heap.size, 1, none⟩ = some (.slice aW nW kW) := (A2.out 1 (by decide)).1
  have a2 : w2.cell? ⟨w.heap.size, 2, none⟩ = some (.int .i64 VG) := (A2.out 2 (by decide)).1
  have a3 : w2.cell? ⟨w.heap.size, 3, none⟩ = some (.slice aO nO kO) := (A2.out 3 (by decide)).1
  have a4 : w2.cell? ⟨w.heap.size, 4, none⟩ = some (.slice aX nX kX) := (A2.out 4 (by decide)).1
  have a5 : w2.cell? ⟨w.heap.size, 5, none⟩ = some (.slice aI nI kI) := (A2.out 5 (by decide)).1
  have c0 : w2.cell? ⟨w.heap.size + 1, 0, none⟩ = some (.int .i64 VC) := (C2.out 0 (by decide)).1
  have c1 : w2.cell? ⟨w.heap.size + 1, 1, none⟩ = some (.slice bW nW lW) := (C2.out 1 (by decide)).1
  have c2 : w2.cell? ⟨w.heap.size + 1, 2, none⟩ = some (.int .i64 VG) := (C2.out 2 (by decide)).1
  have c3 : w2.cell? ⟨w.heap.size + 1, 3, none⟩ = some (.slice bO nO lO) := (C2.out 3 (by decide)).1
  have c4 : w2.cell? ⟨w.heap.size + 1, 4, none⟩ = some (.slice bX nX lX) := (C2.out 4 (by decide)).1
  have c5 : w2.cell? ⟨w.heap.size + 1, 5, none⟩ = some (.slice bI nI lI) := (C2.out 5 (by decide)).1
  clear hb A1 C1 B1
  go_wp2_with fail
  clear a0 c0 a1 c1 a2 c2 a3 c3 a4 c4 a5 c5
  refine (eqInts aX bX nX kX lX X tX _ (row1_below HX.out.1 B2.out) (row1_below HX.out.2 B2.out)).mono ?_
  rintro e w3 ⟨rfl, hb⟩
  have B3 : Hid (Below w.heap.size w w3) := bthen B2.out hb
  have A3 : Hid (Six w3 w.heap.size [.int .i64 VC, .slice aW nW kW, .int .i64 VG, .slice aO nO kO, .slice aX nX kX, .slice aI nI kI]) := A2.out.below (by omega) hb
  have C3 : Hid (Six w3 (w.heap.size + 1) [.int .i64 VC, .slice bW nW lW, .int .i64 VG, .slice bO nO lO, .slice bX nX lX, .slice bI nI lI]) := C2.out.below (by omega) hb
  have z3 : w.heap.size + 2 ≤ w3.heap.size := Nat.le_trans z2 hb.size
  have a0 : w3.cell? ⟨w.heap.size, 0, none⟩ = some (.int .i64 VC) := (A3.out 0 (by decide)).1
  have a1 : w3.cell? ⟨w.heap.size, 1, none⟩ = some (.slice aW nW kW) := (A3.out 1 (by decide)).1
  have a2 : w3.cell? ⟨w.heap.size, 2, none⟩ = some (.int .i64 VG) := (A3.out 2 (by decide)).1
  have a3 : w3.cell? ⟨w.heap.size, 3, none⟩ = some (.slice aO nO kO) := (A3.out 3 (by decide)).1
  have a4 : w3.cell? ⟨w.heap.size, 4, none⟩ = some (.slice aX nX kX) := (A3.out 4 (by decide)).1
  have a5 : w3.cell? ⟨w.heap.size, 5, none⟩ = some (.slice aI nI kI) := (A3.out 5 (by decide)).1
  have c0 : w3.cell? ⟨w.heap.size + 1, 0, none⟩ = some (.int .i64 VC) := (C3.out 0 (by decide)).1
  have c1 : w3.cell? ⟨w.heap.size + 1, 1, none⟩ = some (.slice bW nW lW) := (C3.out 1 (by decide)).1
  have c2 : w3.cell? ⟨w.heap.size + 1, 2, none⟩ = some (.int .i64 VG) := (C3.out 2 (by decide)).1
  have c3 : w3.cell? ⟨w.heap.size + 1, 3, none⟩ = some (.slice bO nO lO) := (C3.out 3 (by decide)).1
  have c4 : w3.cell? ⟨w.heap.size + 1, 4, none⟩ = some (.slice bX nX lX) := (C3.out 4 (by decide)).1
  have c5 : w3.cell? ⟨w.heap.size + 1, 5, none⟩ = some (.slice bI nI lI) := (C3.out 5 (by decide)).1
  clear hb A2 C2 B2
  go_wp2_with fail
  clear a0 c0 a1 c1 a2 c2 a3 c3 a4 c4 a5 c5
  refine (eqInts aI bI nI kI lI I tI _ (row1_below HI.out.1 B3.out) (row1_below HI.out.2 B3.out)).mono ?_
  rintro e w4 ⟨rfl, hb⟩
  have B4 : Hid (Below w.heap.size w w4) := bthen B3.out hb
  clear hb
  go_wp2
  go_ret
  exact ⟨rfl, B4.out⟩
end Go.Proofs.Ytlbjgecjonegkaa
