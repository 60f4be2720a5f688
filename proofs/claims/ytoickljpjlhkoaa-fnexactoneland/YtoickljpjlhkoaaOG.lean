/- OneDown of the program; conditions: those typed. -/
import Derived.Test.YtoickljpjlhkoaaOF
import Derived.Test.YtoickljpjlhkoaaWalksS
import Derived.Test.YtoickljpjlhkoaaOC1
import Derived.Deep.DeepCutAuto
namespace Go.Proofs.Ytoickljpjlhkoaa
open Go.RowKit Go.Deep
set_option linter.unusedVariables false


/-- May so many coins fall there? -/
def OV.may (V : OV) (cell side n : Int) : Bool := hasB V.c V.d cell && (inB side 0 1 && (inB n 1 (V.A cell.toNat side.toNat) && decide (V.G cell.toNat + n ≤ 900)))
/-- Nothing. -/
def OV.none : OV := ⟨0, 0, 0, fun _ _ => 0, 0, fun _ => 0, 0, fun _ => 0, fun _ _ => 0⟩
/-- Coins that fall. -/
def OV.fell (V : OV) (k j : Nat) (n : Int) : OV := { V with G := fun i => if i = k then V.G k + n else V.G i, A := fun i q => if i = k ∧ q = j then V.A k j - n else V.A i q }
def OV.down (V : OV) (cell side n : Int) : OV := if V.ok = true then (if V.may cell side n = true then V.fell cell.toNat side.toNat n else V) else OV.none
theorem own1_upd {w : World} {B n k : Nat} {X : Nat → Int} {z : Int} (h : Own1 w B n X n) (hk : k < n) : Own1 (w.setCell ⟨B, k, none⟩ (.int .i64 z)) B n (fun j => if j = k then z else X j) n := by
  refine ⟨fun i hi => ⟨?_, ?_⟩, fun j hj => ?_⟩
  · by_cases hc : k = i
    · subst hc; rw [set_in (h.1 k hk).1]; rfl
    · rw [set_out (fun e => hc e.2)]; exact (h.1 i hi).1
  · rw [set_frozen]; exact (h.1 i hi).2
  · dsimp only
    by_cases hc : k = j
    · subst hc; rw [if_pos rfl]; exact set_in (h.1 k hk).1
    · rw [set_out (fun e => hc e.2), if_neg (fun e => hc e.symm)]; exact h.2 j hj
theorem own1_congr {w : World} {B n : Nat} {X Y : Nat → Int} (h : Own1 w B n X n) (e : ∀ j, j < n → X j = Y j) : Own1 w B n Y n := ⟨h.1, fun j hj => by rw [← e j hj]; exact h.2 j hj⟩
theorem own_none (lo hi : Nat) (w : World) : OwnW lo hi w (.agg #[.int .i64 0, .int .i64 0, .slice none 0 0, .slice none 0 0, .slice none 0 0]) OV.none :=
  ⟨_, _, _, 0, 1, 2, fun _ => undef, fun _ => 3, rfl, .inl ⟨rfl, _, _, rfl⟩, .inl ⟨rfl, _, _, rfl⟩, .inl ⟨rfl, _, _, rfl⟩, by omega, fun k hk => absurd hk (by simp [OV.none]), fun i j hi => absurd hi (by simp [OV.none])⟩
/-- What is written where coins fall. -/
theorem own_fell {lo hi : Nat} {w w' : World} {V : OV} {vW vG vA : Value} {gW gG gA : Nat} {sl : Nat → Value} {xs : Nat → Nat} {k j : Nat} {n : Int}
    (h1 : RW lo hi w vW V.nW V.W gW) (h2 : RI lo hi w vG V.nG V.G gG) (h3 : RO lo hi w vA V.nA V.N V.A gA sl xs) (h4 : ¬ gW = gG ∧ ¬ gW = gA ∧ ¬ gG = gA) (h5 : ∀ k, k < V.nA → ¬ xs k = gW ∧ ¬ xs k = gG ∧ ¬ xs k = gA) (h6 : ∀ i j, i < V.nA → j < V.nA → ¬ i = j → ¬ xs i = xs j)
    (hk : k < V.nA) (hkG : k < V.nG) (hj : j < V.N k) (e : w' = (w.setCell ⟨xs k, j, none⟩ (.int .i64 (V.A k j - n))).setCell ⟨gG, k, none⟩ (.int .i64 (V.G k + n))) :
    OwnW lo hi w' (.agg #[.int .i64 V.c, .int .i64 V.d, vW, vG, vA]) (V.fell k j n) := by
  subst e
  have hz : w.heap.size ≤ ((w.setCell ⟨xs k, j, none⟩ (.int .i64 (V.A k j - n))).setCell ⟨gG, k, none⟩ (.int .i64 (V.G k + n))).heap.size := by rw [set_size, set_size]; exact Nat.le_refl _
  have sm : ∀ b, ¬ xs k = b → ¬ gG = b → Sm w ((w.setCell ⟨xs k, j, none⟩ (.int .i64 (V.A k j - n))).setCell ⟨gG, k, none⟩ (.int .i64 (V.G k + n))) b := fun b q1 q2 => (smf q1).trans (smf q2)
  obtain ⟨n1, n2, n3⟩ := h4
  obtain ⟨m1, m2, m3⟩ := h5 k hk
  refine ⟨vW, vG, vA, gW, gG, gA, sl, xs, rfl, h1.sm hz (fun _ _ => sm gW m1 (fun e => n1 e.symm)), ?_, ?_, ⟨n1, n2, n3⟩, h5, h6⟩
  · rcases h2 with ⟨h, _⟩ | ⟨c, q1, q2, q3, q4, q5⟩
    · omega
    · exact .inr ⟨c, q1, q2, q3, Nat.le_trans q4 hz, own1_upd (own1_sm q5 (smf m2)) hkG⟩
  · rcases h3 with ⟨h, _⟩ | ⟨c, q1, q2, q3, q4, q5⟩
    · omega
    · refine .inr ⟨c, q1, q2, q3, Nat.le_trans q4 hz, fun i hi => ⟨((sm gA m3 n3) i).1.trans (q5 i hi).1, ?_⟩⟩
      by_cases e : i = k
      · subst e
        rcases (q5 i hi).2 with ⟨h, _⟩ | ⟨c', r1, r2, r3, r4, r5⟩
        · omega
        · refine .inr ⟨c', r1, r2, r3, Nat.le_trans r4 hz, own1_congr (own1_sm (own1_upd (z := V.A i j - n) r5 hj) (smf (fun e => m2 e.symm))) (fun q hq => ?_)⟩
          simp only [OV.fell, true_and]
      · have := (q5 i hi).2.sm hz (fun _ _ => sm (xs i) (h6 k i hk hi (fun e' => e e'.symm)) (fun e' => (h5 i hi).2.1 e'.symm))
        have ee : (V.fell k j n).A i = V.A i := by funext q; simp [OV.fell, e]
        rw [ee]
        exact this

set_option maxHeartbeats 4000000 in
theorem canFall_impl (v : Value) (V : OV) (hok : V.ok = true) (cell side n : Int) (w : World) (h : OneAt w v V) :
    Calls Try.prog 49 #[v, .int .i64 cell, .int .i64 side, .int .i64 n] w fun e w' => e = .returned (.bool (V.may cell side n)) ∧ Below w.heap.size w w' := by
  obtain ⟨aW, kW, aG, kG, aA, kA, rfl, rW, rG, rA⟩ := h
  obtain ⟨c, d, nW, Z, nG, G, nA, N, O⟩ := V
  simp only at rG rA
  have HG : Hid (Row1 w aG nG G) := rG
  have HA : Hid (RowO w aA nA N O) := rA
  clear rW rG rA
  have hv : OV.may ⟨c, d, nW, Z, nG, G, nA, N, O⟩ cell side n = (hasB c d cell && (inB side 0 1 && (inB n 1 (O cell.toNat side.toNat) && decide (G cell.toNat + n ≤ 900)))) := rfl
  go_enter Try.func49, Try.ntmps49
  go_wp2_with fail
  obtain ⟨w0, e0⟩ : ∃ w0, w0 = w.alloc (.cells #[.int .i64 c, .int .i64 d, .slice aW nW kW, .slice aG nG kG, .slice aA nA kA] 34) := ⟨_, rfl⟩
  have B1 : Hid (Below w.heap.size w w0) := by rw [e0]; exact (Below.refl _ _).alloc (by simp) _
  have A2 : Hid (Bk w0 w.heap.size [.int .i64 c, .int .i64 d, .slice aW nW kW, .slice aG nG kG, .slice aA nA kA]) := by rw [e0]; exact bk_new w 34 [.int .i64 c, .int .i64 d, .slice aW nW kW, .slice aG nG kG, .slice aA nA kA]
  rw [← e0]
  clear e0
  refine (has_impl _ _ _ _).mono ?_
  rintro e w1 ⟨rfl, hb1⟩
  have B3 : Hid (Below w.heap.size w w1) := bthen B1.out hb1
  have A3 : Hid (Bk w1 w.heap.size [.int .i64 c, .int .i64 d, .slice aW nW kW, .slice aG nG kG, .slice aA nA kA]) := A2.out.below hb1
  clear B1 A2
  clear hb1
  cases m1 : hasB c d cell
  · rw [m1] at hv
    go_wp2
    go_ret
    exact ⟨by rw [hv] <;> rfl, B3.out⟩
  rw [m1, Bool.true_and] at hv
  have yA0 : w1.cell? ⟨w.heap.size, 0, none⟩ = some (.int .i64 c) := (A3.out.2 0 (by simp)).1
  have yA1 : w1.cell? ⟨w.heap.size, 1, none⟩ = some (.int .i64 d) := (A3.out.2 1 (by simp)).1
  have yA2 : w1.cell? ⟨w.heap.size, 2, none⟩ = some (.slice aW nW kW) := (A3.out.2 2 (by simp)).1
  have yA3 : w1.cell? ⟨w.heap.size, 3, none⟩ = some (.slice aG nG kG) := (A3.out.2 3 (by simp)).1
  have yA4 : w1.cell? ⟨w.heap.size, 4, none⟩ = some (.slice aA nA kA) := (A3.out.2 4 (by simp)).1
  have hlA : w.heap.size < w1.heap.size := A3.out.1
  go_wp2_with fail
  refine (in_impl _ _ _ _).mono ?_
  rintro e w9 ⟨rfl, e9⟩
  obtain rfl := e9.symm
  cases m2 : inB side 0 1
  · rw [m2] at hv
    go_wp2
    go_ret
    exact ⟨by rw [hv] <;> rfl, B3.out⟩
  rw [m2, Bool.true_and] at hv
  obtain ⟨⟨c0, c1, eG, eA⟩, bG, bA, _⟩ := OV.good hok
  simp only at c0 c1 eG eA bG bA
  obtain ⟨q1, q2, q3, q4, q5, q6⟩ := hasB_bounds m1
  obtain ⟨r1, r2⟩ := inB_true.1 m2
  obtain ⟨k, hck⟩ : ∃ k : Nat, cell = k := ⟨cell.toNat, by omega⟩
  obtain ⟨j, hcj⟩ : ∃ j : Nat, side = j := ⟨side.toNat, by omega⟩
  subst hck
  subst hcj
  have hkA : k < nA := by omega
  have hkG : k < nG := by omega
  obtain ⟨hN2, hA2⟩ := bA k hkA
  obtain ⟨a0, a1⟩ := hA2 j (by omega)
  obtain ⟨g0, g1⟩ := bG k hkG
  have hv2 : OV.may ⟨c, d, nW, Z, nG, G, nA, N, O⟩ k j n = (inB n 1 (O k j) && decide (G k + n ≤ 900)) := by simpa using hv
  clear hv
  obtain ⟨bA1, o1, rfl, hb1, hr1⟩ : ∃ b o, aA = some ⟨b, o, none⟩ ∧ b < w.heap.size ∧ ∀ k, k < nA → ∃ x c, w.cell? ⟨b, o + k, none⟩ = some (.slice x (N k) c) ∧ Row1 w x (N k) (O k) := by
    rcases HA.out with h | h
    · omega
    · exact h
  obtain ⟨bG1, o2, rfl, hb2, hr2⟩ : ∃ b o, aG = some ⟨b, o, none⟩ ∧ b < w.heap.size ∧ ∀ k, k < nG → w.cell? ⟨b, o + k, none⟩ = some (.int .i64 (G k)) := by
    rcases HG.out with h | h
    · omega
    · exact h
  obtain ⟨xa, xc, hc, hx⟩ := hr1 k hkA
  rw [hN2] at hc hx
  obtain ⟨b3, o3, rfl, hb3, hr3⟩ : ∃ b o, xa = some ⟨b, o, none⟩ ∧ b < w.heap.size ∧ ∀ j, j < 2 → w.cell? ⟨b, o + j, none⟩ = some (.int .i64 (O k j)) := by
    rcases hx with h | h
    · omega
    · exact h
  have hc1 : w1.cell? ⟨bA1, o1 + k, none⟩ = some (.slice (some ⟨b3, o3, none⟩) 2 xc) := (B3.out.cell (by exact hb1)).trans hc
  have hc2 : w1.cell? ⟨bG1, o2 + k, none⟩ = some (.int .i64 (G k)) := (B3.out.cell (by exact hb2)).trans (hr2 k hkG)
  have hc3 : w1.cell? ⟨b3, o3 + j, none⟩ = some (.int .i64 (O k j)) := (B3.out.cell (by exact hb3)).trans (hr3 j (by omega))
  have hkA' : (k : Int) < nA := by omega
  have hkG' : (k : Int) < nG := by omega
  have hj' : (j : Int) < 2 := by omega
  clear hr1 hr2 hr3 hc hx hA2 hN2 bG bA eG eA
  go_wp2_with fail
  refine (in_impl _ _ _ _).mono ?_
  rintro e w9 ⟨rfl, e9⟩
  obtain rfl := e9.symm
  cases m3 : inB n 1 (O k j)
  · rw [m3] at hv2
    go_wp2
    go_ret
    exact ⟨by rw [hv2] <;> rfl, B3.out⟩
  rw [m3, Bool.true_and] at hv2
  obtain ⟨n0, n1⟩ := inB_true.1 m3
  have hw : IntKind.wrap .i64 (G k + n) = G k + n := by simp [IntKind.wrap, IntKind.bits, IntKind.signed]; omega
  go_wp2
  go_ret
  exact ⟨by rw [hv2] <;> rfl, B3.out⟩

theorem OwnW.mk {lo hi : Nat} {w : World} {c d : Int} {nW nG nA : Nat} {Z : Nat → Nat → Int} {G : Nat → Int} {N : Nat → Nat} {O : Nat → Nat → Int} {vW vG vA : Value} {gW gG gA : Nat} {sl : Nat → Value} {xs : Nat → Nat} (h1 : RW lo hi w vW nW Z gW) (h2 : RI lo hi w vG nG G gG) (h3 : RO lo hi w vA nA N O gA sl xs) (h4 : ¬ gW = gG ∧ ¬ gW = gA ∧ ¬ gG = gA) (h5 : ∀ k, k < nA → ¬ xs k = gW ∧ ¬ xs k = gG ∧ ¬ xs k = gA) (h6 : ∀ i j, i < nA → j < nA → ¬ i = j → ¬ xs i = xs j) : OwnW lo hi w (.agg #[.int .i64 c, .int .i64 d, vW, vG, vA]) ⟨c, d, nW, Z, nG, G, nA, N, O⟩ :=
  ⟨vW, vG, vA, gW, gG, gA, sl, xs, rfl, h1, h2, h3, h4, h5, h6⟩
theorem OwnW.wide2 {lo hi lo' hi' : Nat} {w : World} {v : Value} {V : OV} (h : OwnW lo hi w v V) (hl : lo' ≤ lo) (hh : hi ≤ hi') (hs : hi' ≤ w.heap.size) : OwnW lo' hi' w v V := by
  obtain ⟨vW, vG, vA, gW, gG, gA, sl, xs, e, h1, h2, h3, h⟩ := h
  exact ⟨vW, vG, vA, gW, gG, gA, sl, xs, e, h1.wide hl hh hs, h2.wide hl hh hs, h3.wide hl hh hs, h⟩
/-- A box below lo is written: what lies from lo on stays. -/
theorem own_put5 {lo hi b : Nat} {w : World} {v u0 u1 u2 u3 u4 : Value} {V : OV} (h : OwnW lo hi w v V) (hb : b < lo) : OwnW lo hi (((((w.setCell ⟨b, 0, none⟩ u0).setCell ⟨b, 1, none⟩ u1).setCell ⟨b, 2, none⟩ u2).setCell ⟨b, 3, none⟩ u3).setCell ⟨b, 4, none⟩ u4) v V :=
  h.sm (by rw [set_size, set_size, set_size, set_size, set_size]; exact Nat.le_refl _) (fun g q _ => ((((smf (by omega)).trans (smf (by omega))).trans (smf (by omega))).trans (smf (by omega))).trans (smf (by omega)))

set_option maxRecDepth 20000 in
set_option maxHeartbeats 4000000 in
theorem oneDown_impl (lo : Nat) (v : Value) (V : OV) (cell side n : Int) (hs : V.short 1048576) (w : World) (h : CopyO lo w v V) :
    Calls Try.prog 17 #[v, .int .i64 cell, .int .i64 side, .int .i64 n] w fun e w' => (∃ v', e = .returned v' ∧ OwnW w.heap.size w'.heap.size w' v' (V.down cell side n)) ∧ Below w.heap.size w w' := by
  have HC : Hid (CopyO lo w v V) := h
  have HS : Hid (V.short 1048576) := hs
  obtain ⟨b1, b2, b3, l1, l2, l3, l4, rfl, _, _, _⟩ := h
  obtain ⟨c, d, nW, Z, nG, G, nA, N, O⟩ := V
  simp only at HC HS l4
  cases hok : OV.ok ⟨c, d, nW, Z, nG, G, nA, N, O⟩
  · have hv : OV.down ⟨c, d, nW, Z, nG, G, nA, N, O⟩ cell side n = OV.none := by rw [OV.down, if_neg (by rw [hok]; simp)]
    rw [hv]
    clear hv
    go_enter Try.func17, Try.ntmps17
    go_wp2_with fail
    obtain ⟨w0, e0⟩ : ∃ w0, w0 = (w.alloc (.cells #[.int .i64 c, .int .i64 d, .slice (some ⟨b1, 0, none⟩) nW nW, .slice (some ⟨b2, 0, none⟩) nG nG, .slice (some ⟨b3, 0, none⟩) nA nA] 34)).alloc (.cells #[.int .i64 0, .int .i64 0, .slice none 0 0, .slice none 0 0, .slice none 0 0] 34) := ⟨_, rfl⟩
    have B1 : Hid (Below w.heap.size w w0) := by rw [e0]; exact ((Below.refl _ _).alloc (by simp) _).alloc (by simp) _
    have A2 : Hid (Bk w0 w.heap.size [.int .i64 c, .int .i64 d, .slice (some ⟨b1, 0, none⟩) nW nW, .slice (some ⟨b2, 0, none⟩) nG nG, .slice (some ⟨b3, 0, none⟩) nA nA]) := by rw [e0]; exact (bk_new w 34 [.int .i64 c, .int .i64 d, .slice (some ⟨b1, 0, none⟩) nW nW, .slice (some ⟨b2, 0, none⟩) nG nG, .slice (some ⟨b3, 0, none⟩) nA nA]).below ((Below.refl _ _).alloc (Nat.le_refl _) _)
    have R3 : Hid (Bk w0 (w.heap.size + 1) [.int .i64 0, .int .i64 0, .slice none 0 0, .slice none 0 0, .slice none 0 0]) := by rw [e0]; have := bk_new (w.alloc (.cells #[.int .i64 c, .int .i64 d, .slice (some ⟨b1, 0, none⟩) nW nW, .slice (some ⟨b2, 0, none⟩) nG nG, .slice (some ⟨b3, 0, none⟩) nA nA] 34)) 34 [.int .i64 0, .int .i64 0, .slice none 0 0, .slice none 0 0, .slice none 0 0]; rwa [show (w.alloc (.cells #[.int .i64 c, .int .i64 d, .slice (some ⟨b1, 0, none⟩) nW nW, .slice (some ⟨b2, 0, none⟩) nG nG, .slice (some ⟨b3, 0, none⟩) nA nA] 34)).heap.size = w.heap.size + 1 by simp] at this
    rw [← e0]
    clear e0
    have C4 : Hid (CopyO lo w0 (.agg #[.int .i64 c, .int .i64 d, .slice (some ⟨b1, 0, none⟩) nW nW, .slice (some ⟨b2, 0, none⟩) nG nG, .slice (some ⟨b3, 0, none⟩) nA nA]) ⟨c, d, nW, Z, nG, G, nA, N, O⟩) := CopyO.below HC.out B1.out
    refine (oneOk_impl _ ⟨c, d, nW, Z, nG, G, nA, N, O⟩ HS.out _ C4.out.at).mono ?_
    rintro e w1 ⟨rfl, hb1⟩
    have B5 : Hid (Below w.heap.size w w1) := bthen B1.out hb1
    have A5 : Hid (Bk w1 w.heap.size [.int .i64 c, .int .i64 d, .slice (some ⟨b1, 0, none⟩) nW nW, .slice (some ⟨b2, 0, none⟩) nG nG, .slice (some ⟨b3, 0, none⟩) nA nA]) := A2.out.below hb1
    have R5 : Hid (Bk w1 (w.heap.size + 1) [.int .i64 0, .int .i64 0, .slice none 0 0, .slice none 0 0, .slice none 0 0]) := R3.out.below hb1
    have C5 : Hid (CopyO lo w1 (.agg #[.int .i64 c, .int .i64 d, .slice (some ⟨b1, 0, none⟩) nW nW, .slice (some ⟨b2, 0, none⟩) nG nG, .slice (some ⟨b3, 0, none⟩) nA nA]) ⟨c, d, nW, Z, nG, G, nA, N, O⟩) := C4.out.below hb1
    clear B1 A2 R3 C4
    clear hb1
    rw [hok]
    have yA0 : w1.cell? ⟨w.heap.size, 0, none⟩ = some (.int .i64 c) := (A5.out.2 0 (by simp)).1
    have zA0 : w1.frozen? ⟨w.heap.size, 0, none⟩ = false := (A5.out.2 0 (by simp)).2
    have yA1 : w1.cell? ⟨w.heap.size, 1, none⟩ = some (.int .i64 d) := (A5.out.2 1 (by simp)).1
    have zA1 : w1.frozen? ⟨w.heap.size, 1, none⟩ = false := (A5.out.2 1 (by simp)).2
    have yA2 : w1.cell? ⟨w.heap.size, 2, none⟩ = some (.slice (some ⟨b1, 0, none⟩) nW nW) := (A5.out.2 2 (by simp)).1
    have zA2 : w1.frozen? ⟨w.heap.size, 2, none⟩ = false := (A5.out.2 2 (by simp)).2
    have yA3 : w1.cell? ⟨w.heap.size, 3, none⟩ = some (.slice (some ⟨b2, 0, none⟩) nG nG) := (A5.out.2 3 (by simp)).1
    have zA3 : w1.frozen? ⟨w.heap.size, 3, none⟩ = false := (A5.out.2 3 (by simp)).2
    have yA4 : w1.cell? ⟨w.heap.size, 4, none⟩ = some (.slice (some ⟨b3, 0, none⟩) nA nA) := (A5.out.2 4 (by simp)).1
    have zA4 : w1.frozen? ⟨w.heap.size, 4, none⟩ = false := (A5.out.2 4 (by simp)).2
    have hlA : w.heap.size < w1.heap.size := A5.out.1
    have yR0 : w1.cell? ⟨(w.heap.size + 1), 0, none⟩ = some (.int .i64 0) := (R5.out.2 0 (by simp)).1
    have zR0 : w1.frozen? ⟨(w.heap.size + 1), 0, none⟩ = false := (R5.out.2 0 (by simp)).2
    have yR1 : w1.cell? ⟨(w.heap.size + 1), 1, none⟩ = some (.int .i64 0) := (R5.out.2 1 (by simp)).1
    have zR1 : w1.frozen? ⟨(w.heap.size + 1), 1, none⟩ = false := (R5.out.2 1 (by simp)).2
    have yR2 : w1.cell? ⟨(w.heap.size + 1), 2, none⟩ = some (.slice none 0 0) := (R5.out.2 2 (by simp)).1
    have zR2 : w1.frozen? ⟨(w.heap.size + 1), 2, none⟩ = false := (R5.out.2 2 (by simp)).2
    have yR3 : w1.cell? ⟨(w.heap.size + 1), 3, none⟩ = some (.slice none 0 0) := (R5.out.2 3 (by simp)).1
    have zR3 : w1.frozen? ⟨(w.heap.size + 1), 3, none⟩ = false := (R5.out.2 3 (by simp)).2
    have yR4 : w1.cell? ⟨(w.heap.size + 1), 4, none⟩ = some (.slice none 0 0) := (R5.out.2 4 (by simp)).1
    have zR4 : w1.frozen? ⟨(w.heap.size + 1), 4, none⟩ = false := (R5.out.2 4 (by simp)).2
    have hlR : (w.heap.size + 1) < w1.heap.size := R5.out.1
    go_wp2
    refine bodyPost_ret (v := .agg #[.int .i64 0, .int .i64 0, .slice none 0 0, .slice none 0 0, .slice none 0 0]) (P6.results_mid (P := Try.prog) (fn := Try.f17) Try.results17 _ _ (w.heap.size + 1) [.int .i64 0, .int .i64 0, .slice none 0 0, .slice none 0 0, .slice none 0 0] _ rfl (P6.Bk.range (Bk.set (j := 4) (v := .slice none 0 0) (Bk.set (j := 3) (v := .slice none 0 0) (Bk.set (j := 2) (v := .slice none 0 0) (Bk.set (j := 1) (v := .int .i64 0) (Bk.set (j := 0) (v := .int .i64 0) R5.out (by simp)) (by simp)) (by simp)) (by simp)) (by simp))) Try.underlying34 rfl (by kernel_rfl)) rfl ⟨⟨_, rfl, own_none _ _ _⟩, (((((B5.out.setCell (by show w.heap.size ≤ w.heap.size + 1; omega) _).setCell (by show w.heap.size ≤ w.heap.size + 1; omega) _).setCell (by show w.heap.size ≤ w.heap.size + 1; omega) _).setCell (by show w.heap.size ≤ w.heap.size + 1; omega) _).setCell (by show w.heap.size ≤ w.heap.size + 1; omega) _)⟩
  obtain ⟨⟨c0, c1, eG, eA⟩, bG, bA, _⟩ := OV.good hok
  simp only at c0 c1 eG eA bG bA
  have BA : Hid (∀ k, k < nA → N k = 2 ∧ ∀ j, j < 2 → 0 ≤ O k j ∧ O k j ≤ 100000) := bA
  have BG : Hid (∀ k, k < nG → 0 ≤ G k ∧ G k ≤ 900) := bG
  have hnG : 0 < nG := by omega
  have hnA : 0 < nA := by omega
  have EG : Hid ((nG : Int) = c ∧ (nA : Int) = c) := ⟨eG, eA⟩
  clear bA bG eG eA
  go_enter Try.func17, Try.ntmps17
  go_wp2_with fail
  obtain ⟨w0, e0⟩ : ∃ w0, w0 = (w.alloc (.cells #[.int .i64 c, .int .i64 d, .slice (some ⟨b1, 0, none⟩) nW nW, .slice (some ⟨b2, 0, none⟩) nG nG, .slice (some ⟨b3, 0, none⟩) nA nA] 34)).alloc (.cells #[.int .i64 0, .int .i64 0, .slice none 0 0, .slice none 0 0, .slice none 0 0] 34) := ⟨_, rfl⟩
  have B1 : Hid (Below w.heap.size w w0) := by rw [e0]; exact ((Below.refl _ _).alloc (by simp) _).alloc (by simp) _
  have A2 : Hid (Bk w0 w.heap.size [.int .i64 c, .int .i64 d, .slice (some ⟨b1, 0, none⟩) nW nW, .slice (some ⟨b2, 0, none⟩) nG nG, .slice (some ⟨b3, 0, none⟩) nA nA]) := by rw [e0]; exact (bk_new w 34 [.int .i64 c, .int .i64 d, .slice (some ⟨b1, 0, none⟩) nW nW, .slice (some ⟨b2, 0, none⟩) nG nG, .slice (some ⟨b3, 0, none⟩) nA nA]).below ((Below.refl _ _).alloc (Nat.le_refl _) _)
  have R3 : Hid (Bk w0 (w.heap.size + 1) [.int .i64 0, .int .i64 0, .slice none 0 0, .slice none 0 0, .slice none 0 0]) := by rw [e0]; have := bk_new (w.alloc (.cells #[.int .i64 c, .int .i64 d, .slice (some ⟨b1, 0, none⟩) nW nW, .slice (some ⟨b2, 0, none⟩) nG nG, .slice (some ⟨b3, 0, none⟩) nA nA] 34)) 34 [.int .i64 0, .int .i64 0, .slice none 0 0, .slice none 0 0, .slice none 0 0]; rwa [show (w.alloc (.cells #[.int .i64 c, .int .i64 d, .slice (some ⟨b1, 0, none⟩) nW nW, .slice (some ⟨b2, 0, none⟩) nG nG, .slice (some ⟨b3, 0, none⟩) nA nA] 34)).heap.size = w.heap.size + 1 by simp] at this
  rw [← e0]
  clear e0
  have C4 : Hid (CopyO lo w0 (.agg #[.int .i64 c, .int .i64 d, .slice (some ⟨b1, 0, none⟩) nW nW, .slice (some ⟨b2, 0, none⟩) nG nG, .slice (some ⟨b3, 0, none⟩) nA nA]) ⟨c, d, nW, Z, nG, G, nA, N, O⟩) := CopyO.below HC.out B1.out
  refine (oneOk_impl _ ⟨c, d, nW, Z, nG, G, nA, N, O⟩ HS.out _ C4.out.at).mono ?_
  rintro e w1 ⟨rfl, hb1⟩
  have B5 : Hid (Below w.heap.size w w1) := bthen B1.out hb1
  have A5 : Hid (Bk w1 w.heap.size [.int .i64 c, .int .i64 d, .slice (some ⟨b1, 0, none⟩) nW nW, .slice (some ⟨b2, 0, none⟩) nG nG, .slice (some ⟨b3, 0, none⟩) nA nA]) := A2.out.below hb1
  have R5 : Hid (Bk w1 (w.heap.size + 1) [.int .i64 0, .int .i64 0, .slice none 0 0, .slice none 0 0, .slice none 0 0]) := R3.out.below hb1
  have C5 : Hid (CopyO lo w1 (.agg #[.int .i64 c, .int .i64 d, .slice (some ⟨b1, 0, none⟩) nW nW, .slice (some ⟨b2, 0, none⟩) nG nG, .slice (some ⟨b3, 0, none⟩) nA nA]) ⟨c, d, nW, Z, nG, G, nA, N, O⟩) := C4.out.below hb1
  clear B1 A2 R3 C4
  clear hb1
  rw [hok]
  have yA0 : w1.cell? ⟨w.heap.size, 0, none⟩ = some (.int .i64 c) := (A5.out.2 0 (by simp)).1
  have zA0 : w1.frozen? ⟨w.heap.size, 0, none⟩ = false := (A5.out.2 0 (by simp)).2
  have yA1 : w1.cell? ⟨w.heap.size, 1, none⟩ = some (.int .i64 d) := (A5.out.2 1 (by simp)).1
  have zA1 : w1.frozen? ⟨w.heap.size, 1, none⟩ = false := (A5.out.2 1 (by simp)).2
  have yA2 : w1.cell? ⟨w.heap.size, 2, none⟩ = some (.slice (some ⟨b1, 0, none⟩) nW nW) := (A5.out.2 2 (by simp)).1
  have zA2 : w1.frozen? ⟨w.heap.size, 2, none⟩ = false := (A5.out.2 2 (by simp)).2
  have yA3 : w1.cell? ⟨w.heap.size, 3, none⟩ = some (.slice (some ⟨b2, 0, none⟩) nG nG) := (A5.out.2 3 (by simp)).1
  have zA3 : w1.frozen? ⟨w.heap.size, 3, none⟩ = false := (A5.out.2 3 (by simp)).2
  have yA4 : w1.cell? ⟨w.heap.size, 4, none⟩ = some (.slice (some ⟨b3, 0, none⟩) nA nA) := (A5.out.2 4 (by simp)).1
  have zA4 : w1.frozen? ⟨w.heap.size, 4, none⟩ = false := (A5.out.2 4 (by simp)).2
  have hlA : w.heap.size < w1.heap.size := A5.out.1
  have yR0 : w1.cell? ⟨(w.heap.size + 1), 0, none⟩ = some (.int .i64 0) := (R5.out.2 0 (by simp)).1
  have zR0 : w1.frozen? ⟨(w.heap.size + 1), 0, none⟩ = false := (R5.out.2 0 (by simp)).2
  have yR1 : w1.cell? ⟨(w.heap.size + 1), 1, none⟩ = some (.int .i64 0) := (R5.out.2 1 (by simp)).1
  have zR1 : w1.frozen? ⟨(w.heap.size + 1), 1, none⟩ = false := (R5.out.2 1 (by simp)).2
  have yR2 : w1.cell? ⟨(w.heap.size + 1), 2, none⟩ = some (.slice none 0 0) := (R5.out.2 2 (by simp)).1
  have zR2 : w1.frozen? ⟨(w.heap.size + 1), 2, none⟩ = false := (R5.out.2 2 (by simp)).2
  have yR3 : w1.cell? ⟨(w.heap.size + 1), 3, none⟩ = some (.slice none 0 0) := (R5.out.2 3 (by simp)).1
  have zR3 : w1.frozen? ⟨(w.heap.size + 1), 3, none⟩ = false := (R5.out.2 3 (by simp)).2
  have yR4 : w1.cell? ⟨(w.heap.size + 1), 4, none⟩ = some (.slice none 0 0) := (R5.out.2 4 (by simp)).1
  have zR4 : w1.frozen? ⟨(w.heap.size + 1), 4, none⟩ = false := (R5.out.2 4 (by simp)).2
  have hlR : (w.heap.size + 1) < w1.heap.size := R5.out.1
  have lwb0 := R5.out.1
  go_wp2_with fail
  refine (copyOne lo _ ⟨c, d, nW, Z, nG, G, nA, N, O⟩ HS.out hnG hnA (fun k hk => (BA.out k hk).1) _ C5.out).mono ?_
  rintro e w2 ⟨⟨v2, rfl, hO2⟩, hb2⟩
  clear yA0 zA0 yA1 zA1 yA2 zA2 yA3 zA3 yA4 zA4 hlA yR0 zR0 yR1 zR1 yR2 zR2 yR3 zR3 yR4 zR4 hlR
  have B6 : Hid (Below w.heap.size w w2) := bthen B5.out hb2
  have A6 : Hid (Bk w2 w.heap.size [.int .i64 c, .int .i64 d, .slice (some ⟨b1, 0, none⟩) nW nW, .slice (some ⟨b2, 0, none⟩) nG nG, .slice (some ⟨b3, 0, none⟩) nA nA]) := A5.out.below hb2
  have R6 : Hid (Bk w2 (w.heap.size + 1) [.int .i64 0, .int .i64 0, .slice none 0 0, .slice none 0 0, .slice none 0 0]) := R5.out.below hb2
  have C6 : Hid (CopyO lo w2 (.agg #[.int .i64 c, .int .i64 d, .slice (some ⟨b1, 0, none⟩) nW nW, .slice (some ⟨b2, 0, none⟩) nG nG, .slice (some ⟨b3, 0, none⟩) nA nA]) ⟨c, d, nW, Z, nG, G, nA, N, O⟩) := C5.out.below hb2
  clear B5 A5 R5 C5
  have z2 := hb2.size
  clear hb2
  obtain ⟨vW, vG, vA, gW, gG, gA, sl, xs, rfl, o1, o2, o3, o4, o5, o6⟩ := hO2
  simp only at o1 o2 o3 o5 o6
  obtain ⟨aW, cW, rfl, _⟩ := row_of_rw o1
  obtain ⟨cG, rfl, p1, p2, _, _⟩ : ∃ c, vG = .slice (some ⟨gG, 0, none⟩) nG c ∧ w1.heap.size ≤ gG ∧ gG < w2.heap.size ∧ True ∧ True := by
    rcases o2 with ⟨h, _⟩ | ⟨c, q1, q2, q3, _⟩
    · omega
    · exact ⟨c, q1, q2, q3, trivial, trivial⟩
  obtain ⟨cA, rfl, p3, p4, HSL⟩ : ∃ c, vA = .slice (some ⟨gA, 0, none⟩) nA c ∧ w1.heap.size ≤ gA ∧ gA < w2.heap.size ∧ Hid (∀ k, k < nA → RI w1.heap.size w2.heap.size w2 (sl k) (N k) (O k) (xs k)) := by
    rcases o3 with ⟨h, _⟩ | ⟨c, q1, q2, q3, _, q5⟩
    · omega
    · exact ⟨c, q1, q2, q3, fun k hk => (q5 k hk).2⟩
  obtain ⟨hi, ehi⟩ : ∃ t, t = w2.heap.size := ⟨_, rfl⟩
  obtain ⟨lw, elw⟩ : ∃ t, t = w1.heap.size := ⟨_, rfl⟩
  rw [← ehi, ← elw] at o1 o2 o3 HSL
  have hi1 : hi ≤ w2.heap.size := by omega
  have lw1 : lw ≤ w1.heap.size := by omega
  have lw2 : w1.heap.size ≤ lw := by omega
  have hi2 : w2.heap.size ≤ hi := by omega
  have lwb : w.heap.size + 1 < lw := by omega
  clear ehi elw
  have H4 : Hid (¬ gW = gG ∧ ¬ gW = gA ∧ ¬ gG = gA) := o4
  have H5 : Hid (∀ k, k < nA → ¬ xs k = gW ∧ ¬ xs k = gG ∧ ¬ xs k = gA) := o5
  have H6 : Hid (∀ i j, i < nA → j < nA → ¬ i = j → ¬ xs i = xs j) := o6
  clear o4 o5 o6
  have O1_7 : Hid (RW lw hi w2 (.slice aW nW cW) nW Z gW) := o1
  have O2_8 : Hid (RI lw hi w2 (.slice (some ⟨gG, 0, none⟩) nG cG) nG G gG) := o2
  have O3_9 : Hid (RO lw hi w2 (.slice (some ⟨gA, 0, none⟩) nA cA) nA N O gA sl xs) := o3
  clear o1 o2 o3
  have yA0 : w2.cell? ⟨w.heap.size, 0, none⟩ = some (.int .i64 c) := (A6.out.2 0 (by simp)).1
  have zA0 : w2.frozen? ⟨w.heap.size, 0, none⟩ = false := (A6.out.2 0 (by simp)).2
  have yA1 : w2.cell? ⟨w.heap.size, 1, none⟩ = some (.int .i64 d) := (A6.out.2 1 (by simp)).1
  have zA1 : w2.frozen? ⟨w.heap.size, 1, none⟩ = false := (A6.out.2 1 (by simp)).2
  have yA2 : w2.cell? ⟨w.heap.size, 2, none⟩ = some (.slice (some ⟨b1, 0, none⟩) nW nW) := (A6.out.2 2 (by simp)).1
  have zA2 : w2.frozen? ⟨w.heap.size, 2, none⟩ = false := (A6.out.2 2 (by simp)).2
  have yA3 : w2.cell? ⟨w.heap.size, 3, none⟩ = some (.slice (some ⟨b2, 0, none⟩) nG nG) := (A6.out.2 3 (by simp)).1
  have zA3 : w2.frozen? ⟨w.heap.size, 3, none⟩ = false := (A6.out.2 3 (by simp)).2
  have yA4 : w2.cell? ⟨w.heap.size, 4, none⟩ = some (.slice (some ⟨b3, 0, none⟩) nA nA) := (A6.out.2 4 (by simp)).1
  have zA4 : w2.frozen? ⟨w.heap.size, 4, none⟩ = false := (A6.out.2 4 (by simp)).2
  have hlA : w.heap.size < w2.heap.size := A6.out.1
  have yR0 : w2.cell? ⟨(w.heap.size + 1), 0, none⟩ = some (.int .i64 0) := (R6.out.2 0 (by simp)).1
  have zR0 : w2.frozen? ⟨(w.heap.size + 1), 0, none⟩ = false := (R6.out.2 0 (by simp)).2
  have yR1 : w2.cell? ⟨(w.heap.size + 1), 1, none⟩ = some (.int .i64 0) := (R6.out.2 1 (by simp)).1
  have zR1 : w2.frozen? ⟨(w.heap.size + 1), 1, none⟩ = false := (R6.out.2 1 (by simp)).2
  have yR2 : w2.cell? ⟨(w.heap.size + 1), 2, none⟩ = some (.slice none 0 0) := (R6.out.2 2 (by simp)).1
  have zR2 : w2.frozen? ⟨(w.heap.size + 1), 2, none⟩ = false := (R6.out.2 2 (by simp)).2
  have yR3 : w2.cell? ⟨(w.heap.size + 1), 3, none⟩ = some (.slice none 0 0) := (R6.out.2 3 (by simp)).1
  have zR3 : w2.frozen? ⟨(w.heap.size + 1), 3, none⟩ = false := (R6.out.2 3 (by simp)).2
  have yR4 : w2.cell? ⟨(w.heap.size + 1), 4, none⟩ = some (.slice none 0 0) := (R6.out.2 4 (by simp)).1
  have zR4 : w2.frozen? ⟨(w.heap.size + 1), 4, none⟩ = false := (R6.out.2 4 (by simp)).2
  have hlR : (w.heap.size + 1) < w2.heap.size := R6.out.1
  go_wp2_with fail
  obtain ⟨w3, e3⟩ : ∃ y, y = w2.alloc (.cells #[.int .i64 c, .int .i64 d, .slice aW nW cW, .slice (some ⟨gG, 0, none⟩) nG cG, .slice (some ⟨gA, 0, none⟩) nA cA] 34) := ⟨_, rfl⟩
  rw [← e3]
  have hb3 : Below w2.heap.size w2 w3 := by rw [e3]; exact (Below.refl _ _).alloc (Nat.le_refl _) _
  have X3 : Bk w3 w2.heap.size [.int .i64 c, .int .i64 d, .slice aW nW cW, .slice (some ⟨gG, 0, none⟩) nG cG, .slice (some ⟨gA, 0, none⟩) nA cA] := by rw [e3]; exact bk_new w2 34 [.int .i64 c, .int .i64 d, .slice aW nW cW, .slice (some ⟨gG, 0, none⟩) nG cG, .slice (some ⟨gA, 0, none⟩) nA cA]
  clear e3
  clear yA0 zA0 yA1 zA1 yA2 zA2 yA3 zA3 yA4 zA4 hlA yR0 zR0 yR1 zR1 yR2 zR2 yR3 zR3 yR4 zR4 hlR
  have B10 : Hid (Below w.heap.size w w3) := bthen B6.out hb3
  have A10 : Hid (Bk w3 w.heap.size [.int .i64 c, .int .i64 d, .slice (some ⟨b1, 0, none⟩) nW nW, .slice (some ⟨b2, 0, none⟩) nG nG, .slice (some ⟨b3, 0, none⟩) nA nA]) := A6.out.below hb3
  have R10 : Hid (Bk w3 (w.heap.size + 1) [.int .i64 0, .int .i64 0, .slice none 0 0, .slice none 0 0, .slice none 0 0]) := R6.out.below hb3
  have C10 : Hid (CopyO lo w3 (.agg #[.int .i64 c, .int .i64 d, .slice (some ⟨b1, 0, none⟩) nW nW, .slice (some ⟨b2, 0, none⟩) nG nG, .slice (some ⟨b3, 0, none⟩) nA nA]) ⟨c, d, nW, Z, nG, G, nA, N, O⟩) := C6.out.below hb3
  have O1_10 : Hid (RW lw hi w3 (.slice aW nW cW) nW Z gW) := O1_7.out.below hb3
  have O2_10 : Hid (RI lw hi w3 (.slice (some ⟨gG, 0, none⟩) nG cG) nG G gG) := O2_8.out.below hb3
  have O3_10 : Hid (RO lw hi w3 (.slice (some ⟨gA, 0, none⟩) nA cA) nA N O gA sl xs) := O3_9.out.below hb3
  clear B6 A6 R6 C6 O1_7 O2_8 O3_9
  clear hb3
  obtain ⟨gx, egx⟩ : ∃ g, g = w2.heap.size := ⟨_, rfl⟩
  rw [← egx] at X3 ⊢
  have gx1 : gx ≤ w2.heap.size := by omega
  have gx2 : w2.heap.size ≤ gx := by omega
  clear egx
  have X11 : Hid (Bk w3 gx [.int .i64 c, .int .i64 d, .slice aW nW cW, .slice (some ⟨gG, 0, none⟩) nG cG, .slice (some ⟨gA, 0, none⟩) nA cA]) := X3
  clear X3
  refine (canFall_impl _ ⟨c, d, nW, Z, nG, G, nA, N, O⟩ hok cell side n _ (OwnW.at (lo := lw) (hi := hi) ⟨_, _, _, gW, gG, gA, sl, xs, rfl, O1_10.out, O2_10.out, O3_10.out, H4.out, H5.out, H6.out⟩)).mono ?_
  rintro e w4 ⟨rfl, hb4⟩
  have B12 : Hid (Below w.heap.size w w4) := bthen B10.out hb4
  have A12 : Hid (Bk w4 w.heap.size [.int .i64 c, .int .i64 d, .slice (some ⟨b1, 0, none⟩) nW nW, .slice (some ⟨b2, 0, none⟩) nG nG, .slice (some ⟨b3, 0, none⟩) nA nA]) := A10.out.below hb4
  have R12 : Hid (Bk w4 (w.heap.size + 1) [.int .i64 0, .int .i64 0, .slice none 0 0, .slice none 0 0, .slice none 0 0]) := R10.out.below hb4
  have C12 : Hid (CopyO lo w4 (.agg #[.int .i64 c, .int .i64 d, .slice (some ⟨b1, 0, none⟩) nW nW, .slice (some ⟨b2, 0, none⟩) nG nG, .slice (some ⟨b3, 0, none⟩) nA nA]) ⟨c, d, nW, Z, nG, G, nA, N, O⟩) := C10.out.below hb4
  have O1_12 : Hid (RW lw hi w4 (.slice aW nW cW) nW Z gW) := O1_10.out.below hb4
  have O2_12 : Hid (RI lw hi w4 (.slice (some ⟨gG, 0, none⟩) nG cG) nG G gG) := O2_10.out.below hb4
  have O3_12 : Hid (RO lw hi w4 (.slice (some ⟨gA, 0, none⟩) nA cA) nA N O gA sl xs) := O3_10.out.below hb4
  have X12 : Hid (Bk w4 gx [.int .i64 c, .int .i64 d, .slice aW nW cW, .slice (some ⟨gG, 0, none⟩) nG cG, .slice (some ⟨gA, 0, none⟩) nA cA]) := X11.out.below hb4
  clear B10 A10 R10 C10 O1_10 O2_10 O3_10 X11
  clear hb4
  cases hm : OV.may ⟨c, d, nW, Z, nG, G, nA, N, O⟩ cell side n
  · have hdn : Hid (OV.down ⟨c, d, nW, Z, nG, G, nA, N, O⟩ cell side n = ⟨c, d, nW, Z, nG, G, nA, N, O⟩) := by unfold Hid; rw [OV.down, if_pos hok, if_neg (by rw [hm]; simp)]
    clear hm
    have yA0 : w4.cell? ⟨w.heap.size, 0, none⟩ = some (.int .i64 c) := (A12.out.2 0 (by simp)).1
    have zA0 : w4.frozen? ⟨w.heap.size, 0, none⟩ = false := (A12.out.2 0 (by simp)).2
    have yA1 : w4.cell? ⟨w.heap.size, 1, none⟩ = some (.int .i64 d) := (A12.out.2 1 (by simp)).1
    have zA1 : w4.frozen? ⟨w.heap.size, 1, none⟩ = false := (A12.out.2 1 (by simp)).2
    have yA2 : w4.cell? ⟨w.heap.size, 2, none⟩ = some (.slice (some ⟨b1, 0, none⟩) nW nW) := (A12.out.2 2 (by simp)).1
    have zA2 : w4.frozen? ⟨w.heap.size, 2, none⟩ = false := (A12.out.2 2 (by simp)).2
    have yA3 : w4.cell? ⟨w.heap.size, 3, none⟩ = some (.slice (some ⟨b2, 0, none⟩) nG nG) := (A12.out.2 3 (by simp)).1
    have zA3 : w4.frozen? ⟨w.heap.size, 3, none⟩ = false := (A12.out.2 3 (by simp)).2
    have yA4 : w4.cell? ⟨w.heap.size, 4, none⟩ = some (.slice (some ⟨b3, 0, none⟩) nA nA) := (A12.out.2 4 (by simp)).1
    have zA4 : w4.frozen? ⟨w.heap.size, 4, none⟩ = false := (A12.out.2 4 (by simp)).2
    have hlA : w.heap.size < w4.heap.size := A12.out.1
    have yR0 : w4.cell? ⟨(w.heap.size + 1), 0, none⟩ = some (.int .i64 0) := (R12.out.2 0 (by simp)).1
    have zR0 : w4.frozen? ⟨(w.heap.size + 1), 0, none⟩ = false := (R12.out.2 0 (by simp)).2
    have yR1 : w4.cell? ⟨(w.heap.size + 1), 1, none⟩ = some (.int .i64 0) := (R12.out.2 1 (by simp)).1
    have zR1 : w4.frozen? ⟨(w.heap.size + 1), 1, none⟩ = false := (R12.out.2 1 (by simp)).2
    have yR2 : w4.cell? ⟨(w.heap.size + 1), 2, none⟩ = some (.slice none 0 0) := (R12.out.2 2 (by simp)).1
    have zR2 : w4.frozen? ⟨(w.heap.size + 1), 2, none⟩ = false := (R12.out.2 2 (by simp)).2
    have yR3 : w4.cell? ⟨(w.heap.size + 1), 3, none⟩ = some (.slice none 0 0) := (R12.out.2 3 (by simp)).1
    have zR3 : w4.frozen? ⟨(w.heap.size + 1), 3, none⟩ = false := (R12.out.2 3 (by simp)).2
    have yR4 : w4.cell? ⟨(w.heap.size + 1), 4, none⟩ = some (.slice none 0 0) := (R12.out.2 4 (by simp)).1
    have zR4 : w4.frozen? ⟨(w.heap.size + 1), 4, none⟩ = false := (R12.out.2 4 (by simp)).2
    have hlR : (w.heap.size + 1) < w4.heap.size := R12.out.1
    have yX0 : w4.cell? ⟨gx, 0, none⟩ = some (.int .i64 c) := (X12.out.2 0 (by simp)).1
    have zX0 : w4.frozen? ⟨gx, 0, none⟩ = false := (X12.out.2 0 (by simp)).2
    have yX1 : w4.cell? ⟨gx, 1, none⟩ = some (.int .i64 d) := (X12.out.2 1 (by simp)).1
    have zX1 : w4.frozen? ⟨gx, 1, none⟩ = false := (X12.out.2 1 (by simp)).2
    have yX2 : w4.cell? ⟨gx, 2, none⟩ = some (.slice aW nW cW) := (X12.out.2 2 (by simp)).1
    have zX2 : w4.frozen? ⟨gx, 2, none⟩ = false := (X12.out.2 2 (by simp)).2
    have yX3 : w4.cell? ⟨gx, 3, none⟩ = some (.slice (some ⟨gG, 0, none⟩) nG cG) := (X12.out.2 3 (by simp)).1
    have zX3 : w4.frozen? ⟨gx, 3, none⟩ = false := (X12.out.2 3 (by simp)).2
    have yX4 : w4.cell? ⟨gx, 4, none⟩ = some (.slice (some ⟨gA, 0, none⟩) nA cA) := (X12.out.2 4 (by simp)).1
    have zX4 : w4.frozen? ⟨gx, 4, none⟩ = false := (X12.out.2 4 (by simp)).2
    have hlX : gx < w4.heap.size := X12.out.1
    go_wp2
    refine bodyPost_ret (v := .agg #[.int .i64 c, .int .i64 d, .slice aW nW cW, .slice (some ⟨gG, 0, none⟩) nG cG, .slice (some ⟨gA, 0, none⟩) nA cA]) (P6.results_mid (P := Try.prog) (fn := Try.f17) Try.results17 _ _ (w.heap.size + 1) [.int .i64 c, .int .i64 d, .slice aW nW cW, .slice (some ⟨gG, 0, none⟩) nG cG, .slice (some ⟨gA, 0, none⟩) nA cA] _ rfl (P6.Bk.range (Bk.set (j := 4) (v := .slice (some ⟨gA, 0, none⟩) nA cA) (Bk.set (j := 3) (v := .slice (some ⟨gG, 0, none⟩) nG cG) (Bk.set (j := 2) (v := .slice aW nW cW) (Bk.set (j := 1) (v := .int .i64 d) (Bk.set (j := 0) (v := .int .i64 c) R12.out (by simp)) (by simp)) (by simp)) (by simp)) (by simp))) Try.underlying34 rfl (by kernel_rfl)) rfl ⟨⟨_, rfl, by rw [hdn.out]; exact OwnW.wide2 (own_put5 (OwnW.mk O1_12.out O2_12.out O3_12.out H4.out H5.out H6.out) (show w.heap.size + 1 < lw by omega)) (by omega) (by rw [set_size, set_size, set_size, set_size, set_size]; omega) (Nat.le_refl _)⟩, (((((B12.out.setCell (by show w.heap.size ≤ w.heap.size + 1; omega) _).setCell (by show w.heap.size ≤ w.heap.size + 1; omega) _).setCell (by show w.heap.size ≤ w.heap.size + 1; omega) _).setCell (by show w.heap.size ≤ w.heap.size + 1; omega) _).setCell (by show w.heap.size ≤ w.heap.size + 1; omega) _)⟩
  · have hdn : Hid (OV.down ⟨c, d, nW, Z, nG, G, nA, N, O⟩ cell side n = OV.fell ⟨c, d, nW, Z, nG, G, nA, N, O⟩ cell.toNat side.toNat n) := by unfold Hid; rw [OV.down, if_pos hok, if_pos hm]
    have hm' : (hasB c d cell && (inB side 0 1 && (inB n 1 (O cell.toNat side.toNat) && decide (G cell.toNat + n ≤ 900)))) = true := hm
    simp only [Bool.and_eq_true, decide_eq_true_eq] at hm'
    obtain ⟨m1, m2, m3, m4⟩ := hm'
    obtain ⟨q1, q2, q3, q4, q5, q6⟩ := hasB_bounds m1
    obtain ⟨r1, r2⟩ := inB_true.1 m2
    obtain ⟨k, hck⟩ : ∃ k : Nat, cell = k := ⟨cell.toNat, by omega⟩
    obtain ⟨j, hcj⟩ : ∃ j : Nat, side = j := ⟨side.toNat, by omega⟩
    subst hck
    subst hcj
    simp only [Int.toNat_natCast, Hid] at m3 m4 hdn
    obtain ⟨n0, n1⟩ := inB_true.1 m3
    have hkA : k < nA := by have := EG.out; omega
    have hkG : k < nG := by have := EG.out; omega
    obtain ⟨hN2, hA2⟩ := BA.out k hkA
    obtain ⟨a0, a1⟩ := hA2 j (by omega)
    obtain ⟨g0, g1⟩ := BG.out k hkG
    obtain ⟨xc, exk, x1, x2, hxo⟩ : ∃ c, sl k = .slice (some ⟨xs k, 0, none⟩) 2 c ∧ lw ≤ xs k ∧ xs k < hi ∧ True := by
      rcases HSL.out k hkA with ⟨h, _⟩ | ⟨c, e1, e2, e3, _⟩
      · omega
      · exact ⟨c, by rw [e1, hN2], e2, e3, trivial⟩
    have hcA : w4.cell? ⟨gA, k, none⟩ = some (.slice (some ⟨xs k, 0, none⟩) 2 xc) := by
      rcases O3_12.out with ⟨h, _⟩ | ⟨_, _, _, _, _, q⟩
      · omega
      · rw [← exk]; exact (q k hkA).1
    obtain ⟨hcx, hfx⟩ : w4.cell? ⟨xs k, j, none⟩ = some (.int .i64 (O k j)) ∧ w4.frozen? ⟨xs k, j, none⟩ = false := by
      rcases O3_12.out with ⟨h, _⟩ | ⟨_, _, _, _, _, q⟩
      · omega
      · rcases (q k hkA).2 with ⟨h, _⟩ | ⟨_, _, _, _, _, u⟩
        · omega
        · exact ⟨u.2 j (by omega), (u.1 j (by omega)).2⟩
    obtain ⟨hcg, hfg⟩ : w4.cell? ⟨gG, k, none⟩ = some (.int .i64 (G k)) ∧ w4.frozen? ⟨gG, k, none⟩ = false := by
      rcases O2_12.out with ⟨h, _⟩ | ⟨_, _, _, _, _, u⟩
      · omega
      · exact ⟨u.2 k hkG, (u.1 k hkG).2⟩
    have hkA' : (k : Int) < nA := by omega
    have hkG' : (k : Int) < nG := by omega
    have hj' : (j : Int) < 2 := by omega
    have hw1 : IntKind.wrap .i64 (O k j - n) = O k j - n := by simp [IntKind.wrap, IntKind.bits, IntKind.signed]; omega
    have hw2 : IntKind.wrap .i64 (G k + n) = G k + n := by simp [IntKind.wrap, IntKind.bits, IntKind.signed]; omega
    have nxg := (H5.out k hkA).2.1
    have nxa := (H5.out k hkA).2.2
    have nga := H4.out.2.2
    have EXK : Hid (sl k = .slice (some ⟨xs k, 0, none⟩) 2 xc) := exk
    have HN2 : Hid (N k = 2) := hN2
    obtain ⟨xk, hxk⟩ : ∃ t, t = xs k := ⟨_, rfl⟩
    rw [← hxk] at hcA hcx hfx x1 x2 nxg nxa
    have HXK : Hid (xk = xs k) := hxk
    have HDN : Hid (OV.down ⟨c, d, nW, Z, nG, G, nA, N, O⟩ k j n = OV.fell ⟨c, d, nW, Z, nG, G, nA, N, O⟩ k j n) := hdn
    clear exk hN2 hxk hA2 hm m1 m2 m3 hdn
    have yA0 : w4.cell? ⟨w.heap.size, 0, none⟩ = some (.int .i64 c) := (A12.out.2 0 (by simp)).1
    have zA0 : w4.frozen? ⟨w.heap.size, 0, none⟩ = false := (A12.out.2 0 (by simp)).2
    have yA1 : w4.cell? ⟨w.heap.size, 1, none⟩ = some (.int .i64 d) := (A12.out.2 1 (by simp)).1
    have zA1 : w4.frozen? ⟨w.heap.size, 1, none⟩ = false := (A12.out.2 1 (by simp)).2
    have yA2 : w4.cell? ⟨w.heap.size, 2, none⟩ = some (.slice (some ⟨b1, 0, none⟩) nW nW) := (A12.out.2 2 (by simp)).1
    have zA2 : w4.frozen? ⟨w.heap.size, 2, none⟩ = false := (A12.out.2 2 (by simp)).2
    have yA3 : w4.cell? ⟨w.heap.size, 3, none⟩ = some (.slice (some ⟨b2, 0, none⟩) nG nG) := (A12.out.2 3 (by simp)).1
    have zA3 : w4.frozen? ⟨w.heap.size, 3, none⟩ = false := (A12.out.2 3 (by simp)).2
    have yA4 : w4.cell? ⟨w.heap.size, 4, none⟩ = some (.slice (some ⟨b3, 0, none⟩) nA nA) := (A12.out.2 4 (by simp)).1
    have zA4 : w4.frozen? ⟨w.heap.size, 4, none⟩ = false := (A12.out.2 4 (by simp)).2
    have hlA : w.heap.size < w4.heap.size := A12.out.1
    have yR0 : w4.cell? ⟨(w.heap.size + 1), 0, none⟩ = some (.int .i64 0) := (R12.out.2 0 (by simp)).1
    have zR0 : w4.frozen? ⟨(w.heap.size + 1), 0, none⟩ = false := (R12.out.2 0 (by simp)).2
    have yR1 : w4.cell? ⟨(w.heap.size + 1), 1, none⟩ = some (.int .i64 0) := (R12.out.2 1 (by simp)).1
    have zR1 : w4.frozen? ⟨(w.heap.size + 1), 1, none⟩ = false := (R12.out.2 1 (by simp)).2
    have yR2 : w4.cell? ⟨(w.heap.size + 1), 2, none⟩ = some (.slice none 0 0) := (R12.out.2 2 (by simp)).1
    have zR2 : w4.frozen? ⟨(w.heap.size + 1), 2, none⟩ = false := (R12.out.2 2 (by simp)).2
    have yR3 : w4.cell? ⟨(w.heap.size + 1), 3, none⟩ = some (.slice none 0 0) := (R12.out.2 3 (by simp)).1
    have zR3 : w4.frozen? ⟨(w.heap.size + 1), 3, none⟩ = false := (R12.out.2 3 (by simp)).2
    have yR4 : w4.cell? ⟨(w.heap.size + 1), 4, none⟩ = some (.slice none 0 0) := (R12.out.2 4 (by simp)).1
    have zR4 : w4.frozen? ⟨(w.heap.size + 1), 4, none⟩ = false := (R12.out.2 4 (by simp)).2
    have hlR : (w.heap.size + 1) < w4.heap.size := R12.out.1
    have yX0 : w4.cell? ⟨gx, 0, none⟩ = some (.int .i64 c) := (X12.out.2 0 (by simp)).1
    have zX0 : w4.frozen? ⟨gx, 0, none⟩ = false := (X12.out.2 0 (by simp)).2
    have yX1 : w4.cell? ⟨gx, 1, none⟩ = some (.int .i64 d) := (X12.out.2 1 (by simp)).1
    have zX1 : w4.frozen? ⟨gx, 1, none⟩ = false := (X12.out.2 1 (by simp)).2
    have yX2 : w4.cell? ⟨gx, 2, none⟩ = some (.slice aW nW cW) := (X12.out.2 2 (by simp)).1
    have zX2 : w4.frozen? ⟨gx, 2, none⟩ = false := (X12.out.2 2 (by simp)).2
    have yX3 : w4.cell? ⟨gx, 3, none⟩ = some (.slice (some ⟨gG, 0, none⟩) nG cG) := (X12.out.2 3 (by simp)).1
    have zX3 : w4.frozen? ⟨gx, 3, none⟩ = false := (X12.out.2 3 (by simp)).2
    have yX4 : w4.cell? ⟨gx, 4, none⟩ = some (.slice (some ⟨gA, 0, none⟩) nA cA) := (X12.out.2 4 (by simp)).1
    have zX4 : w4.frozen? ⟨gx, 4, none⟩ = false := (X12.out.2 4 (by simp)).2
    have hlX : gx < w4.heap.size := X12.out.1
    go_upto_region 7 with fail
    obtain ⟨w5, e5⟩ : ∃ y, y = (w4.setCell ⟨xk, j, none⟩ (.int .i64 (O k j - n))).setCell ⟨gG, k, none⟩ (.int .i64 (G k + n)) := ⟨_, rfl⟩
    rw [← e5]
    have OW5 : Hid (OwnW lw hi w5 (.agg #[.int .i64 c, .int .i64 d, .slice aW nW cW, .slice (some ⟨gG, 0, none⟩) nG cG, .slice (some ⟨gA, 0, none⟩) nA cA]) (OV.fell ⟨c, d, nW, Z, nG, G, nA, N, O⟩ k j n)) := own_fell (V := ⟨c, d, nW, Z, nG, G, nA, N, O⟩) O1_12.out O2_12.out O3_12.out H4.out H5.out H6.out hkA hkG (by show j < N k; rw [HN2.out]; omega) (by rw [e5, HXK.out])
    have R5 : Hid (Bk w5 (w.heap.size + 1) [.int .i64 0, .int .i64 0, .slice none 0 0, .slice none 0 0, .slice none 0 0]) := by rw [e5]; exact (R12.out.far (by omega)).far (by omega)
    have X5 : Hid (Bk w5 gx [.int .i64 c, .int .i64 d, .slice aW nW cW, .slice (some ⟨gG, 0, none⟩) nG cG, .slice (some ⟨gA, 0, none⟩) nA cA]) := by rw [e5]; exact (X12.out.far (by omega)).far (by omega)
    have B5 : Hid (Below w.heap.size w w5) := by rw [e5]; exact (B12.out.setCell (by show w.heap.size ≤ xk; omega) _).setCell (by show w.heap.size ≤ gG; omega) _
    have z5 : hi ≤ w5.heap.size := by rw [e5, set_size, set_size]; have := X12.out.1; omega
    clear e5 hcA hcx hfx hcg hfg
    clear yA0 zA0 yA1 zA1 yA2 zA2 yA3 zA3 yA4 zA4 hlA yR0 zR0 yR1 zR1 yR2 zR2 yR3 zR3 yR4 zR4 hlR yX0 zX0 yX1 zX1 yX2 zX2 yX3 zX3 yX4 zX4 hlX
    have yR0 : w5.cell? ⟨(w.heap.size + 1), 0, none⟩ = some (.int .i64 0) := (R5.out.2 0 (by simp)).1
    have zR0 : w5.frozen? ⟨(w.heap.size + 1), 0, none⟩ = false := (R5.out.2 0 (by simp)).2
    have yR1 : w5.cell? ⟨(w.heap.size + 1), 1, none⟩ = some (.int .i64 0) := (R5.out.2 1 (by simp)).1
    have zR1 : w5.frozen? ⟨(w.heap.size + 1), 1, none⟩ = false := (R5.out.2 1 (by simp)).2
    have yR2 : w5.cell? ⟨(w.heap.size + 1), 2, none⟩ = some (.slice none 0 0) := (R5.out.2 2 (by simp)).1
    have zR2 : w5.frozen? ⟨(w.heap.size + 1), 2, none⟩ = false := (R5.out.2 2 (by simp)).2
    have yR3 : w5.cell? ⟨(w.heap.size + 1), 3, none⟩ = some (.slice none 0 0) := (R5.out.2 3 (by simp)).1
    have zR3 : w5.frozen? ⟨(w.heap.size + 1), 3, none⟩ = false := (R5.out.2 3 (by simp)).2
    have yR4 : w5.cell? ⟨(w.heap.size + 1), 4, none⟩ = some (.slice none 0 0) := (R5.out.2 4 (by simp)).1
    have zR4 : w5.frozen? ⟨(w.heap.size + 1), 4, none⟩ = false := (R5.out.2 4 (by simp)).2
    have hlR : (w.heap.size + 1) < w5.heap.size := R5.out.1
    have yX0 : w5.cell? ⟨gx, 0, none⟩ = some (.int .i64 c) := (X5.out.2 0 (by simp)).1
    have zX0 : w5.frozen? ⟨gx, 0, none⟩ = false := (X5.out.2 0 (by simp)).2
    have yX1 : w5.cell? ⟨gx, 1, none⟩ = some (.int .i64 d) := (X5.out.2 1 (by simp)).1
    have zX1 : w5.frozen? ⟨gx, 1, none⟩ = false := (X5.out.2 1 (by simp)).2
    have yX2 : w5.cell? ⟨gx, 2, none⟩ = some (.slice aW nW cW) := (X5.out.2 2 (by simp)).1
    have zX2 : w5.frozen? ⟨gx, 2, none⟩ = false := (X5.out.2 2 (by simp)).2
    have yX3 : w5.cell? ⟨gx, 3, none⟩ = some (.slice (some ⟨gG, 0, none⟩) nG cG) := (X5.out.2 3 (by simp)).1
    have zX3 : w5.frozen? ⟨gx, 3, none⟩ = false := (X5.out.2 3 (by simp)).2
    have yX4 : w5.cell? ⟨gx, 4, none⟩ = some (.slice (some ⟨gA, 0, none⟩) nA cA) := (X5.out.2 4 (by simp)).1
    have zX4 : w5.frozen? ⟨gx, 4, none⟩ = false := (X5.out.2 4 (by simp)).2
    have hlX : gx < w5.heap.size := X5.out.1
    go_wp2
    refine bodyPost_ret (v := .agg #[.int .i64 c, .int .i64 d, .slice aW nW cW, .slice (some ⟨gG, 0, none⟩) nG cG, .slice (some ⟨gA, 0, none⟩) nA cA]) (P6.results_mid (P := Try.prog) (fn := Try.f17) Try.results17 _ _ (w.heap.size + 1) [.int .i64 c, .int .i64 d, .slice aW nW cW, .slice (some ⟨gG, 0, none⟩) nG cG, .slice (some ⟨gA, 0, none⟩) nA cA] _ rfl (P6.Bk.range (Bk.set (j := 4) (v := .slice (some ⟨gA, 0, none⟩) nA cA) (Bk.set (j := 3) (v := .slice (some ⟨gG, 0, none⟩) nG cG) (Bk.set (j := 2) (v := .slice aW nW cW) (Bk.set (j := 1) (v := .int .i64 d) (Bk.set (j := 0) (v := .int .i64 c) R5.out (by simp)) (by simp)) (by simp)) (by simp)) (by simp))) Try.underlying34 rfl (by kernel_rfl)) rfl ⟨⟨_, rfl, by rw [HDN.out]; exact OwnW.wide2 (own_put5 OW5.out (show w.heap.size + 1 < lw by omega)) (by omega) (by rw [set_size, set_size, set_size, set_size, set_size]; omega) (Nat.le_refl _)⟩, (((((B5.out.setCell (by show w.heap.size ≤ w.heap.size + 1; omega) _).setCell (by show w.heap.size ≤ w.heap.size + 1; omega) _).setCell (by show w.heap.size ≤ w.heap.size + 1; omega) _).setCell (by show w.heap.size ≤ w.heap.size + 1; omega) _).setCell (by show w.heap.size ≤ w.heap.size + 1; omega) _)⟩
end Go.Proofs.Ytoickljpjlhkoaa
