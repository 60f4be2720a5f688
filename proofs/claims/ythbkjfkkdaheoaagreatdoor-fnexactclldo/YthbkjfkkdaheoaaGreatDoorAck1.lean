/- letGo: parcels that have come are let go of, in a scene; conditions: the scene lies in memory. -/
import Derived.Test.YthbkjfkkdaheoaaGreatDoorScn
import Derived.Test.YthbkjfkkdaheoaaGreatDoorCAck0
namespace Go.Proofs.YthbkjfkkdaheoaaGreatDoor
open Go.RowKit Go.Deep
set_option linter.unusedVariables false
def ackB (V : CV) (q : Nat) (z : Int) : Bool := !(decide (V.X q < z) || decide ((P8.rest (V.O q) (V.N q) z).length = V.N q))
def CV.after (V : CV) (q : Nat) (z : Int) : CV := if ackB V q z then V.ack q z else V
theorem RW.go {lo hi lo' hi' : Nat} {w w' : World} {v : Value} {n : Nat} {Z : Nat → Nat → Int} {g : Nat} (h : RW lo hi w v n Z g) (h0 : lo' ≤ lo) (h1 : hi ≤ hi') (h2 : hi' ≤ w'.heap.size) (k : n ≠ 0 → lo ≤ g → g < hi → Sm w w' g) : RW lo' hi' w' v n Z g := by
  by_cases e : n = 0
  · rcases h with h | ⟨c, a1, _⟩
    · exact .inl h
    · exact .inl ⟨e, _, c, by rw [a1, e]⟩
  · rcases h with h | ⟨c, a1, a2, a3, a4, a5⟩
    · exact absurd h.1 e
    · exact .inr ⟨c, a1, by omega, by omega, h2, own5_sm a5 (k e a2 a3)⟩
theorem RW.in {lo hi : Nat} {w : World} {v : Value} {n : Nat} {Z : Nat → Nat → Int} {g : Nat} (h : RW lo hi w v n Z g) (e : n ≠ 0) : lo ≤ g ∧ g < hi := by
  rcases h with h | ⟨c, a1, a2, a3, _⟩
  · exact absurd h.1 e
  · exact ⟨a2, a3⟩
theorem RW.is {lo hi : Nat} {w : World} {v : Value} {n : Nat} {Z : Nat → Nat → Int} {g : Nat} (h : RW lo hi w v n Z g) : ∃ a c, v = .slice a n c ∧ (n ≠ 0 → a = some ⟨g, 0, none⟩) := by
  rcases h with ⟨e, a, c, h⟩ | ⟨c, h, _⟩
  · exact ⟨a, c, by rw [h, e], fun h => absurd e h⟩
  · exact ⟨_, c, h, fun _ => rfl⟩
theorem RP.go {lo hi lo' hi' : Nat} {w w' : World} {v : Value} {n : Nat} {Z : Nat → Nat → Int} {g : Nat} (h : RP lo hi w v n Z g) (h0 : lo' ≤ lo) (h1 : hi ≤ hi') (h2 : hi' ≤ w'.heap.size) (k : n ≠ 0 → lo ≤ g → g < hi → Sm w w' g) : RP lo' hi' w' v n Z g := by
  by_cases e : n = 0
  · rcases h with h | ⟨c, a1, _⟩
    · exact .inl h
    · exact .inl ⟨e, _, c, by rw [a1, e]⟩
  · rcases h with h | ⟨c, a1, a2, a3, a4, a5⟩
    · exact absurd h.1 e
    · exact .inr ⟨c, a1, by omega, by omega, h2, own8_sm a5 (k e a2 a3)⟩
theorem RP.in {lo hi : Nat} {w : World} {v : Value} {n : Nat} {Z : Nat → Nat → Int} {g : Nat} (h : RP lo hi w v n Z g) (e : n ≠ 0) : lo ≤ g ∧ g < hi := by
  rcases h with h | ⟨c, a1, a2, a3, _⟩
  · exact absurd h.1 e
  · exact ⟨a2, a3⟩
theorem RP.is {lo hi : Nat} {w : World} {v : Value} {n : Nat} {Z : Nat → Nat → Int} {g : Nat} (h : RP lo hi w v n Z g) : ∃ a c, v = .slice a n c ∧ (n ≠ 0 → a = some ⟨g, 0, none⟩) := by
  rcases h with ⟨e, a, c, h⟩ | ⟨c, h, _⟩
  · exact ⟨a, c, by rw [h, e], fun h => absurd e h⟩
  · exact ⟨_, c, h, fun _ => rfl⟩
theorem RPR.go {lo hi lo' hi' : Nat} {w w' : World} {v : Value} {n : Nat} {Z : Nat → Nat → Int} {g : Nat} (h : RPR lo hi w v n Z g) (h0 : lo' ≤ lo) (h1 : hi ≤ hi') (h2 : hi' ≤ w'.heap.size) (k : n ≠ 0 → lo ≤ g → g < hi → Sm w w' g) : RPR lo' hi' w' v n Z g :=
  ⟨h.1.go h0 h1 h2 k, h.2.sm h0 h1 (fun g' c e hn a b => by have e2 := h.1.blk hn e; subst e2; exact k hn a b)⟩
theorem RPR.in {lo hi : Nat} {w : World} {v : Value} {n : Nat} {Z : Nat → Nat → Int} {g : Nat} (h : RPR lo hi w v n Z g) (e : n ≠ 0) : lo ≤ g ∧ g < hi := h.1.in e
theorem RPR.is {lo hi : Nat} {w : World} {v : Value} {n : Nat} {Z : Nat → Nat → Int} {g : Nat} (h : RPR lo hi w v n Z g) : ∃ a c, v = .slice a n c ∧ (n ≠ 0 → a = some ⟨g, 0, none⟩) := h.1.is
theorem RI.go {lo hi lo' hi' : Nat} {w w' : World} {v : Value} {n : Nat} {Z : Nat → Int} {g : Nat} (h : RI lo hi w v n Z g) (h0 : lo' ≤ lo) (h1 : hi ≤ hi') (h2 : hi' ≤ w'.heap.size) (k : n ≠ 0 → lo ≤ g → g < hi → Sm w w' g) : RI lo' hi' w' v n Z g := by
  by_cases e : n = 0
  · rcases h with h | ⟨c, a1, _⟩
    · exact .inl h
    · exact .inl ⟨e, _, c, by rw [a1, e]⟩
  · rcases h with h | ⟨c, a1, a2, a3, a4, a5⟩
    · exact absurd h.1 e
    · exact .inr ⟨c, a1, by omega, by omega, h2, own1_sm a5 (k e a2 a3)⟩
theorem RI.in {lo hi : Nat} {w : World} {v : Value} {n : Nat} {Z : Nat → Int} {g : Nat} (h : RI lo hi w v n Z g) (e : n ≠ 0) : lo ≤ g ∧ g < hi := by
  rcases h with h | ⟨c, a1, a2, a3, _⟩
  · exact absurd h.1 e
  · exact ⟨a2, a3⟩
def Sc (w : World) (c d : Int) (s b lo : Nat) (V : CV) (n : Nat) (M : Int → Option (Nat → Int)) : Prop :=
  ∃ (aW : Option Addr) (kW kO : Nat) (aX : Option Addr) (kX : Nat) (aI : Option Addr) (kI gW gO gX gI : Nat) (sl : Nat → Value) (xs : Nat → Nat),
    Nine w s [.int .i64 c, .int .i64 d, .int .i64 V.c, .slice aW V.nW kW, .int .i64 V.g, .slice (some ⟨gO, 0, none⟩) V.nO kO, .slice aX V.nX kX, .slice aI V.nI kI, .map (some b)] ∧ RW lo w.heap.size w (.slice aW V.nW kW) V.nW V.W gW ∧ RI lo w.heap.size w (.slice aX V.nX kX) V.nX V.X gX ∧ RI lo w.heap.size w (.slice aI V.nI kI) V.nI V.I gI ∧
    (∀ k, k < V.nO → w.cell? ⟨gO, k, none⟩ = some (sl k) ∧ w.frozen? ⟨gO, k, none⟩ = false ∧ RPR lo w.heap.size w (sl k) (V.N k) (V.O k) (xs k)) ∧ Wm w b n M ∧
    (lo ≤ gO ∧ gO < w.heap.size ∧ lo ≤ s ∧ s < w.heap.size ∧ lo ≤ b ∧ ¬ s = b ∧ ¬ gO = s ∧ ¬ gO = b) ∧
    ((V.nW ≠ 0 → ¬ gW = s ∧ ¬ gW = b ∧ ¬ gW = gO) ∧ (V.nX ≠ 0 → ¬ gX = s ∧ ¬ gX = b ∧ ¬ gO = gX) ∧ (V.nI ≠ 0 → ¬ gI = s ∧ ¬ gI = b ∧ ¬ gO = gI) ∧ (V.nW ≠ 0 → V.nX ≠ 0 → ¬ gW = gX) ∧ (V.nW ≠ 0 → V.nI ≠ 0 → ¬ gW = gI) ∧ (V.nX ≠ 0 → V.nI ≠ 0 → ¬ gX = gI)) ∧
    (∀ k, k < V.nO → V.N k ≠ 0 → (¬ xs k = s ∧ ¬ xs k = b ∧ ¬ xs k = gO) ∧ (V.nW ≠ 0 → ¬ xs k = gW) ∧ (V.nX ≠ 0 → ¬ xs k = gX) ∧ (V.nI ≠ 0 → ¬ xs k = gI)) ∧
    (∀ i j, i < j → j < V.nO → V.N i ≠ 0 → V.N j ≠ 0 → ¬ xs i = xs j)
theorem Scn.sc {w : World} {c d : Int} {s b lc hc lo : Nat} {V : CV} {n : Nat} {M : Int → Option (Nat → Int)} (h : Scn w c d s b lc hc V n M) (h0 : V.nO ≠ 0) (h1 : lo ≤ lc) (h2 : lo ≤ s) (h3 : lo ≤ b) : Sc w c d s b lo V n M := by
  obtain ⟨⟨aW, kW, aO, kO, aX, kX, aI, kI, hN, hO, hT⟩, hM, hsw, hsb, hlh, hhw, hbo, hso⟩ := h
  obtain ⟨vW, vO, vX, vI, gW, gO, gX, gI, sl, xs, e, rW, rO, rX, rI, hd, hx1, hx2⟩ := hO
  obtain ⟨rfl, rfl, rfl, rfl⟩ := agg6 e
  rcases rO with ⟨e0, _⟩ | ⟨co, e1, l1, l2, _, hc1⟩
  · exact absurd e0 h0
  simp only [Value.slice.injEq, true_and] at e1
  obtain ⟨rfl, rfl⟩ := e1
  obtain ⟨t1, t2, t3, t4⟩ := hT _ _ _ gO V.nO kO _ _ rfl
  have sm : ∀ g, Sm w w g := fun g => Sm.refl w g
  refine ⟨aW, kW, kO, aX, kX, aI, kI, gW, gO, gX, gI, sl, xs, hN, rW.go h1 hhw (Nat.le_refl _) (fun _ _ _ => sm _), rX.go h1 hhw (Nat.le_refl _) (fun _ _ _ => sm _), rI.go h1 hhw (Nat.le_refl _) (fun _ _ _ => sm _), fun k hk => ⟨(hc1 k hk).1, t3 k hk, RPR.go ⟨(hc1 k hk).2, by obtain ⟨a2, c2, e2⟩ := (hc1 k hk).2.shape'; exact t4 k _ a2 (V.N k) c2 hk (hc1 k hk).1 e2⟩ h1 hhw (Nat.le_refl _) (fun _ _ _ => sm _)⟩, hM, ⟨by omega, by omega, h2, hsw, h3, hsb, by omega, by omega⟩, ⟨fun e => ?_, fun e => ?_, fun e => ?_, fun _ _ => hd.2.1, fun _ _ => hd.2.2.1, fun _ _ => hd.2.2.2.2.2⟩, fun k hk e => ?_, fun i j hij hj _ _ => hx2 i j (by omega) hj (by omega)⟩
  · have := rW.in e; exact ⟨by omega, by omega, hd.1⟩
  · have := rX.in e; exact ⟨by omega, by omega, hd.2.2.2.1⟩
  · have := rI.in e; exact ⟨by omega, by omega, hd.2.2.2.2.1⟩
  · have := (hc1 k hk).2.in e
    have h := hx1 k hk
    exact ⟨⟨by omega, by omega, h.2.1⟩, fun _ => h.1, fun _ => h.2.2.1, fun _ => h.2.2.2⟩
theorem Nine.sm {w w' : World} {s : Nat} {l : List Value} (h : Nine w s l) (k : Sm w w' s) : Nine w' s l := fun i hi => by rw [(k i).1, (k i).2]; exact h i hi
theorem Sc.below {w w' : World} {c d : Int} {s b lo : Nat} {V : CV} {n : Nat} {M : Int → Option (Nat → Int)} (h : Sc w c d s b lo V n M) (hb : Below w.heap.size w w') : Sc w' c d s b lo V n M := by
  obtain ⟨aW, kW, kO, aX, kX, aI, kI, gW, gO, gX, gI, sl, xs, hN, rW, rX, rI, hO, hM, ⟨l1, l2, l3, l4, l5, l6, l7, l8⟩, hd, hx1, hx2⟩ := h
  have hz := hb.size
  exact ⟨aW, kW, kO, aX, kX, aI, kI, gW, gO, gX, gI, sl, xs, hN.sm (sm_below hb l4), rW.go (Nat.le_refl _) hz (Nat.le_refl _) (fun _ _ h => sm_below hb h), rX.go (Nat.le_refl _) hz (Nat.le_refl _) (fun _ _ h => sm_below hb h), rI.go (Nat.le_refl _) hz (Nat.le_refl _) (fun _ _ h => sm_below hb h),
    fun k hk => ⟨(sm_below hb l2 k).1.trans (hO k hk).1, (sm_below hb l2 k).2.trans (hO k hk).2.1, (hO k hk).2.2.go (Nat.le_refl _) hz (Nat.le_refl _) (fun _ _ h => sm_below hb h)⟩, hM.below hM.lt hb, ⟨l1, by omega, l3, by omega, l5, l6, l7, l8⟩, hd, hx1, hx2⟩
end Go.Proofs.YthbkjfkkdaheoaaGreatDoor
