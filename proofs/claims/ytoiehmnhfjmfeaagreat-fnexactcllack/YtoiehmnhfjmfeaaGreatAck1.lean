/- letGo: parcels that have come are let go of, in a scene; conditions: the scene lies in memory. -/
import Derived.Test.YtoiehmnhfjmfeaaGreatScn
import Derived.Test.YtoiehmnhfjmfeaaGreatCAck0
namespace Go.Proofs.YtoiehmnhfjmfeaaGreat
open Go.RowKit Go.Deep
set_option linter.unusedVariables false

theorem rp_ofL {w : World} {base lo : Nat} {v : Value} {L : List Nat} {Z : Nat → Nat → Int} (h : w.ownsRow base 45 8 v L.length (L.flatMap (P8.eight Z))) (hlo : lo ≤ base) : ∃ g c a, v = .slice a L.length c ∧ base ≤ g ∧ RP lo w.heap.size w v L.length (fun k j => Z L[k]! j) g := by
  rcases h.2 with ⟨e, hl⟩ | ⟨g, cap, cur, hv, _⟩
  · exact ⟨base, 0, none, by rw [e, hl], Nat.le_refl _, .inl ⟨hl, none, 0, e⟩⟩
  · have ho : w.ownsRow base 45 8 (.slice (some ⟨g, 0, none⟩) L.length cap) L.length (L.flatMap (P8.eight Z)) := by rw [← hv]; exact h
    refine ⟨g, cap, _, hv, (ho.lt g rfl).1, .inr ⟨cap, hv, Nat.le_trans hlo (ho.lt g rfl).1, (ho.lt g rfl).2, Nat.le_refl _, fun i hi => ⟨?_, ho.frozenAt i⟩, fun k j hk hj => ?_⟩⟩
    · rw [ho.cellAt i hi]
      have : i < (L.flatMap (P8.eight Z)).length := by rw [ho.1]; exact hi
      rw [List.getElem?_eq_getElem this]
      rfl
    · rw [ho.cellAt (k * 8 + j) (by omega), P8.get_flat (m := 8) (P8.eight Z) (fun _ => rfl) L k j hk hj]
      match j, hj with
      | 0, _ => rfl
      | 1, _ => rfl
      | 2, _ => rfl
      | 3, _ => rfl
      | 4, _ => rfl
      | 5, _ => rfl
      | 6, _ => rfl
      | 7, _ => rfl

theorem from_impl0 (z : Int) (a : Option Addr) (c : Nat) (w : World) :
    Calls Tryz.prog 69 #[.slice a 0 c, .int .i64 z] w fun e w' => e = .returned (.slice none 0 0) ∧ w' = w := by
  go_enter Tryz.func69, Tryz.ntmps69
  go_wp2
  go_loopw [5, 10] (fun s i wr => s = .slice none 0 0 ∧ i = .int .i64 0 ∧ wr = w) (fun _ _ _ => 0)
  case atStart => exact ⟨rfl, rfl, rfl⟩
  case round =>
    obtain ⟨rfl, rfl, rfl⟩ := hrel
    go_wp2
    go_ret
    exact ⟨rfl, rfl⟩

theorem from_any (z : Int) (lo hi : Nat) (v : Value) (n : Nat) (Z : Nat → Nat → Int) (g : Nat) (hn : n ≤ 1048576) (w : World) (h : RP lo hi w v n Z g) :
    Calls Tryz.prog 69 #[v, .int .i64 z] w fun e w' => (∃ u, e = .returned u ∧ P8.Walks w' w.heap.size u (P8.rest Z n z) Z) ∧ Below w.heap.size w w' := by
  rcases h with ⟨rfl, a, c, rfl⟩ | ⟨c, rfl, h1, h2, h3, h4⟩
  · refine (from_impl0 z a c w).mono ?_
    rintro e w' ⟨rfl, rfl⟩
    exact ⟨⟨_, rfl, World.ownsRow_nil _ _ _ _⟩, Below.refl _ _⟩
  · refine (P8.from_impl z g 0 n c Z hn w (by omega) (P8.own_row h4)).mono ?_
    rintro e w' ⟨u, rfl, hu, hb⟩
    exact ⟨⟨u, rfl, hu⟩, hb⟩

/-- Whether parcels of side q below number z are let go of. -/
def ackB (V : CV) (q : Nat) (z : Int) : Bool := !(decide (V.X q < z) || decide ((P8.rest (V.O q) (V.N q) z).length = V.N q))
def CV.after (V : CV) (q : Nat) (z : Int) : CV := if ackB V q z then V.ack q z else V

theorem RW.go {lo hi lo' hi' : Nat} {w w' : World} {v : Value} {n : Nat} {Z : Nat → Nat → Int} {g : Nat} (h : RW lo hi w v n Z g) (h0 : lo' ≤ lo) (h1 : hi ≤ hi') (h2 : hi' ≤ w'.heap.size) (k : n ≠ 0 → lo ≤ g → g < hi → Sm w w' g) : RW lo' hi' w' v n Z g := by
  by_cases e : n = 0
  · rcases h with h | ⟨c, a1, _⟩
    · exact .inl h
    · exact .inl ⟨e, _, c, by rw [a1, e]⟩
  · rcases h with h | ⟨c, a1, a2, a3, a4, a5⟩
    · exact absurd h.1 e
    · exact .inr ⟨c, a1, by omega, by omega, h2, own5_sm a5 (k e a2 a3)⟩
theorem RW.in {lo hi : Nat} {w : World} {v : Value} {n : Nat} {Z : Nat → Nat → Int} {g : Nat} (h : RW lo hi w v n Z g) (e : n ≠ 0) : lo ≤ g ∧ g < hi := by
  rcases h with h | ⟨c, a1, a2, a3, _⟩
  · exact absurd h.1 e
  · exact ⟨a2, a3⟩
theorem RW.is {lo hi : Nat} {w : World} {v : Value} {n : Nat} {Z : Nat → Nat → Int} {g : Nat} (h : RW lo hi w v n Z g) : ∃ a c, v = .slice a n c ∧ (n ≠ 0 → a = some ⟨g, 0, none⟩) := by
  rcases h with ⟨e, a, c, h⟩ | ⟨c, h, _⟩
  · exact ⟨a, c, by rw [h, e], fun h => absurd e h⟩
  · exact ⟨_, c, h, fun _ => rfl⟩
theorem RP.go {lo hi lo' hi' : Nat} {w w' : World} {v : Value} {n : Nat} {Z : Nat → Nat → Int} {g : Nat} (h : RP lo hi w v n Z g) (h0 : lo' ≤ lo) (h1 : hi ≤ hi') (h2 : hi' ≤ w'.heap.size) (k : n ≠ 0 → lo ≤ g → g < hi → Sm w w' g) : RP lo' hi' w' v n Z g := by
  by_cases e : n = 0
  · rcases h with h | ⟨c, a1, _⟩
    · exact .inl h
    · exact .inl ⟨e, _, c, by rw [a1, e]⟩
  · rcases h with h | ⟨c, a1, a2, a3, a4, a5⟩
    · exact absurd h.1 e
    · exact .inr ⟨c, a1, by omega, by omega, h2, own8_sm a5 (k e a2 a3)⟩
theorem RP.in {lo hi : Nat} {w : World} {v : Value} {n : Nat} {Z : Nat → Nat → Int} {g : Nat} (h : RP lo hi w v n Z g) (e : n ≠ 0) : lo ≤ g ∧ g < hi := by
  rcases h with h | ⟨c, a1, a2, a3, _⟩
  · exact absurd h.1 e
  · exact ⟨a2, a3⟩
theorem RP.is {lo hi : Nat} {w : World} {v : Value} {n : Nat} {Z : Nat → Nat → Int} {g : Nat} (h : RP lo hi w v n Z g) : ∃ a c, v = .slice a n c ∧ (n ≠ 0 → a = some ⟨g, 0, none⟩) := by
  rcases h with ⟨e, a, c, h⟩ | ⟨c, h, _⟩
  · exact ⟨a, c, by rw [h, e], fun h => absurd e h⟩
  · exact ⟨_, c, h, fun _ => rfl⟩
theorem RI.go {lo hi lo' hi' : Nat} {w w' : World} {v : Value} {n : Nat} {Z : Nat → Int} {g : Nat} (h : RI lo hi w v n Z g) (h0 : lo' ≤ lo) (h1 : hi ≤ hi') (h2 : hi' ≤ w'.heap.size) (k : n ≠ 0 → lo ≤ g → g < hi → Sm w w' g) : RI lo' hi' w' v n Z g := by
  by_cases e : n = 0
  · rcases h with h | ⟨c, a1, _⟩
    · exact .inl h
    · exact .inl ⟨e, _, c, by rw [a1, e]⟩
  · rcases h with h | ⟨c, a1, a2, a3, a4, a5⟩
    · exact absurd h.1 e
    · exact .inr ⟨c, a1, by omega, by omega, h2, own1_sm a5 (k e a2 a3)⟩
theorem RI.in {lo hi : Nat} {w : World} {v : Value} {n : Nat} {Z : Nat → Int} {g : Nat} (h : RI lo hi w v n Z g) (e : n ≠ 0) : lo ≤ g ∧ g < hi := by
  rcases h with h | ⟨c, a1, a2, a3, _⟩
  · exact absurd h.1 e
  · exact ⟨a2, a3⟩
theorem RI.is {lo hi : Nat} {w : World} {v : Value} {n : Nat} {Z : Nat → Int} {g : Nat} (h : RI lo hi w v n Z g) : ∃ a c, v = .slice a n c ∧ (n ≠ 0 → a = some ⟨g, 0, none⟩) := by
  rcases h with ⟨e, a, c, h⟩ | ⟨c, h, _⟩
  · exact ⟨a, c, by rw [h, e], fun h => absurd e h⟩
  · exact ⟨_, c, h, fun _ => rfl⟩

/-- A scene as it stands behind something that happened: as Scn, its lists wherever they lie, from lo on, no two in one block, none in the scene's or the map's. -/
def Sc (w : World) (c d : Int) (s b lo : Nat) (V : CV) (n : Nat) (M : Int → Option (Nat → Int)) : Prop :=
  ∃ (aW : Option Addr) (kW kO : Nat) (aX : Option Addr) (kX : Nat) (aI : Option Addr) (kI gW gO gX gI : Nat) (sl : Nat → Value) (xs : Nat → Nat),
    Nine w s [.int .i64 c, .int .i64 d, .int .i64 V.c, .slice aW V.nW kW, .int .i64 V.g, .slice (some ⟨gO, 0, none⟩) V.nO kO, .slice aX V.nX kX, .slice aI V.nI kI, .map (some b)] ∧ RW lo w.heap.size w (.slice aW V.nW kW) V.nW V.W gW ∧ RI lo w.heap.size w (.slice aX V.nX kX) V.nX V.X gX ∧ RI lo w.heap.size w (.slice aI V.nI kI) V.nI V.I gI ∧
    (∀ k, k < V.nO → w.cell? ⟨gO, k, none⟩ = some (sl k) ∧ w.frozen? ⟨gO, k, none⟩ = false ∧ RP lo w.heap.size w (sl k) (V.N k) (V.O k) (xs k)) ∧ Wm w b n M ∧
    (lo ≤ gO ∧ gO < w.heap.size ∧ lo ≤ s ∧ s < w.heap.size ∧ lo ≤ b ∧ ¬ s = b ∧ ¬ gO = s ∧ ¬ gO = b) ∧
    ((V.nW ≠ 0 → ¬ gW = s ∧ ¬ gW = b ∧ ¬ gW = gO) ∧ (V.nX ≠ 0 → ¬ gX = s ∧ ¬ gX = b ∧ ¬ gO = gX) ∧ (V.nI ≠ 0 → ¬ gI = s ∧ ¬ gI = b ∧ ¬ gO = gI) ∧ (V.nW ≠ 0 → V.nX ≠ 0 → ¬ gW = gX) ∧ (V.nW ≠ 0 → V.nI ≠ 0 → ¬ gW = gI) ∧ (V.nX ≠ 0 → V.nI ≠ 0 → ¬ gX = gI)) ∧
    (∀ k, k < V.nO → V.N k ≠ 0 → (¬ xs k = s ∧ ¬ xs k = b ∧ ¬ xs k = gO) ∧ (V.nW ≠ 0 → ¬ xs k = gW) ∧ (V.nX ≠ 0 → ¬ xs k = gX) ∧ (V.nI ≠ 0 → ¬ xs k = gI)) ∧
    (∀ i j, i < j → j < V.nO → V.N i ≠ 0 → V.N j ≠ 0 → ¬ xs i = xs j)

theorem Scn.sc {w : World} {c d : Int} {s b lc hc lo : Nat} {V : CV} {n : Nat} {M : Int → Option (Nat → Int)} (h : Scn w c d s b lc hc V n M) (h0 : V.nO ≠ 0) (h1 : lo ≤ lc) (h2 : lo ≤ s) (h3 : lo ≤ b) : Sc w c d s b lo V n M := by
  obtain ⟨⟨aW, kW, aO, kO, aX, kX, aI, kI, hN, hO, hT⟩, hM, hsw, hsb, hlh, hhw, hbo, hso⟩ := h
  obtain ⟨vW, vO, vX, vI, gW, gO, gX, gI, sl, xs, e, rW, rO, rX, rI, hd, hx1, hx2⟩ := hO
  obtain ⟨rfl, rfl, rfl, rfl⟩ := agg6 e
  rcases rO with ⟨e0, _⟩ | ⟨co, e1, l1, l2, _, hc1⟩
  · exact absurd e0 h0
  simp only [Value.slice.injEq, true_and] at e1
  obtain ⟨rfl, rfl⟩ := e1
  obtain ⟨t1, t2, t3⟩ := hT _ _ _ gO V.nO kO _ _ rfl
  have sm : ∀ g, Sm w w g := fun g => Sm.refl w g
  refine ⟨aW, kW, kO, aX, kX, aI, kI, gW, gO, gX, gI, sl, xs, hN, rW.go h1 hhw (Nat.le_refl _) (fun _ _ _ => sm _), rX.go h1 hhw (Nat.le_refl _) (fun _ _ _ => sm _), rI.go h1 hhw (Nat.le_refl _) (fun _ _ _ => sm _), fun k hk => ⟨(hc1 k hk).1, t3 k hk, (hc1 k hk).2.go h1 hhw (Nat.le_refl _) (fun _ _ _ => sm _)⟩, hM, ⟨by omega, by omega, h2, hsw, h3, hsb, by omega, by omega⟩, ⟨fun e => ?_, fun e => ?_, fun e => ?_, fun _ _ => hd.2.1, fun _ _ => hd.2.2.1, fun _ _ => hd.2.2.2.2.2⟩, fun k hk e => ?_, fun i j hij hj _ _ => hx2 i j (by omega) hj (by omega)⟩
  · have := rW.in e; exact ⟨by omega, by omega, hd.1⟩
  · have := rX.in e; exact ⟨by omega, by omega, hd.2.2.2.1⟩
  · have := rI.in e; exact ⟨by omega, by omega, hd.2.2.2.2.1⟩
  · have := (hc1 k hk).2.in e
    have h := hx1 k hk
    exact ⟨⟨by omega, by omega, h.2.1⟩, fun _ => h.1, fun _ => h.2.2.1, fun _ => h.2.2.2⟩

theorem Nine.sm {w w' : World} {s : Nat} {l : List Value} (h : Nine w s l) (k : Sm w w' s) : Nine w' s l := fun i hi => by rw [(k i).1, (k i).2]; exact h i hi
theorem Sc.below {w w' : World} {c d : Int} {s b lo : Nat} {V : CV} {n : Nat} {M : Int → Option (Nat → Int)} (h : Sc w c d s b lo V n M) (hb : Below w.heap.size w w') : Sc w' c d s b lo V n M := by
  obtain ⟨aW, kW, kO, aX, kX, aI, kI, gW, gO, gX, gI, sl, xs, hN, rW, rX, rI, hO, hM, ⟨l1, l2, l3, l4, l5, l6, l7, l8⟩, hd, hx1, hx2⟩ := h
  have hz := hb.size
  exact ⟨aW, kW, kO, aX, kX, aI, kI, gW, gO, gX, gI, sl, xs, hN.sm (sm_below hb l4), rW.go (Nat.le_refl _) hz (Nat.le_refl _) (fun _ _ h => sm_below hb h), rX.go (Nat.le_refl _) hz (Nat.le_refl _) (fun _ _ h => sm_below hb h), rI.go (Nat.le_refl _) hz (Nat.le_refl _) (fun _ _ h => sm_below hb h),
    fun k hk => ⟨(sm_below hb l2 k).1.trans (hO k hk).1, (sm_below hb l2 k).2.trans (hO k hk).2.1, (hO k hk).2.2.go (Nat.le_refl _) hz (Nat.le_refl _) (fun _ _ h => sm_below hb h)⟩, hM.below hM.lt hb, ⟨l1, by omega, l3, by omega, l5, l6, l7, l8⟩, hd, hx1, hx2⟩

set_option maxHeartbeats 4000000 in
theorem letGo_impl (c d : Int) (s b lo : Nat) (V : CV) (n : Nat) (M : Int → Option (Nat → Int)) (q : Nat) (z : Int) (hs0 : V.short 1048576) (hqO : q < V.nO) (hqX : q < V.nX) (w : World) (h : Sc w c d s b lo V n M) :
    Calls Tryz.prog 43 #[.pointer (some ⟨s, 0, none⟩), .int .i64 (q : Int), .int .i64 z] w fun e w' => e = .returned (.bool (ackB V q z)) ∧ Sc w' c d s b lo (V.after q z) n M ∧ Below lo w w' := by
  have SC : Hid (Sc w c d s b lo V n M) := h
  obtain ⟨aW, kW, kO, aX, kX, aI, kI, gW, gO, gX, gI, sl, xs, hN, rW, rX, rI, hO, hM, ⟨l1, l2, l3, l4, l5, l6, l7, l8⟩, hd, hx1, hx2⟩ := h
  have hlo : lo ≤ w.heap.size := by omega
  obtain ⟨qa, qc, eq, _⟩ := (hO q hqO).2.2.is
  obtain ⟨_, _, ex, hax⟩ := rX.is
  simp only [Value.slice.injEq, true_and] at ex
  obtain ⟨rfl, rfl⟩ := ex
  obtain rfl := hax (by omega)
  have lX : lo ≤ gX ∧ gX < w.heap.size := rX.in (by omega)
  have OX : Hid (Own1 w gX V.nX V.X V.nX) := by rcases rX with h | ⟨_, _, _, _, _, h⟩; omega; exact h
  have HP : Hid (RP lo w.heap.size w (.slice qa (V.N q) qc) (V.N q) (V.O q) (xs q)) := by rw [← eq]; exact (hO q hqO).2.2
  have NI : Hid (Nine w s [.int .i64 c, .int .i64 d, .int .i64 V.c, .slice aW V.nW kW, .int .i64 V.g, .slice (some ⟨gO, 0, none⟩) V.nO kO, .slice (some ⟨gX, 0, none⟩) V.nX kX, .slice aI V.nI kI, .map (some b)]) := hN
  have n5 : w.cell? ⟨s, 5, none⟩ = some (.slice (some ⟨gO, 0, none⟩) V.nO kO) := (hN 5 (by decide)).1
  have oq : w.cell? ⟨gO, q, none⟩ = some (.slice qa (V.N q) qc) := by rw [← eq]; exact (hO q hqO).1
  have fq : w.frozen? ⟨gO, q, none⟩ = false := (hO q hqO).2.1
  have hq1 : (q : Int) < V.nO := by omega
  have hq2 : (q : Int) < V.nX := by omega
  have RWH : Hid (RW lo w.heap.size w (.slice aW V.nW kW) V.nW V.W gW) := rW
  have RXH : Hid (RI lo w.heap.size w (.slice (some ⟨gX, 0, none⟩) V.nX kX) V.nX V.X gX) := rX
  have RIH : Hid (RI lo w.heap.size w (.slice aI V.nI kI) V.nI V.I gI) := rI
  have OH : Hid _ := hO
  have MH : Hid (Wm w b n M) := hM
  have DH : Hid _ := hd
  have X1 : Hid _ := hx1
  have X2 : Hid _ := hx2
  clear hN rW rX rI hO hM hd hx1 hx2
  go_enter Tryz.func43, Tryz.ntmps43
  go_wp2_with fail
  refine (from_any z lo w.heap.size _ (V.N q) (V.O q) (xs q) (hs0.2.2.1 q hqO) w HP.out).mono ?_
  rintro e w1 ⟨⟨u, rfl, hu⟩, hb1⟩
  obtain ⟨g', uc, ua, hue, hg', hRP⟩ := rp_ofL (lo := w.heap.size) hu (Nat.le_refl _)
  subst hue
  have z1 : w.heap.size ≤ w1.heap.size := hb1.size
  have S1 : Hid (Sc w1 c d s b lo V n M) := SC.out.below hb1
  have n6 : w1.cell? ⟨s, 6, none⟩ = some (.slice (some ⟨gX, 0, none⟩) V.nX kX) := (hb1.cell (p := ⟨s, 6, none⟩) l4).trans (NI.out 6 (by decide)).1
  have n5' : w1.cell? ⟨s, 5, none⟩ = some (.slice (some ⟨gO, 0, none⟩) V.nO kO) := (hb1.cell (p := ⟨s, 5, none⟩) l4).trans n5
  have xq : w1.cell? ⟨gX, q, none⟩ = some (.int .i64 (V.X q)) := (hb1.cell (p := ⟨gX, q, none⟩) lX.2).trans (OX.out.2 q hqX)
  have ls : s < w1.heap.size := by omega
  have lgX : gX < w1.heap.size := by omega
  have lgO : gO < w1.heap.size := by omega
  have HB1 : Hid (Below w.heap.size w w1) := hb1
  have HRP : Hid _ := hRP
  obtain ⟨r, hr⟩ : ∃ r, r = (P8.rest (V.O q) (V.N q) z).length := ⟨_, rfl⟩
  rw [← hr]
  have HR : Hid (r = (P8.rest (V.O q) (V.N q) z).length) := hr
  clear hr hu hRP hb1 n5
  by_cases hz : V.X q < z
  · have hA : ackB V q z = false := by simp [ackB, hz]
    go_wp2
    go_ret
    exact ⟨by rw [hA]; rfl, by rw [show V.after q z = V by simp [CV.after, hA]]; exact S1.out, HB1.out.mono hlo⟩
  have hz1 : decide (V.X q < z) = false := by simp; omega
  by_cases hrr : (r : Int) = (V.N q : Int)
  · have hA : ackB V q z = false := by have := HR.out; simp [ackB]; omega
    go_wp2
    go_ret
    exact ⟨by rw [hA]; rfl, by rw [show V.after q z = V by simp [CV.after, hA]]; exact S1.out, HB1.out.mono hlo⟩
  have hA : ackB V q z = true := by have := HR.out; simp [ackB]; omega
  have oq' : w1.cell? ⟨gO, q, none⟩ = some (.slice qa (V.N q) qc) := (HB1.out.cell (p := ⟨gO, q, none⟩) l2).trans oq
  have fq' : w1.frozen? ⟨gO, q, none⟩ = false := (HB1.out.frozen (p := ⟨gO, q, none⟩) l2).trans fq
  clear oq fq
  have hr1 : ((r : Int) == (V.N q : Int)) = false := by simp; omega
  clear hrr hz
  go_wp2
  go_ret
  refine ⟨by rw [hA]; rfl, ?_, (HB1.out.mono hlo).setCell l1 _⟩
  rw [show V.after q z = V.ack q z by simp [CV.after, hA]]
  have hS : ∀ x, ¬ gO = x → Sm w1 (w1.setCell ⟨gO, q, none⟩ (.slice ua r uc)) x := fun x hx o => ⟨set_out (fun e => hx e.1), set_frozen⟩
  have hSw : ∀ x, x < w.heap.size → ¬ gO = x → Sm w (w1.setCell ⟨gO, q, none⟩ (.slice ua r uc)) x := fun x h1 h2 => (sm_below HB1.out h1).trans (hS x h2)
  have hz2 : (w1.setCell ⟨gO, q, none⟩ (.slice ua r uc)).heap.size = w1.heap.size := set_size
  obtain ⟨d1, d2, d3, d4, d5, d6⟩ := DH.out
  have e0 : (V.ack q z).N q = r := by rw [HR.out]; simp [CV.ack]
  have e1 : ∀ k, ¬ k = q → (V.ack q z).N k = V.N k := fun k hk => by simp [CV.ack, hk]
  have e2 : ∀ k, ¬ k = q → (V.ack q z).O k = V.O k := fun k hk => by simp [CV.ack, hk]
  have e3 : (V.ack q z).O q = fun i j => V.O q (P8.rest (V.O q) (V.N q) z)[i]! j := by simp [CV.ack]
  have hR2 : RP w.heap.size w1.heap.size w1 (.slice ua r uc) r ((V.ack q z).O q) g' := by rw [e3, HR.out]; exact HRP.out
  have inX := fun e => RXH.out.in e
  have inW := fun e => RWH.out.in e
  have inI := fun e => RIH.out.in e
  refine ⟨aW, kW, kO, _, kX, aI, kI, gW, gO, gX, gI, fun k => if k = q then .slice ua r uc else sl k, fun k => if k = q then g' else xs k, NI.out.sm (hSw s l4 (fun e => l7 e)),
    RWH.out.go (Nat.le_refl _) (by omega) (Nat.le_refl _) (fun e _ h => hSw _ h (fun h => (d1 e).2.2 h.symm)), RXH.out.go (Nat.le_refl _) (by omega) (Nat.le_refl _) (fun e _ h => hSw _ h (d2 e).2.2), RIH.out.go (Nat.le_refl _) (by omega) (Nat.le_refl _) (fun e _ h => hSw _ h (d3 e).2.2),
    fun k hk => ?_, ?_, ⟨l1, by omega, l3, by omega, l5, l6, l7, l8⟩, ⟨d1, d2, d3, d4, d5, d6⟩, fun k hk e => ?_, fun i j hij hj n1 n2 => ?_⟩
  · by_cases e : k = q
    · subst e
      simp only [if_true]
      refine ⟨set_in (by rw [oq']; rfl), set_frozen.trans fq', ?_⟩
      rw [e0]
      exact hR2.go (by omega) (by omega) (Nat.le_refl _) (fun _ h1 h2 => hS _ (by omega))
    · have hk' : k < V.nO := hk
      obtain ⟨u1, u2, u3⟩ := OH.out k hk'
      simp only [if_neg e]
      rw [e1 k e, e2 k e]
      refine ⟨(set_out (fun h => e h.2.symm)).trans ((HB1.out.cell (p := ⟨gO, k, none⟩) l2).trans u1), set_frozen.trans ((HB1.out.frozen (p := ⟨gO, k, none⟩) l2).trans u2), u3.go (Nat.le_refl _) (by omega) (Nat.le_refl _) (fun e' _ h => hSw _ h (fun h' => (X1.out k hk' e').1.2.2 h'.symm))⟩
  · have m1 : Wm w1 b n M := MH.out.below MH.out.lt HB1.out
    obtain ⟨es, clock, hb, r⟩ := m1
    exact ⟨es, clock, (Below.heap_setCell w1 ⟨gO, q, none⟩ _ b (fun e => l8 e.symm)).trans hb, r⟩
  · by_cases e' : k = q
    · subst e'
      simp only [if_true]
      exact ⟨⟨by omega, by have := MH.out.lt; omega, by omega⟩, fun h => by have := inW h; omega, fun h => by have := inX h; omega, fun h => by have := inI h; omega⟩
    · simp only [if_neg e']
      rw [e1 k e'] at e
      exact X1.out k hk e
  · have hlt : ∀ k, k < V.nO → V.N k ≠ 0 → xs k < w.heap.size := fun k hk e => ((OH.out k hk).2.2.in e).2
    have hj' : j < V.nO := hj
    by_cases ei : i = q
    · subst ei
      have ej : ¬ j = i := by omega
      simp only [if_true, if_neg ej]
      rw [e1 j ej] at n2
      have := hlt j hj' n2
      omega
    · simp only [if_neg ei]
      rw [e1 i ei] at n1
      by_cases ej : j = q
      · subst ej
        simp only [if_true]
        have := hlt i (by omega) n1
        omega
      · simp only [if_neg ej]
        rw [e1 j ej] at n2
        exact X2.out i j hij hj' n1 n2

end Go.Proofs.YtoiehmnhfjmfeaaGreat
