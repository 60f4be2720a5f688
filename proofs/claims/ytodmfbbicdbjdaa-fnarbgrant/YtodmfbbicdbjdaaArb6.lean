/- ArbNew of the model; conditions: none. -/
import Derived.Test.YtodmfbbicdbjdaaArb5
import Derived.Maps.AppendAt
namespace Go.Proofs.Ytodmfbbicdbjdaa
open Go.RowKit Go.Deep
set_option linter.unusedVariables false

theorem own_shape {w : World} {base e m n : Nat} {v : Value} {xs : List Value} (h : w.ownsRow base e m v n xs) : ∃ a l c, v = .slice a l c := by
  rcases h.2 with ⟨e, _⟩ | ⟨g, cap, cur, hv, _⟩
  · exact ⟨_, _, _, e⟩
  · exact ⟨_, _, _, hv⟩
theorem grown_of_below {w w' : World} (h : Below w.heap.size w w') : w.grownBy w' none := ⟨h.os, h.tape, h.output, h.size, fun k hk _ => h.block k hk⟩
theorem own_keep {w w' : World} {base e m n : Nat} {v : Value} {xs : List Value} (h : w.ownsRow base e m v n xs) (hb : Below w.heap.size w w') : w'.ownsRow base e m v n xs :=
  World.ownsRow.kept h (grown_of_below hb) (by cases e : v.ownBlock <;> simp)
theorem own_set {w : World} {base e m n g j : Nat} {v u : Value} {xs : List Value} (h : w.ownsRow base e m v n xs) (hg : g < base) : (w.setCell ⟨g, j, none⟩ u).ownsRow base e m v n xs := by
  refine World.ownsRow.kept h (set_grown w g j u).1 ?_
  cases e : v.ownBlock with
  | none => exact .inl rfl
  | some kk => exact .inr (fun e2 => by have := (h.lt kk e).1; injection e2 with e2; omega)
/-- v is a list of k times z that the call owns. -/
def Rep (w : World) (base : Nat) (v : Value) (k : Nat) (z : Int) : Prop := w.ownsRow base 3 1 v k (List.replicate k (.int .i64 z))
theorem rep_ri {w : World} {base n : Nat} {v : Value} {z : Int} (h : Rep w base v n z) : ∃ g, RI base w.heap.size w v n (fun _ => z) g ∧ (v.ownBlock = none ∨ v.ownBlock = some g) := by
  refine ri_of_own ?_
  have e : (List.range n).flatMap (one1 (fun _ => z)) = List.replicate n (.int .i64 z) := by
    clear h
    induction n with
    | zero => rfl
    | succ n ih => rw [List.range_succ, List.flatMap_append, ih, List.replicate_succ']; rfl
  rw [e]; exact h
theorem cells_one (w : World) (z : Int) : ∀ j u, ([Value.int .i64 z] : List Value)[j]? = some u → (w.alloc (.cells #[.int .i64 z] 3)).cell? ((⟨w.heap.size, 0, none⟩ : Addr).add j) = some u := by
  intro j u hj
  match j, hj with
  | 0, hj => simp at hj; subst hj; simp [Addr.add]
  | j + 1, hj => simp at hj

theorem ri_any {lo hi : Nat} {w : World} {v : Value} {X : Nat → Int} {g g' : Nat} (h : RI lo hi w v 0 X g) : RI lo hi w v 0 X g' := by
  rcases h with h | ⟨c, h1, _⟩
  · exact .inl h
  · exact .inl ⟨rfl, _, c, h1⟩
theorem ownT_of {base lo : Nat} {w : World} {v0 v1 : Value} {T : TV} {g0 g1 : Nat} (r0 : RI base w.heap.size w v0 T.nS T.S g0) (r1 : RI base w.heap.size w v1 T.nA T.A g1) (e0 : v0.ownBlock = none ∨ v0.ownBlock = some g0) (e1 : v1.ownBlock = none ∨ v1.ownBlock = some g1)
    (h : ∀ b, v0.ownBlock = some b → ¬ v1.ownBlock = some b) (hl : lo ≤ base) : OwnT lo w.heap.size w (.agg #[v0, v1]) T := by
  have m : ∀ {v n X g}, RI base w.heap.size w v n X g → RI lo w.heap.size w v n X g := fun h => by
    rcases h with h | ⟨c, q1, q2, q3, q4, q5⟩
    · exact .inl h
    · exact .inr ⟨c, q1, by omega, q3, q4, q5⟩
  by_cases hn : g0 = g1
  · subst hn
    have z : ∀ {v n X g}, RI base w.heap.size w v n X g → v.ownBlock = none → n = 0 := fun h e => by
      rcases h with ⟨h, _⟩ | ⟨c, q1, _⟩
      · exact h
      · rw [q1] at e; simp [Value.ownBlock] at e
    rcases e0 with e0 | e0
    · have q := z r0 e0
      obtain ⟨nS, S', nA, A'⟩ := T
      simp only at q r0 r1
      subst q
      exact ⟨v0, v1, g0 + 1, g0, rfl, m (ri_any r0), m r1, by omega⟩
    · rcases e1 with e1 | e1
      · have q := z r1 e1
        obtain ⟨nS, S', nA, A'⟩ := T
        simp only at q r0 r1
        subst q
        exact ⟨v0, v1, g0, g0 + 1, rfl, m r0, m (ri_any r1), by omega⟩
      · exact absurd e1 (h g0 e0)
  · exact ⟨v0, v1, g0, g1, rfl, m r0, m r1, hn⟩

set_option maxHeartbeats 4000000 in
theorem arbNew_spec (c d : Int) (w : World) :
    Calls Try.prog 25 #[.agg #[.int .i64 c, .int .i64 d]] w fun e w' => (∃ v, e = .returned v ∧ OwnT w.heap.size w'.heap.size w' v (newT c d)) ∧ Below w.heap.size w w' := by
  go_enter Try.func25, Try.ntmps25
  go_wp2_with fail
  obtain ⟨w0, e0⟩ : ∃ w0, w0 = ((w.alloc (.cells #[.int .i64 c, .int .i64 d] 24)).alloc (.cells #[.slice none 0 0, .slice none 0 0] 27)).alloc (.cells #[.slice none 0 0, .slice none 0 0] 27) := ⟨_, rfl⟩
  have B1 : Hid (Below w.heap.size w w0) := by rw [e0]; exact (((Below.refl _ _).alloc (by simp) _).alloc (by simp) _).alloc (by simp; omega) _
  have M2 : Hid (Bk w0 w.heap.size [.int .i64 c, .int .i64 d]) := by rw [e0]; exact ((bk_new w 24 [.int .i64 c, .int .i64 d]).below ((Below.refl _ _).alloc (Nat.le_refl _) _)).below ((Below.refl _ _).alloc (Nat.le_refl _) _)
  have R3 : Hid (Bk w0 (w.heap.size + 1) [.slice none 0 0, .slice none 0 0]) := by rw [e0]; have := (bk_new (w.alloc (.cells #[.int .i64 c, .int .i64 d] 24)) 27 [.slice none 0 0, .slice none 0 0]).below ((Below.refl _ _).alloc (Nat.le_refl _) (.cells #[.slice none 0 0, .slice none 0 0] 27)); rwa [show (w.alloc (.cells #[.int .i64 c, .int .i64 d] 24)).heap.size = w.heap.size + 1 by simp] at this
  have T4 : Hid (Bk w0 (w.heap.size + 1 + 1) [.slice none 0 0, .slice none 0 0]) := by rw [e0]; have := bk_new ((w.alloc (.cells #[.int .i64 c, .int .i64 d] 24)).alloc (.cells #[.slice none 0 0, .slice none 0 0] 27)) 27 [.slice none 0 0, .slice none 0 0]; rwa [show ((w.alloc (.cells #[.int .i64 c, .int .i64 d] 24)).alloc (.cells #[.slice none 0 0, .slice none 0 0] 27)).heap.size = w.heap.size + 1 + 1 by simp] at this
  rw [← e0]
  clear e0
  refine (ok_spec c d _).mono ?_
  rintro e w1 ⟨rfl, hb1⟩
  have B5 : Hid (Below w.heap.size w w1) := bthen B1.out hb1
  have M5 : Hid (Bk w1 w.heap.size [.int .i64 c, .int .i64 d]) := M2.out.below hb1
  have R5 : Hid (Bk w1 (w.heap.size + 1) [.slice none 0 0, .slice none 0 0]) := R3.out.below hb1
  have T5 : Hid (Bk w1 (w.heap.size + 1 + 1) [.slice none 0 0, .slice none 0 0]) := T4.out.below hb1
  clear B1 M2 R3 T4
  clear hb1
  have yM0 : w1.cell? ⟨w.heap.size, 0, none⟩ = some (.int .i64 c) := (M5.out.2 0 (by simp)).1
  have zM0 : w1.frozen? ⟨w.heap.size, 0, none⟩ = false := (M5.out.2 0 (by simp)).2
  have yM1 : w1.cell? ⟨w.heap.size, 1, none⟩ = some (.int .i64 d) := (M5.out.2 1 (by simp)).1
  have zM1 : w1.frozen? ⟨w.heap.size, 1, none⟩ = false := (M5.out.2 1 (by simp)).2
  have hlM : w.heap.size < w1.heap.size := M5.out.1
  have yR0 : w1.cell? ⟨(w.heap.size + 1), 0, none⟩ = some (.slice none 0 0) := (R5.out.2 0 (by simp)).1
  have zR0 : w1.frozen? ⟨(w.heap.size + 1), 0, none⟩ = false := (R5.out.2 0 (by simp)).2
  have yR1 : w1.cell? ⟨(w.heap.size + 1), 1, none⟩ = some (.slice none 0 0) := (R5.out.2 1 (by simp)).1
  have zR1 : w1.frozen? ⟨(w.heap.size + 1), 1, none⟩ = false := (R5.out.2 1 (by simp)).2
  have hlR : (w.heap.size + 1) < w1.heap.size := R5.out.1
  have yT0 : w1.cell? ⟨(w.heap.size + 1 + 1), 0, none⟩ = some (.slice none 0 0) := (T5.out.2 0 (by simp)).1
  have zT0 : w1.frozen? ⟨(w.heap.size + 1 + 1), 0, none⟩ = false := (T5.out.2 0 (by simp)).2
  have yT1 : w1.cell? ⟨(w.heap.size + 1 + 1), 1, none⟩ = some (.slice none 0 0) := (T5.out.2 1 (by simp)).1
  have zT1 : w1.frozen? ⟨(w.heap.size + 1 + 1), 1, none⟩ = false := (T5.out.2 1 (by simp)).2
  have hlT : (w.heap.size + 1 + 1) < w1.heap.size := T5.out.1
  cases hok : okB c d
  · have hv : newT c d = TV.zero := by simp [newT, hok]
    go_wp2
    refine bodyPost_ret (v := .agg #[.slice none 0 0, .slice none 0 0]) (by simp [results, Try.results25, go_sem, *]) rfl ?_
    exact ⟨⟨_, rfl, by rw [hv]; exact ownT_zero _ _ _⟩, (B5.out.setCell (by simp) _).setCell (by simp) _⟩
  obtain ⟨n, hcn, hn4⟩ : ∃ n : Nat, c = n ∧ n ≤ 4 := ⟨c.toNat, by have := okB_in hok; omega, by have := okB_in hok; omega⟩
  subst hcn
  have HV : Hid (newT n d = ⟨n, fun _ => -1, n, fun _ => 0⟩) := by show newT n d = _; simp [newT, hok]
  obtain ⟨i5, hi5, hzz⟩ := Option.map_eq_some_iff.1 Try.info3
  simp only [Prod.mk.injEq] at hzz
  obtain ⟨hz50, hz51, hz52⟩ := hzz
  have h1T : w.heap.size + 1 + 1 < w1.heap.size := hlT
  go_wp2
  clear yM0 zM0 yM1 zM1 hlM yR0 zR0 yR1 zR1 hlR yT0 zT0 yT1 zT1 hlT
  go_loopw [4] (fun i wr => ∃ (k : Nat) (a0 a1 : Option Addr) (l0 l1 c0 c1 : Nat), k ≤ n ∧ i = .int .i64 k ∧ Bk wr w.heap.size [.int .i64 (n : Int), .int .i64 d] ∧ Bk wr (w.heap.size + 1) [.slice none 0 0, .slice none 0 0] ∧ Bk wr (w.heap.size + 1 + 1) [.slice a0 l0 c0, .slice a1 l1 c1] ∧ Rep wr w1.heap.size (.slice a0 l0 c0) k (-1) ∧ Rep wr w1.heap.size (.slice a1 l1 c1) k 0 ∧ (∀ b, (Value.slice a0 l0 c0).ownBlock = some b → ¬ (Value.slice a1 l1 c1).ownBlock = some b) ∧ w1.heap.size ≤ wr.heap.size ∧ Below w.heap.size w wr) (fun i _ => n - (intOf i).toNat)
  case atStart => exact ⟨0, none, none, 0, 0, 0, 0, Nat.zero_le _, rfl, M5.out, R5.out, T5.out, ⟨rfl, .inl ⟨rfl, rfl⟩⟩, ⟨rfl, .inl ⟨rfl, rfl⟩⟩, fun b h => by simp [Value.ownBlock] at h, Nat.le_refl _, B5.out⟩
  case round =>
    obtain ⟨k, a0, a1, l0, l1, c0, c1, hk, rfl, hM, hR, hT, hr0, hr1, hap, hsz, hbel⟩ := hrel
    have M0 : Hid (Bk wr w.heap.size [.int .i64 (n : Int), .int .i64 d]) := hM
    have R0 : Hid (Bk wr (w.heap.size + 1) [.slice none 0 0, .slice none 0 0]) := hR
    have T0 : Hid (Bk wr (w.heap.size + 1 + 1) [.slice a0 l0 c0, .slice a1 l1 c1]) := hT
    have P0 : Hid (Rep wr w1.heap.size (.slice a0 l0 c0) k (-1)) := hr0
    have Q0 : Hid (Rep wr w1.heap.size (.slice a1 l1 c1) k 0) := hr1
    have AP : Hid (∀ b, (Value.slice a0 l0 c0).ownBlock = some b → ¬ (Value.slice a1 l1 c1).ownBlock = some b) := hap
    have BE : Hid (Below w.heap.size w wr) := hbel
    clear hM hR hT hr0 hr1 hap hbel
    have m0 : wr.cell? ⟨w.heap.size, 0, none⟩ = some (.int .i64 (n : Int)) := (M0.out.2 0 (by simp)).1
    have y0 : wr.cell? ⟨w.heap.size + 1 + 1, 0, none⟩ = some (.slice a0 l0 c0) := (T0.out.2 0 (by simp)).1
    have f0 := (T0.out.2 0 (by simp)).2
    have y1 : wr.cell? ⟨w.heap.size + 1 + 1, 1, none⟩ = some (.slice a1 l1 c1) := (T0.out.2 1 (by simp)).1
    have lT := T0.out.1
    by_cases hkn : k < n
    · have hkn' : (k : Int) < n := by omega
      have BEx := BE.out
      have kbA : Below wr.heap.size wr (wr.alloc (.cells #[.int .i64 (-1)] 3)) := (Below.refl _ _).alloc (Nat.le_refl _) _
      have OWA : Hid ((wr.alloc (.cells #[.int .i64 (-1)] 3)).ownsRow w1.heap.size 3 1 (.slice a0 l0 c0) k (List.replicate k (.int .i64 (-1)))) := own_keep P0.out kbA
      have HCA : Hid (∀ j u, ([Value.int .i64 (-1)] : List Value)[j]? = some u → (wr.alloc (.cells #[.int .i64 (-1)] 3)).cell? ((⟨wr.heap.size, 0, none⟩ : Addr).add j) = some u) := cells_one wr (-1)
      have KBA : Hid (Below wr.heap.size wr (wr.alloc (.cells #[.int .i64 (-1)] 3))) := kbA
      clear kbA
      go_wp2_with (at_builtin; refine wpList_append_own_at _ rfl _ _ 25 rfl w1.heap.size 3 i5 (.int .i64 0) 1 8 Try.underlying25 hi5 hz50 hz51 hz52 rfl (by decide) _ k _ rfl OWA.out ⟨wr.heap.size, 0, none⟩ 1 1 [.int .i64 (-1)] rfl rfl HCA.out (by simp [Value.oneCell']) (by unfold maxLen; omega) (by omega) (by simp; omega) ?_)
      intro vA wA hownA hgA _ hatA
      obtain ⟨aA, lA, cA, evA⟩ := own_shape hownA
      subst evA
      have hloA : ∀ b, (.slice a0 l0 c0 : Value).ownBlock = some b → w1.heap.size ≤ b ∧ b < wr.heap.size := fun b e => P0.out.lt b e
      have hzA : wr.heap.size < wA.heap.size := by have := hgA.size; simp at this; omega
      have hsA : Hid (∀ b, b < wr.heap.size → ¬ (.slice a0 l0 c0 : Value).ownBlock = some b → Sm wr wA b) := fun b hb hne => (sm_below KBA.out hb).trans (sm_grown hgA (by simp; omega) (fun e => hne e.symm))
      have hBA : Hid (Below w.heap.size w wA) := (bthen BEx KBA.out).grown hgA (by simp; omega) (fun b e => by have := hloA b e; omega)
      clear BEx
      have PA : Hid (Rep wA w1.heap.size (.slice aA lA cA) (k + 1) (-1)) := by show World.ownsRow _ _ _ _ _ _ _; rw [List.replicate_succ']; exact hownA
      have QA : Hid (Rep wA w1.heap.size (.slice a1 l1 c1) k 0) := World.ownsRow.kept (own_keep Q0.out KBA.out) hgA (by cases e : (Value.slice a1 l1 c1).ownBlock with | none => exact .inl rfl | some b => exact .inr (fun e2 => AP.out b e2.symm e))
      have APA : Hid (∀ b, (Value.slice aA lA cA).ownBlock = some b → ¬ (Value.slice a1 l1 c1).ownBlock = some b) := fun b e e1 => by
        rcases hatA with h | h
        · exact AP.out b (h.symm.trans e) e1
        · have q := (Q0.out.lt b e1).2; rw [h] at e; injection e with e; have := KBA.out.size; omega
      have MA : Hid (Bk wA w.heap.size [.int .i64 (n : Int), .int .i64 d]) := M0.out.sm (Nat.le_of_lt hzA) (hsA.out _ M0.out.1 (fun e => by have := (hloA _ e).1; omega))
      have RA : Hid (Bk wA (w.heap.size + 1) [.slice none 0 0, .slice none 0 0]) := R0.out.sm (Nat.le_of_lt hzA) (hsA.out _ R0.out.1 (fun e => by have := (hloA _ e).1; omega))
      have TA : Hid (Bk wA (w.heap.size + 1 + 1) [.slice a0 l0 c0, .slice a1 l1 c1]) := T0.out.sm (Nat.le_of_lt hzA) (hsA.out _ T0.out.1 (fun e => by have := (hloA _ e).1; omega))
      have gA0 : wA.cell? ⟨w.heap.size + 1 + 1, 0, none⟩ = some (.slice a0 l0 c0) := (TA.out.2 0 (by simp)).1
      have gA1 : wA.cell? ⟨w.heap.size + 1 + 1, 1, none⟩ = some (.slice a1 l1 c1) := (TA.out.2 1 (by simp)).1
      have gf0 := (TA.out.2 0 (by simp)).2
      have gf1 := (TA.out.2 1 (by simp)).2
      have lTA := TA.out.1
      clear m0 y0 f0 y1 lT hownA hgA hatA hloA OWA HCA KBA hsA M0 R0 T0 P0 Q0 AP BE
      obtain ⟨wS, eS⟩ : ∃ wS, wS = wA.setCell ⟨w.heap.size + 1 + 1, 0, none⟩ (.slice aA lA cA) := ⟨_, rfl⟩
      have TS : Hid (Bk wS (w.heap.size + 1 + 1) [.slice aA lA cA, .slice a1 l1 c1]) := by rw [eS]; exact TA.out.set (j := 0) (by simp)
      have MS : Hid (Bk wS w.heap.size [.int .i64 (n : Int), .int .i64 d]) := by rw [eS]; exact MA.out.far (by omega)
      have RS : Hid (Bk wS (w.heap.size + 1) [.slice none 0 0, .slice none 0 0]) := by rw [eS]; exact RA.out.far (by omega)
      have PS : Hid (Rep wS w1.heap.size (.slice aA lA cA) (k + 1) (-1)) := by rw [eS]; exact own_set PA.out h1T
      have QS : Hid (Rep wS w1.heap.size (.slice a1 l1 c1) k 0) := by rw [eS]; exact own_set QA.out h1T
      have BES : Hid (Below w.heap.size w wS) := by rw [eS]; exact hBA.out.setCell (by show w.heap.size ≤ w.heap.size + 1 + 1; omega) _
      have zS1 : wS.heap.size ≤ wA.heap.size := by rw [eS, set_size]; exact Nat.le_refl _
      have zS2 : wA.heap.size ≤ wS.heap.size := by rw [eS, set_size]; exact Nat.le_refl _
      have yS1 : wS.cell? ⟨w.heap.size + 1 + 1, 1, none⟩ = some (.slice a1 l1 c1) := (TS.out.2 1 (by simp)).1
      have fS1 := (TS.out.2 1 (by simp)).2
      have lTS := TS.out.1
      clear TA MA RA PA QA hBA
      go_upto_region 8 with fail
      rw [← eS]
      clear eS gA0 gA1 gf0 gf1 lTA
      have BEx := BES.out
      have kbC : Below wS.heap.size wS (wS.alloc (.cells #[.int .i64 0] 3)) := (Below.refl _ _).alloc (Nat.le_refl _) _
      have OWC : Hid ((wS.alloc (.cells #[.int .i64 0] 3)).ownsRow w1.heap.size 3 1 (.slice a1 l1 c1) k (List.replicate k (.int .i64 0))) := own_keep QS.out kbC
      have HCC : Hid (∀ j u, ([Value.int .i64 0] : List Value)[j]? = some u → (wS.alloc (.cells #[.int .i64 0] 3)).cell? ((⟨wS.heap.size, 0, none⟩ : Addr).add j) = some u) := cells_one wS 0
      have KBC : Hid (Below wS.heap.size wS (wS.alloc (.cells #[.int .i64 0] 3))) := kbC
      clear kbC
      go_wp2_with (at_builtin; refine wpList_append_own_at _ rfl _ _ 25 rfl w1.heap.size 3 i5 (.int .i64 0) 1 8 Try.underlying25 hi5 hz50 hz51 hz52 rfl (by decide) _ k _ rfl OWC.out ⟨wS.heap.size, 0, none⟩ 1 1 [.int .i64 0] rfl rfl HCC.out (by simp [Value.oneCell']) (by unfold maxLen; omega) (by omega) (by simp; omega) ?_)
      intro vC wC hownC hgC _ hatC
      obtain ⟨aC, lC, cC, evC⟩ := own_shape hownC
      subst evC
      have hloC : ∀ b, (.slice a1 l1 c1 : Value).ownBlock = some b → w1.heap.size ≤ b ∧ b < wS.heap.size := fun b e => QS.out.lt b e
      have hzC : wS.heap.size < wC.heap.size := by have := hgC.size; simp at this; omega
      have hsC : Hid (∀ b, b < wS.heap.size → ¬ (.slice a1 l1 c1 : Value).ownBlock = some b → Sm wS wC b) := fun b hb hne => (sm_below KBC.out hb).trans (sm_grown hgC (by simp; omega) (fun e => hne e.symm))
      have hBC : Hid (Below w.heap.size w wC) := (bthen BEx KBC.out).grown hgC (by simp; omega) (fun b e => by have := hloC b e; omega)
      clear BEx
      have QC : Hid (Rep wC w1.heap.size (.slice aC lC cC) (k + 1) 0) := by show World.ownsRow _ _ _ _ _ _ _; rw [List.replicate_succ']; exact hownC
      have PC : Hid (Rep wC w1.heap.size (.slice aA lA cA) (k + 1) (-1)) := World.ownsRow.kept (own_keep PS.out KBC.out) hgC (by cases e : (Value.slice aA lA cA).ownBlock with | none => exact .inl rfl | some b => exact .inr (fun e2 => APA.out b e e2.symm))
      have APC : Hid (∀ b, (.slice aA lA cA : Value).ownBlock = some b → ¬ (.slice aC lC cC : Value).ownBlock = some b) := fun b e e1 => by
        rcases hatC with h | h
        · exact APA.out b e (h.symm.trans e1)
        · have q := (PS.out.lt b e).2; rw [h] at e1; injection e1 with e1; have := KBC.out.size; omega
      have MC : Hid (Bk wC w.heap.size [.int .i64 (n : Int), .int .i64 d]) := MS.out.sm (Nat.le_of_lt hzC) (hsC.out _ MS.out.1 (fun e => by have := (hloC _ e).1; omega))
      have RC : Hid (Bk wC (w.heap.size + 1) [.slice none 0 0, .slice none 0 0]) := RS.out.sm (Nat.le_of_lt hzC) (hsC.out _ RS.out.1 (fun e => by have := (hloC _ e).1; omega))
      have TC : Hid (Bk wC (w.heap.size + 1 + 1) [.slice aA lA cA, .slice a1 l1 c1]) := TS.out.sm (Nat.le_of_lt hzC) (hsC.out _ TS.out.1 (fun e => by have := (hloC _ e).1; omega))
      have u0 : wC.cell? ⟨w.heap.size + 1 + 1, 0, none⟩ = some (.slice aA lA cA) := (TC.out.2 0 (by simp)).1
      have u1 : wC.cell? ⟨w.heap.size + 1 + 1, 1, none⟩ = some (.slice a1 l1 c1) := (TC.out.2 1 (by simp)).1
      have uf0 := (TC.out.2 0 (by simp)).2
      have uf1 := (TC.out.2 1 (by simp)).2
      have lTC := TC.out.1
      clear yS1 fS1 lTS hownC hgC hatC hloC OWC HCC KBC hsC MS RS TS PS QS APA BES
      go_wp2
      go_roundw
      case rel => exact ⟨k + 1, aA, aC, lA, lC, cA, cC, by omega, by go_num, MC.out.far (by omega), RC.out.far (by omega), TC.out.set (j := 1) (by simp), own_set PC.out h1T, own_set QC.out h1T, APC.out, by rw [set_size]; omega, hBC.out.setCell (by show w.heap.size ≤ w.heap.size + 1 + 1; omega) _⟩
      case measure => simp [intOf]; omega
    · have hkk : k = n := by omega
      subst hkk
      have r00 : wr.cell? ⟨w.heap.size + 1, 0, none⟩ = some (.slice none 0 0) := (R0.out.2 0 (by simp)).1
      have r10 : wr.cell? ⟨w.heap.size + 1, 1, none⟩ = some (.slice none 0 0) := (R0.out.2 1 (by simp)).1
      have r01 := (R0.out.2 0 (by simp)).2
      have r11 := (R0.out.2 1 (by simp)).2
      have lR := R0.out.1
      go_wp2
      refine bodyPost_ret (v := .agg #[.slice a0 l0 c0, .slice a1 l1 c1]) (by simp [results, Try.results25, go_sem, *]) rfl ?_
      have P1 := own_set (g := w.heap.size + 1) (j := 1) (u := .slice a1 l1 c1) (own_set (g := w.heap.size + 1) (j := 0) (u := .slice a0 l0 c0) P0.out (by omega)) (by omega)
      have Q1 := own_set (g := w.heap.size + 1) (j := 1) (u := .slice a1 l1 c1) (own_set (g := w.heap.size + 1) (j := 0) (u := .slice a0 l0 c0) Q0.out (by omega)) (by omega)
      obtain ⟨g0, r0, e0⟩ := rep_ri P1
      obtain ⟨g1, r1, e1⟩ := rep_ri Q1
      refine ⟨⟨_, rfl, ?_⟩, ((BE.out.setCell (by simp) _).setCell (by simp) _)⟩
      rw [HV.out]
      exact ownT_of r0 r1 e0 e1 AP.out (by omega)
end Go.Proofs.Ytodmfbbicdbjdaa
