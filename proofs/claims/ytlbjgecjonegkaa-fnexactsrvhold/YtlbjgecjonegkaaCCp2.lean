/- Lists as rows, for appends; a copy of walkers as the model makes it (l2Copy); lists that lie apart are a cell of one's own; conditions: none beyond those typed. -/
import Derived.Test.YtlbjgecjonegkaaCCopy
namespace Go.Proofs.Ytlbjgecjonegkaa
open Go.RowKit Go.Deep
set_option linter.unusedVariables false

theorem five5_len (n : Nat) (Z : Nat → Nat → Int) : ((List.range n).flatMap (five5 Z)).length = n * 5 := by
  induction n with
  | zero => simp
  | succ n ih => rw [List.range_succ, List.flatMap_append, List.length_append, ih]; simp [five5, Nat.succ_mul]
theorem five5_cells {w : World} {b o n : Nat} {Z : Nat → Nat → Int} (hr : ∀ k j, k < n → j < 5 → w.cell? ⟨b, o + k * 5 + j, none⟩ = some (.int .i64 (Z k j))) : ∀ j u, ((List.range n).flatMap (five5 Z))[j]? = some u → w.cell? ((⟨b, o, none⟩ : Addr).add j) = some u := by
  intro j u hj
  have hlt : j < n * 5 := by
    have := (List.getElem?_eq_some_iff.1 hj).1
    rw [five5_len] at this; exact this
  rw [flat_get (five5 Z) (fun _ => rfl) (by decide) n j hlt] at hj
  have hq : j / 5 < n := Nat.div_lt_of_lt_mul (by omega)
  have hr' := hr (j / 5) (j % 5) hq (Nat.mod_lt _ (by decide))
  rw [add_none, show o + j = o + j / 5 * 5 + j % 5 by omega, hr', ← hj]
  have : j % 5 < 5 := Nat.mod_lt _ (by decide)
  generalize j % 5 = q at this ⊢
  match q, this with
  | 0, _ => rfl
  | 1, _ => rfl
  | 2, _ => rfl
  | 3, _ => rfl
  | 4, _ => rfl
theorem five5_one (n : Nat) (Z : Nat → Nat → Int) : ∀ u ∈ (List.range n).flatMap (five5 Z), u.oneCell' = true := by
  intro u hu
  obtain ⟨k, _, hk⟩ := List.mem_flatMap.1 hu
  simp [five5] at hk
  rcases hk with rfl | rfl | rfl | rfl | rfl <;> rfl
theorem eight8_len (n : Nat) (Z : Nat → Nat → Int) : ((List.range n).flatMap (P8.eight Z)).length = n * 8 := by
  induction n with
  | zero => simp
  | succ n ih => rw [List.range_succ, List.flatMap_append, List.length_append, ih]; simp [P8.eight, Nat.succ_mul]
theorem eight8_cells {w : World} {b o n : Nat} {Z : Nat → Nat → Int} (hr : ∀ k j, k < n → j < 8 → w.cell? ⟨b, o + k * 8 + j, none⟩ = some (.int .i64 (Z k j))) : ∀ j u, ((List.range n).flatMap (P8.eight Z))[j]? = some u → w.cell? ((⟨b, o, none⟩ : Addr).add j) = some u := by
  intro j u hj
  have hlt : j < n * 8 := by
    have := (List.getElem?_eq_some_iff.1 hj).1
    rw [eight8_len] at this; exact this
  rw [flat_get (P8.eight Z) (fun _ => rfl) (by decide) n j hlt] at hj
  have hq : j / 8 < n := Nat.div_lt_of_lt_mul (by omega)
  have hr' := hr (j / 8) (j % 8) hq (Nat.mod_lt _ (by decide))
  rw [add_none, show o + j = o + j / 8 * 8 + j % 8 by omega, hr', ← hj]
  have : j % 8 < 8 := Nat.mod_lt _ (by decide)
  generalize j % 8 = q at this ⊢
  match q, this with
  | 0, _ => rfl
  | 1, _ => rfl
  | 2, _ => rfl
  | 3, _ => rfl
  | 4, _ => rfl
  | 5, _ => rfl
  | 6, _ => rfl
  | 7, _ => rfl
theorem eight8_one (n : Nat) (Z : Nat → Nat → Int) : ∀ u ∈ (List.range n).flatMap (P8.eight Z), u.oneCell' = true := by
  intro u hu
  obtain ⟨k, _, hk⟩ := List.mem_flatMap.1 hu
  simp [P8.eight] at hk
  rcases hk with rfl | rfl | rfl | rfl | rfl | rfl | rfl | rfl <;> rfl
theorem one11_len (n : Nat) (X : Nat → Int) : ((List.range n).flatMap (one1 X)).length = n * 1 := by
  induction n with
  | zero => simp
  | succ n ih => rw [List.range_succ, List.flatMap_append, List.length_append, ih]; simp [one1, Nat.succ_mul]
theorem one11_cells {w : World} {b o n : Nat} {X : Nat → Int} (hr : ∀ k, k < n → w.cell? ⟨b, o + k, none⟩ = some (.int .i64 (X k))) : ∀ j u, ((List.range n).flatMap (one1 X))[j]? = some u → w.cell? ((⟨b, o, none⟩ : Addr).add j) = some u := by
  intro j u hj
  have hlt : j < n * 1 := by
    have := (List.getElem?_eq_some_iff.1 hj).1
    rw [one11_len] at this; exact this
  rw [flat_get (m := 1) (one1 X) (fun _ => rfl) (by decide) n j hlt, Nat.div_one, Nat.mod_one] at hj
  rw [add_none, hr j (by omega), ← hj]
  rfl
theorem one11_one (n : Nat) (X : Nat → Int) : ∀ u ∈ (List.range n).flatMap (one1 X), u.oneCell' = true := by
  intro u hu
  obtain ⟨k, _, hk⟩ := List.mem_flatMap.1 hu
  simp [one1] at hk
  subst hk; rfl

/-- Lists that lie apart where there is something in them, in whatever order, are a cell of one's own. -/
theorem ownC_any {lo hi : Nat} {w : World} {V : CV} {vW vX vI : Value} {gW gO gX gI cO : Nat} {sl : Nat → Value} {xs : Nat → Nat} (rW : RW lo hi w vW V.nW V.W gW) (hO1 : lo ≤ gO) (hO2 : gO < hi) (hhi : hi ≤ w.heap.size)
    (rO : ∀ k, k < V.nO → w.cell? ⟨gO, k, none⟩ = some (sl k) ∧ RP lo hi w (sl k) (V.N k) (V.O k) (xs k)) (rX : RI lo hi w vX V.nX V.X gX) (rI : RI lo hi w vI V.nI V.I gI)
    (d1 : V.nW ≠ 0 → gW ≠ gO) (d2 : V.nW ≠ 0 → V.nX ≠ 0 → gW ≠ gX) (d3 : V.nW ≠ 0 → V.nI ≠ 0 → gW ≠ gI) (d4 : V.nX ≠ 0 → gO ≠ gX) (d5 : V.nI ≠ 0 → gO ≠ gI) (d6 : V.nX ≠ 0 → V.nI ≠ 0 → gX ≠ gI)
    (hx : ∀ k, k < V.nO → V.N k ≠ 0 → (V.nW ≠ 0 → xs k ≠ gW) ∧ xs k ≠ gO ∧ (V.nX ≠ 0 → xs k ≠ gX) ∧ (V.nI ≠ 0 → xs k ≠ gI)) (hxx : ∀ i j, i < j → j < V.nO → V.N i ≠ 0 → V.N j ≠ 0 → xs i ≠ xs j) :
    OwnC lo hi w (.agg #[.int .i64 V.c, vW, .int .i64 V.g, .slice (some ⟨gO, 0, none⟩) V.nO cO, vX, vI]) V := by
  obtain ⟨pW, rW', cW⟩ := rW.pick hi
  obtain ⟨pX, rX', cX⟩ := rX.pick (hi + 1)
  obtain ⟨pI, rI', cI⟩ := rI.pick (hi + 2)
  refine ⟨vW, _, vX, vI, pW, gO, pX, pI, sl, fun k => if V.N k = 0 then hi + 3 + k else xs k, rfl, rW', .inr ⟨cO, rfl, hO1, hO2, hhi, fun k hk => ⟨(rO k hk).1, ((rO k hk).2.pick (hi + 3 + k)).1⟩⟩, rX', rI', ?_, fun k hk => ?_, fun i j hi' hj' hne => ?_⟩
  · refine ⟨?_, ?_, ?_, ?_, ?_, ?_⟩
    · rcases cW with ⟨_, rfl⟩ | ⟨e, rfl, _⟩
      · omega
      · have := d1 e; omega
    · rcases cW with ⟨_, rfl⟩ | ⟨e, rfl, _⟩ <;> rcases cX with ⟨_, rfl⟩ | ⟨e2, rfl, _⟩ <;> first | omega | exact d2 e e2
    · rcases cW with ⟨_, rfl⟩ | ⟨e, rfl, _⟩ <;> rcases cI with ⟨_, rfl⟩ | ⟨e2, rfl, _⟩ <;> first | omega | exact d3 e e2
    · rcases cX with ⟨_, rfl⟩ | ⟨e2, rfl, _⟩ <;> first | omega | (have := d4 e2; omega)
    · rcases cI with ⟨_, rfl⟩ | ⟨e2, rfl, _⟩ <;> first | omega | (have := d5 e2; omega)
    · rcases cX with ⟨_, rfl⟩ | ⟨e, rfl, _⟩ <;> rcases cI with ⟨_, rfl⟩ | ⟨e2, rfl, _⟩ <;> first | omega | (have := d6 e e2; omega)
  · have hb := ((rO k hk).2.pick (hi + 3 + k)).2
    dsimp only
    by_cases e0 : V.N k = 0
    · rw [if_pos e0]
      refine ⟨?_, by omega, ?_, ?_⟩
      · rcases cW with ⟨_, rfl⟩ | ⟨e, rfl, _⟩ <;> omega
      · rcases cX with ⟨_, rfl⟩ | ⟨e, rfl, _⟩ <;> omega
      · rcases cI with ⟨_, rfl⟩ | ⟨e, rfl, _⟩ <;> omega
    · rw [if_neg e0]
      have h1 := hb e0
      obtain ⟨h1b, h2, h3, h4⟩ := hx k hk e0
      refine ⟨?_, by omega, ?_, ?_⟩
      · rcases cW with ⟨_, rfl⟩ | ⟨e, rfl, _⟩ <;> first | omega | exact h1b e
      · rcases cX with ⟨_, rfl⟩ | ⟨e, rfl, _⟩ <;> first | omega | (have := h3 e; omega)
      · rcases cI with ⟨_, rfl⟩ | ⟨e, rfl, _⟩ <;> first | omega | (have := h4 e; omega)
  · have b1 := ((rO i hi').2.pick (hi + 3 + i)).2
    have b2 := ((rO j hj').2.pick (hi + 3 + j)).2
    dsimp only
    by_cases e1 : V.N i = 0
    · rw [if_pos e1]
      by_cases e2 : V.N j = 0
      · rw [if_pos e2]; omega
      · rw [if_neg e2]; have := b2 e2; omega
    · rw [if_neg e1]
      have := b1 e1
      by_cases e2 : V.N j = 0
      · rw [if_pos e2]; omega
      · rw [if_neg e2]
        rcases Nat.lt_or_gt_of_ne hne with h | h
        · have := hxx i j h hj' e1 e2; omega
        · have := hxx j i h hi' e2 e1; omega

set_option maxHeartbeats 1000000 in
theorem copyW_spec (b o n cap : Nat) (Z : Nat → Nat → Int) (hn : n ≤ 1048576) (w : World) (hb : b < w.heap.size) (hr : ∀ k j, k < n → j < 5 → w.cell? ⟨b, o + k * 5 + j, none⟩ = some (.int .i64 (Z k j))) :
    Calls Try.prog 78 #[.slice (some ⟨b, o, none⟩) n cap] w fun e w' => (∃ v, e = .returned v ∧ w'.ownsRow w.heap.size 76 5 v n ((List.range n).flatMap (five5 Z))) ∧ Below w.heap.size w w' := by
  have kb : Below w.heap.size w (w.alloc (.cells #[] 76)) := (Below.refl _ _).alloc (Nat.le_refl _) _
  have HC : Hid (∀ j u, ((List.range n).flatMap (five5 Z))[j]? = some u → (w.alloc (.cells #[] 76)).cell? ((⟨b, o, none⟩ : Addr).add j) = some u) := five5_cells (fun k j a1 a2 => (kb.cell (p := ⟨b, _, none⟩) hb).trans (hr k j a1 a2))
  have H1 : Hid (∀ u ∈ (List.range n).flatMap (five5 Z), u.oneCell' = true) := five5_one n Z
  have HL : Hid (((List.range n).flatMap (five5 Z)).length = n * 5) := five5_len n Z
  have KB : Hid (Below w.heap.size w (w.alloc (.cells #[] 76))) := kb
  clear hr kb
  obtain ⟨i5, hi5, hzz⟩ := Option.map_eq_some_iff.1 Try.info76
  simp only [Prod.mk.injEq] at hzz
  obtain ⟨hz50, hz51, hz52⟩ := hzz
  go_enter Try.func78, Try.ntmps78
  go_wp2_with (at_builtin; refine wpList_append_own _ rfl _ _ 39 rfl w.heap.size 76 i5 (.agg #[.int .i64 0, .int .i64 0, .int .i64 0, .int .i64 0, .int .i64 0]) 5 40 Try.underlying39 hi5 hz50 hz51 hz52 rfl (by decide) _ 0 [] rfl (World.ownsRow_lit w #[] 0 (Nat.le_refl _) (by simp) (by simp)) ⟨b, o, none⟩ n cap ((List.range n).flatMap (five5 Z)) rfl HL.out HC.out H1.out (by unfold maxLen; omega) (by omega) (by simp) ?_)
  intro v' w2 hown hg hnil
  have hb2 : Below w.heap.size w w2 := KB.out.grown hg (by simp) (fun kk e => by cases e; exact Nat.le_refl _)
  have HO : Hid (w2.ownsRow w.heap.size 76 5 v' n ((List.range n).flatMap (five5 Z))) := by unfold Hid; simpa using hown
  clear hown hg hnil
  go_wp2
  go_ret
  exact ⟨⟨_, rfl, HO.out⟩, hb2⟩
end Go.Proofs.Ytlbjgecjonegkaa
