/- The program's copyList, of walkers, parcels and numbers: the same list in memory of its own; conditions: the list lies in memory. -/
import Derived.Test.YtlbjgecjonegkaaCMk2
import Derived.Laws.AppendOwn
namespace Go.Proofs.Ytlbjgecjonegkaa
open Go.RowKit Go.Deep
set_option linter.unusedVariables false

def one1 (X : Nat → Int) (k : Nat) : List Value := [.int .i64 (X k)]
def five5 (Z : Nat → Nat → Int) (k : Nat) : List Value := [.int .i64 (Z k 0), .int .i64 (Z k 1), .int .i64 (Z k 2), .int .i64 (Z k 3), .int .i64 (Z k 4)]
/-- Two rows after each other read so. -/
theorem flat_get {m : Nat} (f : Nat → List Value) (hf : ∀ k, (f k).length = m) (hm : 0 < m) : ∀ n i, i < n * m → ((List.range n).flatMap f)[i]? = (f (i / m))[i % m]?
  | 0, i, h => by omega
  | n + 1, i, h => by
    rw [List.range_succ, List.flatMap_append]
    have hl : ((List.range n).flatMap f).length = n * m := by
      clear h
      induction n with
      | zero => simp
      | succ n ih => rw [List.range_succ, List.flatMap_append, List.length_append, ih]; simp [hf, Nat.succ_mul]
    by_cases hi : i < n * m
    · rw [List.getElem?_append_left (by omega)]
      exact flat_get f hf hm n i hi
    · rw [List.getElem?_append_right (by omega), hl]
      have h1 : i / m = n := Nat.div_eq_of_lt_le (by omega) (by omega)
      have h2 : i % m = i - n * m := by
        have := Nat.div_add_mod i m
        rw [h1, Nat.mul_comm] at this
        omega
      rw [h1, h2]
      simp

set_option maxHeartbeats 1000000 in
theorem copyW (b o n cap : Nat) (Z : Nat → Nat → Int) (hn : n ≤ 1048576) (w : World) (hb : b < w.heap.size) (hr : ∀ k j, k < n → j < 5 → w.cell? ⟨b, o + k * 5 + j, none⟩ = some (.int .i64 (Z k j))) :
    Calls Try.prog 79 #[.slice (some ⟨b, o, none⟩) n cap] w fun e w' => (∃ v, e = .returned v ∧ w'.ownsRow w.heap.size 76 5 v n ((List.range n).flatMap (five5 Z))) ∧ Below w.heap.size w w' := by
  have hlen : ((List.range n).flatMap (five5 Z)).length = n * 5 := by
    clear hn hr
    induction n with
    | zero => simp
    | succ n ih => rw [List.range_succ, List.flatMap_append, List.length_append, ih]; simp [five5, Nat.succ_mul]
  have hcell : ∀ j u, ((List.range n).flatMap (five5 Z))[j]? = some u → w.cell? ((⟨b, o, none⟩ : Addr).add j) = some u := by
    intro j u hj
    have hlt : j < n * 5 := by
      have := (List.getElem?_eq_some_iff.1 hj).1
      rw [hlen] at this; exact this
    rw [flat_get (five5 Z) (fun _ => rfl) (by decide) n j hlt] at hj
    have hq : j / 5 < n := Nat.div_lt_of_lt_mul (by omega)
    have hr' := hr (j / 5) (j % 5) hq (Nat.mod_lt _ (by decide))
    rw [add_none, show o + j = o + j / 5 * 5 + j % 5 by omega, hr', ← hj]
    have : j % 5 < 5 := Nat.mod_lt _ (by decide)
    generalize j % 5 = q at this ⊢
    match q, this with
    | 0, _ => rfl
    | 1, _ => rfl
    | 2, _ => rfl
    | 3, _ => rfl
    | 4, _ => rfl
  have h1 : ∀ u ∈ (List.range n).flatMap (five5 Z), u.oneCell' = true := by
    intro u hu
    obtain ⟨k, _, hk⟩ := List.mem_flatMap.1 hu
    simp [five5] at hk
    rcases hk with rfl | rfl | rfl | rfl | rfl <;> rfl
  clear hr
  obtain ⟨i5, hi5, hzz⟩ := Option.map_eq_some_iff.1 Try.info76
  simp only [Prod.mk.injEq] at hzz
  obtain ⟨hz50, hz51, hz52⟩ := hzz
  have HC : Hid (∀ j u, ((List.range n).flatMap (five5 Z))[j]? = some u → w.cell? ((⟨b, o, none⟩ : Addr).add j) = some u) := hcell
  have H1 : Hid (∀ u ∈ (List.range n).flatMap (five5 Z), u.oneCell' = true) := h1
  have HL : Hid (((List.range n).flatMap (five5 Z)).length = n * 5) := hlen
  clear hcell h1 hlen
  go_enter Try.func79, Try.ntmps79
  go_wp2_with (at_builtin; refine wpList_append_own _ rfl _ _ 39 rfl w.heap.size 76 i5 (.agg #[.int .i64 0, .int .i64 0, .int .i64 0, .int .i64 0, .int .i64 0]) 5 40 Try.underlying39 hi5 hz50 hz51 hz52 rfl (by decide) _ 0 [] rfl ⟨rfl, .inl ⟨rfl, rfl⟩⟩ ⟨b, o, none⟩ n cap ((List.range n).flatMap (five5 Z)) rfl HL.out HC.out H1.out (by unfold maxLen; omega) (by omega) (Nat.le_refl _) ?_)
  intro v' w2 hown hg hnil
  have hb2 : Below w.heap.size w w2 := (Below.refl _ _).grown hg (Nat.le_refl _) (fun kk e => by cases e)
  have HO : Hid (w2.ownsRow w.heap.size 76 5 v' n ((List.range n).flatMap (five5 Z))) := hown
  clear hown hg hnil
  go_wp2
  go_ret
  exact ⟨⟨_, rfl, HO.out⟩, hb2⟩

set_option maxHeartbeats 1000000 in
theorem copyP (b o n cap : Nat) (Z : Nat → Nat → Int) (hn : n ≤ 1048576) (w : World) (hb : b < w.heap.size) (hr : ∀ k j, k < n → j < 8 → w.cell? ⟨b, o + k * 8 + j, none⟩ = some (.int .i64 (Z k j))) :
    Calls Try.prog 80 #[.slice (some ⟨b, o, none⟩) n cap] w fun e w' => (∃ v, e = .returned v ∧ w'.ownsRow w.heap.size 114 8 v n ((List.range n).flatMap (P8.eight Z))) ∧ Below w.heap.size w w' := by
  have hlen : ((List.range n).flatMap (P8.eight Z)).length = n * 8 := by
    clear hn hr
    induction n with
    | zero => simp
    | succ n ih => rw [List.range_succ, List.flatMap_append, List.length_append, ih]; simp [P8.eight, Nat.succ_mul]
  have hcell : ∀ j u, ((List.range n).flatMap (P8.eight Z))[j]? = some u → w.cell? ((⟨b, o, none⟩ : Addr).add j) = some u := by
    intro j u hj
    have hlt : j < n * 8 := by
      have := (List.getElem?_eq_some_iff.1 hj).1
      rw [hlen] at this; exact this
    rw [flat_get (P8.eight Z) (fun _ => rfl) (by decide) n j hlt] at hj
    have hq : j / 8 < n := Nat.div_lt_of_lt_mul (by omega)
    have hr' := hr (j / 8) (j % 8) hq (Nat.mod_lt _ (by decide))
    rw [add_none, show o + j = o + j / 8 * 8 + j % 8 by omega, hr', ← hj]
    have : j % 8 < 8 := Nat.mod_lt _ (by decide)
    generalize j % 8 = q at this ⊢
    match q, this with
    | 0, _ => rfl
    | 1, _ => rfl
    | 2, _ => rfl
    | 3, _ => rfl
    | 4, _ => rfl
    | 5, _ => rfl
    | 6, _ => rfl
    | 7, _ => rfl
  have h1 : ∀ u ∈ (List.range n).flatMap (P8.eight Z), u.oneCell' = true := by
    intro u hu
    obtain ⟨k, _, hk⟩ := List.mem_flatMap.1 hu
    simp [P8.eight] at hk
    rcases hk with rfl | rfl | rfl | rfl | rfl | rfl | rfl | rfl <;> rfl
  clear hr
  obtain ⟨i5, hi5, hzz⟩ := Option.map_eq_some_iff.1 P8.Try.info114
  simp only [Prod.mk.injEq] at hzz
  obtain ⟨hz50, hz51, hz52⟩ := hzz
  have HC : Hid (∀ j u, ((List.range n).flatMap (P8.eight Z))[j]? = some u → w.cell? ((⟨b, o, none⟩ : Addr).add j) = some u) := hcell
  have H1 : Hid (∀ u ∈ (List.range n).flatMap (P8.eight Z), u.oneCell' = true) := h1
  have HL : Hid (((List.range n).flatMap (P8.eight Z)).length = n * 8) := hlen
  clear hcell h1 hlen
  go_enter Try.func80, Try.ntmps80
  go_wp2_with (at_builtin; refine wpList_append_own _ rfl _ _ 111 rfl w.heap.size 114 i5 (.agg #[.int .i64 0, .int .i64 0, .int .i64 0, .int .i64 0, .int .i64 0, .int .i64 0, .int .i64 0, .int .i64 0]) 8 64 Try.underlying111 hi5 hz50 hz51 hz52 rfl (by decide) _ 0 [] rfl ⟨rfl, .inl ⟨rfl, rfl⟩⟩ ⟨b, o, none⟩ n cap ((List.range n).flatMap (P8.eight Z)) rfl HL.out HC.out H1.out (by unfold maxLen; omega) (by omega) (Nat.le_refl _) ?_)
  intro v' w2 hown hg hnil
  have hb2 : Below w.heap.size w w2 := (Below.refl _ _).grown hg (Nat.le_refl _) (fun kk e => by cases e)
  have HO : Hid (w2.ownsRow w.heap.size 114 8 v' n ((List.range n).flatMap (P8.eight Z))) := hown
  clear hown hg hnil
  go_wp2
  go_ret
  exact ⟨⟨_, rfl, HO.out⟩, hb2⟩

set_option maxHeartbeats 1000000 in
theorem copyI (b o n cap : Nat) (X : Nat → Int) (hn : n ≤ 1048576) (w : World) (hb : b < w.heap.size) (hr : ∀ k, k < n → w.cell? ⟨b, o + k, none⟩ = some (.int .i64 (X k))) :
    Calls Try.prog 81 #[.slice (some ⟨b, o, none⟩) n cap] w fun e w' => (∃ v, e = .returned v ∧ w'.ownsRow w.heap.size 3 1 v n ((List.range n).flatMap (one1 X))) ∧ Below w.heap.size w w' := by
  have hlen : ((List.range n).flatMap (one1 X)).length = n * 1 := by
    clear hn hr
    induction n with
    | zero => simp
    | succ n ih => rw [List.range_succ, List.flatMap_append, List.length_append, ih]; simp [one1, Nat.succ_mul]
  have hcell : ∀ j u, ((List.range n).flatMap (one1 X))[j]? = some u → w.cell? ((⟨b, o, none⟩ : Addr).add j) = some u := by
    intro j u hj
    have hlt : j < n * 1 := by
      have := (List.getElem?_eq_some_iff.1 hj).1
      rw [hlen] at this; exact this
    rw [flat_get (one1 X) (fun _ => rfl) (by decide) n j hlt, Nat.div_one, Nat.mod_one] at hj
    rw [add_none, hr j (by omega), ← hj]
    rfl
  have h1 : ∀ u ∈ (List.range n).flatMap (one1 X), u.oneCell' = true := by
    intro u hu
    obtain ⟨k, _, hk⟩ := List.mem_flatMap.1 hu
    simp [one1] at hk
    subst hk; rfl
  clear hr
  obtain ⟨i5, hi5, hzz⟩ := Option.map_eq_some_iff.1 Try.info3
  simp only [Prod.mk.injEq] at hzz
  obtain ⟨hz50, hz51, hz52⟩ := hzz
  have HC : Hid (∀ j u, ((List.range n).flatMap (one1 X))[j]? = some u → w.cell? ((⟨b, o, none⟩ : Addr).add j) = some u) := hcell
  have H1 : Hid (∀ u ∈ (List.range n).flatMap (one1 X), u.oneCell' = true) := h1
  have HL : Hid (((List.range n).flatMap (one1 X)).length = n * 1) := hlen
  clear hcell h1 hlen
  go_enter Try.func81, Try.ntmps81
  go_wp2_with (at_builtin; refine wpList_append_own _ rfl _ _ 41 rfl w.heap.size 3 i5 (.int .i64 0) 1 8 Try.underlying41 hi5 hz50 hz51 hz52 rfl (by decide) _ 0 [] rfl ⟨rfl, .inl ⟨rfl, rfl⟩⟩ ⟨b, o, none⟩ n cap ((List.range n).flatMap (one1 X)) rfl HL.out HC.out H1.out (by unfold maxLen; omega) (by omega) (Nat.le_refl _) ?_)
  intro v' w2 hown hg hnil
  have hb2 : Below w.heap.size w w2 := (Below.refl _ _).grown hg (Nat.le_refl _) (fun kk e => by cases e)
  have HO : Hid (w2.ownsRow w.heap.size 3 1 v' n ((List.range n).flatMap (one1 X))) := hown
  clear hown hg hnil
  go_wp2
  go_ret
  exact ⟨⟨_, rfl, HO.out⟩, hb2⟩

theorem rw_of_own {w : World} {base n : Nat} {v : Value} {Z : Nat → Nat → Int} (h : w.ownsRow base 76 5 v n ((List.range n).flatMap (five5 Z))) : ∃ g, RW base w.heap.size w v n Z g ∧ (v.ownBlock = none ∨ v.ownBlock = some g) := by
  rcases h.2 with ⟨e, hl⟩ | ⟨g, cap, cur, hv, _⟩
  · subst e; subst hl
    exact ⟨0, .inl ⟨rfl, none, 0, rfl⟩, .inl rfl⟩
  · have ho : w.ownsRow base 76 5 (.slice (some ⟨g, 0, none⟩) n cap) n ((List.range n).flatMap (five5 Z)) := by rw [← hv]; exact h
    refine ⟨g, .inr ⟨cap, hv, (ho.lt g rfl).1, (ho.lt g rfl).2, Nat.le_refl _, fun i hi => ⟨?_, ho.frozenAt i⟩, fun k j hk hj => ?_⟩, .inr (by rw [hv]; rfl)⟩
    · rw [ho.cellAt i (by omega)]
      have : i < ((List.range n).flatMap (five5 Z)).length := by rw [ho.1]; omega
      rw [List.getElem?_eq_getElem this]
      rfl
    · skip
      have hlt : k * 5 + j < n * 5 := by omega
      rw [ho.cellAt (k * 5 + j) hlt, flat_get (five5 Z) (fun _ => rfl) (by decide) n _ hlt, show (k * 5 + j) / 5 = k by omega, show (k * 5 + j) % 5 = j by omega]
      match j, hj with
      | 0, _ => rfl
      | 1, _ => rfl
      | 2, _ => rfl
      | 3, _ => rfl
      | 4, _ => rfl

theorem rp_of_own {w : World} {base n : Nat} {v : Value} {Z : Nat → Nat → Int} (h : w.ownsRow base 114 8 v n ((List.range n).flatMap (P8.eight Z))) : ∃ g, RP base w.heap.size w v n Z g ∧ (v.ownBlock = none ∨ v.ownBlock = some g) := by
  rcases h.2 with ⟨e, hl⟩ | ⟨g, cap, cur, hv, _⟩
  · subst e; subst hl
    exact ⟨0, .inl ⟨rfl, none, 0, rfl⟩, .inl rfl⟩
  · have ho : w.ownsRow base 114 8 (.slice (some ⟨g, 0, none⟩) n cap) n ((List.range n).flatMap (P8.eight Z)) := by rw [← hv]; exact h
    refine ⟨g, .inr ⟨cap, hv, (ho.lt g rfl).1, (ho.lt g rfl).2, Nat.le_refl _, fun i hi => ⟨?_, ho.frozenAt i⟩, fun k j hk hj => ?_⟩, .inr (by rw [hv]; rfl)⟩
    · rw [ho.cellAt i (by omega)]
      have : i < ((List.range n).flatMap (P8.eight Z)).length := by rw [ho.1]; omega
      rw [List.getElem?_eq_getElem this]
      rfl
    · skip
      have hlt : k * 8 + j < n * 8 := by omega
      rw [ho.cellAt (k * 8 + j) hlt, flat_get (P8.eight Z) (fun _ => rfl) (by decide) n _ hlt, show (k * 8 + j) / 8 = k by omega, show (k * 8 + j) % 8 = j by omega]
      match j, hj with
      | 0, _ => rfl
      | 1, _ => rfl
      | 2, _ => rfl
      | 3, _ => rfl
      | 4, _ => rfl
      | 5, _ => rfl
      | 6, _ => rfl
      | 7, _ => rfl

theorem ri_of_own {w : World} {base n : Nat} {v : Value} {X : Nat → Int} (h : w.ownsRow base 3 1 v n ((List.range n).flatMap (one1 X))) : ∃ g, RI base w.heap.size w v n X g ∧ (v.ownBlock = none ∨ v.ownBlock = some g) := by
  rcases h.2 with ⟨e, hl⟩ | ⟨g, cap, cur, hv, _⟩
  · subst e; subst hl
    exact ⟨0, .inl ⟨rfl, none, 0, rfl⟩, .inl rfl⟩
  · have ho : w.ownsRow base 3 1 (.slice (some ⟨g, 0, none⟩) n cap) n ((List.range n).flatMap (one1 X)) := by rw [← hv]; exact h
    refine ⟨g, .inr ⟨cap, hv, (ho.lt g rfl).1, (ho.lt g rfl).2, Nat.le_refl _, fun i hi => ⟨?_, ho.frozenAt i⟩, fun k hk => ?_⟩, .inr (by rw [hv]; rfl)⟩
    · rw [ho.cellAt i (by omega)]
      have : i < ((List.range n).flatMap (one1 X)).length := by rw [ho.1]; omega
      rw [List.getElem?_eq_getElem this]
      rfl
    · skip
      rw [ho.cellAt k (by omega), flat_get (m := 1) (one1 X) (fun _ => rfl) (by decide) n k (by omega), Nat.div_one, Nat.mod_one]
      rfl
end Go.Proofs.Ytlbjgecjonegkaa
