/- The walks of PclListOk, the program's and the model's; conditions: the list lies in memory as a row of parcels. -/
import Derived.Test.YthbkjfkkdaheoaaGreatDoorCMk2
import Derived.Laws.AppendOwn
import Derived.Test.YthbkjfkkdaheoaaGreatDoorTk
import Derived.Test.YthbkjfkkdaheoaaGreatDoorList
import Derived.Test.YthbkjfkkdaheoaaGreatDoorWalksD
import Derived.Test.YthbkjfkkdaheoaaGreatDoorCTo
namespace Go.Proofs.YthbkjfkkdaheoaaGreatDoor
open Go.RowKit Go.Deep
set_option linter.unusedVariables false
def one1 (X : Nat → Int) (k : Nat) : List Value := [.int .i64 (X k)]
def five5 (Z : Nat → Nat → Int) (k : Nat) : List Value := [.int .i64 (Z k 0), .int .i64 (Z k 1), .int .i64 (Z k 2), .int .i64 (Z k 3), .int .i64 (Z k 4)]
theorem flat_get {m : Nat} (f : Nat → List Value) (hf : ∀ k, (f k).length = m) (hm : 0 < m) : ∀ n i, i < n * m → ((List.range n).flatMap f)[i]? = (f (i / m))[i % m]?
  | 0, i, h => by omega
  | n + 1, i, h => by
    rw [List.range_succ, List.flatMap_append]
    have hl : ((List.range n).flatMap f).length = n * m := by
      clear h
      induction n with
      | zero => simp
      | succ n ih => rw [List.range_succ, List.flatMap_append, List.length_append, ih]; simp [hf, Nat.succ_mul]
    by_cases hi : i < n * m
    · rw [List.getElem?_append_left (by omega)]
      exact flat_get f hf hm n i hi
    · rw [List.getElem?_append_right (by omega), hl]
      have h1 : i / m = n := Nat.div_eq_of_lt_le (by omega) (by omega)
      have h2 : i % m = i - n * m := by
        have := Nat.div_add_mod i m
        rw [h1, Nat.mul_comm] at this
        omega
      rw [h1, h2]
      simp
set_option maxHeartbeats 1000000 in
theorem copyW (b o n cap : Nat) (Z : Nat → Nat → Int) (hn : n ≤ 1048576) (w : World) (hb : b < w.heap.size) (hr : ∀ k j, k < n → j < 5 → w.cell? ⟨b, o + k * 5 + j, none⟩ = some (.int .i64 (Z k j))) :
    Calls Tryz.prog 129 #[.slice (some ⟨b, o, none⟩) n cap] w fun e w' => (∃ v, e = .returned v ∧ w'.ownsRow w.heap.size 54 5 v n ((List.range n).flatMap (five5 Z))) ∧ Below w.heap.size w w' := by
  have hlen : ((List.range n).flatMap (five5 Z)).length = n * 5 := by
    clear hn hr
    induction n with
    | zero => simp
    | succ n ih => rw [List.range_succ, List.flatMap_append, List.length_append, ih]; simp [five5, Nat.succ_mul]
  have hcell : ∀ j u, ((List.range n).flatMap (five5 Z))[j]? = some u → w.cell? ((⟨b, o, none⟩ : Addr).add j) = some u := by
    intro j u hj
    have hlt : j < n * 5 := by
      have := (List.getElem?_eq_some_iff.1 hj).1
      rw [hlen] at this; exact this
    rw [flat_get (five5 Z) (fun _ => rfl) (by decide) n j hlt] at hj
    have hq : j / 5 < n := Nat.div_lt_of_lt_mul (by omega)
    have hr' := hr (j / 5) (j % 5) hq (Nat.mod_lt _ (by decide))
    rw [add_none, show o + j = o + j / 5 * 5 + j % 5 by omega, hr', ← hj]
    have : j % 5 < 5 := Nat.mod_lt _ (by decide)
    generalize j % 5 = q at this ⊢
    match q, this with
    | 0, _ => rfl
    | 1, _ => rfl
    | 2, _ => rfl
    | 3, _ => rfl
    | 4, _ => rfl
  have h1 : ∀ u ∈ (List.range n).flatMap (five5 Z), u.oneCell' = true := by
    intro u hu
    obtain ⟨k, _, hk⟩ := List.mem_flatMap.1 hu
    simp [five5] at hk
    rcases hk with rfl | rfl | rfl | rfl | rfl <;> rfl
  clear hr
  obtain ⟨i5, hi5, hzz⟩ := Option.map_eq_some_iff.1 Tryz.info54
  simp only [Prod.mk.injEq] at hzz
  obtain ⟨hz50, hz51, hz52⟩ := hzz
  have HC : Hid (∀ j u, ((List.range n).flatMap (five5 Z))[j]? = some u → w.cell? ((⟨b, o, none⟩ : Addr).add j) = some u) := hcell
  have H1 : Hid (∀ u ∈ (List.range n).flatMap (five5 Z), u.oneCell' = true) := h1
  have HL : Hid (((List.range n).flatMap (five5 Z)).length = n * 5) := hlen
  clear hcell h1 hlen
  go_enter Tryz.func129, Tryz.ntmps129
  go_wp2_with (at_builtin; refine wpList_append_own _ rfl _ _ 32 rfl w.heap.size 54 i5 (.agg #[.int .i64 0, .int .i64 0, .int .i64 0, .int .i64 0, .int .i64 0]) 5 40 Tryz.underlying32 hi5 hz50 hz51 hz52 rfl (by decide) _ 0 [] rfl ⟨rfl, .inl ⟨rfl, rfl⟩⟩ ⟨b, o, none⟩ n cap ((List.range n).flatMap (five5 Z)) rfl HL.out HC.out H1.out (by unfold maxLen; omega) (by omega) (Nat.le_refl _) ?_)
  intro v' w2 hown hg hnil
  have hb2 : Below w.heap.size w w2 := (Below.refl _ _).grown hg (Nat.le_refl _) (fun kk e => by cases e)
  have HO : Hid (w2.ownsRow w.heap.size 54 5 v' n ((List.range n).flatMap (five5 Z))) := hown
  clear hown hg hnil
  go_wp2
  go_ret
  exact ⟨⟨_, rfl, HO.out⟩, hb2⟩
set_option maxHeartbeats 1000000 in
theorem copyP (b o n cap : Nat) (Z : Nat → Nat → Int) (hn : n ≤ 1048576) (w : World) (hb : b < w.heap.size) (hr : ∀ k j, k < n → j < 8 → w.cell? ⟨b, o + k * 8 + j, none⟩ = some (.int .i64 (Z k j))) :
    Calls Tryz.prog 130 #[.slice (some ⟨b, o, none⟩) n cap] w fun e w' => (∃ v, e = .returned v ∧ w'.ownsRow w.heap.size 56 8 v n ((List.range n).flatMap (P8.eight Z)) ∧ (n = 0 → ∃ a, v = .slice a 0 0)) ∧ Below w.heap.size w w' := by
  have hlen : ((List.range n).flatMap (P8.eight Z)).length = n * 8 := by
    clear hn hr
    induction n with
    | zero => simp
    | succ n ih => rw [List.range_succ, List.flatMap_append, List.length_append, ih]; simp [P8.eight, Nat.succ_mul]
  have hcell : ∀ j u, ((List.range n).flatMap (P8.eight Z))[j]? = some u → w.cell? ((⟨b, o, none⟩ : Addr).add j) = some u := by
    intro j u hj
    have hlt : j < n * 8 := by
      have := (List.getElem?_eq_some_iff.1 hj).1
      rw [hlen] at this; exact this
    rw [flat_get (P8.eight Z) (fun _ => rfl) (by decide) n j hlt] at hj
    have hq : j / 8 < n := Nat.div_lt_of_lt_mul (by omega)
    have hr' := hr (j / 8) (j % 8) hq (Nat.mod_lt _ (by decide))
    rw [add_none, show o + j = o + j / 8 * 8 + j % 8 by omega, hr', ← hj]
    have : j % 8 < 8 := Nat.mod_lt _ (by decide)
    generalize j % 8 = q at this ⊢
    match q, this with
    | 0, _ => rfl
    | 1, _ => rfl
    | 2, _ => rfl
    | 3, _ => rfl
    | 4, _ => rfl
    | 5, _ => rfl
    | 6, _ => rfl
    | 7, _ => rfl
  have h1 : ∀ u ∈ (List.range n).flatMap (P8.eight Z), u.oneCell' = true := by
    intro u hu
    obtain ⟨k, _, hk⟩ := List.mem_flatMap.1 hu
    simp [P8.eight] at hk
    rcases hk with rfl | rfl | rfl | rfl | rfl | rfl | rfl | rfl <;> rfl
  clear hr
  obtain ⟨i5, hi5, hzz⟩ := Option.map_eq_some_iff.1 P8.Tryz.info56
  simp only [Prod.mk.injEq] at hzz
  obtain ⟨hz50, hz51, hz52⟩ := hzz
  have HC : Hid (∀ j u, ((List.range n).flatMap (P8.eight Z))[j]? = some u → w.cell? ((⟨b, o, none⟩ : Addr).add j) = some u) := hcell
  have H1 : Hid (∀ u ∈ (List.range n).flatMap (P8.eight Z), u.oneCell' = true) := h1
  have HL : Hid (((List.range n).flatMap (P8.eight Z)).length = n * 8) := hlen
  clear hcell h1 hlen
  go_enter Tryz.func130, Tryz.ntmps130
  go_wp2_with (at_builtin; refine wpList_append_own _ rfl _ _ 122 rfl w.heap.size 56 i5 (.agg #[.int .i64 0, .int .i64 0, .int .i64 0, .int .i64 0, .int .i64 0, .int .i64 0, .int .i64 0, .int .i64 0]) 8 64 Tryz.underlying122 hi5 hz50 hz51 hz52 rfl (by decide) _ 0 [] rfl ⟨rfl, .inl ⟨rfl, rfl⟩⟩ ⟨b, o, none⟩ n cap ((List.range n).flatMap (P8.eight Z)) rfl HL.out HC.out H1.out (by unfold maxLen; omega) (by omega) (Nat.le_refl _) ?_)
  intro v' w2 hown hg hnil
  have hb2 : Below w.heap.size w w2 := (Below.refl _ _).grown hg (Nat.le_refl _) (fun kk e => by cases e)
  have HO : Hid (w2.ownsRow w.heap.size 56 8 v' n ((List.range n).flatMap (P8.eight Z))) := hown
  have HN0 : Hid (n = 0 → ∃ a, v' = .slice a 0 0) := fun e => ⟨none, hnil.2 e⟩
  clear hown hg hnil
  go_wp2
  go_ret
  exact ⟨⟨_, rfl, HO.out, HN0.out⟩, hb2⟩
set_option maxHeartbeats 1000000 in
theorem copyI (b o n cap : Nat) (X : Nat → Int) (hn : n ≤ 1048576) (w : World) (hb : b < w.heap.size) (hr : ∀ k, k < n → w.cell? ⟨b, o + k, none⟩ = some (.int .i64 (X k))) :
    Calls Tryz.prog 131 #[.slice (some ⟨b, o, none⟩) n cap] w fun e w' => (∃ v, e = .returned v ∧ w'.ownsRow w.heap.size 3 1 v n ((List.range n).flatMap (one1 X))) ∧ Below w.heap.size w w' := by
  have hlen : ((List.range n).flatMap (one1 X)).length = n * 1 := by
    clear hn hr
    induction n with
    | zero => simp
    | succ n ih => rw [List.range_succ, List.flatMap_append, List.length_append, ih]; simp [one1, Nat.succ_mul]
  have hcell : ∀ j u, ((List.range n).flatMap (one1 X))[j]? = some u → w.cell? ((⟨b, o, none⟩ : Addr).add j) = some u := by
    intro j u hj
    have hlt : j < n * 1 := by
      have := (List.getElem?_eq_some_iff.1 hj).1
      rw [hlen] at this; exact this
    rw [flat_get (one1 X) (fun _ => rfl) (by decide) n j hlt, Nat.div_one, Nat.mod_one] at hj
    rw [add_none, hr j (by omega), ← hj]
    rfl
  have h1 : ∀ u ∈ (List.range n).flatMap (one1 X), u.oneCell' = true := by
    intro u hu
    obtain ⟨k, _, hk⟩ := List.mem_flatMap.1 hu
    simp [one1] at hk
    subst hk; rfl
  clear hr
  obtain ⟨i5, hi5, hzz⟩ := Option.map_eq_some_iff.1 Tryz.info3
  simp only [Prod.mk.injEq] at hzz
  obtain ⟨hz50, hz51, hz52⟩ := hzz
  have HC : Hid (∀ j u, ((List.range n).flatMap (one1 X))[j]? = some u → w.cell? ((⟨b, o, none⟩ : Addr).add j) = some u) := hcell
  have H1 : Hid (∀ u ∈ (List.range n).flatMap (one1 X), u.oneCell' = true) := h1
  have HL : Hid (((List.range n).flatMap (one1 X)).length = n * 1) := hlen
  clear hcell h1 hlen
  go_enter Tryz.func131, Tryz.ntmps131
  go_wp2_with (at_builtin; refine wpList_append_own _ rfl _ _ 26 rfl w.heap.size 3 i5 (.int .i64 0) 1 8 Tryz.underlying26 hi5 hz50 hz51 hz52 rfl (by decide) _ 0 [] rfl ⟨rfl, .inl ⟨rfl, rfl⟩⟩ ⟨b, o, none⟩ n cap ((List.range n).flatMap (one1 X)) rfl HL.out HC.out H1.out (by unfold maxLen; omega) (by omega) (Nat.le_refl _) ?_)
  intro v' w2 hown hg hnil
  have hb2 : Below w.heap.size w w2 := (Below.refl _ _).grown hg (Nat.le_refl _) (fun kk e => by cases e)
  have HO : Hid (w2.ownsRow w.heap.size 3 1 v' n ((List.range n).flatMap (one1 X))) := hown
  clear hown hg hnil
  go_wp2
  go_ret
  exact ⟨⟨_, rfl, HO.out⟩, hb2⟩
theorem rw_of_own {w : World} {base n : Nat} {v : Value} {Z : Nat → Nat → Int} (h : w.ownsRow base 54 5 v n ((List.range n).flatMap (five5 Z))) : ∃ g, RW base w.heap.size w v n Z g ∧ (v.ownBlock = none ∨ v.ownBlock = some g) := by
  rcases h.2 with ⟨e, hl⟩ | ⟨g, cap, cur, hv, _⟩
  · subst e; subst hl
    exact ⟨0, .inl ⟨rfl, none, 0, rfl⟩, .inl rfl⟩
  · have ho : w.ownsRow base 54 5 (.slice (some ⟨g, 0, none⟩) n cap) n ((List.range n).flatMap (five5 Z)) := by rw [← hv]; exact h
    refine ⟨g, .inr ⟨cap, hv, (ho.lt g rfl).1, (ho.lt g rfl).2, Nat.le_refl _, fun i hi => ⟨?_, ho.frozenAt i⟩, fun k j hk hj => ?_⟩, .inr (by rw [hv]; rfl)⟩
    · rw [ho.cellAt i (by omega)]
      have : i < ((List.range n).flatMap (five5 Z)).length := by rw [ho.1]; omega
      rw [List.getElem?_eq_getElem this]
      rfl
    · skip
      have hlt : k * 5 + j < n * 5 := by omega
      rw [ho.cellAt (k * 5 + j) hlt, flat_get (five5 Z) (fun _ => rfl) (by decide) n _ hlt, show (k * 5 + j) / 5 = k by omega, show (k * 5 + j) % 5 = j by omega]
      match j, hj with
      | 0, _ => rfl
      | 1, _ => rfl
      | 2, _ => rfl
      | 3, _ => rfl
      | 4, _ => rfl
theorem rp_of_own {w : World} {base n : Nat} {v : Value} {Z : Nat → Nat → Int} (h : w.ownsRow base 56 8 v n ((List.range n).flatMap (P8.eight Z))) : ∃ g, RP base w.heap.size w v n Z g ∧ (v.ownBlock = none ∨ v.ownBlock = some g) := by
  rcases h.2 with ⟨e, hl⟩ | ⟨g, cap, cur, hv, _⟩
  · subst e; subst hl
    exact ⟨0, .inl ⟨rfl, none, 0, rfl⟩, .inl rfl⟩
  · have ho : w.ownsRow base 56 8 (.slice (some ⟨g, 0, none⟩) n cap) n ((List.range n).flatMap (P8.eight Z)) := by rw [← hv]; exact h
    refine ⟨g, .inr ⟨cap, hv, (ho.lt g rfl).1, (ho.lt g rfl).2, Nat.le_refl _, fun i hi => ⟨?_, ho.frozenAt i⟩, fun k j hk hj => ?_⟩, .inr (by rw [hv]; rfl)⟩
    · rw [ho.cellAt i (by omega)]
      have : i < ((List.range n).flatMap (P8.eight Z)).length := by rw [ho.1]; omega
      rw [List.getElem?_eq_getElem this]
      rfl
    · skip
      have hlt : k * 8 + j < n * 8 := by omega
      rw [ho.cellAt (k * 8 + j) hlt, flat_get (P8.eight Z) (fun _ => rfl) (by decide) n _ hlt, show (k * 8 + j) / 8 = k by omega, show (k * 8 + j) % 8 = j by omega]
      match j, hj with
      | 0, _ => rfl
      | 1, _ => rfl
      | 2, _ => rfl
      | 3, _ => rfl
      | 4, _ => rfl
      | 5, _ => rfl
      | 6, _ => rfl
      | 7, _ => rfl
theorem ri_of_own {w : World} {base n : Nat} {v : Value} {X : Nat → Int} (h : w.ownsRow base 3 1 v n ((List.range n).flatMap (one1 X))) : ∃ g, RI base w.heap.size w v n X g ∧ (v.ownBlock = none ∨ v.ownBlock = some g) := by
  rcases h.2 with ⟨e, hl⟩ | ⟨g, cap, cur, hv, _⟩
  · subst e; subst hl
    exact ⟨0, .inl ⟨rfl, none, 0, rfl⟩, .inl rfl⟩
  · have ho : w.ownsRow base 3 1 (.slice (some ⟨g, 0, none⟩) n cap) n ((List.range n).flatMap (one1 X)) := by rw [← hv]; exact h
    refine ⟨g, .inr ⟨cap, hv, (ho.lt g rfl).1, (ho.lt g rfl).2, Nat.le_refl _, fun i hi => ⟨?_, ho.frozenAt i⟩, fun k hk => ?_⟩, .inr (by rw [hv]; rfl)⟩
    · rw [ho.cellAt i (by omega)]
      have : i < ((List.range n).flatMap (one1 X)).length := by rw [ho.1]; omega
      rw [List.getElem?_eq_getElem this]
      rfl
    · skip
      rw [ho.cellAt k (by omega), flat_get (m := 1) (one1 X) (fun _ => rfl) (by decide) n k (by omega), Nat.div_one, Nat.mod_one]
      rfl
def wkB (c d : Int) (Z : Nat → Nat → Int) (k : Nat) : Bool := wlkB c d (Z k 0) (Z k 1) (Z k 2) (Z k 3) (Z k 4)
def goodB (c d : Int) (Z : Nat → Nat → Int) (k : Nat) : Bool := wkB c d Z k && (k == 0 || decide (Z (k - 1) 0 < Z k 0))
def allB (c d : Int) (Z : Nat → Nat → Int) : Nat → Bool
  | 0 => true
  | k + 1 => allB c d Z k && goodB c d Z k
theorem allB_step {c d : Int} {Z : Nat → Nat → Int} {k : Nat} (h : allB c d Z k = true) (g : goodB c d Z k = true) : allB c d Z (k + 1) = true := by simp [allB, h, g]
theorem allB_down {c d : Int} {Z : Nat → Nat → Int} {k : Nat} : ∀ n, k ≤ n → allB c d Z n = true → allB c d Z k = true
  | 0, hk, h => by obtain rfl : k = 0 := by omega
                   exact h
  | n + 1, hk, h => by
    by_cases e : k = n + 1
    · subst e; exact h
    · simp only [allB, Bool.and_eq_true] at h
      exact allB_down n (by omega) h.1
theorem allB_stop {c d : Int} {Z : Nat → Nat → Int} {k n : Nat} (h : allB c d Z k = true) (hk : k < n) (g : goodB c d Z k = false) : allB c d Z n = false := by
  cases e : allB c d Z n with
  | false => rfl
  | true =>
    have := allB_down n (show k + 1 ≤ n by omega) e
    simp [allB, g] at this
set_option maxHeartbeats 8000000 in
theorem listOk_spec (c d : Int) (b o n cap : Nat) (Z : Nat → Nat → Int) (hn : n ≤ 1048576) (w : World) (hb : b < w.heap.size)
    (hr : ∀ k j, k < n → j < 5 → w.cell? ⟨b, o + k * 5 + j, none⟩ = some (.int .i64 (Z k j))) :
    Calls Tryz.prog 77 #[.agg #[.int .i64 c, .int .i64 d], .slice (some ⟨b, o, none⟩) n cap] w fun e w' => e = .returned (.bool (allB c d Z n)) ∧ Below w.heap.size w w' := by
  have HR : Hid (∀ k j, k < n → j < 5 → w.cell? ⟨b, o + k * 5 + j, none⟩ = some (.int .i64 (Z k j))) := hr
  clear hr
  go_enter Tryz.func77, Tryz.ntmps77
  go_wp2
  go_loopw [5] (fun i wr => ∃ k : Nat, k ≤ n ∧ i = .int .i64 k ∧ allB c d Z k = true ∧ ((∀ b o, b < w.heap.size + 1 → wr.cell? ⟨b, o, none⟩ = (w.alloc (.cells #[.int .i64 c, .int .i64 d] 38)).cell? ⟨b, o, none⟩) ∧ w.heap.size + 1 ≤ wr.heap.size) ∧ Below w.heap.size w wr) (fun i _ => n - (intOf i).toNat)
  case atStart => exact ⟨0, Nat.zero_le _, rfl, rfl, ⟨fun _ _ _ => rfl, by simp⟩, (Below.refl _ _).alloc (by simp) _⟩
  case round =>
    obtain ⟨k, hk, rfl, hall, HS, BR⟩ := hrel
    by_cases hkn : k < n
    · have c0 : w.cell? ⟨b, o + k * 5, none⟩ = some (.int .i64 (Z k 0)) := HR.out k 0 hkn (by omega)
      have c1 : w.cell? ⟨b, o + k * 5 + 1, none⟩ = some (.int .i64 (Z k 1)) := HR.out k 1 hkn (by omega)
      have c2 : w.cell? ⟨b, o + k * 5 + 2, none⟩ = some (.int .i64 (Z k 2)) := HR.out k 2 hkn (by omega)
      have c3 : w.cell? ⟨b, o + k * 5 + 3, none⟩ = some (.int .i64 (Z k 3)) := HR.out k 3 hkn (by omega)
      have c4 : w.cell? ⟨b, o + k * 5 + 4, none⟩ = some (.int .i64 (Z k 4)) := HR.out k 4 hkn (by omega)
      have cp : w.cell? ⟨b, o + (k - 1) * 5, none⟩ = some (.int .i64 (Z (k - 1) 0)) := HR.out (k - 1) 0 (by omega) (by omega)
      have hb1 : b < w.heap.size + 1 := by omega
      have HALL : Hid (allB c d Z k = true) := hall
      clear hall
      cases hok : wlkB c d (Z k 0) (Z k 1) (Z k 2) (Z k 3) (Z k 4)
      · have EG : Hid (goodB c d Z k = false) := by show goodB c d Z k = _; unfold goodB wkB; rw [hok]; rfl
        go_wp2
        refine wp_region_held_drew (S := fun w' => (∀ b o, b < w.heap.size + 1 → w'.cell? ⟨b, o, none⟩ = (w.alloc (.cells #[.int .i64 c, .int .i64 d] 38)).cell? ⟨b, o, none⟩) ∧ w.heap.size + 1 ≤ w'.heap.size) (by kernel_rfl) HS ?_
        intro hHeld
        refine tkl 0 (.agg #[.int .i64 c, .int .i64 d]) rfl ?_ ?_
        · intro wx hSw; go_simp
        try simp only [Act.put, aS]
        refine tkl 1 (.slice (some ⟨b, o, none⟩) n cap) rfl ?_ ?_
        · intro wx hSw; go_simp
        try simp only [Act.put, aS]
        refine tkl 2 (.int .i64 (k : Int)) rfl ?_ ?_
        · intro wx hSw; go_simp
        try simp only [Act.put, aS]
        refine tkl 3 (.pointer (some ⟨b, o + k * 5, none⟩)) rfl ?_ ?_
        · intro wx hSw; go_simp
        try simp only [Act.put, aS]
        refine tkl 4 (.agg #[.int .i64 (Z k 0), .int .i64 (Z k 1), .int .i64 (Z k 2), .int .i64 (Z k 3), .int .i64 (Z k 4)]) rfl ?_ ?_
        · intro wx hSw; go_simp
        try simp only [Act.put, aS]
        refine rd1 5 rfl fun K hK => ?_
        go_simp
        go_wp2_with (go_at_call 117; refine (wlkOk_spec _ _ _ _ _ _ _ _).mono ?_; rintro e w2 ⟨rfl, hbw2⟩)
        refine hK.out _ _ (keepS (by assumption) hbw2) (fun hHeld => ?_)
        clear hK K
        try simp only [Act.put, aS]
        refine tkl 6 (.bool true) rfl ?_ ?_
        · intro wx hSw; go_simp
        try simp only [Act.put, aS]
        refine tkl 7 (.bool true) rfl ?_ ?_
        · intro wx hSw; go_simp
        try simp only [Act.put, aS]
        refine tkr 8 rfl ?_
        try simp only [Act.put, aS]
        refine tkr 9 rfl ?_
        try simp only [Act.put, aS]
        refine tkr 10 rfl ?_
        try simp only [Act.put, aS]
        refine tkr 11 rfl ?_
        try simp only [Act.put, aS]
        refine tkr 12 rfl ?_
        try simp only [Act.put, aS]
        refine tkr 13 rfl ?_
        try simp only [Act.put, aS]
        refine tkr 14 rfl ?_
        try simp only [Act.put, aS]
        refine tkr 15 rfl ?_
        try simp only [Act.put, aS]
        refine tkr 16 rfl ?_
        try simp only [Act.put, aS]
        refine tkr 17 rfl ?_
        try simp only [Act.put, aS]
        refine tkr 18 rfl ?_
        try simp only [Act.put, aS]
        refine tkr 19 rfl ?_
        try simp only [Act.put, aS]
        refine tkr 20 rfl ?_
        try simp only [Act.put, aS]
        refine tkr 21 rfl ?_
        try simp only [Act.put, aS]
        refine tkr 22 rfl ?_
        try simp only [Act.put, aS]
        refine tkr 23 rfl ?_
        try simp only [Act.put, aS]
        refine tkl 24 (.bool true) rfl ?_ ?_
        · intro wx hSw; go_simp
        try simp only [Act.put, aS]
        refine wpAnyH_done (by kernel_rfl) ?_ _
        go_wp2
        go_ret
        exact ⟨by rw [allB_stop HALL.out hkn EG.out]; rfl, by repeat (first | exact BR | refine bthen ?_ (by assumption) | apply Below.drew)⟩
      · by_cases hk0 : k = 0
        · have EG : Hid (goodB c d Z k = true) := by show goodB c d Z k = _; unfold goodB wkB; rw [hok]; simp [hk0]
          have hkf : ¬ 0 < k := by omega
          clear hk0
          go_wp2
          refine wp_region_held_drew (S := fun w' => (∀ b o, b < w.heap.size + 1 → w'.cell? ⟨b, o, none⟩ = (w.alloc (.cells #[.int .i64 c, .int .i64 d] 38)).cell? ⟨b, o, none⟩) ∧ w.heap.size + 1 ≤ w'.heap.size) (by kernel_rfl) HS ?_
          intro hHeld
          refine tkl 0 (.agg #[.int .i64 c, .int .i64 d]) rfl ?_ ?_
          · intro wx hSw; go_simp
          try simp only [Act.put, aS]
          refine tkl 1 (.slice (some ⟨b, o, none⟩) n cap) rfl ?_ ?_
          · intro wx hSw; go_simp
          try simp only [Act.put, aS]
          refine tkl 2 (.int .i64 (k : Int)) rfl ?_ ?_
          · intro wx hSw; go_simp
          try simp only [Act.put, aS]
          refine tkl 3 (.pointer (some ⟨b, o + k * 5, none⟩)) rfl ?_ ?_
          · intro wx hSw; go_simp
          try simp only [Act.put, aS]
          refine tkl 4 (.agg #[.int .i64 (Z k 0), .int .i64 (Z k 1), .int .i64 (Z k 2), .int .i64 (Z k 3), .int .i64 (Z k 4)]) rfl ?_ ?_
          · intro wx hSw; go_simp
          try simp only [Act.put, aS]
          refine rd1 5 rfl fun K hK => ?_
          go_simp
          go_wp2_with (go_at_call 117; refine (wlkOk_spec _ _ _ _ _ _ _ _).mono ?_; rintro e w2 ⟨rfl, hbw2⟩)
          refine hK.out _ _ (keepS (by assumption) hbw2) (fun hHeld => ?_)
          clear hK K
          try simp only [Act.put, aS]
          refine tkl 6 (.bool false) rfl ?_ ?_
          · intro wx hSw; go_simp
          try simp only [Act.put, aS]
          refine tkl 7 (.bool false) rfl ?_ ?_
          · intro wx hSw; go_simp
          try simp only [Act.put, aS]
          refine tkl 8 (.int .i64 (k : Int)) rfl ?_ ?_
          · intro wx hSw; go_simp
          try simp only [Act.put, aS]
          refine tkl 9 (.bool false) rfl ?_ ?_
          · intro wx hSw; go_simp <;> omega
          try simp only [Act.put, aS]
          refine tkl 10 (.bool false) rfl ?_ ?_
          · intro wx hSw; go_simp
          try simp only [Act.put, aS]
          refine tkr 11 rfl ?_
          try simp only [Act.put, aS]
          refine tkr 12 rfl ?_
          try simp only [Act.put, aS]
          refine tkr 13 rfl ?_
          try simp only [Act.put, aS]
          refine tkr 14 rfl ?_
          try simp only [Act.put, aS]
          refine tkr 15 rfl ?_
          try simp only [Act.put, aS]
          refine tkr 16 rfl ?_
          try simp only [Act.put, aS]
          refine tkr 17 rfl ?_
          try simp only [Act.put, aS]
          refine tkr 18 rfl ?_
          try simp only [Act.put, aS]
          refine tkr 19 rfl ?_
          try simp only [Act.put, aS]
          refine tkr 20 rfl ?_
          try simp only [Act.put, aS]
          refine tkr 21 rfl ?_
          try simp only [Act.put, aS]
          refine tkr 22 rfl ?_
          try simp only [Act.put, aS]
          refine tkl 23 (.bool false) rfl ?_ ?_
          · intro wx hSw; go_simp
          try simp only [Act.put, aS]
          refine tkl 24 (.bool false) rfl ?_ ?_
          · intro wx hSw; go_simp
          try simp only [Act.put, aS]
          refine wpAnyH_done (by kernel_rfl) ?_ _
          go_wp2
          go_roundw
          case rel => exact ⟨k + 1, by omega, by go_num, allB_step HALL.out EG.out, by assumption, by repeat (first | exact BR | refine bthen ?_ (by assumption) | apply Below.drew)⟩
          case measure => simp [intOf]; omega
        · by_cases hlt : Z (k - 1) 0 < Z k 0
          · have EG : Hid (goodB c d Z k = true) := by show goodB c d Z k = _; unfold goodB wkB; rw [hok]; simp [hlt]
            go_wp2
            refine wp_region_held_drew (S := fun w' => (∀ b o, b < w.heap.size + 1 → w'.cell? ⟨b, o, none⟩ = (w.alloc (.cells #[.int .i64 c, .int .i64 d] 38)).cell? ⟨b, o, none⟩) ∧ w.heap.size + 1 ≤ w'.heap.size) (by kernel_rfl) HS ?_
            intro hHeld
            refine tkl 0 (.agg #[.int .i64 c, .int .i64 d]) rfl ?_ ?_
            · intro wx hSw; go_simp
            try simp only [Act.put, aS]
            refine tkl 1 (.slice (some ⟨b, o, none⟩) n cap) rfl ?_ ?_
            · intro wx hSw; go_simp
            try simp only [Act.put, aS]
            refine tkl 2 (.int .i64 (k : Int)) rfl ?_ ?_
            · intro wx hSw; go_simp
            try simp only [Act.put, aS]
            refine tkl 3 (.pointer (some ⟨b, o + k * 5, none⟩)) rfl ?_ ?_
            · intro wx hSw; go_simp
            try simp only [Act.put, aS]
            refine tkl 4 (.agg #[.int .i64 (Z k 0), .int .i64 (Z k 1), .int .i64 (Z k 2), .int .i64 (Z k 3), .int .i64 (Z k 4)]) rfl ?_ ?_
            · intro wx hSw; go_simp
            try simp only [Act.put, aS]
            refine rd1 5 rfl fun K hK => ?_
            go_simp
            go_wp2_with (go_at_call 117; refine (wlkOk_spec _ _ _ _ _ _ _ _).mono ?_; rintro e w2 ⟨rfl, hbw2⟩)
            refine hK.out _ _ (keepS (by assumption) hbw2) (fun hHeld => ?_)
            clear hK K
            try simp only [Act.put, aS]
            refine tkl 6 (.bool false) rfl ?_ ?_
            · intro wx hSw; go_simp
            try simp only [Act.put, aS]
            refine tkl 7 (.bool false) rfl ?_ ?_
            · intro wx hSw; go_simp
            try simp only [Act.put, aS]
            refine tkl 8 (.int .i64 (k : Int)) rfl ?_ ?_
            · intro wx hSw; go_simp
            try simp only [Act.put, aS]
            refine tkl 9 (.bool true) rfl ?_ ?_
            · intro wx hSw; go_simp <;> omega
            try simp only [Act.put, aS]
            refine tkl 10 (.bool true) rfl ?_ ?_
            · intro wx hSw; go_simp
            try simp only [Act.put, aS]
            refine tkl 11 (.slice (some ⟨b, o, none⟩) n cap) rfl ?_ ?_
            · intro wx hSw; go_simp
            try simp only [Act.put, aS]
            refine tkl 12 (.int .i64 (k : Int)) rfl ?_ ?_
            · intro wx hSw; go_simp
            try simp only [Act.put, aS]
            refine tkl 13 (.int .i64 ((k : Int) - 1)) rfl ?_ ?_
            · intro wx hSw; go_simp; rw [IntKind.wrap_i64]; omega
            try simp only [Act.put, aS]
            refine tkl 14 (.pointer (some ⟨b, o + (k - 1) * 5, none⟩)) rfl ?_ ?_
            · intro wx hSw; go_simp; intro h; omega
            try simp only [Act.put, aS]
            refine tkl 15 (.pointer (some ⟨b, o + (k - 1) * 5, none⟩)) rfl ?_ ?_
            · intro wx hSw; go_simp
            try simp only [Act.put, aS]
            refine tkl 16 (.int .i64 (Z (k - 1) 0)) rfl ?_ ?_
            · intro wx hSw; go_simp
            try simp only [Act.put, aS]
            refine tkl 17 (.slice (some ⟨b, o, none⟩) n cap) rfl ?_ ?_
            · intro wx hSw; go_simp
            try simp only [Act.put, aS]
            refine tkl 18 (.int .i64 (k : Int)) rfl ?_ ?_
            · intro wx hSw; go_simp
            try simp only [Act.put, aS]
            refine tkl 19 (.pointer (some ⟨b, o + k * 5, none⟩)) rfl ?_ ?_
            · intro wx hSw; go_simp
            try simp only [Act.put, aS]
            refine tkl 20 (.pointer (some ⟨b, o + k * 5, none⟩)) rfl ?_ ?_
            · intro wx hSw; go_simp
            try simp only [Act.put, aS]
            refine tkl 21 (.int .i64 (Z k 0)) rfl ?_ ?_
            · intro wx hSw; go_simp
            try simp only [Act.put, aS]
            refine tkl 22 (.bool false) rfl ?_ ?_
            · intro wx hSw; go_simp
            try simp only [Act.put, aS]
            refine tkl 23 (.bool false) rfl ?_ ?_
            · intro wx hSw; go_simp
            try simp only [Act.put, aS]
            refine tkl 24 (.bool false) rfl ?_ ?_
            · intro wx hSw; go_simp
            try simp only [Act.put, aS]
            refine wpAnyH_done (by kernel_rfl) ?_ _
            go_wp2
            go_roundw
            case rel => exact ⟨k + 1, by omega, by go_num, allB_step HALL.out EG.out, by assumption, by repeat (first | exact BR | refine bthen ?_ (by assumption) | apply Below.drew)⟩
            case measure => simp [intOf]; omega
          · have EG : Hid (goodB c d Z k = false) := by show goodB c d Z k = _; unfold goodB wkB; rw [hok]; simp [hk0, hlt]
            go_wp2
            refine wp_region_held_drew (S := fun w' => (∀ b o, b < w.heap.size + 1 → w'.cell? ⟨b, o, none⟩ = (w.alloc (.cells #[.int .i64 c, .int .i64 d] 38)).cell? ⟨b, o, none⟩) ∧ w.heap.size + 1 ≤ w'.heap.size) (by kernel_rfl) HS ?_
            intro hHeld
            refine tkl 0 (.agg #[.int .i64 c, .int .i64 d]) rfl ?_ ?_
            · intro wx hSw; go_simp
            try simp only [Act.put, aS]
            refine tkl 1 (.slice (some ⟨b, o, none⟩) n cap) rfl ?_ ?_
            · intro wx hSw; go_simp
            try simp only [Act.put, aS]
            refine tkl 2 (.int .i64 (k : Int)) rfl ?_ ?_
            · intro wx hSw; go_simp
            try simp only [Act.put, aS]
            refine tkl 3 (.pointer (some ⟨b, o + k * 5, none⟩)) rfl ?_ ?_
            · intro wx hSw; go_simp
            try simp only [Act.put, aS]
            refine tkl 4 (.agg #[.int .i64 (Z k 0), .int .i64 (Z k 1), .int .i64 (Z k 2), .int .i64 (Z k 3), .int .i64 (Z k 4)]) rfl ?_ ?_
            · intro wx hSw; go_simp
            try simp only [Act.put, aS]
            refine rd1 5 rfl fun K hK => ?_
            go_simp
            go_wp2_with (go_at_call 117; refine (wlkOk_spec _ _ _ _ _ _ _ _).mono ?_; rintro e w2 ⟨rfl, hbw2⟩)
            refine hK.out _ _ (keepS (by assumption) hbw2) (fun hHeld => ?_)
            clear hK K
            try simp only [Act.put, aS]
            refine tkl 6 (.bool false) rfl ?_ ?_
            · intro wx hSw; go_simp
            try simp only [Act.put, aS]
            refine tkl 7 (.bool false) rfl ?_ ?_
            · intro wx hSw; go_simp
            try simp only [Act.put, aS]
            refine tkl 8 (.int .i64 (k : Int)) rfl ?_ ?_
            · intro wx hSw; go_simp
            try simp only [Act.put, aS]
            refine tkl 9 (.bool true) rfl ?_ ?_
            · intro wx hSw; go_simp <;> omega
            try simp only [Act.put, aS]
            refine tkl 10 (.bool true) rfl ?_ ?_
            · intro wx hSw; go_simp
            try simp only [Act.put, aS]
            refine tkl 11 (.slice (some ⟨b, o, none⟩) n cap) rfl ?_ ?_
            · intro wx hSw; go_simp
            try simp only [Act.put, aS]
            refine tkl 12 (.int .i64 (k : Int)) rfl ?_ ?_
            · intro wx hSw; go_simp
            try simp only [Act.put, aS]
            refine tkl 13 (.int .i64 ((k : Int) - 1)) rfl ?_ ?_
            · intro wx hSw; go_simp; rw [IntKind.wrap_i64]; omega
            try simp only [Act.put, aS]
            refine tkl 14 (.pointer (some ⟨b, o + (k - 1) * 5, none⟩)) rfl ?_ ?_
            · intro wx hSw; go_simp; intro h; omega
            try simp only [Act.put, aS]
            refine tkl 15 (.pointer (some ⟨b, o + (k - 1) * 5, none⟩)) rfl ?_ ?_
            · intro wx hSw; go_simp
            try simp only [Act.put, aS]
            refine tkl 16 (.int .i64 (Z (k - 1) 0)) rfl ?_ ?_
            · intro wx hSw; go_simp
            try simp only [Act.put, aS]
            refine tkl 17 (.slice (some ⟨b, o, none⟩) n cap) rfl ?_ ?_
            · intro wx hSw; go_simp
            try simp only [Act.put, aS]
            refine tkl 18 (.int .i64 (k : Int)) rfl ?_ ?_
            · intro wx hSw; go_simp
            try simp only [Act.put, aS]
            refine tkl 19 (.pointer (some ⟨b, o + k * 5, none⟩)) rfl ?_ ?_
            · intro wx hSw; go_simp
            try simp only [Act.put, aS]
            refine tkl 20 (.pointer (some ⟨b, o + k * 5, none⟩)) rfl ?_ ?_
            · intro wx hSw; go_simp
            try simp only [Act.put, aS]
            refine tkl 21 (.int .i64 (Z k 0)) rfl ?_ ?_
            · intro wx hSw; go_simp
            try simp only [Act.put, aS]
            refine tkl 22 (.bool true) rfl ?_ ?_
            · intro wx hSw; go_simp
            try simp only [Act.put, aS]
            refine tkl 23 (.bool true) rfl ?_ ?_
            · intro wx hSw; go_simp
            try simp only [Act.put, aS]
            refine tkl 24 (.bool true) rfl ?_ ?_
            · intro wx hSw; go_simp
            try simp only [Act.put, aS]
            refine wpAnyH_done (by kernel_rfl) ?_ _
            go_wp2
            go_ret
            exact ⟨by rw [allB_stop HALL.out hkn EG.out]; rfl, by repeat (first | exact BR | refine bthen ?_ (by assumption) | apply Below.drew)⟩
    · have : k = n := by omega
      subst this
      go_wp2
      go_ret
      exact ⟨by rw [hall]; rfl, by repeat (first | exact BR | refine bthen ?_ (by assumption) | apply Below.drew)⟩
theorem keep_down {W wr wf : World} {m : Nat} {ob : Obj} (h : (∀ b o, b < m → wr.cell? ⟨b, o, none⟩ = W.cell? ⟨b, o, none⟩) ∧ m ≤ wr.heap.size)
    (h2 : (∀ b o, b < wr.heap.size + 1 → wf.cell? ⟨b, o, none⟩ = (wr.alloc ob).cell? ⟨b, o, none⟩) ∧ wr.heap.size + 1 ≤ wf.heap.size) :
    (∀ b o, b < m → wf.cell? ⟨b, o, none⟩ = W.cell? ⟨b, o, none⟩) ∧ m ≤ wf.heap.size :=
  ⟨fun b o hb => by rw [h2.1 b o (by have := h.2; omega), World.cell?_alloc_lt _ _ _ (by have := h.2; simp; omega)]; exact h.1 b o hb, by have := h.2; have := h2.2; omega⟩
set_option maxHeartbeats 8000000 in
theorem listOk_impl (c d : Int) (b o n cap : Nat) (Z : Nat → Nat → Int) (hn : n ≤ 1048576) (w : World) (hb : b < w.heap.size)
    (hr : ∀ k j, k < n → j < 5 → w.cell? ⟨b, o + k * 5 + j, none⟩ = some (.int .i64 (Z k j))) :
    Calls Tryz.prog 126 #[.agg #[.int .i64 c, .int .i64 d], .slice (some ⟨b, o, none⟩) n cap] w fun e w' => e = .returned (.bool (allB c d Z n)) ∧ Below w.heap.size w w' := by
  have HR : Hid (∀ k j, k < n → j < 5 → w.cell? ⟨b, o + k * 5 + j, none⟩ = some (.int .i64 (Z k j))) := hr
  clear hr
  go_enter Tryz.func126, Tryz.ntmps126
  go_wp2
  go_loopw [9] (fun i wr => ∃ k : Nat, k ≤ n ∧ i = .int .i64 k ∧ allB c d Z k = true ∧ ((∀ b o, b < w.heap.size + 1 → wr.cell? ⟨b, o, none⟩ = (w.alloc (.cells #[.int .i64 c, .int .i64 d] 38)).cell? ⟨b, o, none⟩) ∧ w.heap.size + 1 ≤ wr.heap.size) ∧ Below w.heap.size w wr) (fun i _ => n - (intOf i).toNat)
  case atStart => exact ⟨0, Nat.zero_le _, rfl, rfl, ⟨fun _ _ _ => rfl, by simp⟩, (Below.refl _ _).alloc (by simp) _⟩
  case round =>
    obtain ⟨k, hk, rfl, hall, HS, BR⟩ := hrel
    by_cases hkn : k < n
    · have c0 : w.cell? ⟨b, o + k * 5, none⟩ = some (.int .i64 (Z k 0)) := HR.out k 0 hkn (by omega)
      have c1 : w.cell? ⟨b, o + k * 5 + 1, none⟩ = some (.int .i64 (Z k 1)) := HR.out k 1 hkn (by omega)
      have c2 : w.cell? ⟨b, o + k * 5 + 2, none⟩ = some (.int .i64 (Z k 2)) := HR.out k 2 hkn (by omega)
      have c3 : w.cell? ⟨b, o + k * 5 + 3, none⟩ = some (.int .i64 (Z k 3)) := HR.out k 3 hkn (by omega)
      have c4 : w.cell? ⟨b, o + k * 5 + 4, none⟩ = some (.int .i64 (Z k 4)) := HR.out k 4 hkn (by omega)
      have cp : w.cell? ⟨b, o + (k - 1) * 5, none⟩ = some (.int .i64 (Z (k - 1) 0)) := HR.out (k - 1) 0 (by omega) (by omega)
      have hb1 : b < w.heap.size + 1 := by omega
      have HALL : Hid (allB c d Z k = true) := hall
      clear hall
      have hmw : w.heap.size < wr.heap.size := HS.2
      have hbwr : b < wr.heap.size := by omega
      replace c0 := (BR.cell (p := ⟨b, o + k * 5, none⟩) hb).trans c0
      replace c1 := (BR.cell (p := ⟨b, o + k * 5 + 1, none⟩) hb).trans c1
      replace c2 := (BR.cell (p := ⟨b, o + k * 5 + 2, none⟩) hb).trans c2
      replace c3 := (BR.cell (p := ⟨b, o + k * 5 + 3, none⟩) hb).trans c3
      replace c4 := (BR.cell (p := ⟨b, o + k * 5 + 4, none⟩) hb).trans c4
      replace cp := (BR.cell (p := ⟨b, o + (k - 1) * 5, none⟩) hb).trans cp
      have m0 : wr.cell? ⟨w.heap.size, 0, none⟩ = some (.int .i64 c) := (HS.1 w.heap.size 0 (by omega)).trans (by simp)
      have m1 : wr.cell? ⟨w.heap.size, 1, none⟩ = some (.int .i64 d) := (HS.1 w.heap.size 1 (by omega)).trans (by simp)
      have BR1 : Below w.heap.size w (wr.alloc (.cells #[.int .i64 (Z k 0), .int .i64 (Z k 1), .int .i64 (Z k 2), .int .i64 (Z k 3), .int .i64 (Z k 4)] 54)) := BR.alloc (Nat.le_of_lt hmw) _
      have HSH : Hid (((∀ b o, b < w.heap.size + 1 → wr.cell? ⟨b, o, none⟩ = (w.alloc (.cells #[.int .i64 c, .int .i64 d] 38)).cell? ⟨b, o, none⟩) ∧ w.heap.size + 1 ≤ wr.heap.size)) := HS
      clear HS BR
      cases hok : wlkB c d (Z k 0) (Z k 1) (Z k 2) (Z k 3) (Z k 4)
      · have EG : Hid (goodB c d Z k = false) := by show goodB c d Z k = _; unfold goodB wkB; rw [hok]; rfl
        go_wp2
        refine wp_region_held_drew (S := fun w' => (∀ b o, b < wr.heap.size + 1 → w'.cell? ⟨b, o, none⟩ = (wr.alloc (.cells #[.int .i64 (Z k 0), .int .i64 (Z k 1), .int .i64 (Z k 2), .int .i64 (Z k 3), .int .i64 (Z k 4)] 54)).cell? ⟨b, o, none⟩) ∧ wr.heap.size + 1 ≤ w'.heap.size) (by kernel_rfl) ⟨fun _ _ _ => rfl, by simp⟩ ?_
        intro hHeld
        refine tkl 0 (.agg #[.int .i64 c, .int .i64 d]) rfl ?_ ?_
        · intro wx hSw; go_simp
        try simp only [Act.put, aS]
        refine tkl 1 (.agg #[.int .i64 (Z k 0), .int .i64 (Z k 1), .int .i64 (Z k 2), .int .i64 (Z k 3), .int .i64 (Z k 4)]) rfl ?_ ?_
        · intro wx hSw; go_simp
        try simp only [Act.put, aS]
        refine rd1 2 rfl fun K hK => ?_
        go_simp
        go_wp2_with (go_at_call 152; refine (wlkOk_impl _ _ _ _ _ _ _ _).mono ?_; rintro e w2 ⟨rfl, hbw2⟩)
        refine hK.out _ _ (keepS (by assumption) hbw2) (fun hHeld => ?_)
        clear hK K
        try simp only [Act.put, aS]
        refine tkl 3 (.bool true) rfl ?_ ?_
        · intro wx hSw; go_simp
        try simp only [Act.put, aS]
        refine tkl 4 (.bool true) rfl ?_ ?_
        · intro wx hSw; go_simp
        try simp only [Act.put, aS]
        refine tkr 5 rfl ?_
        try simp only [Act.put, aS]
        refine tkr 6 rfl ?_
        try simp only [Act.put, aS]
        refine tkr 7 rfl ?_
        try simp only [Act.put, aS]
        refine tkr 8 rfl ?_
        try simp only [Act.put, aS]
        refine tkr 9 rfl ?_
        try simp only [Act.put, aS]
        refine tkr 10 rfl ?_
        try simp only [Act.put, aS]
        refine tkr 11 rfl ?_
        try simp only [Act.put, aS]
        refine tkr 12 rfl ?_
        try simp only [Act.put, aS]
        refine tkr 13 rfl ?_
        try simp only [Act.put, aS]
        refine tkr 14 rfl ?_
        try simp only [Act.put, aS]
        refine tkr 15 rfl ?_
        try simp only [Act.put, aS]
        refine tkr 16 rfl ?_
        try simp only [Act.put, aS]
        refine tkr 17 rfl ?_
        try simp only [Act.put, aS]
        refine tkl 18 (.bool true) rfl ?_ ?_
        · intro wx hSw; go_simp
        try simp only [Act.put, aS]
        refine wpAnyH_done (by kernel_rfl) ?_ _
        go_wp2
        go_ret
        exact ⟨by rw [allB_stop HALL.out hkn EG.out]; rfl, by repeat (first | exact BR1 | refine bthen ?_ (by assumption) | apply Below.drew)⟩
      · by_cases hk0 : k = 0
        · have EG : Hid (goodB c d Z k = true) := by show goodB c d Z k = _; unfold goodB wkB; rw [hok]; simp [hk0]
          have hkf : ¬ 0 < k := by omega
          clear hk0
          go_wp2
          refine wp_region_held_drew (S := fun w' => (∀ b o, b < wr.heap.size + 1 → w'.cell? ⟨b, o, none⟩ = (wr.alloc (.cells #[.int .i64 (Z k 0), .int .i64 (Z k 1), .int .i64 (Z k 2), .int .i64 (Z k 3), .int .i64 (Z k 4)] 54)).cell? ⟨b, o, none⟩) ∧ wr.heap.size + 1 ≤ w'.heap.size) (by kernel_rfl) ⟨fun _ _ _ => rfl, by simp⟩ ?_
          intro hHeld
          refine tkl 0 (.agg #[.int .i64 c, .int .i64 d]) rfl ?_ ?_
          · intro wx hSw; go_simp
          try simp only [Act.put, aS]
          refine tkl 1 (.agg #[.int .i64 (Z k 0), .int .i64 (Z k 1), .int .i64 (Z k 2), .int .i64 (Z k 3), .int .i64 (Z k 4)]) rfl ?_ ?_
          · intro wx hSw; go_simp
          try simp only [Act.put, aS]
          refine rd1 2 rfl fun K hK => ?_
          go_simp
          go_wp2_with (go_at_call 152; refine (wlkOk_impl _ _ _ _ _ _ _ _).mono ?_; rintro e w2 ⟨rfl, hbw2⟩)
          refine hK.out _ _ (keepS (by assumption) hbw2) (fun hHeld => ?_)
          clear hK K
          try simp only [Act.put, aS]
          refine tkl 3 (.bool false) rfl ?_ ?_
          · intro wx hSw; go_simp
          try simp only [Act.put, aS]
          refine tkl 4 (.bool false) rfl ?_ ?_
          · intro wx hSw; go_simp
          try simp only [Act.put, aS]
          refine tkl 5 (.int .i64 (k : Int)) rfl ?_ ?_
          · intro wx hSw; go_simp
          try simp only [Act.put, aS]
          refine tkl 6 (.bool false) rfl ?_ ?_
          · intro wx hSw; go_simp <;> omega
          try simp only [Act.put, aS]
          refine tkl 7 (.bool false) rfl ?_ ?_
          · intro wx hSw; go_simp
          try simp only [Act.put, aS]
          refine tkr 8 rfl ?_
          try simp only [Act.put, aS]
          refine tkr 9 rfl ?_
          try simp only [Act.put, aS]
          refine tkr 10 rfl ?_
          try simp only [Act.put, aS]
          refine tkr 11 rfl ?_
          try simp only [Act.put, aS]
          refine tkr 12 rfl ?_
          try simp only [Act.put, aS]
          refine tkr 13 rfl ?_
          try simp only [Act.put, aS]
          refine tkr 14 rfl ?_
          try simp only [Act.put, aS]
          refine tkr 15 rfl ?_
          try simp only [Act.put, aS]
          refine tkr 16 rfl ?_
          try simp only [Act.put, aS]
          refine tkl 17 (.bool false) rfl ?_ ?_
          · intro wx hSw; go_simp
          try simp only [Act.put, aS]
          refine tkl 18 (.bool false) rfl ?_ ?_
          · intro wx hSw; go_simp
          try simp only [Act.put, aS]
          refine wpAnyH_done (by kernel_rfl) ?_ _
          go_wp2
          go_roundw
          case rel => exact ⟨k + 1, by omega, by go_num, allB_step HALL.out EG.out, keep_down HSH.out (by assumption), by repeat (first | exact BR1 | refine bthen ?_ (by assumption) | apply Below.drew)⟩
          case measure => simp [intOf]; omega
        · by_cases hlt : Z (k - 1) 0 < Z k 0
          · have EG : Hid (goodB c d Z k = true) := by show goodB c d Z k = _; unfold goodB wkB; rw [hok]; simp [hlt]
            go_wp2
            refine wp_region_held_drew (S := fun w' => (∀ b o, b < wr.heap.size + 1 → w'.cell? ⟨b, o, none⟩ = (wr.alloc (.cells #[.int .i64 (Z k 0), .int .i64 (Z k 1), .int .i64 (Z k 2), .int .i64 (Z k 3), .int .i64 (Z k 4)] 54)).cell? ⟨b, o, none⟩) ∧ wr.heap.size + 1 ≤ w'.heap.size) (by kernel_rfl) ⟨fun _ _ _ => rfl, by simp⟩ ?_
            intro hHeld
            refine tkl 0 (.agg #[.int .i64 c, .int .i64 d]) rfl ?_ ?_
            · intro wx hSw; go_simp
            try simp only [Act.put, aS]
            refine tkl 1 (.agg #[.int .i64 (Z k 0), .int .i64 (Z k 1), .int .i64 (Z k 2), .int .i64 (Z k 3), .int .i64 (Z k 4)]) rfl ?_ ?_
            · intro wx hSw; go_simp
            try simp only [Act.put, aS]
            refine rd1 2 rfl fun K hK => ?_
            go_simp
            go_wp2_with (go_at_call 152; refine (wlkOk_impl _ _ _ _ _ _ _ _).mono ?_; rintro e w2 ⟨rfl, hbw2⟩)
            refine hK.out _ _ (keepS (by assumption) hbw2) (fun hHeld => ?_)
            clear hK K
            try simp only [Act.put, aS]
            refine tkl 3 (.bool false) rfl ?_ ?_
            · intro wx hSw; go_simp
            try simp only [Act.put, aS]
            refine tkl 4 (.bool false) rfl ?_ ?_
            · intro wx hSw; go_simp
            try simp only [Act.put, aS]
            refine tkl 5 (.int .i64 (k : Int)) rfl ?_ ?_
            · intro wx hSw; go_simp
            try simp only [Act.put, aS]
            refine tkl 6 (.bool true) rfl ?_ ?_
            · intro wx hSw; go_simp <;> omega
            try simp only [Act.put, aS]
            refine tkl 7 (.bool true) rfl ?_ ?_
            · intro wx hSw; go_simp
            try simp only [Act.put, aS]
            refine tkl 8 (.slice (some ⟨b, o, none⟩) n cap) rfl ?_ ?_
            · intro wx hSw; go_simp
            try simp only [Act.put, aS]
            refine tkl 9 (.int .i64 (k : Int)) rfl ?_ ?_
            · intro wx hSw; go_simp
            try simp only [Act.put, aS]
            refine tkl 10 (.int .i64 ((k : Int) - 1)) rfl ?_ ?_
            · intro wx hSw; go_simp; rw [IntKind.wrap_i64]; omega
            try simp only [Act.put, aS]
            refine tkl 11 (.pointer (some ⟨b, o + (k - 1) * 5, none⟩)) rfl ?_ ?_
            · intro wx hSw; go_simp; intro h; omega
            try simp only [Act.put, aS]
            refine tkl 12 (.pointer (some ⟨b, o + (k - 1) * 5, none⟩)) rfl ?_ ?_
            · intro wx hSw; go_simp
            try simp only [Act.put, aS]
            refine tkl 13 (.int .i64 (Z (k - 1) 0)) rfl ?_ ?_
            · intro wx hSw; go_simp
            try simp only [Act.put, aS]
            refine tkl 14 (.pointer (some ⟨wr.heap.size, 0, none⟩)) rfl ?_ ?_
            · intro wx hSw; go_simp
            try simp only [Act.put, aS]
            refine tkl 15 (.int .i64 (Z k 0)) rfl ?_ ?_
            · intro wx hSw; go_simp
            try simp only [Act.put, aS]
            refine tkl 16 (.bool false) rfl ?_ ?_
            · intro wx hSw; go_simp
            try simp only [Act.put, aS]
            refine tkl 17 (.bool false) rfl ?_ ?_
            · intro wx hSw; go_simp
            try simp only [Act.put, aS]
            refine tkl 18 (.bool false) rfl ?_ ?_
            · intro wx hSw; go_simp
            try simp only [Act.put, aS]
            refine wpAnyH_done (by kernel_rfl) ?_ _
            go_wp2
            go_roundw
            case rel => exact ⟨k + 1, by omega, by go_num, allB_step HALL.out EG.out, keep_down HSH.out (by assumption), by repeat (first | exact BR1 | refine bthen ?_ (by assumption) | apply Below.drew)⟩
            case measure => simp [intOf]; omega
          · have EG : Hid (goodB c d Z k = false) := by show goodB c d Z k = _; unfold goodB wkB; rw [hok]; simp [hk0, hlt]
            go_wp2
            refine wp_region_held_drew (S := fun w' => (∀ b o, b < wr.heap.size + 1 → w'.cell? ⟨b, o, none⟩ = (wr.alloc (.cells #[.int .i64 (Z k 0), .int .i64 (Z k 1), .int .i64 (Z k 2), .int .i64 (Z k 3), .int .i64 (Z k 4)] 54)).cell? ⟨b, o, none⟩) ∧ wr.heap.size + 1 ≤ w'.heap.size) (by kernel_rfl) ⟨fun _ _ _ => rfl, by simp⟩ ?_
            intro hHeld
            refine tkl 0 (.agg #[.int .i64 c, .int .i64 d]) rfl ?_ ?_
            · intro wx hSw; go_simp
            try simp only [Act.put, aS]
            refine tkl 1 (.agg #[.int .i64 (Z k 0), .int .i64 (Z k 1), .int .i64 (Z k 2), .int .i64 (Z k 3), .int .i64 (Z k 4)]) rfl ?_ ?_
            · intro wx hSw; go_simp
            try simp only [Act.put, aS]
            refine rd1 2 rfl fun K hK => ?_
            go_simp
            go_wp2_with (go_at_call 152; refine (wlkOk_impl _ _ _ _ _ _ _ _).mono ?_; rintro e w2 ⟨rfl, hbw2⟩)
            refine hK.out _ _ (keepS (by assumption) hbw2) (fun hHeld => ?_)
            clear hK K
            try simp only [Act.put, aS]
            refine tkl 3 (.bool false) rfl ?_ ?_
            · intro wx hSw; go_simp
            try simp only [Act.put, aS]
            refine tkl 4 (.bool false) rfl ?_ ?_
            · intro wx hSw; go_simp
            try simp only [Act.put, aS]
            refine tkl 5 (.int .i64 (k : Int)) rfl ?_ ?_
            · intro wx hSw; go_simp
            try simp only [Act.put, aS]
            refine tkl 6 (.bool true) rfl ?_ ?_
            · intro wx hSw; go_simp <;> omega
            try simp only [Act.put, aS]
            refine tkl 7 (.bool true) rfl ?_ ?_
            · intro wx hSw; go_simp
            try simp only [Act.put, aS]
            refine tkl 8 (.slice (some ⟨b, o, none⟩) n cap) rfl ?_ ?_
            · intro wx hSw; go_simp
            try simp only [Act.put, aS]
            refine tkl 9 (.int .i64 (k : Int)) rfl ?_ ?_
            · intro wx hSw; go_simp
            try simp only [Act.put, aS]
            refine tkl 10 (.int .i64 ((k : Int) - 1)) rfl ?_ ?_
            · intro wx hSw; go_simp; rw [IntKind.wrap_i64]; omega
            try simp only [Act.put, aS]
            refine tkl 11 (.pointer (some ⟨b, o + (k - 1) * 5, none⟩)) rfl ?_ ?_
            · intro wx hSw; go_simp; intro h; omega
            try simp only [Act.put, aS]
            refine tkl 12 (.pointer (some ⟨b, o + (k - 1) * 5, none⟩)) rfl ?_ ?_
            · intro wx hSw; go_simp
            try simp only [Act.put, aS]
            refine tkl 13 (.int .i64 (Z (k - 1) 0)) rfl ?_ ?_
            · intro wx hSw; go_simp
            try simp only [Act.put, aS]
            refine tkl 14 (.pointer (some ⟨wr.heap.size, 0, none⟩)) rfl ?_ ?_
            · intro wx hSw; go_simp
            try simp only [Act.put, aS]
            refine tkl 15 (.int .i64 (Z k 0)) rfl ?_ ?_
            · intro wx hSw; go_simp
            try simp only [Act.put, aS]
            refine tkl 16 (.bool true) rfl ?_ ?_
            · intro wx hSw; go_simp
            try simp only [Act.put, aS]
            refine tkl 17 (.bool true) rfl ?_ ?_
            · intro wx hSw; go_simp
            try simp only [Act.put, aS]
            refine tkl 18 (.bool true) rfl ?_ ?_
            · intro wx hSw; go_simp
            try simp only [Act.put, aS]
            refine wpAnyH_done (by kernel_rfl) ?_ _
            go_wp2
            go_ret
            exact ⟨by rw [allB_stop HALL.out hkn EG.out]; rfl, by repeat (first | exact BR1 | refine bthen ?_ (by assumption) | apply Below.drew)⟩
    · have : k = n := by omega
      subst this
      go_wp2
      go_ret
      exact ⟨by rw [hall]; rfl, by repeat (first | exact BR | refine bthen ?_ (by assumption) | apply Below.drew)⟩
end Go.Proofs.YthbkjfkkdaheoaaGreatDoor
namespace Go.Proofs.YthbkjfkkdaheoaaGreatDoor.P8
open Go.RowKit Go.Deep
set_option linter.unusedVariables false
def goodP (c d next : Int) (n : Nat) (Z : Nat → Nat → Int) (k : Nat) : Bool := pclB c d (Z k 0) (Z k 1) (Z k 2) (Z k 3) (Z k 4) (Z k 5) (Z k 6) (Z k 7) && (Z k 0 == next - n + k)
def allP (c d next : Int) (n : Nat) (Z : Nat → Nat → Int) : Nat → Bool
  | 0 => true
  | k + 1 => allP c d next n Z k && goodP c d next n Z k
def listP (c d next : Int) (n : Nat) (Z : Nat → Nat → Int) : Bool := okB c d && (inB next 0 5000 && (decide ((n : Int) ≤ next) && allP c d next n Z n))
theorem allP_step {c d next : Int} {n : Nat} {Z : Nat → Nat → Int} {k : Nat} (h : allP c d next n Z k = true) (g : goodP c d next n Z k = true) : allP c d next n Z (k + 1) = true := by simp [allP, h, g]
theorem allP_down {c d next : Int} {m : Nat} {Z : Nat → Nat → Int} {k : Nat} : ∀ n, k ≤ n → allP c d next m Z n = true → allP c d next m Z k = true
  | 0, h, e => by have : k = 0 := by omega
                  subst this; exact e
  | n + 1, h, e => by
    by_cases hk : k = n + 1
    · subst hk; exact e
    · simp only [allP, Bool.and_eq_true] at e
      exact allP_down n (by omega) e.1
theorem allP_stop {c d next : Int} {m : Nat} {Z : Nat → Nat → Int} {k n : Nat} (hk : k < n) (g : goodP c d next m Z k = false) : allP c d next m Z n = false := by
  match e : allP c d next m Z n with
  | false => rfl
  | true =>
    have := allP_down n (show k + 1 ≤ n by omega) e
    simp [allP, g] at this
set_option maxHeartbeats 8000000 in
set_option maxRecDepth 20000 in
theorem plist_spec (c d next : Int) (b o n cap : Nat) (Z : Nat → Nat → Int) (hn : n ≤ 1048576) (w : World) (hb : b < w.heap.size)
    (hr : ∀ k j, k < n → j < 8 → w.cell? ⟨b, o + k * 8 + j, none⟩ = some (.int .i64 (Z k j))) :
    Calls Tryz.prog 118 #[.agg #[.int .i64 c, .int .i64 d], .slice (some ⟨b, o, none⟩) n cap, .int .i64 next] w fun e w' => e = .returned (.bool (listP c d next n Z)) ∧ Below w.heap.size w w' := by
  have HR : Hid (∀ k j, k < n → j < 8 → w.cell? ⟨b, o + k * 8 + j, none⟩ = some (.int .i64 (Z k j))) := hr
  clear hr
  cases h1 : okB c d
  · go_enter Tryz.func118, Tryz.ntmps118
    go_wp2_with (go_at_call 76; refine (ok_spec _ _ _).mono ?_; rintro e w1 ⟨rfl, hb1⟩; rw [h1])
    go_ret
    exact ⟨by simp [listP, h1], bthen ((Below.refl _ _).alloc (by simp) _) hb1⟩
  cases h2 : inB next 0 5000
  · go_enter Tryz.func118, Tryz.ntmps118
    go_wp2_with (first | (go_at_call 76; refine (ok_spec _ _ _).mono ?_; rintro e w1 ⟨rfl, hb1⟩; rw [h1]) | (go_at_call 69; refine (in_spec _ _ _ _).mono ?_; rintro e w1 ⟨rfl, rfl⟩; rw [h2]))
    go_ret
    exact ⟨by simp [listP, h2], bthen ((Below.refl _ _).alloc (by simp) _) hb1⟩
  have hnx : 0 ≤ next ∧ next ≤ 5000 := by simpa [inB] using h2
  by_cases h3 : ¬ (n : Int) ≤ next
  · have h3' : next < (n : Int) := by omega
    have HL : Hid (listP c d next n Z = false) := by show listP c d next n Z = false; simp [listP, h3]
    clear h3
    go_enter Tryz.func118, Tryz.ntmps118
    go_wp2_with (first | (go_at_call 76; refine (ok_spec _ _ _).mono ?_; rintro e w1 ⟨rfl, hb1⟩; rw [h1]) | (go_at_call 69; refine (in_spec _ _ _ _).mono ?_; rintro e w1 ⟨rfl, rfl⟩; rw [h2]))
    go_ret
    exact ⟨by rw [HL.out]; rfl, bthen ((Below.refl _ _).alloc (by simp) _) hb1⟩
  have h3' : (n : Int) ≤ next := by omega
  have m1 : IntKind.wrap .i64 (next - (n : Int)) = next - (n : Int) := by simp [IntKind.wrap, IntKind.bits, IntKind.signed]; omega
  have m2 : ∀ k : Nat, k < n → IntKind.wrap .i64 (next - (n : Int) + (k : Int)) = next - (n : Int) + (k : Int) := by intro k hk; simp [IntKind.wrap, IntKind.bits, IntKind.signed]; omega
  have HL : Hid (listP c d next n Z = allP c d next n Z n) := by show listP c d next n Z = _; simp [listP, h1, h2, h3']
  clear h3
  go_enter Tryz.func118, Tryz.ntmps118
  go_wp2_with (first | (go_at_call 76; refine (ok_spec _ _ _).mono ?_; rintro e w1 ⟨rfl, hb1⟩; rw [h1]) | (go_at_call 69; refine (in_spec _ _ _ _).mono ?_; rintro e w1 ⟨rfl, rfl⟩; rw [h2]))
  have HS1 : (∀ b o, b < w.heap.size + 1 → w1.cell? ⟨b, o, none⟩ = (w.alloc (.cells #[.int .i64 c, .int .i64 d] 38)).cell? ⟨b, o, none⟩) ∧ w.heap.size + 1 ≤ w1.heap.size := keepS ⟨fun _ _ _ => rfl, by simp⟩ hb1
  have B1 : Below w.heap.size w w1 := bthen ((Below.refl _ _).alloc (by simp) _) hb1
  clear hb1
  go_loopw [7] (fun i wr => ∃ k : Nat, k ≤ n ∧ i = .int .i64 k ∧ allP c d next n Z k = true ∧ ((∀ b o, b < w.heap.size + 1 → wr.cell? ⟨b, o, none⟩ = (w.alloc (.cells #[.int .i64 c, .int .i64 d] 38)).cell? ⟨b, o, none⟩) ∧ w.heap.size + 1 ≤ wr.heap.size) ∧ Below w.heap.size w wr) (fun i _ => n - (intOf i).toNat)
  case atStart => exact ⟨0, Nat.zero_le _, rfl, rfl, HS1, B1⟩
  case round =>
    clear HS1 B1
    obtain ⟨k, hk, rfl, hall, HS, BR⟩ := hrel
    by_cases hkn : k < n
    · have hkn' : (k : Int) < (n : Int) := by omega
      have c0 : w.cell? ⟨b, o + k * 8, none⟩ = some (.int .i64 (Z k 0)) := HR.out k 0 hkn (by omega)
      have c1 : w.cell? ⟨b, o + k * 8 + 1, none⟩ = some (.int .i64 (Z k 1)) := HR.out k 1 hkn (by omega)
      have c2 : w.cell? ⟨b, o + k * 8 + 2, none⟩ = some (.int .i64 (Z k 2)) := HR.out k 2 hkn (by omega)
      have c3 : w.cell? ⟨b, o + k * 8 + 3, none⟩ = some (.int .i64 (Z k 3)) := HR.out k 3 hkn (by omega)
      have c4 : w.cell? ⟨b, o + k * 8 + 4, none⟩ = some (.int .i64 (Z k 4)) := HR.out k 4 hkn (by omega)
      have c5 : w.cell? ⟨b, o + k * 8 + 5, none⟩ = some (.int .i64 (Z k 5)) := HR.out k 5 hkn (by omega)
      have c6 : w.cell? ⟨b, o + k * 8 + 6, none⟩ = some (.int .i64 (Z k 6)) := HR.out k 6 hkn (by omega)
      have c7 : w.cell? ⟨b, o + k * 8 + 7, none⟩ = some (.int .i64 (Z k 7)) := HR.out k 7 hkn (by omega)
      have hb1 : b < w.heap.size + 1 := by omega
      have HALL : Hid (allP c d next n Z k = true) := hall
      clear hall
      have m3 := m2 k hkn
      cases hok : pclB c d (Z k 0) (Z k 1) (Z k 2) (Z k 3) (Z k 4) (Z k 5) (Z k 6) (Z k 7)
      · have EG : Hid (goodP c d next n Z k = false) := by show goodP c d next n Z k = _; simp [goodP, hok]
        go_wp2
        refine wp_region_held_drew (S := fun w' => (∀ b o, b < w.heap.size + 1 → w'.cell? ⟨b, o, none⟩ = (w.alloc (.cells #[.int .i64 c, .int .i64 d] 38)).cell? ⟨b, o, none⟩) ∧ w.heap.size + 1 ≤ w'.heap.size) (by kernel_rfl) HS ?_
        intro hHeld
        refine tkl 0 (.agg #[.int .i64 c, .int .i64 d]) rfl ?_ ?_
        · intro wx hSw; go_simp
        try simp only [Act.put, aS]
        refine tkl 1 (.slice (some ⟨b, o, none⟩) n cap) rfl ?_ ?_
        · intro wx hSw; go_simp
        try simp only [Act.put, aS]
        refine tkl 2 (.int .i64 (k : Int)) rfl ?_ ?_
        · intro wx hSw; go_simp
        try simp only [Act.put, aS]
        refine tkl 3 (.pointer (some ⟨b, o + k * 8, none⟩)) rfl ?_ ?_
        · intro wx hSw; go_simp
        try simp only [Act.put, aS]
        refine tkl 4 (.agg #[.int .i64 (Z k 0), .int .i64 (Z k 1), .int .i64 (Z k 2), .int .i64 (Z k 3), .int .i64 (Z k 4), .int .i64 (Z k 5), .int .i64 (Z k 6), .int .i64 (Z k 7)]) rfl ?_ ?_
        · intro wx hSw; go_simp
        try simp only [Act.put, aS]
        refine rd1 5 rfl fun K hK => ?_
        go_simp
        go_wp2_with (go_at_call 98; refine (pclOk_spec _ _ _ _ _ _ _ _ _ _ _).mono ?_; rintro e w2 ⟨rfl, hbw2⟩)
        refine hK.out _ _ (keepS (by assumption) hbw2) (fun hHeld => ?_)
        clear hK K
        try simp only [Act.put, aS]
        refine tkl 6 (.bool true) rfl ?_ ?_
        · intro wx hSw; go_simp
        try simp only [Act.put, aS]
        refine tkl 7 (.bool true) rfl ?_ ?_
        · intro wx hSw; go_simp
        try simp only [Act.put, aS]
        refine tkr 8 rfl ?_
        try simp only [Act.put, aS]
        refine tkr 9 rfl ?_
        try simp only [Act.put, aS]
        refine tkr 10 rfl ?_
        try simp only [Act.put, aS]
        refine tkr 11 rfl ?_
        try simp only [Act.put, aS]
        refine tkr 12 rfl ?_
        try simp only [Act.put, aS]
        refine tkr 13 rfl ?_
        try simp only [Act.put, aS]
        refine tkr 14 rfl ?_
        try simp only [Act.put, aS]
        refine tkr 15 rfl ?_
        try simp only [Act.put, aS]
        refine tkr 16 rfl ?_
        try simp only [Act.put, aS]
        refine tkr 17 rfl ?_
        try simp only [Act.put, aS]
        refine tkr 18 rfl ?_
        try simp only [Act.put, aS]
        refine tkr 19 rfl ?_
        try simp only [Act.put, aS]
        refine tkl 20 (.bool true) rfl ?_ ?_
        · intro wx hSw; go_simp
        try simp only [Act.put, aS]
        refine wpAnyH_done (by kernel_rfl) ?_ _
        go_wp2
        go_ret
        exact ⟨by rw [HL.out, allP_stop hkn EG.out]; rfl, by repeat (first | exact BR | refine bthen ?_ (by assumption) | apply Below.drew)⟩
      · cases hnum : (Z k 0 != next - n + k)
        · have EG : Hid (goodP c d next n Z k = true) := by show goodP c d next n Z k = _; simp [goodP, hok]; simpa using hnum
          go_wp2
          refine wp_region_held_drew (S := fun w' => (∀ b o, b < w.heap.size + 1 → w'.cell? ⟨b, o, none⟩ = (w.alloc (.cells #[.int .i64 c, .int .i64 d] 38)).cell? ⟨b, o, none⟩) ∧ w.heap.size + 1 ≤ w'.heap.size) (by kernel_rfl) HS ?_
          intro hHeld
          refine tkl 0 (.agg #[.int .i64 c, .int .i64 d]) rfl ?_ ?_
          · intro wx hSw; go_simp
          try simp only [Act.put, aS]
          refine tkl 1 (.slice (some ⟨b, o, none⟩) n cap) rfl ?_ ?_
          · intro wx hSw; go_simp
          try simp only [Act.put, aS]
          refine tkl 2 (.int .i64 (k : Int)) rfl ?_ ?_
          · intro wx hSw; go_simp
          try simp only [Act.put, aS]
          refine tkl 3 (.pointer (some ⟨b, o + k * 8, none⟩)) rfl ?_ ?_
          · intro wx hSw; go_simp
          try simp only [Act.put, aS]
          refine tkl 4 (.agg #[.int .i64 (Z k 0), .int .i64 (Z k 1), .int .i64 (Z k 2), .int .i64 (Z k 3), .int .i64 (Z k 4), .int .i64 (Z k 5), .int .i64 (Z k 6), .int .i64 (Z k 7)]) rfl ?_ ?_
          · intro wx hSw; go_simp
          try simp only [Act.put, aS]
          refine rd1 5 rfl fun K hK => ?_
          go_simp
          go_wp2_with (go_at_call 98; refine (pclOk_spec _ _ _ _ _ _ _ _ _ _ _).mono ?_; rintro e w2 ⟨rfl, hbw2⟩)
          refine hK.out _ _ (keepS (by assumption) hbw2) (fun hHeld => ?_)
          clear hK K
          try simp only [Act.put, aS]
          refine tkl 6 (.bool false) rfl ?_ ?_
          · intro wx hSw; go_simp
          try simp only [Act.put, aS]
          refine tkl 7 (.bool false) rfl ?_ ?_
          · intro wx hSw; go_simp
          try simp only [Act.put, aS]
          refine tkl 8 (.slice (some ⟨b, o, none⟩) n cap) rfl ?_ ?_
          · intro wx hSw; go_simp
          try simp only [Act.put, aS]
          refine tkl 9 (.int .i64 (k : Int)) rfl ?_ ?_
          · intro wx hSw; go_simp
          try simp only [Act.put, aS]
          refine tkl 10 (.pointer (some ⟨b, o + k * 8, none⟩)) rfl ?_ ?_
          · intro wx hSw; go_simp
          try simp only [Act.put, aS]
          refine tkl 11 (.pointer (some ⟨b, o + k * 8, none⟩)) rfl ?_ ?_
          · intro wx hSw; go_simp
          try simp only [Act.put, aS]
          refine tkl 12 (.int .i64 (Z k 0)) rfl ?_ ?_
          · intro wx hSw; go_simp
          try simp only [Act.put, aS]
          refine tkl 13 (.int .i64 next) rfl ?_ ?_
          · intro wx hSw; go_simp
          try simp only [Act.put, aS]
          refine tkl 14 (.slice (some ⟨b, o, none⟩) n cap) rfl ?_ ?_
          · intro wx hSw; go_simp
          try simp only [Act.put, aS]
          refine tkl 15 (.int .i64 (n : Int)) rfl ?_ ?_
          · intro wx hSw; go_simp
          try simp only [Act.put, aS]
          refine tkl 16 (.int .i64 (next - (n : Int))) rfl ?_ ?_
          · intro wx hSw; go_simp
          try simp only [Act.put, aS]
          refine tkl 17 (.int .i64 (k : Int)) rfl ?_ ?_
          · intro wx hSw; go_simp
          try simp only [Act.put, aS]
          refine tkl 18 (.int .i64 (next - (n : Int) + (k : Int))) rfl ?_ ?_
          · intro wx hSw; go_simp
          try simp only [Act.put, aS]
          refine tkl 19 (.bool false) rfl ?_ ?_
          · intro wx hSw; go_simp
          try simp only [Act.put, aS]
          refine tkl 20 (.bool false) rfl ?_ ?_
          · intro wx hSw; go_simp
          try simp only [Act.put, aS]
          refine wpAnyH_done (by kernel_rfl) ?_ _
          go_wp2
          go_roundw
          case rel => exact ⟨k + 1, by omega, by go_num, allP_step HALL.out EG.out, by assumption, by repeat (first | exact BR | refine bthen ?_ (by assumption) | apply Below.drew)⟩
          case measure => simp [intOf]; omega
        · have EG : Hid (goodP c d next n Z k = false) := by show goodP c d next n Z k = _; simp [goodP]; simp at hnum; exact fun _ => hnum
          go_wp2
          refine wp_region_held_drew (S := fun w' => (∀ b o, b < w.heap.size + 1 → w'.cell? ⟨b, o, none⟩ = (w.alloc (.cells #[.int .i64 c, .int .i64 d] 38)).cell? ⟨b, o, none⟩) ∧ w.heap.size + 1 ≤ w'.heap.size) (by kernel_rfl) HS ?_
          intro hHeld
          refine tkl 0 (.agg #[.int .i64 c, .int .i64 d]) rfl ?_ ?_
          · intro wx hSw; go_simp
          try simp only [Act.put, aS]
          refine tkl 1 (.slice (some ⟨b, o, none⟩) n cap) rfl ?_ ?_
          · intro wx hSw; go_simp
          try simp only [Act.put, aS]
          refine tkl 2 (.int .i64 (k : Int)) rfl ?_ ?_
          · intro wx hSw; go_simp
          try simp only [Act.put, aS]
          refine tkl 3 (.pointer (some ⟨b, o + k * 8, none⟩)) rfl ?_ ?_
          · intro wx hSw; go_simp
          try simp only [Act.put, aS]
          refine tkl 4 (.agg #[.int .i64 (Z k 0), .int .i64 (Z k 1), .int .i64 (Z k 2), .int .i64 (Z k 3), .int .i64 (Z k 4), .int .i64 (Z k 5), .int .i64 (Z k 6), .int .i64 (Z k 7)]) rfl ?_ ?_
          · intro wx hSw; go_simp
          try simp only [Act.put, aS]
          refine rd1 5 rfl fun K hK => ?_
          go_simp
          go_wp2_with (go_at_call 98; refine (pclOk_spec _ _ _ _ _ _ _ _ _ _ _).mono ?_; rintro e w2 ⟨rfl, hbw2⟩)
          refine hK.out _ _ (keepS (by assumption) hbw2) (fun hHeld => ?_)
          clear hK K
          try simp only [Act.put, aS]
          refine tkl 6 (.bool false) rfl ?_ ?_
          · intro wx hSw; go_simp
          try simp only [Act.put, aS]
          refine tkl 7 (.bool false) rfl ?_ ?_
          · intro wx hSw; go_simp
          try simp only [Act.put, aS]
          refine tkl 8 (.slice (some ⟨b, o, none⟩) n cap) rfl ?_ ?_
          · intro wx hSw; go_simp
          try simp only [Act.put, aS]
          refine tkl 9 (.int .i64 (k : Int)) rfl ?_ ?_
          · intro wx hSw; go_simp
          try simp only [Act.put, aS]
          refine tkl 10 (.pointer (some ⟨b, o + k * 8, none⟩)) rfl ?_ ?_
          · intro wx hSw; go_simp
          try simp only [Act.put, aS]
          refine tkl 11 (.pointer (some ⟨b, o + k * 8, none⟩)) rfl ?_ ?_
          · intro wx hSw; go_simp
          try simp only [Act.put, aS]
          refine tkl 12 (.int .i64 (Z k 0)) rfl ?_ ?_
          · intro wx hSw; go_simp
          try simp only [Act.put, aS]
          refine tkl 13 (.int .i64 next) rfl ?_ ?_
          · intro wx hSw; go_simp
          try simp only [Act.put, aS]
          refine tkl 14 (.slice (some ⟨b, o, none⟩) n cap) rfl ?_ ?_
          · intro wx hSw; go_simp
          try simp only [Act.put, aS]
          refine tkl 15 (.int .i64 (n : Int)) rfl ?_ ?_
          · intro wx hSw; go_simp
          try simp only [Act.put, aS]
          refine tkl 16 (.int .i64 (next - (n : Int))) rfl ?_ ?_
          · intro wx hSw; go_simp
          try simp only [Act.put, aS]
          refine tkl 17 (.int .i64 (k : Int)) rfl ?_ ?_
          · intro wx hSw; go_simp
          try simp only [Act.put, aS]
          refine tkl 18 (.int .i64 (next - (n : Int) + (k : Int))) rfl ?_ ?_
          · intro wx hSw; go_simp
          try simp only [Act.put, aS]
          refine tkl 19 (.bool true) rfl ?_ ?_
          · intro wx hSw; go_simp
          try simp only [Act.put, aS]
          refine tkl 20 (.bool true) rfl ?_ ?_
          · intro wx hSw; go_simp
          try simp only [Act.put, aS]
          refine wpAnyH_done (by kernel_rfl) ?_ _
          go_wp2
          go_ret
          exact ⟨by rw [HL.out, allP_stop hkn EG.out]; rfl, by repeat (first | exact BR | refine bthen ?_ (by assumption) | apply Below.drew)⟩
    · have : k = n := by omega
      subst this
      have HALL : Hid (allP c d next k Z k = true) := hall
      clear hall
      go_wp2
      go_ret
      exact ⟨by rw [HL.out, HALL.out]; rfl, BR⟩
end Go.Proofs.YthbkjfkkdaheoaaGreatDoor.P8
