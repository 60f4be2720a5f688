/- The walks of WlkPut, the program's and the model's: the walkers of other numbers with the one put at its place; conditions: the list lies in memory as a row of structs of five integers. -/
import Derived.Test.YtnplclfoeedpjaaPut2
namespace Go.Proofs.Ytnplclfoeedpjaa
open Go.RowKit Go.Deep Go.Maps
set_option linter.unusedVariables false

theorem walks_base {w : World} {base base' : Nat} {v : Value} {L : List Nat} {Z : Nat → Nat → Int} (h : Walks w base v L Z) (hb : base' ≤ base) : Walks w base' v L Z := by
  obtain ⟨g, cap, hv, ho⟩ := h
  exact ⟨g, cap, hv, ownsRow_base ho hb⟩

set_option maxRecDepth 20000 in
set_option maxHeartbeats 2000000 in
theorem put_impl (b o n cap : Nat) (Z : Nat → Nat → Int) (hn : n ≤ 1048576) (w : World) (hb : b < w.heap.size) (hzw : (Lit.int .i64 (Z n 0)).wf = true)
    (hr : ∀ k j, k < n → j < 5 → w.cell? ⟨b, o + k * 5 + j, none⟩ = some (.int .i64 (Z k j))) (hwf : ∀ k j, k < n → j < 5 → (Lit.int .i64 (Z k j)).wf = true) :
    Calls Try.prog 5 #[.slice (some ⟨b, o, none⟩) n cap, .agg #[.int .i64 (Z n 0), .int .i64 (Z n 1), .int .i64 (Z n 2), .int .i64 (Z n 3), .int .i64 (Z n 4)]] w fun e w' => ∃ v, e = .returned v ∧ Walks w' w.heap.size v (putL Z n) Z ∧ Below w.heap.size w w' := by
  have hb0 : ∀ o : Obj, Below w.heap.size w (w.alloc o) := fun o => (Below.refl _ _).alloc (Nat.le_refl _) o
  have HB0 : Hid (∀ o : Obj, Below w.heap.size w (w.alloc o)) := hb0
  have HC : Hid (∀ ob : Obj, Calls Try.prog 9 #[.slice (some ⟨b, o, none⟩) n cap, .int .i64 (Z n 0)] (w.alloc ob) fun e w' => ∃ v, e = .returned v ∧ (Walks w' (w.heap.size + 1) v (rest Z n (Z n 0)) Z ∧ ∃ g, v = .slice (some ⟨g, 0, none⟩) (rest Z n (Z n 0)).length (rest Z n (Z n 0)).length) ∧ Below (w.heap.size + 1) (w.alloc ob) w') := fun ob => by
    have := out_impl_cap (Z n 0) b o n cap Z hn (w.alloc ob) (by simp; omega) hzw (cells_below hr hb (hb0 ob)) hwf
    simpa using this
  have hLn : (rest Z n (Z n 0)).length ≤ 1048576 := Nat.le_trans (rest_len Z n (Z n 0)) hn
  have HLn : Hid ((rest Z n (Z n 0)).length ≤ 1048576) := hLn
  clear hr hwf hb0 hLn
  go_enter Try.func5, Try.ntmps5
  go_wp2_with fail
  refine (HC.out _).mono ?_
  rintro e w1 ⟨v, rfl, ⟨hW, g, rfl⟩, hb1⟩
  have x0 : w1.cell? ⟨w.heap.size, 0, none⟩ = some (.int .i64 (Z n 0)) := (hb1.cell (p := ⟨w.heap.size, 0, none⟩) (by simp)).trans (by simp)
  have x1 : w1.cell? ⟨w.heap.size, 1, none⟩ = some (.int .i64 (Z n 1)) := (hb1.cell (p := ⟨w.heap.size, 1, none⟩) (by simp)).trans (by simp)
  have x2 : w1.cell? ⟨w.heap.size, 2, none⟩ = some (.int .i64 (Z n 2)) := (hb1.cell (p := ⟨w.heap.size, 2, none⟩) (by simp)).trans (by simp)
  have x3 : w1.cell? ⟨w.heap.size, 3, none⟩ = some (.int .i64 (Z n 3)) := (hb1.cell (p := ⟨w.heap.size, 3, none⟩) (by simp)).trans (by simp)
  have x4 : w1.cell? ⟨w.heap.size, 4, none⟩ = some (.int .i64 (Z n 4)) := (hb1.cell (p := ⟨w.heap.size, 4, none⟩) (by simp)).trans (by simp)
  have hs1 : w.heap.size < w1.heap.size := by have := hb1.size; simp at this; omega
  have B1 : Below w.heap.size w w1 := (HB0.out _).trans (hb1.mono (Nat.le_succ _))
  have HW : Hid (Walks w1 (w.heap.size + 1) (.slice (some ⟨g, 0, none⟩) (rest Z n (Z n 0)).length (rest Z n (Z n 0)).length) (rest Z n (Z n 0)) Z) := hW
  obtain ⟨L, hL⟩ : ∃ L, L = rest Z n (Z n 0) := ⟨_, rfl⟩
  have HPL : Hid (putL Z n = L.take (spot Z n L) ++ n :: L.drop (spot Z n L)) := by rw [hL]; rfl
  rw [← hL] at HW HLn ⊢
  clear hW hb1 HC hL HB0
  go_wp2_with fail
  refine (indexFunc n L Z _ g _ w.heap.size HLn.out w1 hs1 x0 HW.out).mono ?_
  rintro e w2 ⟨rfl, hb2⟩
  replace x0 := (hb2.cell (p := ⟨w.heap.size, 0, none⟩) hs1).trans x0
  replace x1 := (hb2.cell (p := ⟨w.heap.size, 1, none⟩) hs1).trans x1
  replace x2 := (hb2.cell (p := ⟨w.heap.size, 2, none⟩) hs1).trans x2
  replace x3 := (hb2.cell (p := ⟨w.heap.size, 3, none⟩) hs1).trans x3
  replace x4 := (hb2.cell (p := ⟨w.heap.size, 4, none⟩) hs1).trans x4
  have hs2 : w.heap.size < w2.heap.size := Nat.lt_of_lt_of_le hs1 hb2.size
  have B2 : Below w.heap.size w w2 := bthen B1 hb2
  have HW2 : Hid (Walks w2 (w.heap.size + 1) (.slice (some ⟨g, 0, none⟩) L.length L.length) L Z) := HW.out.below hb2
  have HI : Hid (∀ i, i = spot Z n L → ∀ ob, (∀ j u, (five Z n)[j]? = some u → (w2.alloc ob).cell? ((⟨w2.heap.size, 0, none⟩ : Addr).add j) = some u) → Calls Try.prog 15 #[.slice (some ⟨g, 0, none⟩) L.length L.length, .int .i64 (i : Int), .slice (some ⟨w2.heap.size, 0, none⟩) 1 1] (w2.alloc ob) fun e w' => ∃ v', e = .returned v' ∧ Walks w' w.heap.size v' (putL Z n) Z ∧ Below w.heap.size w w') := fun i hi ob hc => by
    have hwa : Walks (w2.alloc ob) (w.heap.size + 1) (.slice (some ⟨g, 0, none⟩) L.length L.length) L Z := HW2.out.below ((Below.refl _ _).alloc (Nat.le_refl _) ob)
    refine (insertWalks (w.heap.size + 1) g n i w2.heap.size L Z HLn.out (by rw [hi]; exact spot_le Z n L) (w2.alloc ob) (by simp; omega) (by simp) hwa hc).mono ?_
    rintro e w' ⟨v', rfl, h1, h2⟩
    refine ⟨v', rfl, ?_, (B2.alloc (by omega) ob).grown h2 (by simp; omega) (fun k e => by
      cases e
      obtain ⟨g', e', hg', _⟩ := hwa.block
      simp [Value.ownBlock] at e'
      omega)⟩
    rw [HPL.out, ← hi]
    exact walks_base h1 (Nat.le_succ _)
  have HS : Hid (spot Z n L ≤ L.length) := spot_le Z n L
  clear hb2 HW HW2 B1 hs1
  by_cases hsp : spot Z n L < L.length
  · have e1 : spotInt Z n L = (spot Z n L : Int) := if_pos hsp
    rw [e1]
    have hnn : ¬ ((spot Z n L : Int) < 0) := by omega
    clear e1 hsp
    obtain ⟨i, hi⟩ : ∃ i, i = spot Z n L := ⟨_, rfl⟩
    rw [← hi] at hnn ⊢
    have HII : Hid (i = spot Z n L) := hi
    clear hi
    go_wp2_with fail
    refine (HI.out i HII.out _ ?_).mono ?_
    · intro j u hj
      match j, hj with
      | 0, hj => simp [five] at hj; subst hj; simp [Addr.add]
      | 1, hj => simp [five] at hj; subst hj; simp [Addr.add]
      | 2, hj => simp [five] at hj; subst hj; simp [Addr.add]
      | 3, hj => simp [five] at hj; subst hj; simp [Addr.add]
      | 4, hj => simp [five] at hj; subst hj; simp [Addr.add]
      | j + 5, hj => simp [five] at hj
    · rintro e w3 ⟨v', rfl, h1, h2⟩
      have H1 : Hid (Walks w3 w.heap.size v' (putL Z n) Z) := h1
      clear h1
      go_wp2
      go_ret
      exact ⟨_, rfl, H1.out, h2⟩
  · have e1 : spotInt Z n L = -1 := if_neg hsp
    rw [e1]
    have HII : Hid (L.length = spot Z n L) := by have := HS.out; unfold Hid; omega
    clear e1 hsp
    go_wp2_with fail
    refine (HI.out _ HII.out _ ?_).mono ?_
    · intro j u hj
      match j, hj with
      | 0, hj => simp [five] at hj; subst hj; simp [Addr.add]
      | 1, hj => simp [five] at hj; subst hj; simp [Addr.add]
      | 2, hj => simp [five] at hj; subst hj; simp [Addr.add]
      | 3, hj => simp [five] at hj; subst hj; simp [Addr.add]
      | 4, hj => simp [five] at hj; subst hj; simp [Addr.add]
      | j + 5, hj => simp [five] at hj
    · rintro e w3 ⟨v', rfl, h1, h2⟩
      have H1 : Hid (Walks w3 w.heap.size v' (putL Z n) Z) := h1
      clear h1
      go_wp2
      go_ret
      exact ⟨_, rfl, H1.out, h2⟩
end Go.Proofs.Ytnplclfoeedpjaa
