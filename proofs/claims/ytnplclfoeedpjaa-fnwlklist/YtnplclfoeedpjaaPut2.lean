/- The library's Insert of one walker into a row without room: a new row; conditions: the row is the call's own and full. -/
import Derived.Test.YtnplclfoeedpjaaPut1
import Derived.Shelf.Spec.SlicesInsert
import Derived.Lib.AppendZerosOnto
namespace Go.Proofs.Ytnplclfoeedpjaa
open Go.RowKit Go.Deep Go.Maps Go.Lib Go.Shelf
set_option linter.unusedVariables false

theorem run_copy_rowK {P : Program} (w : World) (dT sT ty elem : TypeId) (g o dLen dCap : Nat) (a : Addr) (sLen sCap : Nat) (cur : Array Value) (t : TypeId) (cs : List Value) (size : Nat)
    (hu : P.underlying dT = some (.slice elem)) (hs : (P.info? elem).map (·.size) = some size)
    (hg : w.heap[g]? = some (.cells cur t (0, 0))) (hn : cs.length = Nat.min sLen dLen * size)
    (hsrc : ∀ j v, cs[j]? = some v → w.cell? (a.add j) = some v) (hfit : o + cs.length ≤ cur.size) (h1 : ∀ v ∈ cs, v.oneCell' = true) :
    (Builtin.copy_ #[dT, sT] ty #[.slice (some ⟨g, o, none⟩) dLen dCap, .slice (some a) sLen sCap]).run P w =
      .ok (goInt (Nat.min sLen dLen)) (w.setRow g (cur.toList.take o ++ cs ++ cur.toList.drop (o + cs.length)).toArray) := by
  have hl := run_loadCells_list (P := P) w a cs hsrc
  have hst := run_storeCells_at P g o t cs 0 cur w hg (by simpa using hfit) h1
  cases hq : P.info? elem with
  | none => simp [hq] at hs
  | some i =>
    have hi : i.size = size := by simpa [hq] using hs
    simp [Builtin.copy_, run_underlying hu, Builtin.lenOf, Builtin.firstCells, sizeOf, typeInfo, hq, hi, ← hn, hl, hst]

theorem five_one (Z : Nat → Nat → Int) (L : List Nat) : ∀ u ∈ L.flatMap (five Z), u.oneCell' = true := by
  intro u hu
  obtain ⟨k, _, hk⟩ := List.mem_flatMap.1 hu
  simp [five] at hk
  rcases hk with rfl | rfl | rfl | rfl | rfl <;> rfl

set_option maxRecDepth 20000 in
set_option maxHeartbeats 1000000 in
theorem insert_end (base g n vb : Nat) (xs vs : List Value) (hn : n ≤ 1048577) (w : World) (hbase : base ≤ w.heap.size) (ho : w.ownsRow base 25 5 (.slice (some ⟨g, 0, none⟩) n n) n xs) (hv : vs.length = 5)
    (hvs : ∀ j u, vs[j]? = some u → w.cell? ((⟨vb, 0, none⟩ : Addr).add j) = some u) (h1v : ∀ u ∈ vs, u.oneCell' = true) :
    Calls Try.prog 15 #[.slice (some ⟨g, 0, none⟩) n n, .int .i64 n, .slice (some ⟨vb, 0, none⟩) 1 1] w fun e w' => ∃ v', e = .returned v' ∧ v' ≠ .slice none 0 0 ∧ w'.ownsRow base 25 5 v' (n + 1) (xs ++ vs) ∧ w.grownBy w' (some g) := by
  obtain ⟨i5, hi5, hz50, hz51, hz52⟩ := info_parts Try.info25
  have HV : Hid (∀ j u, vs[j]? = some u → w.cell? ((⟨vb, 0, none⟩ : Addr).add j) = some u) := hvs
  clear hvs
  go_enter Try.func15, Try.ntmps15
  go_wp2_with (at_builtin; refine wpList_append_own _ rfl _ _ 23 rfl base 25 i5 (.agg #[.int .i64 0, .int .i64 0, .int .i64 0, .int .i64 0, .int .i64 0]) 5 40 Try.underlying23 hi5 hz50 hz51 hz52 rfl (by decide) _ _ _ rfl ho ⟨vb, 0, none⟩ 1 1 vs rfl (by rw [hv]) HV.out h1v ?d3 ?d4 ?d5 ?_)
  case d3 => unfold maxLen; omega
  case d4 => omega
  case d5 => exact hbase
  · intro v' w2 hown' hg2 hnil
    have HO : Hid (w2.ownsRow base 25 5 v' (n + 1) (xs ++ vs)) := hown'
    have HN : Hid (v' ≠ .slice none 0 0) := by
      intro e
      have := hnil
      simp [e] at this
    have HG : Hid (w.grownBy w2 (some g)) := hg2
    clear hown' hnil hg2
    go_wp2
    go_ret
    exact ⟨_, rfl, HN.out, HO.out, HG.out⟩

theorem Try.sz25 : (Try.prog.info? 25).map (·.size) = some 5 := by kernel_rfl

/-- The new row behind the append of zeros. -/
theorem zeros31 (base g n i : Nat) (xs : List Value) (hn : n ≤ 1048577) (hi : i < n) (w : World) (ho : w.ownsRow base 25 5 (.slice (some ⟨g, 0, none⟩) n n) n xs) :
    ∃ G W1 ROW, n + 1 ≤ G ∧ G ≤ maxLen ∧ (∀ ty, (Builtin.append_ #[23, 3] ty #[.slice (some ⟨g, 0, none⟩) i n, .int .i64 ((n : Int) + 1 - (i : Int))]).run Try.prog w = .ok (.slice (some ⟨w.heap.size, 0, none⟩) (n + 1) G) W1) ∧
      W1.heap[w.heap.size]? = some (.cells ROW 25 (0, 0)) ∧ ROW.size = G * 5 ∧ ROW.toList.take (i * 5) = xs.take (i * 5) ∧ w.grownBy W1 none ∧ W1.heap.size = w.heap.size + 1 := by
  obtain ⟨i5, hi5, hz50, hz51, hz52⟩ := info_parts Try.info25
  have hxl : (xs.take (i * 5)).length = i * 5 := by rw [List.length_take, ho.1]; omega
  have hold : (Builtin.firstCells i5.size i (.slice (some ⟨g, 0, none⟩) i n)).run Try.prog w.drew = .ok (xs.take (i * 5)).toArray w.drew := by
    rw [hz51]
    exact run_firstCells_some w.drew 5 i ⟨g, 0, none⟩ i n (xs.take (i * 5)) (by rw [hxl]) (fun j v hj => by
      rw [List.getElem?_take] at hj
      split at hj
      · exact ho.cells (g := g) rfl j v hj
      · cases hj)
  have h := Lib.run_append_grow_zeros (P := Try.prog) w 23 3 0 25 i5 _ .i64 .i64 Try.underlying23 Try.underlying3 hi5 hz50 (some ⟨g, 0, none⟩) i n (xs.take (i * 5)) hold (n + 1 - i) (by omega) (by omega) (by omega) (by omega) (by rw [hz52]; omega) (by rw [hz52]; exact growslice_fits (by omega) (by omega))
  rw [show i + (n + 1 - i) = n + 1 by omega, show ((n + 1 - i : Nat) : Int) = (n : Int) + 1 - (i : Int) by omega] at h
  refine ⟨_, _, _, grownCap_ge w _ _ _, grownCap_le_maxLen w (n + 1) n 25 (by unfold maxLen; omega), fun ty => h, heap_alloc_new w.drew _, ?_, ?_, ⟨rfl, rfl, rfl, by simp, fun k hk _ => Below.heap_alloc w.drew _ k hk⟩, by simp⟩
  · have := grownCap_ge w (n + 1) n 25
    simp only [Array.size_append, List.size_toArray, size_zeroCells, hxl, Value.cells, List.size_toArray, List.length_cons, List.length_nil]
    omega
  · rw [Array.toList_append, Array.toList_append, List.append_assoc]
    rw [List.take_append_of_le_length (by simp [hxl]), List.take_of_length_le (by simp [hxl])]

theorem setRow_grown (w : World) (g : Nat) (c : Array Value) : w.grownBy (w.setRow g c) (some g) ∧ (w.setRow g c).heap.size = w.heap.size :=
  ⟨⟨rfl, rfl, rfl, by simp, fun k _ hk => setRow_other w g k _ (fun e => hk (by simp [e]))⟩, by simp⟩

set_option maxRecDepth 20000 in
set_option maxHeartbeats 2000000 in
theorem insert_mid (base g n i vb : Nat) (xs vs : List Value) (hn : n ≤ 1048577) (hi : i < n) (w : World) (hbase : base ≤ w.heap.size) (ho : w.ownsRow base 25 5 (.slice (some ⟨g, 0, none⟩) n n) n xs) (hv : vs.length = 5) (hvb : vb < w.heap.size)
    (hvs : ∀ j u, vs[j]? = some u → w.cell? ((⟨vb, 0, none⟩ : Addr).add j) = some u) (h1v : ∀ u ∈ vs, u.oneCell' = true) (h1x : ∀ u ∈ xs, u.oneCell' = true) :
    Calls Try.prog 15 #[.slice (some ⟨g, 0, none⟩) n n, .int .i64 i, .slice (some ⟨vb, 0, none⟩) 1 1] w fun e w' => ∃ v', e = .returned v' ∧ v' ≠ .slice none 0 0 ∧ w'.ownsRow base 25 5 v' (n + 1) (xs.take (i * 5) ++ vs ++ xs.drop (i * 5)) ∧ w.grownBy w' none := by
  obtain ⟨G, W1, ROW, hG1, hG2, hrz, hW1, hRs, hRt, hgr1, hsz1⟩ := zeros31 base g n i xs hn hi w ho
  have hgl : g < w.heap.size := (ho.lt g rfl).2
  have hcA : ∀ ty dc, (Builtin.copy_ #[23, 23] ty #[.slice (some ⟨w.heap.size, i * 5, none⟩) (n + 1 - i) dc, .slice (some ⟨vb, 0, none⟩) 1 1]).run Try.prog W1 = .ok (goInt 1) (W1.setRow w.heap.size (ROW.toList.take (i * 5) ++ vs ++ ROW.toList.drop (i * 5 + vs.length)).toArray) := fun ty dc => by
    have hmin : Nat.min 1 (n + 1 - i) = 1 := by simp only [Nat.min_def]; split <;> omega
    have := run_copy_rowK (P := Try.prog) W1 23 23 ty 25 w.heap.size (i * 5) (n + 1 - i) dc ⟨vb, 0, none⟩ 1 1 ROW 25 vs 5 Try.underlying23 Try.sz25 hW1 (by rw [hmin, hv]) (fun j u hj => hgr1.cell (hvs j u hj) (by simp)) (by rw [hv, hRs]; omega) h1v
    rw [hmin] at this
    exact this
  obtain ⟨ROW2, hROW2⟩ : ∃ R, R = (ROW.toList.take (i * 5) ++ vs ++ ROW.toList.drop (i * 5 + vs.length)).toArray := ⟨_, rfl⟩
  rw [← hROW2] at hcA
  have hl2 : ROW2.size = G * 5 := by
    rw [hROW2]
    simp [hv, hRs]
    omega
  have ht2 : ROW2.toList.take ((i + 1) * 5) = xs.take (i * 5) ++ vs := by
    rw [hROW2, ← hRt]
    exact List.take_left' (by rw [List.length_append, List.length_take, hv, Array.length_toList, hRs]; omega)
  obtain ⟨W2, hW2⟩ : ∃ W, W = W1.setRow w.heap.size ROW2 := ⟨_, rfl⟩
  rw [← hW2] at hcA
  have hb2 : W2.heap[w.heap.size]? = some (.cells ROW2 25 (0, 0)) := by rw [hW2]; exact setRow_heap W1 _ ROW _ 25 _ hW1
  have hgr2 : w.grownBy W2 none := by
    rw [hW2]
    exact hgr1.andThen (setRow_grown W1 w.heap.size ROW2).1 (fun j e => by cases e; exact .inl (Nat.le_refl _))
  have hsz2 : W2.heap.size = w.heap.size + 1 := by rw [hW2, (setRow_grown W1 _ _).2, hsz1]
  clear hW2 hROW2
  have hdl : (xs.drop (i * 5)).length = (n - i) * 5 := by rw [List.length_drop, ho.1]; omega
  have hcB : ∀ (W : World), W.heap = W2.heap → ∀ ty dc sc, (Builtin.copy_ #[23, 23] ty #[.slice (some ⟨w.heap.size, (i + 1) * 5, none⟩) (n - i) dc, .slice (some ⟨g, i * 5, none⟩) (n - i) sc]).run Try.prog W = .ok (goInt ((n - i : Nat) : Int)) (W.setRow w.heap.size (ROW2.toList.take ((i + 1) * 5) ++ xs.drop (i * 5) ++ ROW2.toList.drop ((i + 1) * 5 + (xs.drop (i * 5)).length)).toArray) := fun W hW ty dc sc => by
    have hmin : Nat.min (n - i) (n - i) = n - i := Nat.min_self _
    have := run_copy_rowK (P := Try.prog) W 23 23 ty 25 w.heap.size ((i + 1) * 5) (n - i) dc ⟨g, i * 5, none⟩ (n - i) sc ROW2 25 (xs.drop (i * 5)) 5 Try.underlying23 Try.sz25 (by rw [hW]; exact hb2) (by rw [hmin, hdl]) (fun j u hj => by
      have e1 : W.cell? ((⟨g, i * 5, none⟩ : Addr).add j) = W2.cell? ((⟨g, i * 5, none⟩ : Addr).add j) := World.cell?_of_block (by rw [hW])
      rw [e1, Addr.add_lit]
      rw [List.getElem?_drop] at hj
      have := ho.cells (g := g) rfl (i * 5 + j) u hj
      rw [Addr.add_lit, Nat.zero_add] at this
      exact hgr2.cell this (by simp)) (by rw [hdl, hl2]; omega) (fun u hu => h1x u (List.mem_of_mem_drop hu))
    rw [hmin] at this
    exact this
  obtain ⟨ROW3, hROW3⟩ : ∃ R, R = (ROW2.toList.take ((i + 1) * 5) ++ xs.drop (i * 5) ++ ROW2.toList.drop ((i + 1) * 5 + (xs.drop (i * 5)).length)).toArray := ⟨_, rfl⟩
  rw [← hROW3] at hcB
  have HO : Hid ((W2.drew.setRow w.heap.size ROW3).ownsRow base 25 5 (.slice (some ⟨w.heap.size, 0, none⟩) (n + 1) G) (n + 1) (xs.take (i * 5) ++ vs ++ xs.drop (i * 5))) := by
    refine ⟨by rw [List.length_append, List.length_append, hdl, List.length_take, ho.1, hv]; omega, .inr ⟨w.heap.size, G, ROW3, rfl, hbase, setRow_heap W2.drew _ ROW2 _ 25 _ hb2, hG1, hG2, ?_, ?_⟩⟩
    · rw [hROW3]
      simp only [List.size_toArray, List.length_append, List.length_take, List.length_drop, Array.length_toList, hl2, hdl]
      have := ho.1
      omega
    · rw [hROW3, ← ht2]
      exact List.take_left' (by rw [List.length_append, List.length_take, hdl, Array.length_toList, hl2]; omega)
  have HG : Hid (w.grownBy (W2.drew.setRow w.heap.size ROW3) none) := by
    have h1 : w.grownBy W2.drew none := ⟨hgr2.os, hgr2.tape, hgr2.output, hgr2.size, hgr2.block⟩
    exact h1.andThen (setRow_grown W2.drew w.heap.size ROW3).1 (fun j e => by cases e; exact .inl (Nat.le_refl _))
  clear hROW3 hvs hRt ht2 hgr1 hgr2 hW1 hb2 ho h1v h1x
  have hGi : ¬ (G = i) := by omega
  have hGim : ¬ (G = i + 1) := by omega
  have hni : ¬ (n = i) := by omega
  have hz2 : ¬ ((i : Int) = (n : Int)) := by omega
  have hG63 : G ≤ 9223372036854775807 := by unfold maxLen at hG2; omega
  have hw1 : IntKind.i64.wrap ((i : Int) + 1) = (i : Int) + 1 := by rw [IntKind.wrap_i64]; omega
  have hmul : (i + 1) * 5 = i * 5 + 5 := by omega
  have hb3 : (i : Int) ≤ (n : Int) := by omega
  go_enter Try.func15, Try.ntmps15
  go_wp2_with (first
    | (at_builtin; refine Lib.wpList_append_run _ rfl _ _ _ _ rfl _ _ rfl rfl _ _ (hrz _) ?_)
    | (at_builtin; refine wpList_copy_runI _ rfl _ _ 23 23 rfl _ _ rfl rfl (hcA _ _) ?_))
  have mixed : Try.prog.follows Departure.mixedOrders = true := by kernel_rfl
  have hb1 : (0 : Int) ≤ (i : Int) + 1 := by omega
  have htn : ((i : Int) + 1).toNat = i + 1 := by omega
  have hin : i ≤ n := by omega
  have hsub : n + 1 - (i + 1) = n - i := by omega
  have hile : (i : Int) + 1 ≤ (n : Int) + 1 := by omega
  go_region_law_o (refine step_copy_runI rfl _ _ 23 23 rfl (.slice (some ⟨w.heap.size, (i + 1) * 5, none⟩) (n - i) (G - (i + 1))) (.slice (some ⟨g, i * 5, none⟩) (n - i) (n - i)) (by simp [Act.eval, Act.put]) (by simp [Act.eval, Act.put]) (hcB W2.drew rfl 3 (G - (i + 1)) (n - i)) ?_)
  go_wp2
  go_ret
  exact ⟨_, rfl, by simp, HO.out, HG.out⟩

theorem take_flat {α : Type} {m : Nat} (f : α → List Value) (hf : ∀ x, (f x).length = m) : ∀ (L : List α) (i : Nat), (L.flatMap f).take (i * m) = (L.take i).flatMap f ∧ (L.flatMap f).drop (i * m) = (L.drop i).flatMap f
  | [], i => by simp
  | x :: r, 0 => by simp
  | x :: r, i + 1 => by
    obtain ⟨h1, h2⟩ := take_flat f hf r i
    have e : (i + 1) * m = (f x).length + i * m := by rw [hf, Nat.add_mul]; omega
    refine ⟨?_, ?_⟩
    · rw [List.flatMap_cons, e, List.take_length_add_append, h1]; simp
    · rw [List.flatMap_cons, e, List.drop_length_add_append, h2]; simp

theorem put_flat (Z : Nat → Nat → Int) (L : List Nat) (i n : Nat) : (L.take i ++ n :: L.drop i).flatMap (five Z) = (L.flatMap (five Z)).take (i * 5) ++ five Z n ++ (L.flatMap (five Z)).drop (i * 5) := by
  obtain ⟨h1, h2⟩ := take_flat (m := 5) (five Z) (fun _ => rfl) L i
  rw [h1, h2, List.flatMap_append, List.flatMap_cons, List.append_assoc]

theorem insertWalks (base g n i vb : Nat) (L : List Nat) (Z : Nat → Nat → Int) (hL : L.length ≤ 1048576) (hi : i ≤ L.length) (w : World) (hbase : base ≤ w.heap.size) (hvb : vb < w.heap.size)
    (ho : Walks w base (.slice (some ⟨g, 0, none⟩) L.length L.length) L Z) (hvs : ∀ j u, (five Z n)[j]? = some u → w.cell? ((⟨vb, 0, none⟩ : Addr).add j) = some u) :
    Calls Try.prog 15 #[.slice (some ⟨g, 0, none⟩) L.length L.length, .int .i64 i, .slice (some ⟨vb, 0, none⟩) 1 1] w fun e w' => ∃ v', e = .returned v' ∧ Walks w' base v' (L.take i ++ n :: L.drop i) Z ∧ w.grownBy w' (some g) := by
  obtain ⟨_, _, _, ho⟩ := ho
  have h1v : ∀ u ∈ five Z n, u.oneCell' = true := fun u hu => five_one Z [n] u (by simpa using hu)
  have hlen : (L.take i ++ n :: L.drop i).length = L.length + 1 := by simp; omega
  have close : ∀ (v' : Value) (w' : World), v' ≠ .slice none 0 0 → w'.ownsRow base 25 5 v' (L.length + 1) ((L.take i ++ n :: L.drop i).flatMap (five Z)) → Walks w' base v' (L.take i ++ n :: L.drop i) Z := fun v' w' h1 h2 => by
    rw [← hlen] at h2
    rcases h2.2 with ⟨e, _⟩ | ⟨g, c, _, e, _⟩
    · exact absurd e h1
    · exact ⟨g, c, e, h2⟩
  by_cases hin : i = L.length
  · subst hin
    refine (insert_end base g L.length vb _ (five Z n) (by omega) w hbase ho rfl hvs h1v).mono ?_
    rintro e w' ⟨v', rfl, h1, h2, h3⟩
    refine ⟨v', rfl, close v' w' h1 ?_, h3⟩
    rw [put_flat, List.take_of_length_le (by rw [ho.1]; exact Nat.le_refl _), List.drop_of_length_le (by rw [ho.1]; exact Nat.le_refl _), List.append_nil]
    exact h2
  · refine (insert_mid base g L.length i vb _ (five Z n) (by omega) (by omega) w hbase ho rfl hvb hvs h1v (five_one Z L)).mono ?_
    rintro e w' ⟨v', rfl, h1, h2, h3⟩
    refine ⟨v', rfl, close v' w' h1 ?_, h3.but _⟩
    rw [put_flat]
    exact h2
end Go.Proofs.Ytnplclfoeedpjaa
