/- The program's inOrder: the walkers of the groups, whatever the map's order, as they stood in their list; conditions: the groups are the call's own. -/
import Derived.Test.YtnplclfoeedpjaaSort
namespace Go.Proofs.Ytnplclfoeedpjaa
open Go.RowKit Go.Deep Go.Maps Go.MapKept
set_option linter.unusedVariables false

/-- The cells of the k-th walker. -/
def five (Z : Nat → Nat → Int) (k : Nat) : List Value := [.int .i64 (Z k 0), .int .i64 (Z k 1), .int .i64 (Z k 2), .int .i64 (Z k 3), .int .i64 (Z k 4)]

/-- append of a whole slice of the call's own, nil or not. -/
theorem wpList_append_row {P : Program} (w : World) {ops : Array Oper} {rest : List Oper} {o : Oper} {a : Act} {Q : Exit → Act → World → Prop} (hgd : o.guard = none) (s x : Operand) (t : TypeId)
    (ho : o.op = .call { callee := .builtin .append, args := #[s, x], argTypes := #[t, t] })
    (base base2 : Nat) (e : TypeId) (i : TypeInfo) (z : Value) (size bytes : Nat) (ht : P.underlying t = some (.slice e)) (hi : P.info? e = some i) (hz : i.zero = some z)
    (hsize : i.size = size) (hby : i.bytes = bytes) (hzs : z.cells.size = size) (hsz : 0 < size)
    (v : Value) (n : Nat) (xs : List Value) (hs : a.eval s = v) (hown : w.ownsRow base e size v n xs)
    (v2 : Value) (n2 : Nat) (xs2 : List Value) (hx : a.eval x = v2) (hown2 : w.ownsRow base2 e size v2 n2 xs2) (h1 : ∀ u ∈ xs2, u.oneCell' = true)
    (h63 : n + n2 ≤ maxLen) (hbytes : (n + n2) * bytes ≤ 140737488355328) (hbase : base ≤ w.heap.size)
    (h : ∀ v' w', w'.ownsRow base e size v' (n + n2) (xs ++ xs2) → w.grownBy w' v.ownBlock → wpList P ops Q rest (a.put o.dst v') w') :
    wpList P ops Q (o :: rest) a w := by
  rcases hown2.2 with ⟨rfl, rfl⟩ | ⟨g, cap, cur, rfl, _⟩
  · have hnil : xs2 = [] := List.eq_nil_of_length_eq_zero (by simpa using hown2.1)
    subst hnil
    refine wpList_plain hgd fun K hK' => ?_
    have hrun := run_append_owned_none (P := P) w base t o.type e i size ht hi v n xs hown
    unfold Oper.wp
    simp [execOp, ho, resolve, invoke, builtin, hs, hx, hrun, Result.andThen]
    exact hK' _ _ (h v w (by simpa using hown) (World.grownBy.refl _ _))
  · exact wpList_append_own w hgd s x t ho base e i z size bytes ht hi hz hsize hby hzs hsz v n xs hs hown ⟨g, 0, none⟩ n2 cap xs2 hx hown2.1 (hown2.cells rfl) h1 h63 hbytes hbase (fun v' w' a1 a2 _ => h v' w' a1 a2)

/-- The step of a range. -/
theorem wpList_it_next (w : World) {ops : Array Oper} {rest : List Oper} {o : Oper} {a : Act} {Q : Exit → Act → World → Prop} (hg : o.guard = none) (it : Operand) (hop : o.op = Op.next it false)
    (b r : Nat) (es : Array MapEntry) (clock : Nat) (vis : List MapEntry) (hit : a.eval it = .pointer (some ⟨r, 0, none⟩)) (h : It w b r es clock vis) (hs : Stamped es clock)
    (hDone : vis.Perm es.toList → wpList Try.prog ops Q rest (a.put o.dst (.tuple #[.bool false])) w)
    (hMore : ∀ e w', e ∈ es.toList → It w' b r es clock (vis ++ [e]) → w'.rangeLeft b r < w.rangeLeft b r → w.grownBy w' (some r) → w'.heap.size = w.heap.size →
      (Instr.entry (.pointer (some ⟨r, 0, none⟩))).run Try.prog w' = .ok (.tuple #[e.key, e.val]) w' → wpList Try.prog ops Q rest (a.put o.dst (.tuple #[.bool true, e.key, e.val])) w') :
    wpList Try.prog ops Q (o :: rest) a w := by
  refine wpList_plain hg fun K' hK' => ?_
  unfold Oper.wp
  rcases h.next hs o.type with ⟨h0, hrun⟩ | ⟨e, w', he, hrun, h1, h2, h3, h4, h5⟩
  · simp [execOp, hop, hit, hrun, Result.andThen]
    exact hK' _ _ (hDone h0)
  · simp [execOp, hop, hit, hrun, Result.andThen]
    exact hK' _ _ (hMore e w' he h1 h2 h3 h4 h5)

theorem grp'_len {Z : Nat → Nat → Int} {n : Nat} {id : Int} {w : World} {b : Nat} {es : Array MapEntry} {clock : Nat} {vis : List MapEntry} (he : Ent w b (grp' Z n id) es) (hs : Stamped es clock) (hnd : vis.Nodup) (hsub : ∀ x ∈ vis, x ∈ es.toList) :
    (vis.flatMap (fun x => idx' Z n id (intOf x.key))).length ≤ n := by
  have hmem : ∀ z k, k ∈ idx' Z n id z ↔ (z ≠ id ∧ k < n ∧ Z k 0 = z) := by
    intro z k
    unfold idx' idx
    by_cases h : z = id <;> simp [h]
  have hnod : (vis.flatMap (fun x => idx' Z n id (intOf x.key))).Nodup := by
    refine List.pairwise_flatMap.2 ⟨fun x _ => ?_, ?_⟩
    · unfold idx' idx
      split
      · exact List.Pairwise.nil
      · exact (List.nodup_range).filter _
    · refine List.Pairwise.imp_of_mem (fun {x y} hx hy hne k hk l hl e => ?_) hnd
      subst e
      obtain ⟨zx, _, ex, _⟩ := he.1 x (hsub x hx)
      obtain ⟨zy, _, ey, _⟩ := he.1 y (hsub y hy)
      have h1 := ((hmem _ _).1 hk).2.2
      have h2 := ((hmem _ _).1 hl).2.2
      rw [ex] at h1
      rw [ey] at h2
      simp only [KI, intOf] at h1 h2
      refine hne (entry_eq_of_key ((stamped_iff es clock).1 hs).2.2 (hsub x hx) (hsub y hy) ?_)
      rw [ex, ey, ← h1, ← h2]
  have := hnod.length_le_of_subset (l₂ := List.range n) (fun k hk => by
    obtain ⟨x, _, hk⟩ := List.mem_flatMap.1 hk
    exact List.mem_range.2 ((hmem _ _).1 hk).2.1)
  simpa using this

theorem cells_idx (Z : Nat → Nat → Int) (n : Nat) (id : Int) (vis : List MapEntry) : vis.flatMap (fun x => grp' Z n id (intOf x.key)) = (vis.flatMap (fun x => idx' Z n id (intOf x.key))).flatMap (six Z) := by
  rw [List.flatMap_assoc]
  congr 1
  funext x
  exact grp'_flat Z n id _

theorem six_one (Z : Nat → Nat → Int) (L : List Nat) : ∀ u ∈ L.flatMap (six Z), u.oneCell' = true := by
  intro u hu
  obtain ⟨k, _, hk⟩ := List.mem_flatMap.1 hu
  simp [six] at hk
  rcases hk with rfl | rfl | rfl | rfl | rfl | rfl <;> rfl

set_option maxHeartbeats 1000000 in
theorem inOrder (b n : Nat) (id : Int) (Z : Nat → Nat → Int) (hn : n ≤ 1048576) (w : World) (hG : Gr w b (grp' Z n id)) :
    Calls Try.prog 19 #[.map (some b)] w fun e w' => ∃ g cap, cap = (rest Z n id).length ∧ e = .returned (.slice (some ⟨g, 0, none⟩) (rest Z n id).length cap) ∧ w'.ownsRow w.heap.size 25 5 (.slice (some ⟨g, 0, none⟩) (rest Z n id).length cap) (rest Z n id).length ((rest Z n id).flatMap (five Z)) ∧ Below w.heap.size w w' := by
  obtain ⟨es, clock, hb, hs, he⟩ := hG
  have hrg := run_range_map (P := Try.prog) w 44 3 43 b es clock Try.underlying44 hb
  have hbl : b < w.heap.size := (Array.getElem?_eq_some_iff.1 hb).1
  have HS : Hid (Stamped es clock) := hs
  have HE : Hid (Ent w b (grp' Z n id) es) := he
  have HI : Hid (It (w.alloc (.mapIter (some b) clock #[] clock)) b w.heap.size es clock []) := It.start hb
  obtain ⟨i0, hi, hz0, hz1, hz2⟩ := info_parts Try.info49
  obtain ⟨i5, hi5, hz50, hz51, hz52⟩ := info_parts Try.info25
  clear hs he hb
  go_enter Try.func19, Try.ntmps19
  go_wp2
  go_loopw [3] (fun u wr => ∃ v vis m, v = u ∧ It wr b w.heap.size es clock vis ∧ wr.ownsRow (w.heap.size + 1) 49 6 v m (vis.flatMap (fun x => grp' Z n id (intOf x.key))) ∧ w.heap.size < wr.heap.size ∧ Below w.heap.size w wr) (fun _ wr => wr.rangeLeft b w.heap.size)
  case atStart => exact ⟨_, [], 0, rfl, HI.out, World.ownsRow_nil _ _ _ _, by simp, (Below.refl _ _).alloc (by simp) _⟩
  case round =>
    obtain ⟨v, vis, m, rfl, hIt, hrow, hsz, hbel⟩ := hrel
    clear hrg HI
    have hnv : ∀ k, k ≤ w.heap.size → some k ≠ v.ownBlock := fun k hk e => by have := (hrow.lt k e.symm).1; omega
    go_wp2_with (at_next; refine wpList_it_next _ rfl _ rfl b w.heap.size es clock vis rfl hIt HS.out ?_ ?_)
    · intro hperm
      have hLp := perm_rest HE.out HS.out hperm
      have hm : m = (rest Z n id).length := by
        have h1 := hrow.1
        rw [cells_idx, len_flat (m := 6) (six Z) (fun _ => rfl), hLp.length_eq] at h1
        omega
      have hmn : m ≤ n := by
        have := (List.filter_sublist (p := fun k => decide (Z k 0 ≠ id)) (l := List.range n)).length_le
        rw [List.length_range] at this
        rw [hm]; exact this
      rw [cells_idx] at hrow
      have HM : Hid (m = (rest Z n id).length) := hm
      have HLP : Hid ((vis.flatMap (fun x => idx' Z n id (intOf x.key))).Perm (rest Z n id)) := hLp
      clear hm hLp hperm hIt
      go_wp2_with fail
      refine (sortRow Z _ (w.heap.size + 1) m v _ hrow (by omega)).mono ?_
      rintro e w2 ⟨rfl, L', hp', hs', hrow2, hg2⟩
      have hL' : L' = rest Z n id := sorted_is_rest (hp'.trans HLP.out) hs'
      subst hL'
      have hb2 : Below w.heap.size w w2 := hbel.grown hg2 (by omega) (fun k e => by have := (hrow.lt k e).1; omega)
      have hs2 : w.heap.size < w2.heap.size := by have := hg2.size; omega
      obtain ⟨w3, hmk, hrow3, hg3⟩ := run_make_own (P := Try.prog) w2 w.heap.size 23 25 i5 _ 5 Try.underlying23 hi5 hz50 hz51 .i64 .i64 m (by rw [hz52]; omega) (by unfold maxLen; omega) (by omega)
      have hb3 : Below w.heap.size w w3 := hb2.grown hg3 (by omega) (fun k e => by cases e)
      have hs3 : w2.heap.size ≤ w3.heap.size := hg3.size
      have hrow23 := hrow2.kept hg3 (by cases v.ownBlock <;> simp)
      clear hp' hs' hrow hg2 hbel HLP hb2 hnv
      rcases hrow2.2 with ⟨rfl, rfl⟩ | ⟨g, cap, cur, rfl, hbg, hgb, hnc, _, _, _⟩
      · have hmk' : (Instr.makeSlice 23 (.int .i64 0) (.int .i64 0)).run Try.prog w2 = .ok (.slice (some ⟨w2.heap.size, 0, none⟩) 0 0) w3 := hmk
        clear hmk
        have hrest : rest Z n id = [] := List.eq_nil_of_length_eq_zero HM.out.symm
        have HO : Hid (w3.ownsRow w.heap.size 25 5 (.slice (some ⟨w2.heap.size, 0, none⟩) 0 0) 0 []) := hrow3
        clear hrow3 hrow2 hrow23 hg3
        go_wp2
        refine wp_loop_rounds 1 ?_
        rw [rounds_succ]
        go_wp2
        go_ret
        exact ⟨_, 0, by simp [hrest], by simp only [hrest]; rfl, by rw [hrest]; exact HO.out, hb3⟩
      · have hgl : g < w2.heap.size := (Array.getElem?_eq_some_iff.1 hgb).1
        have HO : Hid (w3.ownsRow w.heap.size 25 5 (.slice (some ⟨w2.heap.size, 0, none⟩) 0 m) 0 []) := hrow3
        have HA : Hid (w3.ownsRow (w.heap.size + 1) 49 6 (.slice (some ⟨g, 0, none⟩) m cap) m ((rest Z n id).flatMap (six Z))) := hrow23
        clear hrow3 hrow2 hrow23 hg3 hgb
        go_wp2
        go_loopw [6, 25] (fun s i wr => ∃ k : Nat, k ≤ m ∧ .int .i64 k = i ∧ .slice (some ⟨w2.heap.size, 0, none⟩) k m = s ∧ wr.ownsRow w.heap.size 25 5 (.slice (some ⟨w2.heap.size, 0, none⟩) k m) k (((rest Z n id).take k).flatMap (five Z)) ∧ wr.ownsRow (w.heap.size + 1) 49 6 (.slice (some ⟨g, 0, none⟩) m cap) m ((rest Z n id).flatMap (six Z)) ∧ w2.heap.size ≤ wr.heap.size ∧ Below w.heap.size w wr) (fun _ i _ => m - (intOf i).toNat)
        case atStart => exact ⟨0, Nat.zero_le _, rfl, rfl, HO.out, HA.out, hs3, hb3⟩
        case round =>
          obtain ⟨k, hk, rfl, rfl, ho, ha, hsz2, hbelr⟩ := hrel
          clear HO HA hmk
          by_cases hkm : k < m
          · have hkm' : (k : Int) < (m : Int) := by omega
            have hkr : k < (rest Z n id).length := by rw [← HM.out]; exact hkm
            have hc : ∀ c, c < 6 → wr.cell? ⟨g, k * 6 + c, none⟩ = some (six Z (rest Z n id)[k]!)[c]! := fun c hc => by
              rw [ha.cellAt (k * 6 + c) (by omega)]
              exact get_flat (m := 6) (six Z) (fun _ => rfl) _ k c hkr hc
            have htk : ((rest Z n id).take (k + 1)).flatMap (five Z) = ((rest Z n id).take k).flatMap (five Z) ++ five Z (rest Z n id)[k]! := by
              rw [List.take_succ_eq_append_getElem hkr, List.flatMap_append, getElem!_pos _ k hkr]
              simp
            generalize (rest Z n id)[k]! = p at hc htk
            have c0 : wr.cell? ⟨g, k * 6, none⟩ = some (.int .i64 (Z p 0)) := hc 0 (by omega)
            have c1 : wr.cell? ⟨g, k * 6 + 1, none⟩ = some (.int .i64 (Z p 1)) := hc 1 (by omega)
            have c2 : wr.cell? ⟨g, k * 6 + 2, none⟩ = some (.int .i64 (Z p 2)) := hc 2 (by omega)
            have c3 : wr.cell? ⟨g, k * 6 + 3, none⟩ = some (.int .i64 (Z p 3)) := hc 3 (by omega)
            have c4 : wr.cell? ⟨g, k * 6 + 4, none⟩ = some (.int .i64 (Z p 4)) := hc 4 (by omega)
            have c5 : wr.cell? ⟨g, k * 6 + 5, none⟩ = some (.int .i64 (p : Int)) := hc 5 (by omega)
            have HT : Hid (((rest Z n id).take (k + 1)).flatMap (five Z) = ((rest Z n id).take k).flatMap (five Z) ++ five Z p) := htk
            have HA : Hid (wr.ownsRow (w.heap.size + 1) 49 6 (.slice (some ⟨g, 0, none⟩) m cap) m ((rest Z n id).flatMap (six Z))) := ha
            clear hc htk ha
            go_wp2_with (at_builtin; refine wpList_append_fits _ rfl _ _ 23 rfl w.heap.size 25 i5 5 Try.underlying23 hi5 hz51 w2.heap.size k m _ rfl ((ho.alloc _).alloc _) ⟨wr.heap.size + 1, 0, none⟩ 1 1 (five Z p) rfl rfl ?d1 ?d2 ?d3 ?_)
            case d1 =>
              intro j u hj
              match j, hj with
              | 0, hj => simp [five] at hj; subst hj; simp [Addr.add]
              | 1, hj => simp [five] at hj; subst hj; simp [Addr.add]
              | 2, hj => simp [five] at hj; subst hj; simp [Addr.add]
              | 3, hj => simp [five] at hj; subst hj; simp [Addr.add]
              | 4, hj => simp [five] at hj; subst hj; simp [Addr.add]
              | j + 5, hj => simp [five] at hj
            case d2 => intro u hu; simp [five] at hu; rcases hu with rfl | rfl | rfl | rfl | rfl <;> rfl
            case d3 => omega
            · intro w4 hown4 hg4
              have HO4 : Hid (w4.ownsRow w.heap.size 25 5 (.slice (some ⟨w2.heap.size, 0, none⟩) (k + 1) m) (k + 1) (((rest Z n id).take (k + 1)).flatMap (five Z))) := by unfold Hid; rw [HT.out]; exact hown4
              have HA4 : Hid (w4.ownsRow (w.heap.size + 1) 49 6 (.slice (some ⟨g, 0, none⟩) m cap) m ((rest Z n id).flatMap (six Z))) := ((HA.out.alloc _).alloc _).kept hg4 (.inr (by simp [Value.ownBlock]; omega))
              have hsz4 : w2.heap.size ≤ w4.heap.size := by have := hg4.size; simp at this; omega
              have hb4 : Below w.heap.size w w4 := ((hbelr.alloc (by omega) _).alloc (by simp; omega) _).grown hg4 (by simp; omega) (fun k e => by cases e; omega)
              clear hown4 hg4 HA HT ho c0 c1 c2 c3 c4 c5
              go_wp2
              go_roundw
              case rel => exact ⟨k + 1, by omega, by go_num, rfl, HO4.out, HA4.out, hsz4, hb4⟩
              case measure => simp [intOf]; omega
          · have hkm' : k = m := by omega
            subst hkm'
            have HO4 : Hid (wr.ownsRow w.heap.size 25 5 (.slice (some ⟨w2.heap.size, 0, none⟩) k k) k ((rest Z n id).flatMap (five Z))) := by
              unfold Hid
              rw [List.take_of_length_le (by rw [← HM.out]; exact Nat.le_refl _)] at ho
              exact ho
            clear ho ha
            go_wp2
            go_ret
            exact ⟨w2.heap.size, k, HM.out, by rw [← HM.out]; rfl, by rw [← HM.out]; exact HO4.out, hbelr⟩
    · intro e w1 hem hIt1 hlt hg1 hs1 hen
      have hbel1 : Below w.heap.size w w1 := hbel.grown hg1 (by omega) (fun k e => by cases e; exact Nat.le_refl _)
      have hrow1 := hrow.kept hg1 (by
        cases hv : v.ownBlock with
        | none => exact .inl rfl
        | some x => exact .inr (by rw [← hv]; exact (hnv _ (Nat.le_refl _)).symm))
      obtain ⟨z, n2, hk, hw, ho⟩ := (HE.out.kept (grown_of_below hbel1)).1 e (by simpa using hem)
      have hcat : (vis ++ [e]).flatMap (fun x => grp' Z n id (intOf x.key)) = vis.flatMap (fun x => grp' Z n id (intOf x.key)) ++ grp' Z n id z := by
        rw [List.flatMap_append]; simp [hk, KI, intOf]
      have hlen : m + n2 ≤ n := by
        obtain ⟨_, _, _, _, _, _, hnd, hsub⟩ := hIt1
        have h1 := grp'_len HE.out HS.out hnd hsub
        have h2 := congrArg List.length hcat
        rw [cells_idx, len_flat (m := 6) (six Z) (fun _ => rfl), List.length_append, hrow1.1, ho.1] at h2
        omega
      have HC : Hid ((vis ++ [e]).flatMap (fun x => grp' Z n id (intOf x.key)) = vis.flatMap (fun x => grp' Z n id (intOf x.key)) ++ grp' Z n id z) := hcat
      have h1c : ∀ u ∈ grp' Z n id z, u.oneCell' = true := by rw [grp'_flat]; exact six_one Z _
      clear hcat hIt hrow hk
      go_wp2_with (at_builtin; refine wpList_append_row _ rfl _ _ 43 rfl (w.heap.size + 1) (b + 1) 49 i0 (.agg #[.int .i64 0, .int .i64 0, .int .i64 0, .int .i64 0, .int .i64 0, .int .i64 0]) 6 48 Try.underlying43 hi hz0 hz1 hz2 rfl (by decide) _ _ _ rfl hrow1 _ _ _ rfl ho h1c ?c3 ?c4 ?c5 ?_)
      case c3 => unfold maxLen; omega
      case c4 => omega
      case c5 => omega
      · intro v' w2 hown' hg2
        have HO : Hid (w2.ownsRow (w.heap.size + 1) 49 6 v' (m + n2) ((vis ++ [e]).flatMap (fun x => grp' Z n id (intOf x.key)))) := by unfold Hid; rw [HC.out]; exact hown'
        have HI2 : Hid (It w2 b w.heap.size es clock (vis ++ [e])) := hIt1.kept hg2 (hnv b (Nat.le_of_lt hbl)) (hnv _ (Nat.le_refl _))
        have hb2 : Below w.heap.size w w2 := hbel1.grown hg2 (by omega) (fun k e => by have := (hrow1.lt k e).1; omega)
        have hs2 : w.heap.size < w2.heap.size := by have := hg2.size; omega
        have hlf : w2.rangeLeft b w.heap.size < wr.rangeLeft b w.heap.size := by
          have : w2.rangeLeft b w.heap.size = w1.rangeLeft b w.heap.size := by
            unfold World.rangeLeft
            rw [hg2.block b (by omega) (hnv b (Nat.le_of_lt hbl)), hg2.block w.heap.size (by omega) (hnv _ (Nat.le_refl _))]
          omega
        clear hown' hg2 hrow1 hIt1 ho h1c HC hen
        go_wp2
        go_roundw
        case rel => exact ⟨_, vis ++ [e], m + n2, rfl, HI2.out, HO.out, hs2, hb2⟩
        case measure => exact hlf
end Go.Proofs.Ytnplclfoeedpjaa
