/- Copies as the program makes them; conditions: those typed. -/
import Derived.Test.YtoickljpjlhkoaaOM
import Derived.Test.YtoickljpjlhkoaaOP
namespace Go.Proofs.Ytoickljpjlhkoaa
open Go.RowKit Go.Deep
set_option linter.unusedVariables false

theorem rowK_len (n : Nat) (Z : Nat → Nat → Int) : ((List.range n).flatMap (P6.rowK Z)).length = n * 6 := by
  induction n with
  | zero => simp
  | succ n ih => rw [List.range_succ, List.flatMap_append, List.length_append, ih]; simp [P6.rowK, Nat.succ_mul]
theorem rowK_cells {w : World} {b o n : Nat} {Z : Nat → Nat → Int} (hr : ∀ k j, k < n → j < 6 → w.cell? ⟨b, o + k * 6 + j, none⟩ = some (P6.cv j (Z k j))) : ∀ j u, ((List.range n).flatMap (P6.rowK Z))[j]? = some u → w.cell? ((⟨b, o, none⟩ : Addr).add j) = some u := by
  intro j u hj
  have hlt : j < n * 6 := by
    have := (List.getElem?_eq_some_iff.1 hj).1
    rw [rowK_len] at this; exact this
  rw [flat_get (P6.rowK Z) (fun _ => rfl) (by decide) n j hlt] at hj
  have hq : j / 6 < n := Nat.div_lt_of_lt_mul (by omega)
  have hr' := hr (j / 6) (j % 6) hq (Nat.mod_lt _ (by decide))
  rw [add_none, show o + j = o + j / 6 * 6 + j % 6 by omega, hr', ← hj]
  have : j % 6 < 6 := Nat.mod_lt _ (by decide)
  generalize j % 6 = q at this ⊢
  match q, this with
  | 0, _ => rfl
  | 1, _ => rfl
  | 2, _ => rfl
  | 3, _ => rfl
  | 4, _ => rfl
  | 5, _ => rfl
theorem rowK_one (n : Nat) (Z : Nat → Nat → Int) : ∀ u ∈ (List.range n).flatMap (P6.rowK Z), u.oneCell' = true := by
  intro u hu
  obtain ⟨k, _, hk⟩ := List.mem_flatMap.1 hu
  simp [P6.rowK] at hk
  rcases hk with rfl | rfl | rfl | rfl | rfl | rfl <;> rfl
theorem Try.info52 : (Try.prog.info? 52).map (fun i => (i.zero, i.size, i.bytes)) = some (some (.agg #[.int .i64 0, .int .i64 0, .int .i64 0, .int .i64 0, .int .i64 0, .bool false]), 6, 48) := by kernel_rfl
theorem rw_of_own {w : World} {base n : Nat} {v : Value} {Z : Nat → Nat → Int} (h : w.ownsRow base 52 6 v n ((List.range n).flatMap (P6.rowK Z))) (d : Nat) : ∃ g, RW base w.heap.size w v n Z g ∧ ((v.ownBlock = none ∧ g = d) ∨ (v.ownBlock = some g ∧ g < w.heap.size)) := by
  rcases h.2 with ⟨e, hl⟩ | ⟨g, cap, cur, hv, _⟩
  · subst e; subst hl
    exact ⟨d, .inl ⟨rfl, none, 0, rfl⟩, .inl ⟨rfl, rfl⟩⟩
  · have ho : w.ownsRow base 52 6 (.slice (some ⟨g, 0, none⟩) n cap) n ((List.range n).flatMap (P6.rowK Z)) := by rw [← hv]; exact h
    refine ⟨g, .inr ⟨cap, hv, (ho.lt g rfl).1, (ho.lt g rfl).2, Nat.le_refl _, ?_⟩, .inr ⟨by rw [hv]; rfl, (ho.lt g rfl).2⟩⟩
    rcases P6.rl_of_own ho with ⟨rfl, _⟩ | ⟨g', c', e, _, _, _, q⟩
    · exact ⟨fun i hi => absurd hi (by omega), fun k j hk => absurd hk (by omega)⟩
    · simp at e
      obtain ⟨rfl, _⟩ := e
      exact q
theorem own1_of_row {w : World} {base n : Nat} {v : Value} {X : Nat → Int} (hn : 0 < n) (h : w.ownsRow base 3 1 v n ((List.range n).flatMap (one1 X))) : ∃ g c, v = .slice (some ⟨g, 0, none⟩) n c ∧ base ≤ g ∧ g < w.heap.size ∧ Own1 w g n X n := by
  obtain ⟨g, r, _⟩ := ri_of_own h
  rcases r with ⟨h, _⟩ | ⟨c, q1, q2, q3, _, q5⟩
  · omega
  · exact ⟨g, c, q1, q2, q3, q5⟩
theorem bthenN {n : Nat} {a b c : World} (h : Below n a b) (hn : n ≤ a.heap.size) (k : Below b.heap.size b c) : Below n a c := h.trans (k.mono (Nat.le_trans hn h.size))
theorem bcellN {n : Nat} {W w1 : World} (hb : Below n W w1) : (∀ b o, b < n → w1.cell? ⟨b, o, none⟩ = W.cell? ⟨b, o, none⟩) ∧ (∀ b o, b < n → w1.frozen? ⟨b, o, none⟩ = W.frozen? ⟨b, o, none⟩) :=
  ⟨fun b o h => hb.cell (p := ⟨b, o, none⟩) h, fun b o h => hb.frozen (p := ⟨b, o, none⟩) h⟩
theorem bthenW {n : Nat} {a b c : World} (h : Below a.heap.size a b) (k : Below n b c) (hn : a.heap.size ≤ n := by omega) : Below a.heap.size a c := h.trans (k.mono hn)

theorem copyW (b n cap : Nat) (Z : Nat → Nat → Int) (hn : n ≤ 1048576) (w : World) (hb : b < w.heap.size) (h : P6.OwnK w b n Z n) :
    Calls Try.prog 56 #[.slice (some ⟨b, 0, none⟩) n cap] w fun e w' => (∃ v, e = .returned v ∧ w'.ownsRow w.heap.size 52 6 v n ((List.range n).flatMap (P6.rowK Z))) ∧ Below w.heap.size w w' := by
  obtain ⟨i5, hi5, hz50, hz51, hz52⟩ := info_parts Try.info52
  have HC : Hid (∀ j u, ((List.range n).flatMap (P6.rowK Z))[j]? = some u → w.cell? ((⟨b, 0, none⟩ : Addr).add j) = some u) := rowK_cells (P6.own_row h)
  have H1 : Hid (∀ u ∈ (List.range n).flatMap (P6.rowK Z), u.oneCell' = true) := rowK_one n Z
  have HL : Hid (((List.range n).flatMap (P6.rowK Z)).length = n * 6) := rowK_len n Z
  clear h
  go_enter Try.func56, Try.ntmps56
  go_wp2_with (at_builtin; refine wpList_append_own _ rfl _ _ 32 rfl w.heap.size 52 i5 (.agg #[.int .i64 0, .int .i64 0, .int .i64 0, .int .i64 0, .int .i64 0, .bool false]) 6 48 Try.underlying32 hi5 hz50 hz51 hz52 rfl (by decide) _ 0 [] rfl ⟨rfl, .inl ⟨rfl, rfl⟩⟩ ⟨b, 0, none⟩ n cap ((List.range n).flatMap (P6.rowK Z)) rfl HL.out HC.out H1.out (by unfold maxLen; omega) (by omega) (Nat.le_refl _) ?_)
  intro v' w2 hown hg hnil
  have hb2 : Below w.heap.size w w2 := (Below.refl _ _).grown hg (Nat.le_refl _) (fun kk e => by cases e)
  have HO : Hid (w2.ownsRow w.heap.size 52 6 v' n ((List.range n).flatMap (P6.rowK Z))) := by
    unfold Hid; simpa using hown
  clear hown hg hnil
  go_wp2
  go_ret
  exact ⟨⟨_, rfl, HO.out⟩, hb2⟩
theorem copyI (b o n cap : Nat) (X : Nat → Int) (hn : n ≤ 1048576) (h0 : 0 < n) (w : World) (hb : b < w.heap.size) (hr : ∀ k, k < n → w.cell? ⟨b, o + k, none⟩ = some (.int .i64 (X k))) :
    Calls Try.prog 57 #[.slice (some ⟨b, o, none⟩) n cap] w fun e w' => (∃ g c, e = .returned (.slice (some ⟨g, 0, none⟩) n c) ∧ w.heap.size ≤ g ∧ g < w'.heap.size ∧ Own1 w' g n X n) ∧ Below w.heap.size w w' := by
  obtain ⟨i5, hi5, hz50, hz51, hz52⟩ := info_parts Try.info3
  have HC : Hid (∀ j u, ((List.range n).flatMap (one1 X))[j]? = some u → w.cell? ((⟨b, o, none⟩ : Addr).add j) = some u) := one11_cells hr
  have H1 : Hid (∀ u ∈ (List.range n).flatMap (one1 X), u.oneCell' = true) := one11_one n X
  have HL : Hid (((List.range n).flatMap (one1 X)).length = n * 1) := one11_len n X
  clear hr
  go_enter Try.func57, Try.ntmps57
  go_wp2_with (at_builtin; refine wpList_append_own _ rfl _ _ 25 rfl w.heap.size 3 i5 (.int .i64 0) 1 8 Try.underlying25 hi5 hz50 hz51 hz52 rfl (by decide) _ 0 [] rfl ⟨rfl, .inl ⟨rfl, rfl⟩⟩ ⟨b, o, none⟩ n cap ((List.range n).flatMap (one1 X)) rfl HL.out HC.out H1.out (by unfold maxLen; omega) (by omega) (Nat.le_refl _) ?_)
  intro v' w2 hown hg hnil
  have hb2 : Below w.heap.size w w2 := (Below.refl _ _).grown hg (Nat.le_refl _) (fun kk e => by cases e)
  have hown2 : w2.ownsRow w.heap.size 3 1 v' n ((List.range n).flatMap (one1 X)) := by simpa using hown
  obtain ⟨g, c, rfl, q1, q2, q3⟩ := own1_of_row h0 hown2
  have HO : Hid (Own1 w2 g n X n) := q3
  clear hown hown2 hg hnil q3
  go_wp2
  go_ret
  exact ⟨⟨g, c, rfl, q1, q2, HO.out⟩, hb2⟩

def oneS (sl : Nat → Value) (k : Nat) : List Value := [sl k]
/-- The lists that have been copied so far. -/
def Cps (lo : Nat) (w : World) (sl : Nat → Value) (xs : Nat → Nat) (N : Nat → Nat) (A : Nat → Nat → Int) (g : Option Nat) (k : Nat) : Prop :=
  (∀ j, j < k → ∃ c, sl j = .slice (some ⟨xs j, 0, none⟩) (N j) c ∧ lo ≤ xs j ∧ xs j < w.heap.size ∧ Own1 w (xs j) (N j) (A j) (N j) ∧ ¬ g = some (xs j)) ∧ ∀ i j, i < k → j < k → ¬ i = j → ¬ xs i = xs j
theorem oneS_eq {sl sl' : Nat → Value} : ∀ {k : Nat}, (∀ j, j < k → sl j = sl' j) → (List.range k).flatMap (oneS sl) = (List.range k).flatMap (oneS sl')
  | 0, _ => rfl
  | k + 1, h => by
    rw [List.range_succ, List.flatMap_append, List.flatMap_append, oneS_eq (k := k) fun j hj => h j (by omega)]
    simp [oneS, h k (by omega)]
theorem ro_of_own {lo : Nat} {w : World} {n : Nat} {v : Value} {sl : Nat → Value} {xs N : Nat → Nat} {A : Nat → Nat → Int} (hn : 0 < n) (h : w.ownsRow lo 25 1 v n ((List.range n).flatMap (oneS sl))) (hc : Cps lo w sl xs N A v.ownBlock n) :
    ∃ g, RO lo w.heap.size w v n N A g sl xs ∧ lo ≤ g ∧ g < w.heap.size ∧ ∀ k, k < n → ¬ xs k = g := by
  rcases h.2 with ⟨e, hl⟩ | ⟨g, cap, cur, hv, _⟩
  · omega
  · have ho : w.ownsRow lo 25 1 (.slice (some ⟨g, 0, none⟩) n cap) n ((List.range n).flatMap (oneS sl)) := by rw [← hv]; exact h
    refine ⟨g, .inr ⟨cap, hv, (ho.lt g rfl).1, (ho.lt g rfl).2, Nat.le_refl _, fun k hk => ?_⟩, (ho.lt g rfl).1, (ho.lt g rfl).2, fun k hk => ?_⟩
    · obtain ⟨c, e1, q1, q2, q3, _⟩ := hc.1 k hk
      refine ⟨?_, .inr ⟨c, e1, q1, q2, Nat.le_refl _, q3⟩⟩
      rw [ho.cellAt k (by omega), flat_get (m := 1) (oneS sl) (fun _ => rfl) (by decide) n k (by omega), Nat.div_one, Nat.mod_one]
      rfl
    · obtain ⟨c, e1, q1, q2, q3, q4⟩ := hc.1 k hk
      intro e
      exact q4 (by rw [hv, e]; rfl)

set_option maxHeartbeats 4000000 in
theorem copyEach (b n cap : Nat) (N : Nat → Nat) (A : Nat → Nat → Int) (hn : n ≤ 1048576) (h0 : 0 < n) (hN : ∀ k, k < n → N k = 2) (w : World) (hb : b < w.heap.size) (h : RowO w (some ⟨b, 0, none⟩) n N A) :
    Calls Try.prog 58 #[.slice (some ⟨b, 0, none⟩) n cap, .func (.func 57) #[] #[]] w fun e w' => (∃ v g sl xs, e = .returned v ∧ RO w.heap.size w'.heap.size w' v n N A g sl xs ∧ (w.heap.size ≤ g ∧ g < w'.heap.size ∧ ∀ k, k < n → ¬ xs k = g) ∧ (∀ k, k < n → w.heap.size ≤ xs k ∧ xs k < w'.heap.size) ∧ (∀ i j, i < n → j < n → ¬ i = j → ¬ xs i = xs j)) ∧ Below w.heap.size w w' := by
  have HR : Hid (RowO w (some ⟨b, 0, none⟩) n N A) := h
  have HN : Hid (∀ k, k < n → N k = 2) := hN
  obtain ⟨i5, hi5, hz50, hz51, hz52⟩ := info_parts Try.info25
  obtain ⟨w1, hmk, hrow1, hg1⟩ := run_make_own (P := Try.prog) w w.heap.size 26 25 i5 _ 1 Try.underlying26 hi5 hz50 hz51 .i64 .i64 n (by rw [hz52]; omega) (by unfold maxLen; omega) (Nat.le_refl _)
  have hb1 : Below w.heap.size w w1 := ⟨hg1.os, hg1.tape, hg1.output, hg1.size, fun k hk => hg1.block k hk (by simp)⟩
  clear h hg1 hN
  go_enter Try.func58, Try.ntmps58
  go_wp2_with fail
  have HR1 : Hid (w1.ownsRow w.heap.size 25 1 (.slice (some ⟨w.heap.size, 0, none⟩) 0 n) 0 []) := hrow1
  have HB1 : Hid (Below w.heap.size w w1) := hb1
  clear hmk hrow1 hb1
  go_loopw [5, 13] (fun s i wr => ∃ (k : Nat) (v : Value) (sl : Nat → Value) (xs : Nat → Nat), k ≤ n ∧ .int .i64 k = i ∧ v = s ∧ wr.ownsRow w.heap.size 25 1 v k ((List.range k).flatMap (oneS sl)) ∧ Cps w.heap.size wr sl xs N A v.ownBlock k ∧ Below w.heap.size w wr) (fun _ i _ => n - (intOf i).toNat)
  case atStart => exact ⟨0, _, fun _ => undef, fun _ => 0, Nat.zero_le _, rfl, rfl, HR1.out, ⟨fun j hj => absurd hj (by omega), fun i j hi => absurd hi (by omega)⟩, HB1.out⟩
  case round =>
    obtain ⟨k, v, sl, xs, hk, rfl, rfl, ho, hcp, hbel⟩ := hrel
    have HBL : Hid (Below w.heap.size w wr) := hbel
    have HCP : Hid (Cps w.heap.size wr sl xs N A v.ownBlock k) := hcp
    clear hbel HR1 HB1 hcp
    by_cases hkn : k < n
    · have hkn' : (k : Int) < (n : Int) := by omega
      obtain ⟨hr1⟩ : Nonempty (∀ k, k < n → ∃ x c, w.cell? ⟨b, 0 + k, none⟩ = some (.slice x (N k) c) ∧ Row1 w x (N k) (A k)) := by
        rcases HR.out with h | ⟨b', o', e, _, h⟩
        · omega
        · simp at e
          obtain ⟨rfl, rfl⟩ := e
          exact ⟨h⟩
      obtain ⟨xa, xc, hc, hx⟩ := hr1 k hkn
      have hn2 := HN.out k hkn
      obtain ⟨bx, ox, rfl, hbx, hrx⟩ : ∃ b o, xa = some ⟨b, o, none⟩ ∧ b < w.heap.size ∧ ∀ j, j < N k → w.cell? ⟨b, o + j, none⟩ = some (.int .i64 (A k j)) := by
        rcases hx with h | h
        · omega
        · exact h
      have hc' : wr.cell? ⟨b, k, none⟩ = some (.slice (some ⟨bx, ox, none⟩) (N k) xc) := by
        rw [Nat.zero_add] at hc
        exact (HBL.out.cell (p := ⟨b, k, none⟩) hb).trans hc
      have HX : Hid (∀ j, j < N k → wr.cell? ⟨bx, ox + j, none⟩ = some (.int .i64 (A k j))) := fun j hj => (HBL.out.cell (p := ⟨bx, ox + j, none⟩) hbx).trans (hrx j hj)
      have hbx' : bx < wr.heap.size := Nat.lt_of_lt_of_le hbx HBL.out.size
      have HN2 : Hid (N k = 2) := hn2
      clear hr1 hc hx hrx hn2
      obtain ⟨va, vl, vc, ev⟩ : ∃ a l c, v = .slice a l c := by rcases ho.2 with ⟨e, _⟩ | ⟨g, cap, cur, hv, _⟩; exact ⟨_, _, _, e⟩; exact ⟨_, _, _, hv⟩
      subst ev
      have HO0 : Hid (wr.ownsRow w.heap.size 25 1 (.slice va vl vc) k ((List.range k).flatMap (oneS sl))) := ho
      clear ho
      go_wp2_with fail
      refine (copyI bx ox (N k) xc (A k) (by have := HN2.out; omega) (by have := HN2.out; omega) _ hbx' HX.out).mono ?_
      rintro e w4 ⟨⟨g4, c4, rfl, j1, j2, hO4⟩, hb4⟩
      have HO4 : Hid (w4.ownsRow w.heap.size 25 1 (.slice va vl vc) k ((List.range k).flatMap (oneS sl))) := HO0.out.kept (gb hb4) (by simp; exact Classical.em _)
      have HB4 : Hid (Below w.heap.size w w4) := bthen HBL.out hb4
      have hvb : ∀ q, (Value.slice va vl vc).ownBlock = some q → q < wr.heap.size := fun q e => (HO0.out.lt q e).2
      obtain ⟨sl2, esl⟩ : ∃ s : Nat → Value, s = fun j => if j = k then .slice (some ⟨g4, 0, none⟩) (N k) c4 else sl j := ⟨_, rfl⟩
      obtain ⟨xs2, exs⟩ : ∃ s : Nat → Nat, s = fun j => if j = k then g4 else xs j := ⟨_, rfl⟩
      have HC4 : Hid (Cps w.heap.size w4 sl2 xs2 N A (Value.slice va vl vc).ownBlock (k + 1)) := by
        have hz4 := hb4.size
        have hzb := HBL.out.size
        refine ⟨fun j hj => ?_, fun i j hi hj hij => ?_⟩
        · by_cases e : j = k
          · subst e
            refine ⟨c4, by rw [esl]; simp [exs], by rw [exs]; simp; omega, by rw [exs]; simpa using j2, by rw [exs]; simpa using hO4, ?_⟩
            rw [exs]; simp only [if_true]
            intro q
            have := hvb _ q
            omega
          · obtain ⟨c, q1, q2, q3, q4, q5⟩ := HCP.out.1 j (by omega)
            rw [esl, exs]
            simp only [if_neg e]
            exact ⟨c, q1, q2, by omega, own1_below q4 q3 hb4, q5⟩
        · rw [exs]
          dsimp only
          by_cases e1 : i = k
          · subst e1
            rw [if_pos rfl, if_neg (by omega)]
            obtain ⟨_, _, _, q3, _⟩ := HCP.out.1 j (by omega)
            omega
          · rw [if_neg e1]
            by_cases e2 : j = k
            · rw [if_pos e2]
              obtain ⟨_, _, _, q3, _⟩ := HCP.out.1 i (by omega)
              omega
            · rw [if_neg e2]
              exact HCP.out.2 i j (by omega) (by omega) hij
      have HSL : Hid ((List.range k).flatMap (oneS sl) = (List.range k).flatMap (oneS sl2)) := oneS_eq fun j hj => by rw [esl]; simp [show ¬ j = k by omega]
      have HSK : Hid (sl2 k = .slice (some ⟨g4, 0, none⟩) (N k) c4) := by rw [esl]; simp [Hid]
      clear esl exs hO4 hb4 HO0 HBL HCP hc' HX hvb
      have hzz := HB4.out.size
      go_wp2_with (at_builtin; refine wpList_append_own_at _ rfl _ _ 26 rfl w.heap.size 25 i5 (.slice none 0 0) 1 24 Try.underlying26 hi5 hz50 hz51 hz52 rfl (by decide) _ _ _ rfl (HO4.out.alloc _) ⟨w4.heap.size, 0, none⟩ 1 1 [.slice (some ⟨g4, 0, none⟩) (N k) c4] rfl rfl ?d1 ?d2 ?d3 ?d4 ?d5 ?_)
      case d1 =>
        intro j u hj
        match j, hj with
        | 0, hj =>
          simp at hj
          subst hj
          rw [add_none, Nat.zero_add]
          exact ((bk_new w4 25 [.slice (some ⟨g4, 0, none⟩) (N k) c4]).2 0 (by simp)).1
        | j + 1, hj => simp at hj
      case d2 => intro u hu; simp at hu; subst hu; rfl
      case d3 => unfold maxLen; omega
      case d4 => omega
      case d5 => simp; omega
      · intro v' w5 hown' hgrow hnil hloc
        have hall := (World.grownBy_alloc w4 _ _).trans hgrow
        have HO : Hid (w5.ownsRow w.heap.size 25 1 v' (k + 1) ((List.range (k + 1)).flatMap (oneS sl2))) := by
          unfold Hid
          rw [List.range_succ, List.flatMap_append, ← HSL.out]
          have : (List.flatMap (oneS sl2) [k]) = [.slice (some ⟨g4, 0, none⟩) (N k) c4] := by simp [oneS, HSK.out]
          rw [this]
          exact hown'
        have hb5 : Hid (Below w.heap.size w w5) := HB4.out.grown hall HB4.out.size (fun kk e => (HO4.out.lt kk e).1)
        have HC5 : Hid (Cps w.heap.size w5 sl2 xs2 N A v'.ownBlock (k + 1)) := by
          refine ⟨fun j hj => ?_, HC4.out.2⟩
          obtain ⟨c, q1, q2, q3, q4, q5⟩ := HC4.out.1 j hj
          refine ⟨c, q1, q2, Nat.lt_of_lt_of_le q3 hall.size, own1_sm q4 (sm_grown hall q3 (fun e => q5 e.symm)), ?_⟩
          rcases hloc with h | h
          · rw [h]; exact q5
          · rw [h]
            intro e
            simp at e
            omega
        clear hown' hgrow hnil hall hloc HO4 HB4 HC4 HSL HSK
        go_wp2
        go_roundw
        case rel => exact ⟨k + 1, _, sl2, xs2, by omega, by go_num, rfl, HO.out, HC5.out, hb5.out⟩
        case measure => simp [intOf]; omega
    · have hkn' : k = n := by omega
      subst hkn'
      obtain ⟨g, hRO, q1, q2, q3⟩ := ro_of_own h0 ho HCP.out
      go_wp2
      go_ret
      exact ⟨⟨_, g, sl, xs, rfl, hRO, ⟨q1, q2, q3⟩, fun j hj => by obtain ⟨_, _, a, b, _⟩ := HCP.out.1 j hj; exact ⟨a, b⟩, HCP.out.2⟩, HBL.out⟩
end Go.Proofs.Ytoickljpjlhkoaa
