/- Lists grown by rows; conditions: those typed. -/
import Derived.Test.YtgjapdjidighlabGreatGL
import Derived.Maps.AppendAt
import Derived.Deep.RegionHeld3
import Derived.Deep.QuietTactic
import Derived.BigQuiet
namespace Go.Proofs.YtgjapdjidighlabGreat
open Go.RowKit Go.Deep
set_option linter.unusedVariables false
def Rd (l : List (Nat × Nat × Value)) (w : World) : Prop := ∀ p ∈ l, w.cell? ⟨p.1, p.2.1, none⟩ = some p.2.2 ∧ p.1 < w.heap.size
theorem Rd.below {l : List (Nat × Nat × Value)} {w w' : World} (h : Rd l w) (hb : Below w.heap.size w w') : Rd l w' := fun p hp =>
  ⟨(hb.cell (p := ⟨p.1, p.2.1, none⟩) (h p hp).2).trans (h p hp).1, Nat.lt_of_lt_of_le (h p hp).2 hb.size⟩
theorem Rd.set {l : List (Nat × Nat × Value)} {w : World} {g j : Nat} {v : Value} (h : Rd l w) (hg : ∀ p ∈ l, ¬ g = p.1) : Rd l (w.setCell ⟨g, j, none⟩ v) := fun p hp =>
  ⟨(set_out (fun e => hg p hp e.1)).trans (h p hp).1, by rw [set_size]; exact (h p hp).2⟩
theorem own_shape {w : World} {base e m n : Nat} {v : Value} {xs : List Value} (h : w.ownsRow base e m v n xs) : ∃ a l c, v = .slice a l c := by
  rcases h.2 with ⟨e, _⟩ | ⟨g, cap, cur, hv, _⟩
  · exact ⟨_, _, _, e⟩
  · exact ⟨_, _, _, hv⟩
theorem own_keep {w w' : World} {base e m n : Nat} {v : Value} {xs : List Value} (h : w.ownsRow base e m v n xs) (hb : Below w.heap.size w w') : w'.ownsRow base e m v n xs :=
  World.ownsRow.kept h (row := none) ⟨hb.os, hb.tape, hb.output, hb.size, fun k hk _ => hb.block k hk⟩ (by cases e : v.ownBlock <;> simp)
theorem own_far {w : World} {base e m n g j : Nat} {v u : Value} {xs : List Value} (h : w.ownsRow base e m v n xs) (hg : g < base) : (w.setCell ⟨g, j, none⟩ u).ownsRow base e m v n xs :=
  World.ownsRow.kept h (set_grown w g j u).1 (.inr (fun e => by have := (h.lt g e).1; omega))
theorem Rd.grown {l : List (Nat × Nat × Value)} {w w' : World} {base e m n : Nat} {v : Value} {xs : List Value} (h : Rd l w) (ho : w.ownsRow base e m v n xs) (hg : w.grownBy w' v.ownBlock) (hl : ∀ p ∈ l, p.1 < base ∨ ¬ v.ownBlock = some p.1) : Rd l w' := fun p hp =>
  ⟨((sm_grown hg (h p hp).2 (fun e => by rcases hl p hp with q | q; have := (ho.lt p.1 e.symm).1; omega; exact q e.symm)) p.2.1).1.trans (h p hp).1, Nat.lt_of_lt_of_le (h p hp).2 hg.size⟩
theorem bk_grown {b : Nat} {l : List Value} {w w' : World} {base e m n : Nat} {v : Value} {xs : List Value} (h : Bk w b l) (ho : w.ownsRow base e m v n xs) (hg : w.grownBy w' v.ownBlock) (hl : b < base) : Bk w' b l :=
  h.sm hg.size (sm_grown hg h.1 (fun e => by have := (ho.lt b e.symm).1; omega))
theorem below_row {k : Nat} {a w w' : World} {base e m n : Nat} {v : Value} {xs : List Value} (h : Below k a w) (ho : w.ownsRow base e m v n xs) (hg : w.grownBy w' v.ownBlock) (hk : k ≤ base) (hs : k ≤ w.heap.size) : Below k a w' :=
  h.grown hg hs (fun b e => by have := (ho.lt b e).1; omega)
theorem cells_row (w : World) (Z : Nat → Nat → Int) (k : Nat) : ∀ j u, (P10.rowK Z k)[j]? = some u → (w.alloc (.cells #[.int .i64 (Z k 0), .int .i64 (Z k 1), .bool (P10.tr (Z k 2)), .int .i64 (Z k 3), .int .i64 (Z k 4), .int .i64 (Z k 5), .int .i64 (Z k 6), .int .i64 (Z k 7), .int .i64 (Z k 8), .int .i64 (Z k 9)] 63)).cell? ((⟨w.heap.size, 0, none⟩ : Addr).add j) = some u := by
  intro j u hj
  match j, hj with
  | 0, hj => simp [P10.rowK] at hj; subst hj; simp [Addr.add]
  | 1, hj => simp [P10.rowK] at hj; subst hj; simp [Addr.add]
  | 2, hj => simp [P10.rowK] at hj; subst hj; simp [Addr.add]
  | 3, hj => simp [P10.rowK] at hj; subst hj; simp [Addr.add]
  | 4, hj => simp [P10.rowK] at hj; subst hj; simp [Addr.add]
  | 5, hj => simp [P10.rowK] at hj; subst hj; simp [Addr.add]
  | 6, hj => simp [P10.rowK] at hj; subst hj; simp [Addr.add]
  | 7, hj => simp [P10.rowK] at hj; subst hj; simp [Addr.add]
  | 8, hj => simp [P10.rowK] at hj; subst hj; simp [Addr.add]
  | 9, hj => simp [P10.rowK] at hj; subst hj; simp [Addr.add]
  | j + 10, hj => simp [P10.rowK] at hj
theorem one_row (Z : Nat → Nat → Int) (k : Nat) : ∀ u ∈ P10.rowK Z k, u.oneCell' = true := by
  intro u hu; simp [P10.rowK] at hu; rcases hu with rfl | rfl | rfl | rfl | rfl | rfl | rfl | rfl | rfl | rfl <;> rfl
theorem app10 {w : World} {o : Oper} {a : Act} {K : Act → World → Prop} {Q : Exit → Act → World → Prop} (s x : Operand) (ho : o.op = .call { callee := .builtin .append, args := #[s, x], argTypes := #[38, 38] })
    (base n : Nat) (v : Value) (xs : List Value) (hs : a.eval s = v) (hown : w.ownsRow base 63 10 v n xs) (ad : Addr) (c : Nat) (news : List Value) (hx : a.eval x = .slice (some ad) 1 c) (hl : news.length = 1 * 10)
    (hnews : ∀ j u, news[j]? = some u → w.cell? (ad.add j) = some u) (h1 : ∀ u ∈ news, u.oneCell' = true) (hm : n ≤ 2000000) (hb : base ≤ w.heap.size)
    (h : ∀ v' w', w'.ownsRow base 63 10 v' (n + 1) (xs ++ news) → w.grownBy w' v.ownBlock → K (a.put o.dst v') w') : o.wp Tryz.prog a w K Q := by
  obtain ⟨i5, hi5, hzz⟩ := Option.map_eq_some_iff.1 P10.infoE
  simp only [Prod.mk.injEq] at hzz
  obtain ⟨hz50, hz51, hz52⟩ := hzz
  obtain ⟨v', w', hr, h2, h3, _, h5⟩ := run_append_own_at (P := Tryz.prog) w base 38 o.type 63 i5 (.agg #[.int .i64 0, .int .i64 0, .bool false, .int .i64 0, .int .i64 0, .int .i64 0, .int .i64 0, .int .i64 0, .int .i64 0, .int .i64 0]) 10 80 Tryz.underlying38 hi5 hz50 hz51 hz52 rfl (by decide) v n xs hown ad 1 c news hl hnews h1 (by unfold maxLen; omega) (by omega) hb
  unfold Oper.wp execOp
  simp only [ho, resolve, invoke, builtin, Sem.run_bind, Sem.run_pure, Result.andThen_ok, List.map_toArray, List.map_cons, List.map_nil, hs, hx, hr]
  exact h v' w' h2 h3
theorem rows_succ (Z : Nat → Nat → Int) (k : Nat) : (List.range (k + 1)).flatMap (P10.rowK Z) = (List.range k).flatMap (P10.rowK Z) ++ P10.rowK Z k := by
  rw [List.range_succ, List.flatMap_append]; simp
theorem rl_mono {lo lo' hi : Nat} {w : World} {v : Value} {n : Nat} {Z : Nat → Nat → Int} (h : P10.RL lo hi w v n Z) (hl : lo' ≤ lo) : P10.RL lo' hi w v n Z := by
  rcases h with h | ⟨g, c, h1, h2, h3, h4, h5⟩
  · exact .inl h
  · exact .inr ⟨g, c, h1, by omega, h3, h4, h5⟩
theorem rl_set {lo hi : Nat} {w : World} {v : Value} {n g j : Nat} {u : Value} {Z : Nat → Nat → Int} (h : P10.RL lo hi w v n Z) (hl : g < lo) : P10.RL lo hi (w.setCell ⟨g, j, none⟩ u) v n Z :=
  h.sm (Nat.le_of_eq set_size.symm) (fun b h1 _ o => ⟨set_out (fun e => by omega), set_frozen⟩)
end Go.Proofs.YtgjapdjidighlabGreat
