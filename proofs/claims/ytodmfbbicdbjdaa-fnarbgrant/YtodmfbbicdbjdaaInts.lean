/- Lists of integers: how they lie, how they are copied, compared and marked, as the laws do it; conditions: the lists lie in memory. -/
import Derived.Test.YtodmfbbicdbjdaaWalks1
import Derived.LoopTactic
import Derived.Deep.Slices
import Derived.Deep.OwnRows
import Derived.Laws.IdiomCopy
import Derived.Deep.QuietTactic
import Derived.BigQuiet
import Derived.Laws.AppendOwn
namespace Go.Proofs.Ytodmfbbicdbjdaa
open Go.RowKit Go.ChangeShapes Go.WideShapes Go.ChangeAt Go.Deep
set_option linter.unusedVariables false

theorem set_grown (w : World) (B i : Nat) (u : Value) : w.grownBy (w.setCell ⟨B, i, none⟩ u) (some B) ∧ (w.setCell ⟨B, i, none⟩ u).heap.size = w.heap.size :=
  ⟨⟨rfl, rfl, rfl, by simp [World.setCell], fun k _ hne => Below.heap_setCell _ _ _ _ (fun e => hne (by rw [e]))⟩, by simp [World.setCell]⟩

theorem bdrewN {a b : World} (h : Below a.heap.size a b) (n : Nat) : Below a.heap.size a (b.drewN n) := h.trans ⟨rfl, rfl, rfl, Nat.le_refl _, fun _ _ => rfl⟩
variable {H : Type} {enc : TypeId × Value → H} {P : Program} {w : World} {base : Nat} {spare : Nat → Bool} {held : Bool}

/-- In w there lie n integers, from a on: the k-th one is X k. -/
def Row1 (w : World) (a : Option Addr) (n : Nat) (X : Nat → Int) : Prop :=
  n = 0 ∨ ∃ b o, a = some ⟨b, o, none⟩ ∧ b < w.heap.size ∧ ∀ k, k < n → w.cell? ⟨b, o + k, none⟩ = some (.int .i64 (X k))

theorem row1_below {w w' : World} {a : Option Addr} {n : Nat} {X : Nat → Int} (h : Row1 w a n X) (hb : Below w.heap.size w w') : Row1 w' a n X := by
  rcases h with rfl | ⟨b, o, rfl, hlt, hr⟩
  · exact .inl rfl
  · exact .inr ⟨b, o, rfl, Nat.lt_of_lt_of_le hlt hb.size, fun k hk => (hb.cell (p := ⟨b, _, none⟩) hlt).trans (hr k hk)⟩

theorem add_none (b o k : Nat) : (⟨b, o, none⟩ : Addr).add k = ⟨b, o + k, none⟩ := by
  unfold Addr.add
  split <;> simp_all

theorem spot_none {x : Addr} {v : Value} (h : w.cell? (x.add 0) = some v) : ∃ b o, x = ⟨b, o, none⟩ ∧ b < w.heap.size := by
  obtain ⟨b, o, spot⟩ := x
  have hs := World.cell?_spot h
  have hb := World.block_lt_of_cell? w _ h
  simp [Addr.add] at hs hb
  subst hs
  exact ⟨b, o, rfl, hb⟩

theorem open_row1 {t e : TypeId} {fuel : Nat} {cs : List Value} {x : DataW H × List MemPlace} (ht : P.underlying t = some (.slice e)) (hi : P.underlying e = some (.int .i64)) (h1 : P.cellsOf e = 1)
    (h : DataW.trod enc P w base spare held fuel t cs = some x) : ∃ a len cap X, cs = [.slice a len cap] ∧ len ≤ maxLen ∧ Row1 w a len X := by
  rcases open_slice1 ht h1 h with ⟨hcs, _⟩ | ⟨x, l, c, m, n, V, D, Pl, hcs, _, hl, hm, hmm, _, hel⟩
  · exact ⟨none, 0, 0, fun _ => 0, hcs, Nat.zero_le _, .inl rfl⟩
  · by_cases h0 : l = 0
    · subst h0
      exact ⟨some x, 0, c, fun _ => 0, hcs, Nat.zero_le _, .inl rfl⟩
    have hlm : l ≤ m := by rw [hmm]; split <;> omega
    obtain ⟨b, o, rfl, hb⟩ := spot_none (hel 0 (by omega)).1
    refine ⟨_, l, c, fun k => match V k with | .int _ z => z | _ => 0, hcs, Nat.le_trans hl hm, .inr ⟨b, o, rfl, hb, fun k hk => ?_⟩⟩
    obtain ⟨hc, htr⟩ := hel k (by omega)
    obtain ⟨z, hz, _, _⟩ := DataW.trod_int hi htr
    rw [add_none] at hc
    have hv : V k = .int .i64 z := by simpa using hz
    rw [hc]
    simp [hv]

theorem set_in {w : World} {B k : Nat} {u : Value} (h : (w.cell? ⟨B, k, none⟩).isSome = true) : (w.setCell ⟨B, k, none⟩ u).cell? ⟨B, k, none⟩ = some u := by
  have := World.cell?_setCells_in B [u] k w (fun j hj => by
    have : j = 0 := by simpa using hj
    subst this; exact h) 0 (by simp)
  rw [show w.setCell ⟨B, k, none⟩ u = w.setCells B k [u] from rfl]
  simpa using this

theorem set_out {w : World} {B k b i : Nat} {u : Value} (h : ¬ (B = b ∧ k = i)) : (w.setCell ⟨B, k, none⟩ u).cell? ⟨b, i, none⟩ = w.cell? ⟨b, i, none⟩ :=
  World.cell?_setCell_other _ _ _ _ (by intro e; injection e with e1 e2; exact h ⟨e1, e2⟩)

theorem set_frozen {w : World} {B k b i : Nat} {u : Value} : (w.setCell ⟨B, k, none⟩ u).frozen? ⟨b, i, none⟩ = w.frozen? ⟨b, i, none⟩ := World.frozen?_setCell ..

theorem set_size {w : World} {B k : Nat} {u : Value} : (w.setCell ⟨B, k, none⟩ u).heap.size = w.heap.size := by simp [World.setCell]

/-- Block B of w is a row of n integers of the call's own, of which the first k are X's. -/
def Own1 (w : World) (B n : Nat) (X : Nat → Int) (k : Nat) : Prop :=
  (∀ i, i < n → (w.cell? ⟨B, i, none⟩).isSome = true ∧ w.frozen? ⟨B, i, none⟩ = false) ∧ ∀ j, j < k → w.cell? ⟨B, j, none⟩ = some (.int .i64 (X j))

theorem own1_next {w : World} {B n k : Nat} {X : Nat → Int} (h : Own1 w B n X k) (hk : k < n) : Own1 (w.setCell ⟨B, k, none⟩ (.int .i64 (X k))) B n X (k + 1) := by
  refine ⟨fun i hi => ⟨?_, ?_⟩, fun j hj => ?_⟩
  · by_cases hc : k = i
    · subst hc; rw [set_in (h.1 k hk).1]; rfl
    · rw [set_out (fun e => hc e.2)]; exact (h.1 i hi).1
  · rw [set_frozen]; exact (h.1 i hi).2
  · by_cases hc : k = j
    · subst hc; exact set_in (h.1 k hk).1
    · rw [set_out (fun e => hc e.2)]; exact h.2 j (by omega)

theorem own1_below {w w' : World} {B n k : Nat} {X : Nat → Int} (h : Own1 w B n X k) (hB : B < w.heap.size) (hb : Below w.heap.size w w') : Own1 w' B n X k :=
  ⟨fun i hi => by rw [hb.cell (p := ⟨B, i, none⟩) hB, hb.frozen (p := ⟨B, i, none⟩) hB]; exact h.1 i hi, fun j hj => by rw [hb.cell (p := ⟨B, j, none⟩) hB]; exact h.2 j hj⟩

theorem own1_set {w : World} {B g n k j : Nat} {X : Nat → Int} {u : Value} (h : Own1 w g n X k) (hne : ¬ B = g) : Own1 (w.setCell ⟨B, j, none⟩ u) g n X k :=
  ⟨fun i hi => by rw [set_out (fun e => hne e.1), set_frozen]; exact h.1 i hi, fun k' hk => by rw [set_out (fun e => hne e.1)]; exact h.2 k' hk⟩

theorem Try.info3 : (Try.prog.info? 3).map (fun i => (i.zero, i.size, i.bytes)) = some (some (.int .i64 0), 1, 8) := by kernel_rfl

theorem make1 (n : Nat) (hn : n ≤ 1048576) (w : World) :
    (Instr.makeSlice 25 (.int .i64 (n : Int)) (.int .i64 (n : Int))).run Try.prog w = .ok (.slice (some ⟨w.heap.size, 0, none⟩) n n) (w.alloc (.cells (madeCells #[.int .i64 0] (n * 1)) 3)) := by
  obtain ⟨i, hi, hzz⟩ := Option.map_eq_some_iff.1 Try.info3
  simp only [Prod.mk.injEq] at hzz
  obtain ⟨hz, hs, hb⟩ := hzz
  have := run_make (P := Try.prog) w 25 3 i _ Try.underlying25 hi hz .i64 .i64 n n (by omega) (by omega) (by rw [hb]; omega) (by omega)
  rw [this, hs]
  rfl

theorem row1_of_own {w : World} {B n : Nat} {X : Nat → Int} (h : Own1 w B n X n) (hB : B < w.heap.size) : Row1 w (some ⟨B, 0, none⟩) n X :=
  .inr ⟨B, 0, rfl, hB, fun k hk => by rw [Nat.zero_add]; exact h.2 k hk⟩

def M1 (s k : Nat) : Int := ((s + k : Nat) : Int)

/-- Block b reads as it did. -/
def Sm (w w' : World) (b : Nat) : Prop := ∀ o, w'.cell? ⟨b, o, none⟩ = w.cell? ⟨b, o, none⟩ ∧ w'.frozen? ⟨b, o, none⟩ = w.frozen? ⟨b, o, none⟩

theorem Sm.refl (w : World) (b : Nat) : Sm w w b := fun _ => ⟨rfl, rfl⟩

theorem Sm.trans {a b c : World} {g : Nat} (h : Sm a b g) (k : Sm b c g) : Sm a c g := fun o => ⟨(k o).1.trans (h o).1, (k o).2.trans (h o).2⟩

theorem sm_grown {w w' : World} {row : Option Nat} {b : Nat} (h : w.grownBy w' row) (hb : b < w.heap.size) (hne : some b ≠ row) : Sm w w' b := by
  have e : w'.heap[b]? = w.heap[b]? := h.block b hb hne
  exact fun o => ⟨World.cell?_of_block (a := ⟨b, o, none⟩) e, World.frozen?_of_block (a := ⟨b, o, none⟩) e⟩

theorem sm_below {w w' : World} {n b : Nat} (h : Below n w w') (hb : b < n) : Sm w w' b := fun o => ⟨h.cell (p := ⟨b, o, none⟩) hb, h.frozen (p := ⟨b, o, none⟩) hb⟩

theorem below_grown {w w' : World} {g lo : Nat} (h : w.grownBy w' (some g)) (hl : lo ≤ g) (hs : lo ≤ w.heap.size) : Below lo w w' :=
  ⟨h.os, h.tape, h.output, h.size, fun k hk => h.block k (by omega) (by intro e; injection e with e; omega)⟩

theorem own1_sm {w w' : World} {B n k : Nat} {X : Nat → Int} (h : Own1 w B n X k) (hs : Sm w w' B) : Own1 w' B n X k :=
  ⟨fun i hi => by rw [(hs i).1, (hs i).2]; exact h.1 i hi, fun k' hk => by rw [(hs _).1]; exact h.2 k' hk⟩

def RI (lo hi : Nat) (w : World) (v : Value) (n : Nat) (X : Nat → Int) (g : Nat) : Prop :=
  (n = 0 ∧ ∃ a c, v = .slice a 0 c) ∨ ∃ c, v = .slice (some ⟨g, 0, none⟩) n c ∧ lo ≤ g ∧ g < hi ∧ hi ≤ w.heap.size ∧ Own1 w g n X n

theorem RI.sm {lo hi : Nat} {w w' : World} {v : Value} {n : Nat} {X : Nat → Int} {g : Nat} (h : RI lo hi w v n X g) (hs : w.heap.size ≤ w'.heap.size) (k : lo ≤ g → g < hi → Sm w w' g) : RI lo hi w' v n X g := by
  rcases h with h | ⟨c, h1, h2, h3, h4, h5⟩
  · exact .inl h
  · exact .inr ⟨c, h1, h2, h3, Nat.le_trans h4 hs, own1_sm h5 (k h2 h3)⟩

def one1 (X : Nat → Int) (k : Nat) : List Value := [.int .i64 (X k)]

/-- Two rows after each other read so. -/
theorem flat_get {m : Nat} (f : Nat → List Value) (hf : ∀ k, (f k).length = m) (hm : 0 < m) : ∀ n i, i < n * m → ((List.range n).flatMap f)[i]? = (f (i / m))[i % m]?
  | 0, i, h => by omega
  | n + 1, i, h => by
    rw [List.range_succ, List.flatMap_append]
    have hl : ((List.range n).flatMap f).length = n * m := by
      clear h
      induction n with
      | zero => simp
      | succ n ih => rw [List.range_succ, List.flatMap_append, List.length_append, ih]; simp [hf, Nat.succ_mul]
    by_cases hi : i < n * m
    · rw [List.getElem?_append_left (by omega)]
      exact flat_get f hf hm n i hi
    · rw [List.getElem?_append_right (by omega), hl]
      have h1 : i / m = n := Nat.div_eq_of_lt_le (by omega) (by omega)
      have h2 : i % m = i - n * m := by
        have := Nat.div_add_mod i m
        rw [h1, Nat.mul_comm] at this
        omega
      rw [h1, h2]
      simp

set_option maxHeartbeats 1000000 in
theorem copyI (b o n cap : Nat) (X : Nat → Int) (hn : n ≤ 1048576) (w : World) (hb : b < w.heap.size) (hr : ∀ k, k < n → w.cell? ⟨b, o + k, none⟩ = some (.int .i64 (X k))) :
    Calls Try.prog 27 #[.slice (some ⟨b, o, none⟩) n cap] w fun e w' => (∃ v, e = .returned v ∧ w'.ownsRow w.heap.size 3 1 v n ((List.range n).flatMap (one1 X))) ∧ Below w.heap.size w w' := by
  have hlen : ((List.range n).flatMap (one1 X)).length = n * 1 := by
    clear hn hr
    induction n with
    | zero => simp
    | succ n ih => rw [List.range_succ, List.flatMap_append, List.length_append, ih]; simp [one1, Nat.succ_mul]
  have hcell : ∀ j u, ((List.range n).flatMap (one1 X))[j]? = some u → w.cell? ((⟨b, o, none⟩ : Addr).add j) = some u := by
    intro j u hj
    have hlt : j < n * 1 := by
      have := (List.getElem?_eq_some_iff.1 hj).1
      rw [hlen] at this; exact this
    rw [flat_get (one1 X) (fun _ => rfl) (by decide) n j hlt, Nat.div_one, Nat.mod_one] at hj
    rw [add_none, hr j (by omega), ← hj]
    rfl
  have h1 : ∀ u ∈ (List.range n).flatMap (one1 X), u.oneCell' = true := by
    intro u hu
    obtain ⟨k, _, hk⟩ := List.mem_flatMap.1 hu
    simp [one1] at hk
    subst hk; rfl
  clear hr
  obtain ⟨i5, hi5, hzz⟩ := Option.map_eq_some_iff.1 Try.info3
  simp only [Prod.mk.injEq] at hzz
  obtain ⟨hz50, hz51, hz52⟩ := hzz
  have HC : Hid (∀ j u, ((List.range n).flatMap (one1 X))[j]? = some u → w.cell? ((⟨b, o, none⟩ : Addr).add j) = some u) := hcell
  have H1 : Hid (∀ u ∈ (List.range n).flatMap (one1 X), u.oneCell' = true) := h1
  have HL : Hid (((List.range n).flatMap (one1 X)).length = n * 1) := hlen
  clear hcell h1 hlen
  go_enter Try.func27, Try.ntmps27
  go_wp2_with (at_builtin; refine wpList_append_own _ rfl _ _ 25 rfl w.heap.size 3 i5 (.int .i64 0) 1 8 Try.underlying25 hi5 hz50 hz51 hz52 rfl (by decide) _ 0 [] rfl ⟨rfl, .inl ⟨rfl, rfl⟩⟩ ⟨b, o, none⟩ n cap ((List.range n).flatMap (one1 X)) rfl HL.out HC.out H1.out (by unfold maxLen; omega) (by omega) (Nat.le_refl _) ?_)
  intro v' w2 hown hg hnil
  have hb2 : Below w.heap.size w w2 := (Below.refl _ _).grown hg (Nat.le_refl _) (fun kk e => by cases e)
  have HO : Hid (w2.ownsRow w.heap.size 3 1 v' n ((List.range n).flatMap (one1 X))) := hown
  clear hown hg hnil
  go_wp2
  go_ret
  exact ⟨⟨_, rfl, HO.out⟩, hb2⟩

theorem ri_of_own {w : World} {base n : Nat} {v : Value} {X : Nat → Int} (h : w.ownsRow base 3 1 v n ((List.range n).flatMap (one1 X))) : ∃ g, RI base w.heap.size w v n X g ∧ (v.ownBlock = none ∨ v.ownBlock = some g) := by
  rcases h.2 with ⟨e, hl⟩ | ⟨g, cap, cur, hv, _⟩
  · subst e; subst hl
    exact ⟨0, .inl ⟨rfl, none, 0, rfl⟩, .inl rfl⟩
  · have ho : w.ownsRow base 3 1 (.slice (some ⟨g, 0, none⟩) n cap) n ((List.range n).flatMap (one1 X)) := by rw [← hv]; exact h
    refine ⟨g, .inr ⟨cap, hv, (ho.lt g rfl).1, (ho.lt g rfl).2, Nat.le_refl _, fun i hi => ⟨?_, ho.frozenAt i⟩, fun k hk => ?_⟩, .inr (by rw [hv]; rfl)⟩
    · rw [ho.cellAt i (by omega)]
      have : i < ((List.range n).flatMap (one1 X)).length := by rw [ho.1]; omega
      rw [List.getElem?_eq_getElem this]
      rfl
    · skip
      rw [ho.cellAt k (by omega), flat_get (m := 1) (one1 X) (fun _ => rfl) (by decide) n k (by omega), Nat.div_one, Nat.mod_one]
      rfl

theorem one11_len (n : Nat) (X : Nat → Int) : ((List.range n).flatMap (one1 X)).length = n * 1 := by
  induction n with
  | zero => simp
  | succ n ih => rw [List.range_succ, List.flatMap_append, List.length_append, ih]; simp [one1, Nat.succ_mul]

theorem one11_cells {w : World} {b o n : Nat} {X : Nat → Int} (hr : ∀ k, k < n → w.cell? ⟨b, o + k, none⟩ = some (.int .i64 (X k))) : ∀ j u, ((List.range n).flatMap (one1 X))[j]? = some u → w.cell? ((⟨b, o, none⟩ : Addr).add j) = some u := by
  intro j u hj
  have hlt : j < n * 1 := by
    have := (List.getElem?_eq_some_iff.1 hj).1
    rw [one11_len] at this; exact this
  rw [flat_get (m := 1) (one1 X) (fun _ => rfl) (by decide) n j hlt, Nat.div_one, Nat.mod_one] at hj
  rw [add_none, hr j (by omega), ← hj]
  rfl

theorem one11_one (n : Nat) (X : Nat → Int) : ∀ u ∈ (List.range n).flatMap (one1 X), u.oneCell' = true := by
  intro u hu
  obtain ⟨k, _, hk⟩ := List.mem_flatMap.1 hu
  simp [one1] at hk
  subst hk; rfl

end Go.Proofs.Ytodmfbbicdbjdaa
