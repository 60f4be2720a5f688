/- Books: their size, copy, compare and marks; books that come in; conditions: those typed. -/
import Derived.Test.YtgjapdjidighlabGreatGL
import Derived.Test.YtgjapdjidighlabGreatOpen
import Derived.ChangeArms
import Derived.Deep.Slices
namespace Go.Proofs.YtgjapdjidighlabGreat
open Go.RowKit Go.Deep
set_option linter.unusedVariables false
open Go.ChangeShapes Go.WideShapes Go.ChangeAt
theorem toMap (c d : Int) (w : World) : Calls Tryz.prog 6 #[.agg #[.int .i64 c, .int .i64 d]] w fun e w' => e = .returned (.agg #[.int .i64 c, .int .i64 d]) ∧ Below w.heap.size w w' := by
  go_enter Tryz.func6, Tryz.ntmps6
  go_wp2
  exact bodyPost_ret (v := .agg #[.int .i64 c, .int .i64 d]) (by simp [results, Tryz.results6, go_sem]) rfl ⟨rfl, (((Below.refl _ _).alloc (by simp) _).alloc (by simp) _).alloc (by simp; omega) _⟩
theorem P10.own_far {w : World} {B n k O j : Nat} {u : Value} {Z : Nat → Nat → Int} (h : P10.OwnK w B n Z k) (hO : ¬ O = B) : P10.OwnK (w.setCell ⟨O, j, none⟩ u) B n Z k :=
  ⟨fun i hi => by rw [set_out (fun e => hO e.1), set_frozen]; exact h.1 i hi, fun k' j' h1 h2 => by rw [set_out (fun e => hO e.1)]; exact h.2 k' j' h1 h2⟩
theorem szBook (a : Option Addr) (n cap : Nat) (hn : (n : Int) ≤ 9223372036854775807) (w : World) :
    Calls Tryz.prog 4 #[.agg #[.slice a n cap], .int .i64 1048576] w fun e w' => e = .returned (.int .i64 (if (n : Int) ≤ 1048576 then 1048576 - n else -1)) ∧ Below w.heap.size w w' := by
  by_cases h : (n : Int) ≤ 1048576
  · have h2 : ¬ 1048576 - (n : Int) < 0 := by omega
    rw [if_pos h]
    go_enter Tryz.func4, Tryz.ntmps4
    go_wp2_with fail
    refine (P10.szList a n cap 1048576 (by omega) (by omega) hn _).mono ?_
    rintro e w1 ⟨rfl, hb1⟩
    rw [if_pos h]
    go_wp2
    go_ret
    exact ⟨rfl, bthen ((Below.refl _ _).alloc (by simp) _) hb1⟩
  · rw [if_neg h]
    go_enter Tryz.func4, Tryz.ntmps4
    go_wp2_with fail
    refine (P10.szList a n cap 1048576 (by omega) (by omega) hn _).mono ?_
    rintro e w1 ⟨rfl, hb1⟩
    rw [if_neg (by omega)]
    go_wp2
    go_ret
    exact ⟨rfl, bthen ((Below.refl _ _).alloc (by simp) _) hb1⟩
set_option maxHeartbeats 1000000 in
theorem toBook (a : Option Addr) (n cap : Nat) (Z : Nat → Nat → Int) (hn : n ≤ 1048576) (w : World) (h : P10.RowK w a n Z) :
    Calls Tryz.prog 7 #[.agg #[.slice a n cap]] w fun e w' => (∃ B, e = .returned (.agg #[.slice (some ⟨B, 0, none⟩) n n]) ∧ P10.OwnK w' B n Z n ∧ B < w'.heap.size ∧ w.heap.size ≤ B) ∧ Below w.heap.size w w' := by
  have HR : Hid (P10.RowK w a n Z) := h
  clear h
  go_enter Tryz.func7, Tryz.ntmps7
  go_wp2_with fail
  obtain ⟨w0, e0⟩ : ∃ w0, w0 = ((w.alloc (.cells #[.slice a n cap] 26)).alloc (.cells #[.slice none 0 0] 40)).alloc (.cells #[.slice none 0 0] 40) := ⟨_, rfl⟩
  have B1 : Hid (Below w.heap.size w w0) := by rw [e0]; exact (((Below.refl _ _).alloc (by simp) _).alloc (by simp) _).alloc (by simp; omega) _
  have R2 : Hid (Bk w0 (w.heap.size + 1) [.slice none 0 0]) := by rw [e0]; have := (bk_new (w.alloc (.cells #[.slice a n cap] 26)) 40 [.slice none 0 0]).below ((Below.refl _ _).alloc (Nat.le_refl _) (.cells #[.slice none 0 0] 40)); rwa [show (w.alloc (.cells #[.slice a n cap] 26)).heap.size = w.heap.size + 1 by simp] at this
  have O3 : Hid (Bk w0 (w.heap.size + 1 + 1) [.slice none 0 0]) := by rw [e0]; have := bk_new ((w.alloc (.cells #[.slice a n cap] 26)).alloc (.cells #[.slice none 0 0] 40)) 40 [.slice none 0 0]; rwa [show ((w.alloc (.cells #[.slice a n cap] 26)).alloc (.cells #[.slice none 0 0] 40)).heap.size = w.heap.size + 1 + 1 by simp] at this
  rw [← e0]
  clear e0
  have z0 : w.heap.size + 1 + 1 < w0.heap.size := O3.out.1
  refine (P10.toList_any a n cap Z hn _ (P10.row_below HR.out B1.out)).mono ?_
  rintro e w1 ⟨rfl, ho1, hs1, hb1⟩
  have B4 := hid (bthen B1.out hb1)
  have R4 := hid (R2.out.below hb1)
  have O4 := hid (O3.out.below hb1)
  clear B1 R2 O3
  have H1 : Hid (P10.OwnK w1 w0.heap.size n Z n) := ho1
  clear ho1 hb1
  obtain ⟨B, eB⟩ : ∃ B, B = w0.heap.size := ⟨_, rfl⟩
  rw [← eB] at z0 hs1 H1 ⊢
  clear eB
  have yR0 := R4.out.a1
  have zR0 := R4.out.f1
  have hlR : (w.heap.size + 1) < w1.heap.size := R4.out.1
  have yO0 := O4.out.a1
  have zO0 := O4.out.f1
  have hlO : (w.heap.size + 1 + 1) < w1.heap.size := O4.out.1
  go_wp2
  refine bodyPost_ret (v := .agg #[.slice (some ⟨B, 0, none⟩) n n]) (by simp [results, Tryz.results7, go_sem, *]) rfl ?_
  exact ⟨⟨B, rfl, P10.own_far (P10.own_far H1.out (by omega)) (by omega), by simpa [World.setCell] using hs1, by omega⟩, (B4.out.setCell (by show w.heap.size ≤ w.heap.size + 1 + 1; omega) _).setCell (by show w.heap.size ≤ w.heap.size + 1; omega) _⟩
set_option maxHeartbeats 1000000 in
theorem eqBook (a1 : Option Addr) (c1 : Nat) (a2 : Option Addr) (c2 n : Nat) (Z : Nat → Nat → Int) (hn : n ≤ 2000000) (w : World) (h1 : P10.RowK w a1 n Z) (h2 : P10.RowK w a2 n Z) :
    Calls Tryz.prog 10 #[.agg #[.slice a1 n c1], .agg #[.slice a2 n c2]] w fun e w' => e = .returned (.bool true) ∧ Below w.heap.size w w' := by
  have H1 : Hid (P10.RowK w a1 n Z) := h1
  have H2 : Hid (P10.RowK w a2 n Z) := h2
  clear h1 h2
  go_enter Tryz.func10, Tryz.ntmps10
  go_wp2_with fail
  obtain ⟨w0, e0⟩ : ∃ w0, w0 = (w.alloc (.cells #[.slice a1 n c1] 40)).alloc (.cells #[.slice a2 n c2] 40) := ⟨_, rfl⟩
  have B0 : Hid (Below w.heap.size w w0) := by rw [e0]; exact ((Below.refl _ _).alloc (by simp) _).alloc (by simp) _
  rw [← e0]
  clear e0
  refine (P10.eqList a1 c1 a2 c2 n Z hn _ (P10.row_below H1.out B0.out) (P10.row_below H2.out B0.out)).mono ?_
  rintro e w1 ⟨rfl, hb1⟩
  have B1 := hid (bthen B0.out hb1)
  clear hb1
  go_wp2
  go_ret
  exact ⟨rfl, B1.out⟩
set_option maxHeartbeats 1000000 in
theorem markBook (lo hi s : Nat) (v : Value) (n : Nat) (Z : Nat → Nat → Int) (hn : n ≤ 2000000) (hs : s ≤ 2000000000) (w : World) (hlh : lo ≤ w.heap.size) (h : P10.RL lo hi w v n Z) :
    Calls Tryz.prog 11 #[.agg #[v], .int .i64 (s : Int)] w fun e w' => e = .returned (.int .i64 ((s + n * 10 : Nat) : Int)) ∧ P10.RL lo hi w' v n (P10.Mk 10 s) ∧ w.heap.size ≤ w'.heap.size ∧ (∀ b, b < w.heap.size → (b < lo ∨ hi ≤ b) → Sm w w' b) ∧ Below lo w w' := by
  have H0 : Hid (P10.RL lo hi w v n Z) := h
  obtain ⟨va, vc, ev, _⟩ := h.at
  clear h
  subst ev
  go_enter Tryz.func11, Tryz.ntmps11
  go_wp2_with fail
  obtain ⟨w0, e0⟩ : ∃ w0, w0 = w.alloc (.cells #[.slice va n vc] 40) := ⟨_, rfl⟩
  have B0 : Below w.heap.size w w0 := by rw [e0]; exact (Below.refl _ _).alloc (by simp) _
  rw [← e0]
  clear e0
  refine (P10.mark_any lo hi s _ n Z hn hs w0 (Nat.le_trans hlh B0.size) (H0.out.below B0)).mono ?_
  rintro e w1 ⟨rfl, hr1, hz1, hk1, hb1⟩
  have R1 : Hid (P10.RL lo hi w1 (.slice va n vc) n (P10.Mk 10 s)) := hr1
  have K1 : Hid (∀ b, b < w.heap.size → (b < lo ∨ hi ≤ b) → Sm w w1 b) := fun b h1 h2 => (sm_below B0 h1).trans (hk1 b (Nat.lt_of_lt_of_le h1 B0.size) h2)
  have Q1 : Hid (Below lo w w1) := (B0.mono hlh).trans hb1
  have Z1 : Hid (w.heap.size ≤ w1.heap.size) := Nat.le_trans B0.size hz1
  clear hr1 hz1 hk1 hb1 B0
  go_wp2
  go_ret
  exact ⟨rfl, R1.out, Z1.out, K1.out, Q1.out⟩
set_option maxHeartbeats 1000000 in
theorem heldBook (lo hi s : Nat) (v : Value) (n : Nat) (hn : n ≤ 2000000) (hs : s ≤ 2000000000) (w : World) (h : P10.RL lo hi w v n (P10.Mk 10 s)) :
    Calls Tryz.prog 12 #[.agg #[v], .int .i64 (s : Int)] w fun e w' => e = .returned (.int .i64 ((s + n * 10 : Nat) : Int)) ∧ Below w.heap.size w w' := by
  have H0 : Hid (P10.RL lo hi w v n (P10.Mk 10 s)) := h
  obtain ⟨va, vc, ev, _⟩ := h.at
  clear h
  subst ev
  go_enter Tryz.func12, Tryz.ntmps12
  go_wp2_with fail
  obtain ⟨w0, e0⟩ : ∃ w0, w0 = w.alloc (.cells #[.slice va n vc] 40) := ⟨_, rfl⟩
  have B0 : Below w.heap.size w w0 := by rw [e0]; exact (Below.refl _ _).alloc (by simp) _
  rw [← e0]
  clear e0
  refine (P10.held_any lo hi s _ n hn hs w0 (H0.out.below B0)).mono ?_
  rintro e w1 ⟨rfl, hb1⟩
  have B1 : Hid (Below w.heap.size w w1) := bthen B0 hb1
  have hq : ¬ ((s + n * 10 : Nat) : Int) < 0 := by omega
  clear hb1 B0 H0
  obtain ⟨q, eq⟩ : ∃ q : Int, q = ((s + n * 10 : Nat) : Int) := ⟨_, rfl⟩
  rw [← eq] at hq ⊢
  have EQ : Hid (q = ((s + n * 10 : Nat) : Int)) := eq
  clear eq
  go_wp2
  go_ret
  exact ⟨by rw [← EQ.out] <;> rfl, B1.out⟩
section
variable {H : Type} {enc : TypeId × Value → H} {P : Program} {w : World} {base : Nat} {spare : Nat → Bool} {held : Bool}
def Mixed (enc : TypeId × Value → H) (P : Program) (w : World) (base : Nat) (spare : Nat → Bool) (held : Bool) (t : TypeId) (bs : Nat → Bool) : Prop := ∀ (fuel : Nat) (cs : List Value) (x : DataW H × List MemPlace), DataW.trod enc P w base spare held fuel t cs = some x →
  ∀ j, j < P.cellsOf t → ∃ u, cs[j]? = some u ∧ (if bs j = true then ∃ b, u = .bool b else ∃ z, u = .int .i64 z)
theorem mixed_int {t : TypeId} {bs : Nat → Bool} (hi : P.underlying t = some (.int .i64)) (h1 : P.cellsOf t = 1) (hb : bs 0 = false) : Mixed enc P w base spare held t bs := by
  intro fuel cs x h j hj
  obtain ⟨z, hz, _, _⟩ := DataW.trod_int hi h
  rw [h1] at hj
  obtain rfl : j = 0 := by omega
  exact ⟨.int .i64 z, by rw [hz]; rfl, by rw [hb]; exact ⟨z, rfl⟩⟩
theorem mixed_bool {t : TypeId} {bs : Nat → Bool} (hi : P.underlying t = some .bool) (h1 : P.cellsOf t = 1) (hb : bs 0 = true) : Mixed enc P w base spare held t bs := by
  intro fuel cs x h j hj
  obtain ⟨z, hz, _⟩ := DataW.trod_bool hi h
  rw [h1] at hj
  obtain rfl : j = 0 := by omega
  exact ⟨.bool z, by rw [hz]; rfl, by rw [hb]; exact ⟨z, rfl⟩⟩
theorem mixed_struct {t : TypeId} {gs : Array Field} {bs : Nat → Bool} (hs : P.underlying t = some (.struct gs))
    (hF : ∀ q, q < P.cellsOf t → ∃ (i : Nat) (f : Field), gs[i]? = some f ∧ f.offset ≤ q ∧ q < f.offset + P.cellsOf f.type ∧ Mixed enc P w base spare held f.type (fun j => bs (f.offset + j))) : Mixed enc P w base spare held t bs := by
  intro fuel cs x h q hq
  obtain ⟨xs, n, _, _, hl, hlen, hfld⟩ := DataW.trod_struct hs h
  obtain ⟨i, f, hg, h1, h2, hf⟩ := hF q hq
  have hi : i < gs.size := (Array.getElem?_eq_some_iff.1 hg).1
  have g := hfld i f hg
  rw [List.getElem?_eq_getElem (by rw [hlen]; exact hi)] at g
  obtain ⟨u, hz, hu⟩ := hf _ _ _ g (q - f.offset) (by omega)
  rw [List.getElem?_take_of_lt (by omega), List.getElem?_drop] at hz
  rw [show f.offset + (q - f.offset) = q by omega] at hz
  simp only [show f.offset + (q - f.offset) = q by omega] at hu
  exact ⟨u, hz, hu⟩
def trOf (v : Value) : Int := match v with | .bool true => 0 | .bool false => 1 | .int _ z => z | _ => 0
theorem cv_trOf {j : Nat} {u : Value} (h : if (j == 2) = true then ∃ b, u = .bool b else ∃ z, u = .int .i64 z) : u = P10.cv j (trOf u) := by
  unfold P10.cv
  by_cases hj : j = 2
  · subst hj
    simp at h
    rcases h with rfl | rfl <;> rfl
  · rw [if_neg (by simpa using hj)] at h
    obtain ⟨z, rfl⟩ := h
    rw [if_neg hj]; rfl
theorem open_rows {t e : TypeId} {a : Option Addr} {len cap : Nat} {dd : DataW H} {p : List MemPlace} (ht : P.underlying t = some (.slice e)) (hC : P.cellsOf e = 10) (he : Mixed enc P w base spare held e (fun j => j == 2))
    (h : DataW.Trod enc P w base spare held t (.slice a len cap) dd p) : len ≤ maxLen ∧ ∃ Z, P10.RowK w a len Z := by
  obtain ⟨fuel, hf⟩ := h
  rcases open_slice ht hf with ⟨hcs, _⟩ | ⟨x, l, c, m, n, D, Pl, hcs, _, hl, hm, hmm, _, hel⟩
  · simp [Value.cells] at hcs
    obtain ⟨rfl, rfl, rfl⟩ := hcs
    exact ⟨Nat.zero_le _, fun _ _ => 0, .inl rfl⟩
  · simp [Value.cells] at hcs
    obtain ⟨rfl, rfl, rfl⟩ := hcs
    refine ⟨Nat.le_trans hl hm, ?_⟩
    by_cases h0 : len = 0
    · exact ⟨fun _ _ => 0, .inl h0⟩
    have hlm : len ≤ m := by rw [hmm]; split <;> omega
    have hall : ∀ k j, k < len → j < 10 → ∃ u, w.cell? ((x.add (k * 10)).add j) = some u ∧ u = P10.cv j (trOf u) := by
      intro k j hk hj
      obtain ⟨cs', hcs', htr⟩ := hel k (by omega)
      rw [hC] at hcs'
      obtain ⟨_, hlen, hc⟩ := World.cells?_some hcs'
      obtain ⟨u, hz, hu⟩ := he _ _ _ htr j (by omega)
      exact ⟨u, by rw [← hz]; exact hc j hj, cv_trOf hu⟩
    obtain ⟨b, o, spot⟩ := x
    have hspot : spot = none := by
      obtain ⟨z, hz, _⟩ := hall 0 0 (by omega) (by omega)
      simpa [Addr.add] using World.cell?_spot hz
    subst hspot
    have hadd : ∀ k j, ((⟨b, o, none⟩ : Addr).add (k * 10)).add j = ⟨b, o + k * 10 + j, none⟩ := by
      intro k j
      unfold Addr.add
      split <;> split <;> simp_all
    have hblk : b < w.heap.size := by
      obtain ⟨z, hz, _⟩ := hall 0 0 (by omega) (by omega)
      exact World.block_lt_of_cell? w _ hz
    refine ⟨fun k j => trOf ((w.cell? ⟨b, o + k * 10 + j, none⟩).getD undef), .inr ⟨b, o, rfl, hblk, fun k j hk hj => ?_⟩⟩
    obtain ⟨u, hz, hu⟩ := hall k j hk hj
    rw [hadd] at hz
    simp only [hz, Option.getD_some]
    exact congrArg some hu
end
set_option maxRecDepth 10000 in
theorem mixed108 {H : Type} {enc : TypeId × Value → H} {w : World} {base : Nat} {spare : Nat → Bool} {held : Bool} : Mixed enc Tryz.prog w base spare held 28 (fun j => (3 + j) == 2) := by
  refine mixed_struct Tryz.underlying28 ?_
  rw [show Tryz.prog.cellsOf 28 = 5 by kernel_rfl]
  intro q hq
  match q, hq with
  | 0, _ => exact ⟨0, _, rfl, of_decide_eq_true (by kernel_rfl), of_decide_eq_true (by kernel_rfl), mixed_int Tryz.underlying3 (by kernel_rfl) rfl⟩
  | 1, _ => exact ⟨1, _, rfl, of_decide_eq_true (by kernel_rfl), of_decide_eq_true (by kernel_rfl), mixed_int Tryz.underlying3 (by kernel_rfl) rfl⟩
  | 2, _ => exact ⟨2, _, rfl, of_decide_eq_true (by kernel_rfl), of_decide_eq_true (by kernel_rfl), mixed_int Tryz.underlying3 (by kernel_rfl) rfl⟩
  | 3, _ => exact ⟨3, _, rfl, of_decide_eq_true (by kernel_rfl), of_decide_eq_true (by kernel_rfl), mixed_int Tryz.underlying3 (by kernel_rfl) rfl⟩
  | 4, _ => exact ⟨4, _, rfl, of_decide_eq_true (by kernel_rfl), of_decide_eq_true (by kernel_rfl), mixed_int Tryz.underlying3 (by kernel_rfl) rfl⟩
  | q + 5, hq => omega
set_option maxRecDepth 10000 in
theorem mixed110 {H : Type} {enc : TypeId × Value → H} {w : World} {base : Nat} {spare : Nat → Bool} {held : Bool} : Mixed enc Tryz.prog w base spare held 85 (fun j => j == 2) := by
  refine mixed_struct Tryz.underlying85 ?_
  rw [show Tryz.prog.cellsOf 85 = 10 by kernel_rfl]
  intro q hq
  match q, hq with
  | 0, _ => exact ⟨0, _, rfl, of_decide_eq_true (by kernel_rfl), of_decide_eq_true (by kernel_rfl), mixed_int Tryz.underlying3 (by kernel_rfl) rfl⟩
  | 1, _ => exact ⟨1, _, rfl, of_decide_eq_true (by kernel_rfl), of_decide_eq_true (by kernel_rfl), mixed_int Tryz.underlying3 (by kernel_rfl) rfl⟩
  | 2, _ => exact ⟨2, _, rfl, of_decide_eq_true (by kernel_rfl), of_decide_eq_true (by kernel_rfl), mixed_bool Tryz.underlying4 (by kernel_rfl) rfl⟩
  | 3, _ => exact ⟨3, _, rfl, of_decide_eq_true (by kernel_rfl), of_decide_eq_true (by kernel_rfl), mixed108⟩
  | 4, _ => exact ⟨3, _, rfl, of_decide_eq_true (by kernel_rfl), of_decide_eq_true (by kernel_rfl), mixed108⟩
  | 5, _ => exact ⟨3, _, rfl, of_decide_eq_true (by kernel_rfl), of_decide_eq_true (by kernel_rfl), mixed108⟩
  | 6, _ => exact ⟨3, _, rfl, of_decide_eq_true (by kernel_rfl), of_decide_eq_true (by kernel_rfl), mixed108⟩
  | 7, _ => exact ⟨3, _, rfl, of_decide_eq_true (by kernel_rfl), of_decide_eq_true (by kernel_rfl), mixed108⟩
  | 8, _ => exact ⟨4, _, rfl, of_decide_eq_true (by kernel_rfl), of_decide_eq_true (by kernel_rfl), mixed_int Tryz.underlying3 (by kernel_rfl) rfl⟩
  | 9, _ => exact ⟨5, _, rfl, of_decide_eq_true (by kernel_rfl), of_decide_eq_true (by kernel_rfl), mixed_int Tryz.underlying3 (by kernel_rfl) rfl⟩
  | q + 10, hq => omega
set_option maxRecDepth 10000 in
theorem open_book {H : Type} {enc : TypeId × Value → H} {w : World} {base b0 : Nat} {spare : Nat → Bool} {held : Bool} {r : Reach} {v : Value} {dd : DataW H} {p : List MemPlace} (hv : Value.okWide Tryz.prog w r b0 26 v)
    (h : DataW.Trod enc Tryz.prog w base spare held 26 v dd p) : ∃ a n cap Z, v = .agg #[.slice a n cap] ∧ n ≤ maxLen ∧ P10.RowK w a n Z := by
  obtain ⟨cs, rfl, hsz⟩ := okWide_struct Tryz.underlying26 hv
  obtain ⟨fuel, hf⟩ := h
  obtain ⟨xs, n, _, _, hl, hlen, hfld⟩ := DataW.trod_struct Tryz.underlying26 hf
  have g := hfld 0 _ rfl
  obtain ⟨y, hy⟩ : ∃ y, xs[0]? = some y := ⟨_, List.getElem?_eq_getElem (by rw [hlen]; decide)⟩
  have h1 : Tryz.prog.cellsOf 26 = 1 := by kernel_rfl
  rw [h1] at hsz
  obtain ⟨u, hu⟩ : ∃ u, cs = #[u] := by
    obtain ⟨l⟩ := cs
    match l, hsz with
    | [u], _ => exact ⟨u, rfl⟩
  subst hu
  have e9 : List.take (Tryz.prog.cellsOf 24) (List.drop 0 [u]) = [u] := by rw [show Tryz.prog.cellsOf 24 = 1 by kernel_rfl]; rfl
  have g' : DataW.trod enc Tryz.prog w base spare held n 24 (List.take (Tryz.prog.cellsOf 24) (List.drop 0 [u])) = xs[0]? := g
  rw [e9, hy] at g'
  rcases open_slice Tryz.underlying24 g' with ⟨hcs, _⟩ | ⟨x, l, c, m, n', D, Pl, hcs, _⟩
  · have : u = .slice none 0 0 := by simpa using hcs
    subst this
    obtain ⟨h2, Z, h3⟩ := open_rows (a := none) (len := 0) (cap := 0) Tryz.underlying24 (by kernel_rfl) mixed110 (dd := y.1) (p := y.2) ⟨n, g'⟩
    exact ⟨none, 0, 0, Z, rfl, h2, h3⟩
  · have : u = .slice (some x) l c := by simpa using hcs
    subst this
    obtain ⟨h2, Z, h3⟩ := open_rows (a := some x) (len := l) (cap := c) Tryz.underlying24 (by kernel_rfl) mixed110 (dd := y.1) (p := y.2) ⟨n, g'⟩
    exact ⟨some x, l, c, Z, rfl, h2, h3⟩
end Go.Proofs.YtgjapdjidighlabGreat
