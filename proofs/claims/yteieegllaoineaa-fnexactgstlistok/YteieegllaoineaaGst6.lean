/- The law FnExactGstListOk: it answers true; conditions: the list lies in memory. -/
import Derived.Test.YteieegllaoineaaGst5
namespace Go.Proofs.Yteieegllaoineaa
open Go.RowKit Go.ChangeShapes Go.WideShapes Go.ChangeAt Go.Deep
set_option linter.unusedVariables false

section
variable {H : Type} {enc : TypeId × Value → H} {P : Program} {w : World} {base : Nat} {spare : Nat → Bool} {held : Bool}
theorem open_ghosts {t e tw ti : TypeId} {f0 f1 f2 : Field} {q5 : Array Field} {a : Option Addr} {len cap : Nat} {dd : DataW H} {p : List MemPlace} (ht : P.underlying t = some (.slice e))
    (he : P.underlying e = some (.struct #[f0, f1, f2])) (hC : P.cellsOf e = 7) (o0 : f0.offset = 0 ∧ f0.type = ti) (o1 : f1.offset = 1 ∧ f1.type = ti) (o2 : f2.offset = 2 ∧ f2.type = tw)
    (hw : P.underlying tw = some (.struct q5)) (hcw : P.cellsOf tw = 5) (hsz : q5.size = 5) (hoff : ∀ (i : Nat) (f : Field), q5[i]? = some f → f.offset = i ∧ f.type = ti)
    (hi : P.underlying ti = some (.int .i64)) (hi1 : P.cellsOf ti = 1)
    (h : DataW.Trod enc P w base spare held t (.slice a len cap) dd p) : len ≤ maxLen ∧ ∃ Z, P7.RowK w a len Z := by
  obtain ⟨fuel, hf⟩ := h
  rcases open_slice ht hf with ⟨hcs, _⟩ | ⟨x, l, c, m, n, D, Pl, hcs, _, hl, hm, hmm, _, hel⟩
  · simp [Value.cells] at hcs
    obtain ⟨rfl, rfl, rfl⟩ := hcs
    exact ⟨Nat.zero_le _, fun _ _ => 0, .inl rfl⟩
  · simp [Value.cells] at hcs
    obtain ⟨rfl, rfl, rfl⟩ := hcs
    refine ⟨Nat.le_trans hl hm, ?_⟩
    by_cases h0 : len = 0
    · exact ⟨fun _ _ => 0, .inl h0⟩
    have hlm : len ≤ m := by rw [hmm]; split <;> omega
    have hall : ∀ k j, k < len → j < 7 → ∃ z, w.cell? ((x.add (k * 7)).add j) = some (.int .i64 z) := by
      intro k j hk hj
      obtain ⟨cs', hcs', htr⟩ := hel k (by omega)
      rw [hC] at hcs'
      obtain ⟨_, hlen, hc⟩ := World.cells?_some hcs'
      obtain ⟨z, hz, _⟩ := (trod_ghost he hC o0 o1 o2 hw hcw hsz hoff hi hi1 htr).2 j hj
      exact ⟨z, by rw [← hz]; exact hc j hj⟩
    obtain ⟨b, o, spot⟩ := x
    have hspot : spot = none := by
      obtain ⟨z, hz⟩ := hall 0 0 (by omega) (by omega)
      simpa [Addr.add] using World.cell?_spot hz
    subst hspot
    have hadd : ∀ k j, ((⟨b, o, none⟩ : Addr).add (k * 7)).add j = ⟨b, o + k * 7 + j, none⟩ := by
      intro k j
      unfold Addr.add
      split <;> split <;> simp_all
    have hblk : b < w.heap.size := by
      obtain ⟨z, hz⟩ := hall 0 0 (by omega) (by omega)
      exact World.block_lt_of_cell? w _ hz
    refine ⟨fun k j => match w.cell? ⟨b, o + k * 7 + j, none⟩ with | some (.int _ z) => z | _ => 0, .inr ⟨b, o, rfl, hblk, fun k j hk hj => ?_⟩⟩
    obtain ⟨z, hz⟩ := hall k j hk hj
    rw [hadd] at hz
    simp only [hz]
end

set_option maxHeartbeats 4000000 in
theorem law_gstListOk (c d : Int) (a : Option Addr) (n cap : Nat) (Z : Nat → Nat → Int) (hn : n ≤ maxLen) (w : World) (h : P7.RowK w a n Z) :
    Calls Try.prog 4 #[.agg #[.int .i64 c, .int .i64 d], .slice a n cap] w fun e w' => e = .returned (.bool true) ∧ Below w.heap.size w w' := by
  have HR : Hid (P7.RowK w a n Z) := h
  clear h
  unfold maxLen at hn
  go_enter Try.func4, Try.ntmps4
  go_wp2_with fail
  obtain ⟨w0, e0⟩ : ∃ w0, w0 = w.alloc (.cells #[.int .i64 c, .int .i64 d] 23) := ⟨_, rfl⟩
  have B1 : Hid (Below w.heap.size w w0) := by rw [e0]; exact (Below.refl _ _).alloc (by simp) _
  have M2 : Hid (Bk w0 w.heap.size [.int .i64 c, .int .i64 d]) := by rw [e0]; exact bk_new w 23 [.int .i64 c, .int .i64 d]
  rw [← e0]
  clear e0
  refine (P7.szList a n cap 1048576 (by omega) (by omega) (by omega) _).mono ?_
  rintro e w1 ⟨rfl, hb1⟩
  have B3 : Hid (Below w.heap.size w w1) := bthen B1.out hb1
  have M3 : Hid (Bk w1 w.heap.size [.int .i64 c, .int .i64 d]) := M2.out.below hb1
  clear B1 M2
  clear hb1
  by_cases hle : (n : Int) ≤ 1048576
  rotate_left
  · rw [if_neg hle]
    go_wp2
    go_ret
    exact ⟨rfl, B3.out⟩
  rw [if_pos hle]
  have hn2 : n ≤ 1048576 := by omega
  have hle2 : ¬ 1048576 - (n : Int) < 0 := by omega
  have yM0 : w1.cell? ⟨w.heap.size, 0, none⟩ = some (.int .i64 c) := (M3.out.2 0 (by simp)).1
  have yM1 : w1.cell? ⟨w.heap.size, 1, none⟩ = some (.int .i64 d) := (M3.out.2 1 (by simp)).1
  have hlM : w.heap.size < w1.heap.size := M3.out.1
  go_wp2_with fail
  refine (toMap _ _ _).mono ?_
  rintro e w2 ⟨rfl, hb2⟩
  clear yM0 yM1 hlM
  have B4 : Hid (Below w.heap.size w w2) := bthen B3.out hb2
  have M4 : Hid (Bk w2 w.heap.size [.int .i64 c, .int .i64 d]) := M3.out.below hb2
  clear B3 M3
  clear hb2
  have yM0 : w2.cell? ⟨w.heap.size, 0, none⟩ = some (.int .i64 c) := (M4.out.2 0 (by simp)).1
  have yM1 : w2.cell? ⟨w.heap.size, 1, none⟩ = some (.int .i64 d) := (M4.out.2 1 (by simp)).1
  have hlM : w.heap.size < w2.heap.size := M4.out.1
  go_wp2_with fail
  refine (P7.toList_any a n cap Z hn2 _ (P7.row_below HR.out B4.out)).mono ?_
  rintro e w3 ⟨rfl, ho3, hz3, hb3⟩
  clear yM0 yM1 hlM
  have B5 : Hid (Below w.heap.size w w3) := bthen B4.out hb3
  have M5 : Hid (Bk w3 w.heap.size [.int .i64 c, .int .i64 d]) := M4.out.below hb3
  clear B4 M4
  clear hb3
  have R3 := P7.row_of_own ho3 hz3
  clear ho3 hz3
  have yM0 : w3.cell? ⟨w.heap.size, 0, none⟩ = some (.int .i64 c) := (M5.out.2 0 (by simp)).1
  have yM1 : w3.cell? ⟨w.heap.size, 1, none⟩ = some (.int .i64 d) := (M5.out.2 1 (by simp)).1
  have hlM : w.heap.size < w3.heap.size := M5.out.1
  go_wp2_with fail
  refine (ghosts_spec c d _ n n Z hn2 _ R3).mono ?_
  rintro e w4 ⟨rfl, hb4⟩
  clear yM0 yM1 hlM
  have B6 : Hid (Below w.heap.size w w4) := bthen B5.out hb4
  have M6 : Hid (Bk w4 w.heap.size [.int .i64 c, .int .i64 d]) := M5.out.below hb4
  clear B5 M5
  clear hb4 R3
  have yM0 : w4.cell? ⟨w.heap.size, 0, none⟩ = some (.int .i64 c) := (M6.out.2 0 (by simp)).1
  have yM1 : w4.cell? ⟨w.heap.size, 1, none⟩ = some (.int .i64 d) := (M6.out.2 1 (by simp)).1
  have hlM : w.heap.size < w4.heap.size := M6.out.1
  go_wp2_with fail
  refine (P7.toList_any a n cap Z hn2 _ (P7.row_below HR.out B6.out)).mono ?_
  rintro e w5 ⟨rfl, ho5, hz5, hb5⟩
  clear yM0 yM1 hlM
  have B7 : Hid (Below w.heap.size w w5) := bthen B6.out hb5
  have M7 : Hid (Bk w5 w.heap.size [.int .i64 c, .int .i64 d]) := M6.out.below hb5
  clear B6 M6
  clear hb5
  generalize w4.heap.size = gx at *
  have C8 : Hid (P7.RowK w5 (some ⟨gx, 0, none⟩) n Z) := P7.row_of_own ho5 hz5
  clear ho5 hz5
  have yM0 : w5.cell? ⟨w.heap.size, 0, none⟩ = some (.int .i64 c) := (M7.out.2 0 (by simp)).1
  have yM1 : w5.cell? ⟨w.heap.size, 1, none⟩ = some (.int .i64 d) := (M7.out.2 1 (by simp)).1
  have hlM : w.heap.size < w5.heap.size := M7.out.1
  go_wp2_with fail
  refine (toMap _ _ _).mono ?_
  rintro e w6 ⟨rfl, hb6⟩
  clear yM0 yM1 hlM
  have B9 : Hid (Below w.heap.size w w6) := bthen B7.out hb6
  have M9 : Hid (Bk w6 w.heap.size [.int .i64 c, .int .i64 d]) := M7.out.below hb6
  have C9 : Hid (P7.RowK w6 (some ⟨gx, 0, none⟩) n Z) := P7.row_below C8.out hb6
  clear B7 M7 C8
  clear hb6
  have yM0 : w6.cell? ⟨w.heap.size, 0, none⟩ = some (.int .i64 c) := (M9.out.2 0 (by simp)).1
  have yM1 : w6.cell? ⟨w.heap.size, 1, none⟩ = some (.int .i64 d) := (M9.out.2 1 (by simp)).1
  have hlM : w.heap.size < w6.heap.size := M9.out.1
  go_wp2_with fail
  refine (ghosts_impl c d _ n n Z hn2 _ C9.out).mono ?_
  rintro e w7 ⟨rfl, hb7⟩
  clear yM0 yM1 hlM
  have B10 : Hid (Below w.heap.size w w7) := bthen B9.out hb7
  have M10 : Hid (Bk w7 w.heap.size [.int .i64 c, .int .i64 d]) := M9.out.below hb7
  have C10 : Hid (P7.RowK w7 (some ⟨gx, 0, none⟩) n Z) := P7.row_below C9.out hb7
  clear B9 M9 C9
  clear hb7
  have yM0 : w7.cell? ⟨w.heap.size, 0, none⟩ = some (.int .i64 c) := (M10.out.2 0 (by simp)).1
  have yM1 : w7.cell? ⟨w.heap.size, 1, none⟩ = some (.int .i64 d) := (M10.out.2 1 (by simp)).1
  have hlM : w.heap.size < w7.heap.size := M10.out.1
  go_wp2_with fail
  refine (P7.toList_any a n cap Z hn2 _ (P7.row_below HR.out B10.out)).mono ?_
  rintro e w8 ⟨rfl, ho8, hz8, hb8⟩
  clear yM0 yM1 hlM
  have B11 : Hid (Below w.heap.size w w8) := bthen B10.out hb8
  have M11 : Hid (Bk w8 w.heap.size [.int .i64 c, .int .i64 d]) := M10.out.below hb8
  have C11 : Hid (P7.RowK w8 (some ⟨gx, 0, none⟩) n Z) := P7.row_below C10.out hb8
  clear B10 M10 C10
  clear hb8
  have R8 := P7.row_of_own ho8 hz8
  clear ho8 hz8
  have yM0 : w8.cell? ⟨w.heap.size, 0, none⟩ = some (.int .i64 c) := (M11.out.2 0 (by simp)).1
  have yM1 : w8.cell? ⟨w.heap.size, 1, none⟩ = some (.int .i64 d) := (M11.out.2 1 (by simp)).1
  have hlM : w.heap.size < w8.heap.size := M11.out.1
  go_wp2_with fail
  refine (P7.eqList _ n _ n n Z (by omega) _ C11.out R8).mono ?_
  rintro e w9 ⟨rfl, hb9⟩
  clear yM0 yM1 hlM
  have B12 : Hid (Below w.heap.size w w9) := bthen B11.out hb9
  have M12 : Hid (Bk w9 w.heap.size [.int .i64 c, .int .i64 d]) := M11.out.below hb9
  have C12 : Hid (P7.RowK w9 (some ⟨gx, 0, none⟩) n Z) := P7.row_below C11.out hb9
  clear B11 M11 C11
  clear hb9 R8
  go_wp2
  go_ret
  exact ⟨rfl, B12.out⟩
end Go.Proofs.Yteieegllaoineaa
