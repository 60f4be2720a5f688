/- The law FnExactOneCoins; conditions: those typed. -/
import Derived.Test.YtoickljpjlhkoaaOC2
import Derived.Test.YtoickljpjlhkoaaOO
namespace Go.Proofs.Ytoickljpjlhkoaa
open Go.RowKit Go.Deep
set_option linter.unusedVariables false

set_option maxRecDepth 100000 in
set_option maxHeartbeats 4000000 in
theorem law_oneCoins (v : Value) (V : OV) (hs : V.short maxLen) (w : World) (h : OneAt w v V) :
    Calls Try.prog 6 #[v] w fun e w' => e = .returned (.bool true) ∧ Below w.heap.size w w' := by
  have HV : Hid (OneAt w v V) := h
  obtain ⟨aW, kW, aG, kG, aA, kA, rfl, _, _, _⟩ := h
  obtain ⟨c, d, nW, Z, nG, G, nA, N, O⟩ := V
  simp only at HV
  go_enter Try.func6, Try.ntmps6
  go_wp2_with fail
  obtain ⟨w0, e0⟩ : ∃ w0, w0 = w.alloc (.cells #[.int .i64 c, .int .i64 d, .slice aW nW kW, .slice aG nG kG, .slice aA nA kA] 28) := ⟨_, rfl⟩
  have B1 : Hid (Below w.heap.size w w0) := by rw [e0]; exact (Below.refl _ _).alloc (by simp) _
  have A2 : Hid (Bk w0 w.heap.size [.int .i64 c, .int .i64 d, .slice aW nW kW, .slice aG nG kG, .slice aA nA kA]) := by rw [e0]; exact bk_new w 28 [.int .i64 c, .int .i64 d, .slice aW nW kW, .slice aG nG kG, .slice aA nA kA]
  rw [← e0]
  clear e0
  refine (szOne _ ⟨c, d, nW, Z, nG, G, nA, N, O⟩ hs _ (oneAt_below HV.out B1.out)).mono ?_
  rintro e w1 ⟨⟨r, rfl, hr⟩, hb1⟩
  have B3 : Hid (Below w.heap.size w w1) := bthen B1.out hb1
  have A3 : Hid (Bk w1 w.heap.size [.int .i64 c, .int .i64 d, .slice aW nW kW, .slice aG nG kG, .slice aA nA kA]) := A2.out.below hb1
  clear B1 A2
  clear hb1
  rcases hr with hr | ⟨r0, hfew⟩
  · go_wp2
    go_ret
    exact ⟨rfl, B3.out⟩
  have hr1 : ¬ r < 0 := by omega
  have HF : Hid (OV.few ⟨c, d, nW, Z, nG, G, nA, N, O⟩) := hfew
  clear hfew
  have yA0 : w1.cell? ⟨w.heap.size, 0, none⟩ = some (.int .i64 c) := (A3.out.2 0 (by simp)).1
  have yA1 : w1.cell? ⟨w.heap.size, 1, none⟩ = some (.int .i64 d) := (A3.out.2 1 (by simp)).1
  have yA2 : w1.cell? ⟨w.heap.size, 2, none⟩ = some (.slice aW nW kW) := (A3.out.2 2 (by simp)).1
  have yA3 : w1.cell? ⟨w.heap.size, 3, none⟩ = some (.slice aG nG kG) := (A3.out.2 3 (by simp)).1
  have yA4 : w1.cell? ⟨w.heap.size, 4, none⟩ = some (.slice aA nA kA) := (A3.out.2 4 (by simp)).1
  have hlA : w.heap.size < w1.heap.size := A3.out.1
  go_wp2_with fail
  refine (toOne _ ⟨c, d, nW, Z, nG, G, nA, N, O⟩ HF.out.1 _ (oneAt_below HV.out B3.out)).mono ?_
  rintro e w2 ⟨⟨v2, rfl, C2⟩, hb2⟩
  clear yA0 yA1 yA2 yA3 yA4 hlA
  have B4 : Hid (Below w.heap.size w w2) := bthen B3.out hb2
  have A4 : Hid (Bk w2 w.heap.size [.int .i64 c, .int .i64 d, .slice aW nW kW, .slice aG nG kG, .slice aA nA kA]) := A3.out.below hb2
  clear B3 A3
  clear hb2
  have yA0 : w2.cell? ⟨w.heap.size, 0, none⟩ = some (.int .i64 c) := (A4.out.2 0 (by simp)).1
  have yA1 : w2.cell? ⟨w.heap.size, 1, none⟩ = some (.int .i64 d) := (A4.out.2 1 (by simp)).1
  have yA2 : w2.cell? ⟨w.heap.size, 2, none⟩ = some (.slice aW nW kW) := (A4.out.2 2 (by simp)).1
  have yA3 : w2.cell? ⟨w.heap.size, 3, none⟩ = some (.slice aG nG kG) := (A4.out.2 3 (by simp)).1
  have yA4 : w2.cell? ⟨w.heap.size, 4, none⟩ = some (.slice aA nA kA) := (A4.out.2 4 (by simp)).1
  have hlA : w.heap.size < w2.heap.size := A4.out.1
  have HC2 : Hid (CopyO w1.heap.size w2 v2 ⟨c, d, nW, Z, nG, G, nA, N, O⟩) := C2
  clear C2
  go_wp2_with fail
  refine (oneCoins_spec _ ⟨c, d, nW, Z, nG, G, nA, N, O⟩ HF.out.1 _ HC2.out.at).mono ?_
  rintro e w3 ⟨rfl, hb3⟩
  clear yA0 yA1 yA2 yA3 yA4 hlA
  have B5 : Hid (Below w.heap.size w w3) := bthen B4.out hb3
  have A5 : Hid (Bk w3 w.heap.size [.int .i64 c, .int .i64 d, .slice aW nW kW, .slice aG nG kG, .slice aA nA kA]) := A4.out.below hb3
  clear B4 A4
  clear hb3 HC2
  have yA0 : w3.cell? ⟨w.heap.size, 0, none⟩ = some (.int .i64 c) := (A5.out.2 0 (by simp)).1
  have yA1 : w3.cell? ⟨w.heap.size, 1, none⟩ = some (.int .i64 d) := (A5.out.2 1 (by simp)).1
  have yA2 : w3.cell? ⟨w.heap.size, 2, none⟩ = some (.slice aW nW kW) := (A5.out.2 2 (by simp)).1
  have yA3 : w3.cell? ⟨w.heap.size, 3, none⟩ = some (.slice aG nG kG) := (A5.out.2 3 (by simp)).1
  have yA4 : w3.cell? ⟨w.heap.size, 4, none⟩ = some (.slice aA nA kA) := (A5.out.2 4 (by simp)).1
  have hlA : w.heap.size < w3.heap.size := A5.out.1
  go_wp2_with fail
  refine (toOne _ ⟨c, d, nW, Z, nG, G, nA, N, O⟩ HF.out.1 _ (oneAt_below HV.out B5.out)).mono ?_
  rintro e w4 ⟨⟨v4, rfl, C4⟩, hb4⟩
  clear yA0 yA1 yA2 yA3 yA4 hlA
  have B6 : Hid (Below w.heap.size w w4) := bthen B5.out hb4
  have A6 : Hid (Bk w4 w.heap.size [.int .i64 c, .int .i64 d, .slice aW nW kW, .slice aG nG kG, .slice aA nA kA]) := A5.out.below hb4
  clear B5 A5
  clear hb4
  have C4A := C4.at
  obtain ⟨d1, d2, d3, _, _, _, _, e4, _, _, _⟩ := C4
  simp only at e4
  subst e4
  have HC4 : Hid (OneAt w4 (.agg #[.int .i64 c, .int .i64 d, .slice (some ⟨d1, 0, none⟩) nW nW, .slice (some ⟨d2, 0, none⟩) nG nG, .slice (some ⟨d3, 0, none⟩) nA nA]) ⟨c, d, nW, Z, nG, G, nA, N, O⟩) := C4A
  clear C4A
  have yA0 : w4.cell? ⟨w.heap.size, 0, none⟩ = some (.int .i64 c) := (A6.out.2 0 (by simp)).1
  have yA1 : w4.cell? ⟨w.heap.size, 1, none⟩ = some (.int .i64 d) := (A6.out.2 1 (by simp)).1
  have yA2 : w4.cell? ⟨w.heap.size, 2, none⟩ = some (.slice aW nW kW) := (A6.out.2 2 (by simp)).1
  have yA3 : w4.cell? ⟨w.heap.size, 3, none⟩ = some (.slice aG nG kG) := (A6.out.2 3 (by simp)).1
  have yA4 : w4.cell? ⟨w.heap.size, 4, none⟩ = some (.slice aA nA kA) := (A6.out.2 4 (by simp)).1
  have hlA : w.heap.size < w4.heap.size := A6.out.1
  go_wp2_with fail
  obtain ⟨w5, e5⟩ : ∃ y, y = w4.alloc (.cells #[.int .i64 c, .int .i64 d, .slice (some ⟨d1, 0, none⟩) nW nW, .slice (some ⟨d2, 0, none⟩) nG nG, .slice (some ⟨d3, 0, none⟩) nA nA] 34) := ⟨_, rfl⟩
  rw [← e5]
  have hb5 : Below w4.heap.size w4 w5 := by rw [e5]; exact (Below.refl _ _).alloc (Nat.le_refl _) _
  have X5 : Bk w5 w4.heap.size [.int .i64 c, .int .i64 d, .slice (some ⟨d1, 0, none⟩) nW nW, .slice (some ⟨d2, 0, none⟩) nG nG, .slice (some ⟨d3, 0, none⟩) nA nA] := by rw [e5]; exact bk_new w4 34 [.int .i64 c, .int .i64 d, .slice (some ⟨d1, 0, none⟩) nW nW, .slice (some ⟨d2, 0, none⟩) nG nG, .slice (some ⟨d3, 0, none⟩) nA nA]
  clear e5
  have K5 := oneAt_below HC4.out hb5
  clear HC4
  clear yA0 yA1 yA2 yA3 yA4 hlA
  have B7 : Hid (Below w.heap.size w w5) := bthen B6.out hb5
  have A7 : Hid (Bk w5 w.heap.size [.int .i64 c, .int .i64 d, .slice aW nW kW, .slice aG nG kG, .slice aA nA kA]) := A6.out.below hb5
  clear B6 A6
  clear hb5
  generalize w4.heap.size = gx at *
  have X8 : Hid (Bk w5 gx [.int .i64 c, .int .i64 d, .slice (some ⟨d1, 0, none⟩) nW nW, .slice (some ⟨d2, 0, none⟩) nG nG, .slice (some ⟨d3, 0, none⟩) nA nA]) := X5
  clear X5
  have K9 : Hid (OneAt w5 (.agg #[.int .i64 c, .int .i64 d, .slice (some ⟨d1, 0, none⟩) nW nW, .slice (some ⟨d2, 0, none⟩) nG nG, .slice (some ⟨d3, 0, none⟩) nA nA]) ⟨c, d, nW, Z, nG, G, nA, N, O⟩) := K5
  clear K5
  refine (oneCoins_impl _ ⟨c, d, nW, Z, nG, G, nA, N, O⟩ HF.out.1 _ K9.out).mono ?_
  rintro e w6 ⟨rfl, hb6⟩
  have B10 : Hid (Below w.heap.size w w6) := bthen B7.out hb6
  have A10 : Hid (Bk w6 w.heap.size [.int .i64 c, .int .i64 d, .slice aW nW kW, .slice aG nG kG, .slice aA nA kA]) := A7.out.below hb6
  have X10 : Hid (Bk w6 gx [.int .i64 c, .int .i64 d, .slice (some ⟨d1, 0, none⟩) nW nW, .slice (some ⟨d2, 0, none⟩) nG nG, .slice (some ⟨d3, 0, none⟩) nA nA]) := X8.out.below hb6
  have K10 : Hid (OneAt w6 (.agg #[.int .i64 c, .int .i64 d, .slice (some ⟨d1, 0, none⟩) nW nW, .slice (some ⟨d2, 0, none⟩) nG nG, .slice (some ⟨d3, 0, none⟩) nA nA]) ⟨c, d, nW, Z, nG, G, nA, N, O⟩) := oneAt_below K9.out hb6
  clear B7 A7 X8 K9
  clear hb6
  have yA0 : w6.cell? ⟨w.heap.size, 0, none⟩ = some (.int .i64 c) := (A10.out.2 0 (by simp)).1
  have yA1 : w6.cell? ⟨w.heap.size, 1, none⟩ = some (.int .i64 d) := (A10.out.2 1 (by simp)).1
  have yA2 : w6.cell? ⟨w.heap.size, 2, none⟩ = some (.slice aW nW kW) := (A10.out.2 2 (by simp)).1
  have yA3 : w6.cell? ⟨w.heap.size, 3, none⟩ = some (.slice aG nG kG) := (A10.out.2 3 (by simp)).1
  have yA4 : w6.cell? ⟨w.heap.size, 4, none⟩ = some (.slice aA nA kA) := (A10.out.2 4 (by simp)).1
  have hlA : w.heap.size < w6.heap.size := A10.out.1
  have yX0 : w6.cell? ⟨gx, 0, none⟩ = some (.int .i64 c) := (X10.out.2 0 (by simp)).1
  have yX1 : w6.cell? ⟨gx, 1, none⟩ = some (.int .i64 d) := (X10.out.2 1 (by simp)).1
  have yX2 : w6.cell? ⟨gx, 2, none⟩ = some (.slice (some ⟨d1, 0, none⟩) nW nW) := (X10.out.2 2 (by simp)).1
  have yX3 : w6.cell? ⟨gx, 3, none⟩ = some (.slice (some ⟨d2, 0, none⟩) nG nG) := (X10.out.2 3 (by simp)).1
  have yX4 : w6.cell? ⟨gx, 4, none⟩ = some (.slice (some ⟨d3, 0, none⟩) nA nA) := (X10.out.2 4 (by simp)).1
  have hlX : gx < w6.heap.size := X10.out.1
  generalize OV.coins ⟨c, d, nW, Z, nG, G, nA, N, O⟩ = q
  go_wp2
  refine wp_region_held_drew (S := fun w' => (∀ b o, b < w6.heap.size → w'.cell? ⟨b, o, none⟩ = w6.cell? ⟨b, o, none⟩) ∧ w6.heap.size ≤ w'.heap.size) (by kernel_rfl) ⟨fun _ _ _ => rfl, Nat.le_refl _⟩ ?_
  intro hHeld
  refine wpAnyH_take (i := 0) (v := .agg #[.int .i64 c, .int .i64 d, .slice (some ⟨d1, 0, none⟩) nW nW, .slice (some ⟨d2, 0, none⟩) nG nG, .slice (some ⟨d3, 0, none⟩) nA nA]) rfl (by kernel_rfl) (by kernel_rfl) (by kernel_rfl) (fun _ _ _ h => h) (Or.inl ⟨by rfl, ?_⟩) (by assumption) ?_
  · intro wx hSw; go_simp
  try simp only [Act.put, List.setIfInBounds_toArray, List.set_cons_zero, List.set_cons_succ, List.getElem_toArray, List.getElem_cons_zero]
  refine wpAnyH_take (i := 1) (v := .agg #[.int .i64 c, .int .i64 d, .slice aW nW kW, .slice aG nG kG, .slice aA nA kA]) rfl (by kernel_rfl) (by kernel_rfl) (by kernel_rfl) (fun _ _ _ h => h) (Or.inl ⟨by rfl, ?_⟩) (by assumption) ?_
  · intro wx hSw; go_simp
  try simp only [Act.put, List.setIfInBounds_toArray, List.set_cons_zero, List.set_cons_succ, List.getElem_toArray, List.getElem_cons_zero, List.getElem_cons_succ]
  refine wpAnyH_ready (rs := [2]) (by kernel_rfl) (by simp) ?_
  refine AllReadyH.cons rfl (fun K hK => ?_) AllReadyH.nil
  go_simp
  go_wp2_with fail
  refine (toOne _ ⟨c, d, nW, Z, nG, G, nA, N, O⟩ HF.out.1 _ (oneAt_below HV.out (bthen B10.out (by repeat (first | exact Below.refl _ _ | refine bthen ?_ (by assumption) | apply Below.drew))))).mono ?_
  rintro e x8 ⟨⟨v8, rfl, C8⟩, hx8⟩
  refine hK.out _ _ (keepS (by assumption) hx8) (fun hNew => ?_)
  clear hK K hHeld
  have hHeld := hNew
  clear hNew
  try simp only [Act.put, List.setIfInBounds_toArray, List.set_cons_zero, List.set_cons_succ, List.getElem_toArray, List.getElem_cons_zero, List.getElem_cons_succ]
  refine wpAnyH_ready (rs := [3]) (by kernel_rfl) (by simp) ?_
  refine AllReadyH.cons rfl (fun K hK => ?_) AllReadyH.nil
  go_simp
  go_wp2_with fail
  refine (eqOne _ _ ⟨c, d, nW, Z, nG, G, nA, N, O⟩ ⟨Nat.le_trans HF.out.1.1 (by decide), Nat.le_trans HF.out.1.2.1 (by decide), Nat.le_trans HF.out.1.2.2.1 (by decide), fun k hk => Nat.le_trans (HF.out.1.2.2.2 k hk) (by decide)⟩ _ (oneAt_below K10.out (by repeat (first | exact Below.refl _ _ | refine bthen ?_ (by assumption) | apply Below.drew))) (oneAt_below C8.at (by repeat (first | exact Below.refl _ _ | refine bthen ?_ (by assumption) | apply Below.drew)))).mono ?_
  rintro e x9 ⟨rfl, hx9⟩
  refine hK.out _ _ (keepS (by assumption) hx9) (fun hNew => ?_)
  clear hK K hHeld
  have hHeld := hNew
  clear hNew
  try simp only [Act.put, List.setIfInBounds_toArray, List.set_cons_zero, List.set_cons_succ, List.getElem_toArray, List.getElem_cons_zero, List.getElem_cons_succ]
  refine wpAnyH_take (i := 4) (v := .bool false) rfl (by kernel_rfl) (by kernel_rfl) (by kernel_rfl) (fun _ _ _ h => h) (Or.inl ⟨by rfl, ?_⟩) (by assumption) ?_
  · intro wx hSw; go_simp
  try simp only [Act.put, List.setIfInBounds_toArray, List.set_cons_zero, List.set_cons_succ, List.getElem_toArray, List.getElem_cons_zero, List.getElem_cons_succ]
  refine wpAnyH_done (by kernel_rfl) ?_ _
  clear hHeld
  have hz3 : Below w6.heap.size w6 x9 := by repeat (first | exact Below.refl _ _ | refine bthen ?_ (by assumption) | apply Below.drew)
  clear yA0 yA1 yA2 yA3 yA4 hlA yX0 yX1 yX2 yX3 yX4 hlX
  have B11 : Hid (Below w.heap.size w x9) := bthen B10.out hz3
  have A11 : Hid (Bk x9 w.heap.size [.int .i64 c, .int .i64 d, .slice aW nW kW, .slice aG nG kG, .slice aA nA kA]) := A10.out.below hz3
  have X11 : Hid (Bk x9 gx [.int .i64 c, .int .i64 d, .slice (some ⟨d1, 0, none⟩) nW nW, .slice (some ⟨d2, 0, none⟩) nG nG, .slice (some ⟨d3, 0, none⟩) nA nA]) := X10.out.below hz3
  have K11 : Hid (OneAt x9 (.agg #[.int .i64 c, .int .i64 d, .slice (some ⟨d1, 0, none⟩) nW nW, .slice (some ⟨d2, 0, none⟩) nG nG, .slice (some ⟨d3, 0, none⟩) nA nA]) ⟨c, d, nW, Z, nG, G, nA, N, O⟩) := oneAt_below K10.out hz3
  clear B10 A10 X10 K10
  clear hz3
  go_wp2
  go_ret
  exact ⟨rfl, B11.out⟩
end Go.Proofs.Ytoickljpjlhkoaa
