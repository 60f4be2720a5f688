/- The walk of the law FnPclFrom: it answers true; conditions: the code is a slice of bytes. -/
import Derived.Test.YtkobiniogigloaaPf2
namespace Go.Proofs.Ytkobiniogigloaa
open Go.RowKit Go.Deep
set_option linter.unusedVariables false

theorem W8.cap {w : World} {base : Nat} {g n cap : Nat} {Z : Nat → Nat → Int} (h : W8 w base (.slice (some ⟨g, 0, none⟩) n cap) n Z) : n ≤ cap := by
  obtain ⟨g', cp', xs, ev, ho, _⟩ := h
  rcases ho.2 with ⟨e, _⟩ | ⟨g1, c1, cur, e, _, _, hc, _⟩
  · cases e
  · cases e; exact hc
/-- Block b of W begins with these values, and may be written. -/
def Bk (W : World) (b : Nat) (l : List Value) : Prop := b < W.heap.size ∧ ∀ i, i < l.length → W.cell? ⟨b, i, none⟩ = some (l.getD i undef) ∧ W.frozen? ⟨b, i, none⟩ = false
theorem Bk.below {W W' : World} {b : Nat} {l : List Value} (h : Bk W b l) (k : Below W.heap.size W W') : Bk W' b l := ⟨Nat.lt_of_lt_of_le h.1 k.size, fun i hi => by
  rw [k.cell (p := ⟨b, i, none⟩) h.1, k.frozen (p := ⟨b, i, none⟩) h.1]; exact h.2 i hi⟩
theorem bk_new (W : World) (t : TypeId) (l : List Value) : Bk (W.alloc (.cells l.toArray t)) W.heap.size l := ⟨by simp, fun i hi => by
  have e : l.getD i undef = l[i] := by simp [List.getD, List.getElem?_eq_getElem hi]
  rw [e]
  exact ⟨by simp [hi], by simp⟩⟩
theorem maOk_any (w : World) : Calls Try.prog 7 #[] w fun e w' => e = .returned (.bool true) ∧ Below w.heap.size w w' := by
  have hok : okB 2 2 = true := by decide
  have hcon := ok_impl 2 2 w
  rw [hok] at hcon
  clear hok
  go_enter Try.func7, Try.ntmps7
  go_wp2_with (go_at_call 14; refine hcon.mono ?_; rintro e w' ⟨rfl, hb⟩)
  go_ret
  exact ⟨rfl, hb⟩

set_option maxRecDepth 20000 in
set_option maxHeartbeats 4000000 in
theorem law_pfrom (a : Option Addr) (len cap : Nat) (zs : List Int) (w : World) (h : IsRow w a len cap zs) :
    Calls Try.prog 3 #[.slice a len cap] w fun e w' => e = .returned (.bool true) ∧ Below w.heap.size w w' := by
  have H : Hid (IsRow w a len cap zs) := h
  clear h
  by_cases hl : (1048576 : Int) < (len : Int)
  · go_enter Try.func3, Try.ntmps3
    go_wp2
    go_ret
    exact ⟨rfl, Below.refl _ _⟩
  · go_enter Try.func3, Try.ntmps3
    go_wp2_with fail
    refine (draw_plist a len cap zs _ H.out).mono ?_
    rintro e w1 ⟨c, d, v, n, Z, nx, rfl, hW, hn, hnx, B1⟩
    clear H
    obtain ⟨g, cp, hv, hbg, hgl, hcl, hfr⟩ := hW.cells
    subst hv
    have hxs := hW
    clear hcl hfr hxs
    have B21 : Hid (Below w.heap.size w w1) := B1
    have V22 : Hid (W8 w1 w.heap.size (.slice (some ⟨g, 0, none⟩) n cp) n Z) := hW
    clear B1 hW hgl
    obtain ⟨w2, ew2⟩ : ∃ w2, w2 = w1.alloc (.cells #[.int .i64 c, .int .i64 d] 24) := ⟨_, rfl⟩
    have hbw2 : Below w1.heap.size w1 w2 := by rw [ew2]; exact (Below.refl _ _).alloc (Nat.le_refl _) _
    have hkw2 : Bk w2 w1.heap.size [.int .i64 c, .int .i64 d] := by rw [ew2]; exact bk_new w1 24 [.int .i64 c, .int .i64 d]
    have B23 : Hid (Below w.heap.size w w2) := bthen B21.out hbw2
    have V23 : Hid (W8 w2 w.heap.size (.slice (some ⟨g, 0, none⟩) n cp) n Z) := V22.out.below hbw2
    clear B21 V22
    have M24 : Hid (Bk w2 w1.heap.size [.int .i64 c, .int .i64 d]) := hkw2
    go_upto_region 4 with fail
    try rw [← ew2]
    clear ew2 hbw2 hkw2
    have hcon1 : Hid (∀ w', Below w2.heap.size w2 w' → Calls Try.prog 5 #[.agg #[.int .i64 c, .int .i64 d], .slice (some ⟨g, 0, none⟩) n cp, .int .i64 nx] w' fun e w'' => e = .returned (.bool (listP c d nx n Z)) ∧ Below w'.heap.size w' w'') := by
      intro w' hb
      obtain ⟨g', cp', ev, _, hl, hc, _⟩ := (V23.out.below hb).cells
      cases ev
      exact plist_impl c d nx g 0 n cp Z (by omega) w' hl hc
    have hcon2 : Hid (∀ w', Below w2.heap.size w2 w' → Calls Try.prog 6 #[.agg #[.int .i64 c, .int .i64 d], .slice (some ⟨g, 0, none⟩) n cp, .int .i64 nx] w' fun e w'' => e = .returned (.bool (listP c d nx n Z)) ∧ Below w'.heap.size w' w'') := by
      intro w' hb
      obtain ⟨g', cp', ev, _, hl, hc, _⟩ := (V23.out.below hb).cells
      cases ev
      exact plist_spec c d nx g 0 n cp Z (by omega) w' hl hc
    have yM0 : w2.cell? ⟨w1.heap.size, 0, none⟩ = some (.int .i64 c) := (M24.out.2 0 (by simp)).1
    have yM1 : w2.cell? ⟨w1.heap.size, 1, none⟩ = some (.int .i64 d) := (M24.out.2 1 (by simp)).1
    have hlM : w1.heap.size < w2.heap.size := M24.out.1
    refine wp_region_held_drew (S := fun w' => (∀ b o, b < w2.heap.size → w'.cell? ⟨b, o, none⟩ = w2.cell? ⟨b, o, none⟩) ∧ w2.heap.size ≤ w'.heap.size) (by kernel_rfl) ⟨fun _ _ _ => rfl, Nat.le_refl _⟩ ?_
    intro hHeld
    refine wpAnyH_take (i := 0) (v := .agg #[.int .i64 c, .int .i64 d]) rfl (by kernel_rfl) (by kernel_rfl) (by kernel_rfl) (fun _ _ _ h => h) (Or.inl ⟨by rfl, ?_⟩) (by assumption) ?_
    · intro wx hSw; go_simp
    try simp only [Act.put, List.setIfInBounds_toArray, List.set_cons_zero, List.set_cons_succ, List.getElem_toArray, List.getElem_cons_zero]
    refine wpAnyH_take (i := 1) (v := .slice (some ⟨g, 0, none⟩) n cp) rfl (by kernel_rfl) (by kernel_rfl) (by kernel_rfl) (fun _ _ _ h => h) (Or.inl ⟨by rfl, ?_⟩) (by assumption) ?_
    · intro wx hSw; go_simp
    try simp only [Act.put, List.setIfInBounds_toArray, List.set_cons_zero, List.set_cons_succ, List.getElem_toArray, List.getElem_cons_zero, List.getElem_cons_succ]
    refine wpAnyH_take (i := 2) (v := .int .i64 nx) rfl (by kernel_rfl) (by kernel_rfl) (by kernel_rfl) (fun _ _ _ h => h) (Or.inl ⟨by rfl, ?_⟩) (by assumption) ?_
    · intro wx hSw; go_simp
    try simp only [Act.put, List.setIfInBounds_toArray, List.set_cons_zero, List.set_cons_succ, List.getElem_toArray, List.getElem_cons_zero, List.getElem_cons_succ]
    refine wpAnyH_take (i := 4) (v := .agg #[.int .i64 c, .int .i64 d]) rfl (by kernel_rfl) (by kernel_rfl) (by kernel_rfl) (fun _ _ _ h => h) (Or.inl ⟨by rfl, ?_⟩) (by assumption) ?_
    · intro wx hSw; go_simp
    try simp only [Act.put, List.setIfInBounds_toArray, List.set_cons_zero, List.set_cons_succ, List.getElem_toArray, List.getElem_cons_zero, List.getElem_cons_succ]
    refine wpAnyH_take (i := 5) (v := .slice (some ⟨g, 0, none⟩) n cp) rfl (by kernel_rfl) (by kernel_rfl) (by kernel_rfl) (fun _ _ _ h => h) (Or.inl ⟨by rfl, ?_⟩) (by assumption) ?_
    · intro wx hSw; go_simp
    try simp only [Act.put, List.setIfInBounds_toArray, List.set_cons_zero, List.set_cons_succ, List.getElem_toArray, List.getElem_cons_zero, List.getElem_cons_succ]
    refine wpAnyH_take (i := 6) (v := .int .i64 nx) rfl (by kernel_rfl) (by kernel_rfl) (by kernel_rfl) (fun _ _ _ h => h) (Or.inl ⟨by rfl, ?_⟩) (by assumption) ?_
    · intro wx hSw; go_simp
    try simp only [Act.put, List.setIfInBounds_toArray, List.set_cons_zero, List.set_cons_succ, List.getElem_toArray, List.getElem_cons_zero, List.getElem_cons_succ]
    refine wpAnyH_ready (rs := [3]) (by kernel_rfl) (by simp) ?_
    refine AllReadyH.cons rfl (fun K hK => ?_) AllReadyH.nil
    go_simp
    go_wp2_with fail
    refine (hcon1.out _ (Below.refl _ _).drew).mono ?_
    rintro e w3 ⟨rfl, hb3⟩
    refine hK.out _ _ (keepS (by assumption) hb3) (fun hNew => ?_)
    clear hK K hHeld
    have hHeld := hNew
    clear hNew
    try simp only [Act.put, List.setIfInBounds_toArray, List.set_cons_zero, List.set_cons_succ, List.getElem_toArray, List.getElem_cons_zero, List.getElem_cons_succ]
    refine wpAnyH_ready (rs := [7]) (by kernel_rfl) (by simp) ?_
    refine AllReadyH.cons rfl (fun K hK => ?_) AllReadyH.nil
    go_simp
    go_wp2_with fail
    refine (hcon2.out _ (bthen (Below.refl _ _).drew hb3)).mono ?_
    rintro e w4 ⟨rfl, hb4⟩
    refine hK.out _ _ (keepS (by assumption) hb4) (fun hNew => ?_)
    clear hK K hHeld
    have hHeld := hNew
    clear hNew
    try simp only [Act.put, List.setIfInBounds_toArray, List.set_cons_zero, List.set_cons_succ, List.getElem_toArray, List.getElem_cons_zero, List.getElem_cons_succ]
    refine wpAnyH_take (i := 8) (v := .bool false) rfl (by kernel_rfl) (by kernel_rfl) (by kernel_rfl) (fun _ _ _ h => h) (Or.inl ⟨by rfl, ?_⟩) (by assumption) ?_
    · intro wx hSw; go_simp <;> first | omega | (exact IntWalk.i64_in _ (by omega)) | go_num
    try simp only [Act.put, List.setIfInBounds_toArray, List.set_cons_zero, List.set_cons_succ, List.getElem_toArray, List.getElem_cons_zero, List.getElem_cons_succ]
    refine wpAnyH_done (by kernel_rfl) ?_ _
    clear hHeld
    clear yM0 yM1 hlM
    have hb24 : Below w2.heap.size w2 w4 := bthen (bthen (Below.refl _ _).drew hb3) hb4
    have B25 : Hid (Below w.heap.size w w4) := bthen B23.out hb24
    have V25 : Hid (W8 w4 w.heap.size (.slice (some ⟨g, 0, none⟩) n cp) n Z) := V23.out.below hb24
    have M25 : Hid (Bk w4 w1.heap.size [.int .i64 c, .int .i64 d]) := M24.out.below hb24
    clear B23 V23 M24
    have yM0 : w4.cell? ⟨w1.heap.size, 0, none⟩ = some (.int .i64 c) := (M25.out.2 0 (by simp)).1
    have yM1 : w4.cell? ⟨w1.heap.size, 1, none⟩ = some (.int .i64 d) := (M25.out.2 1 (by simp)).1
    have hlM : w1.heap.size < w4.heap.size := M25.out.1
    go_wp2_with fail
    refine (hcon1.out _ hb24).mono ?_
    rintro e w5 ⟨rfl, hb5⟩
    clear hcon1 hcon2 hb24 hb3 hb4
    clear yM0 yM1 hlM
    have B26 : Hid (Below w.heap.size w w5) := bthen B25.out hb5
    have V26 : Hid (W8 w5 w.heap.size (.slice (some ⟨g, 0, none⟩) n cp) n Z) := V25.out.below hb5
    have M26 : Hid (Bk w5 w1.heap.size [.int .i64 c, .int .i64 d]) := M25.out.below hb5
    clear B25 V25 M25
    clear hb5
    cases hP : listP c d nx n Z
    · go_wp2_with fail
      refine (maOk_any _).mono ?_
      rintro e w6 ⟨rfl, hb6⟩
      have B27 : Hid (Below w.heap.size w w6) := bthen B26.out hb6
      have V27 : Hid (W8 w6 w.heap.size (.slice (some ⟨g, 0, none⟩) n cp) n Z) := V26.out.below hb6
      have M27 : Hid (Bk w6 w1.heap.size [.int .i64 c, .int .i64 d]) := M26.out.below hb6
      clear B26 V26 M26
      go_wp2
      go_ret
      exact ⟨rfl, B27.out⟩
    · have HP : Hid (listP c d nx n Z = true) := hP
      obtain ⟨⟨hn0, hn5⟩, hnn, hnum⟩ := listP_num hP
      have HN : Hid (∀ k, k < n → Z k 0 = nx - n + k) := hnum
      clear hP hnum
      have m1 : IntKind.wrap .i64 (nx - (n : Int)) = nx - (n : Int) := by simp [IntKind.wrap, IntKind.bits, IntKind.signed]; omega
      have m2 : IntKind.wrap .i64 (nx - (n : Int) - 1) = nx - (n : Int) - 1 := by simp [IntKind.wrap, IntKind.bits, IntKind.signed]; omega
      have m3 : IntKind.wrap .i64 (nx + 1) = nx + 1 := by simp [IntKind.wrap, IntKind.bits, IntKind.signed]; omega
      go_wp2_with fail
      go_loopw [6] (fun i wr => ∃ k : Int, .int .i64 k = i ∧ nx - n - 1 ≤ k ∧ k ≤ nx + 2 ∧ Below w.heap.size w wr ∧ W8 wr w.heap.size (.slice (some ⟨g, 0, none⟩) n cp) n Z ∧ Bk wr w1.heap.size [.int .i64 c, .int .i64 d]) (fun i _ => (nx + 2 - intOf i).toNat)
      case atStart => exact ⟨nx - n - 1, rfl, by omega, by omega, B26.out, V26.out, M26.out⟩
      case round =>
        obtain ⟨k, rfl, hk1, hk2, hB, hV, hM⟩ := hrel
        clear B26 V26 M26
        have B61 : Hid (Below w.heap.size w wr) := hB
        have V62 : Hid (W8 wr w.heap.size (.slice (some ⟨g, 0, none⟩) n cp) n Z) := hV
        have M63 : Hid (Bk wr w1.heap.size [.int .i64 c, .int .i64 d]) := hM
        clear hB hV hM
        by_cases hkn : k ≤ nx + 1
        · obtain ⟨s, hs, hsk⟩ : ∃ s : Nat, s ≤ n ∧ ∀ j : Nat, j < n → (k ≤ nx - n + j ↔ s ≤ j) := by
            by_cases h1 : k ≤ nx - n
            · exact ⟨0, by omega, fun j hj => ⟨fun _ => by omega, fun _ => by omega⟩⟩
            · by_cases h2 : nx ≤ k
              · exact ⟨n, by omega, fun j hj => ⟨fun _ => by omega, fun _ => by omega⟩⟩
              · exact ⟨(k - (nx - n)).toNat, by omega, fun j hj => ⟨fun _ => by omega, fun _ => by omega⟩⟩
          have hks : nx - n ≤ k → k ≤ nx → (n : Int) - s = nx - k := by
            intro h1 h2
            have ha : s < n → k ≤ nx - n + s := fun h => (hsk s h).2 (Nat.le_refl _)
            have hb : ∀ j : Nat, j < n → j < s → ¬ k ≤ nx - n + j := fun j hj hjs h => by have := (hsk j hj).1 h; omega
            by_cases hs0 : s = 0
            · by_cases hn0 : n = 0
              · omega
              · have := ha (by omega); omega
            · have h3 := hb (s - 1) (by omega) (by omega)
              by_cases hsn : s < n
              · have := ha hsn; omega
              · omega
          have hre : rest Z n k = (List.range (n - s)).map (· + s) := rest_end HN.out hs hsk
          clear hsk
          obtain ⟨g', cp', ev, _, hl, hc, _⟩ := V62.out.cells
          cases ev
          have hc1 := from_impl k g 0 n cp Z (by omega) wr hl hc
          rw [hre] at hc1
          clear hl hc
          go_wp2_with fail
          refine hc1.mono ?_
          rintro e w6 ⟨r1, rfl, hw6, hb6⟩
          clear hc1
          have B64 : Hid (Below w.heap.size w w6) := bthen B61.out hb6
          have V64 : Hid (W8 w6 w.heap.size (.slice (some ⟨g, 0, none⟩) n cp) n Z) := V62.out.below hb6
          have M64 : Hid (Bk w6 w1.heap.size [.int .i64 c, .int .i64 d]) := M63.out.below hb6
          clear B61 V62 M63
          clear hb6
          have hr6 : Ro8 w6 r1 (n - s) (fun i j => Z (i + s) j) := by
            have := hw6.ro
            rw [end_len] at this
            exact this.same (fun i j hi hj => by rw [end_at hi])
          obtain ⟨a1, c1, rfl⟩ := hr6.form
          clear hw6
          have R65 : Hid (Ro8 w6 (.slice a1 (n - s) c1) (n - s) (fun i j => Z (i + s) j)) := hr6
          clear hr6
          have q1 : IntKind.wrap .i64 ((n : Int) - ((n - s : Nat) : Int)) = (s : Int) := by rw [show (n : Int) - ((n - s : Nat) : Int) = (s : Int) by omega]; simp [IntKind.wrap, IntKind.bits, IntKind.signed]; omega
          obtain ⟨g', cp', ev, _, hl, hc, _⟩ := V64.out.cells
          cases ev
          have hc1 := from_spec k g 0 n cp Z (by omega) w6 hl hc
          rw [hre] at hc1
          clear hl hc
          go_wp2_with fail
          refine hc1.mono ?_
          rintro e w7 ⟨r2, rfl, hw7, hb7⟩
          clear hc1
          have B66 : Hid (Below w.heap.size w w7) := bthen B64.out hb7
          have V66 : Hid (W8 w7 w.heap.size (.slice (some ⟨g, 0, none⟩) n cp) n Z) := V64.out.below hb7
          have M66 : Hid (Bk w7 w1.heap.size [.int .i64 c, .int .i64 d]) := M64.out.below hb7
          have R66 : Hid (Ro8 w7 (.slice a1 (n - s) c1) (n - s) (fun i j => Z (i + s) j)) := R65.out.below hb7
          clear B64 V64 M64 R65
          clear hb7
          have hr7 : Ro8 w7 r2 (n - s) (fun i j => Z (i + s) j) := by
            have := hw7.ro
            rw [end_len] at this
            exact this.same (fun i j hi hj => by rw [end_at hi])
          clear hw7
          go_wp2_with fail
          refine (ma8 R66.out hr7 (by omega)).mono ?_
          rintro e w8 ⟨rfl, hb8⟩
          clear hr7
          have B67 : Hid (Below w.heap.size w w8) := bthen B66.out hb8
          have V67 : Hid (W8 w8 w.heap.size (.slice (some ⟨g, 0, none⟩) n cp) n Z) := V66.out.below hb8
          have M67 : Hid (Bk w8 w1.heap.size [.int .i64 c, .int .i64 d]) := M66.out.below hb8
          have R67 : Hid (Ro8 w8 (.slice a1 (n - s) c1) (n - s) (fun i j => Z (i + s) j)) := R66.out.below hb8
          clear B66 V66 M66 R66
          clear hb8
          have hsi : ¬ ((s : Int) < 0) := by omega
          have hsn : (s : Int) ≤ (n : Int) := by omega
          have hcap : n ≤ cp := V67.out.cap
          have q2 : IntKind.wrap .i64 (nx - k) = nx - k := by simp [IntKind.wrap, IntKind.bits, IntKind.signed]; omega
          have q3 : IntKind.wrap .i64 (k + 1) = k + 1 := by simp [IntKind.wrap, IntKind.bits, IntKind.signed]; omega
          clear hre
          by_cases hcs : cp = s
          · obtain rfl : s = cp := hcs.symm
            have hz0 : n - s = 0 := by omega
            have HZ0 : Hid (n - s = 0) := hz0
            clear hz0 hcap
            go_wp2_with fail
            refine (ma8 R67.out (.inl ⟨HZ0.out, _, _, by rw [HZ0.out]⟩) (by omega)).mono ?_
            rintro e w9 ⟨rfl, hb9⟩
            have B68 : Hid (Below w.heap.size w w9) := bthen B67.out hb9
            have V68 : Hid (W8 w9 w.heap.size (.slice (some ⟨g, 0, none⟩) n s) n Z) := V67.out.below hb9
            have M68 : Hid (Bk w9 w1.heap.size [.int .i64 c, .int .i64 d]) := M67.out.below hb9
            have R68 : Hid (Ro8 w9 (.slice a1 (n - s) c1) (n - s) (fun i j => Z (i + s) j)) := R67.out.below hb9
            clear B67 V67 M67 R67
            clear hb9
            have yM0 : w9.cell? ⟨w1.heap.size, 0, none⟩ = some (.int .i64 c) := (M68.out.2 0 (by simp)).1
            have yM1 : w9.cell? ⟨w1.heap.size, 1, none⟩ = some (.int .i64 d) := (M68.out.2 1 (by simp)).1
            have hlM : w1.heap.size < w9.heap.size := M68.out.1
            go_wp2_with fail
            refine (plist8 R68.out (by omega) (listP_end HP.out hs)).mono ?_
            rintro e w10 ⟨rfl, hb10⟩
            clear yM0 yM1 hlM
            have B69 : Hid (Below w.heap.size w w10) := bthen B68.out hb10
            have V69 : Hid (W8 w10 w.heap.size (.slice (some ⟨g, 0, none⟩) n s) n Z) := V68.out.below hb10
            have M69 : Hid (Bk w10 w1.heap.size [.int .i64 c, .int .i64 d]) := M68.out.below hb10
            have R69 : Hid (Ro8 w10 (.slice a1 (n - s) c1) (n - s) (fun i j => Z (i + s) j)) := R68.out.below hb10
            clear B68 V68 M68 R68
            clear hb10
            by_cases hA : nx - n ≤ k
            · by_cases hB : k ≤ nx
              · have hq : (((n - s : Nat) : Int) == nx - k) = true := by have := hks hA hB; simp; omega
                go_wp2
                go_roundw
                case rel => exact ⟨k + 1, by first | rfl | go_num, by omega, by omega, B69.out, V69.out, M69.out⟩
                case measure => simp [intOf]; omega
              · have hB2 : nx < k := by omega
                go_wp2
                go_roundw
                case rel => exact ⟨k + 1, by first | rfl | go_num, by omega, by omega, B69.out, V69.out, M69.out⟩
                case measure => simp [intOf]; omega
            · have hA2 : k < nx - n := by omega
              go_wp2
              go_roundw
              case rel => exact ⟨k + 1, by first | rfl | go_num, by omega, by omega, B69.out, V69.out, M69.out⟩
              case measure => simp [intOf]; omega
          · have hr : Ro8 w8 (.slice (some ⟨g, s * 8, none⟩) (n - s) (cp - s)) (n - s) (fun i j => Z (i + s) j) := by
              obtain ⟨g', cp', ev, _, hl, hc, _⟩ := V67.out.cells
              cases ev
              refine .inr ⟨g, s * 8, cp - s, rfl, hl, fun i j hi hj => ?_⟩
              have := hc (i + s) j (by omega) hj
              rw [show s * 8 + i * 8 + j = 0 + (i + s) * 8 + j by omega]
              exact this
            have HR8 : Hid (Ro8 w8 (.slice (some ⟨g, s * 8, none⟩) (n - s) (cp - s)) (n - s) (fun i j => Z (i + s) j)) := hr
            clear hr
            go_wp2_with fail
            refine (ma8 R67.out HR8.out (by omega)).mono ?_
            rintro e w9 ⟨rfl, hb9⟩
            have B68 : Hid (Below w.heap.size w w9) := bthen B67.out hb9
            have V68 : Hid (W8 w9 w.heap.size (.slice (some ⟨g, 0, none⟩) n cp) n Z) := V67.out.below hb9
            have M68 : Hid (Bk w9 w1.heap.size [.int .i64 c, .int .i64 d]) := M67.out.below hb9
            have R68 : Hid (Ro8 w9 (.slice a1 (n - s) c1) (n - s) (fun i j => Z (i + s) j)) := R67.out.below hb9
            clear B67 V67 M67 R67
            clear hb9
            have yM0 : w9.cell? ⟨w1.heap.size, 0, none⟩ = some (.int .i64 c) := (M68.out.2 0 (by simp)).1
            have yM1 : w9.cell? ⟨w1.heap.size, 1, none⟩ = some (.int .i64 d) := (M68.out.2 1 (by simp)).1
            have hlM : w1.heap.size < w9.heap.size := M68.out.1
            go_wp2_with fail
            refine (plist8 R68.out (by omega) (listP_end HP.out hs)).mono ?_
            rintro e w10 ⟨rfl, hb10⟩
            clear yM0 yM1 hlM
            have B69 : Hid (Below w.heap.size w w10) := bthen B68.out hb10
            have V69 : Hid (W8 w10 w.heap.size (.slice (some ⟨g, 0, none⟩) n cp) n Z) := V68.out.below hb10
            have M69 : Hid (Bk w10 w1.heap.size [.int .i64 c, .int .i64 d]) := M68.out.below hb10
            have R69 : Hid (Ro8 w10 (.slice a1 (n - s) c1) (n - s) (fun i j => Z (i + s) j)) := R68.out.below hb10
            clear B68 V68 M68 R68
            clear hb10
            by_cases hA : nx - n ≤ k
            · by_cases hB : k ≤ nx
              · have hq : (((n - s : Nat) : Int) == nx - k) = true := by have := hks hA hB; simp; omega
                go_wp2
                go_roundw
                case rel => exact ⟨k + 1, by first | rfl | go_num, by omega, by omega, B69.out, V69.out, M69.out⟩
                case measure => simp [intOf]; omega
              · have hB2 : nx < k := by omega
                go_wp2
                go_roundw
                case rel => exact ⟨k + 1, by first | rfl | go_num, by omega, by omega, B69.out, V69.out, M69.out⟩
                case measure => simp [intOf]; omega
            · have hA2 : k < nx - n := by omega
              go_wp2
              go_roundw
              case rel => exact ⟨k + 1, by first | rfl | go_num, by omega, by omega, B69.out, V69.out, M69.out⟩
              case measure => simp [intOf]; omega
        · have hk3 : k = nx + 2 := by omega
          subst hk3
          go_wp2
          go_ret
          exact ⟨rfl, B61.out⟩
end Go.Proofs.Ytkobiniogigloaa
