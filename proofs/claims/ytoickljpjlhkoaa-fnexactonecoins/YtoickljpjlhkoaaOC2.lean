/- OneCoins of the model; conditions: those typed. -/
import Derived.Test.YtoickljpjlhkoaaOC1
import Derived.Test.YtoickljpjlhkoaaOS2
namespace Go.Proofs.Ytoickljpjlhkoaa
open Go.RowKit Go.Deep
set_option linter.unusedVariables false


theorem coins_both {n : Nat} {G : Nat → Int} {N : Nat → Nat} {A : Nat → Nat → Int} (h : ∀ k, k < n → N k = 2) : sumX (fun k => G k + (A k 0 + A k 1)) n = sumX G n + sumX (fun k => sumX (A k) (N k)) n := by
  rw [sumX_add]
  have : sumX (fun k => A k 0 + A k 1) n = sumX (fun k => sumX (A k) (N k)) n := sumX_eq fun k hk => by
    rw [h k hk]; simp [sumX]
  rw [this]

set_option maxHeartbeats 4000000 in
theorem oneCoins_spec (v : Value) (V : OV) (hs : V.short 1048576) (w : World) (h : OneAt w v V) :
    Calls Try.prog 18 #[v] w fun e w' => e = .returned (.int .i64 V.coins) ∧ Below w.heap.size w w' := by
  have HV : Hid (OneAt w v V) := h
  have HS : Hid (V.short 1048576) := hs
  obtain ⟨aW, kW, aG, kG, aA, kA, rfl, rW, rG, rA⟩ := h
  obtain ⟨c, d, nW, Z, nG, G, nA, N, O⟩ := V
  simp only at HV HS rW rG rA
  obtain ⟨sW, sG, sA, sN⟩ := hs
  simp only at sW sG sA
  have HW : Hid (P6.RowK w aW nW Z) := rW
  have HG : Hid (Row1 w aG nG G) := rG
  have HA : Hid (RowO w aA nA N O) := rA
  clear rW rG rA sN
  cases hok : OV.ok ⟨c, d, nW, Z, nG, G, nA, N, O⟩
  · have hv : OV.coins ⟨c, d, nW, Z, nG, G, nA, N, O⟩ = 0 := by rw [OV.coins, if_neg (by rw [hok]; simp)]
    rw [hv]
    clear hv
    go_enter Try.func18, Try.ntmps18
    go_wp2_with fail
    obtain ⟨w0, e0⟩ : ∃ w0, w0 = w.alloc (.cells #[.int .i64 c, .int .i64 d, .slice aW nW kW, .slice aG nG kG, .slice aA nA kA] 34) := ⟨_, rfl⟩
    have B1 : Hid (Below w.heap.size w w0) := by rw [e0]; exact (Below.refl _ _).alloc (by simp) _
    have A2 : Hid (Bk w0 w.heap.size [.int .i64 c, .int .i64 d, .slice aW nW kW, .slice aG nG kG, .slice aA nA kA]) := by rw [e0]; exact bk_new w 34 [.int .i64 c, .int .i64 d, .slice aW nW kW, .slice aG nG kG, .slice aA nA kA]
    rw [← e0]
    clear e0
    refine (oneOk_spec _ ⟨c, d, nW, Z, nG, G, nA, N, O⟩ HS.out _ (oneAt_below HV.out B1.out)).mono ?_
    rintro e w1 ⟨rfl, hb1⟩
    have B3 : Hid (Below w.heap.size w w1) := bthen B1.out hb1
    have A3 : Hid (Bk w1 w.heap.size [.int .i64 c, .int .i64 d, .slice aW nW kW, .slice aG nG kG, .slice aA nA kA]) := A2.out.below hb1
    clear B1 A2
    clear hb1
    rw [hok]
    have yA0 : w1.cell? ⟨w.heap.size, 0, none⟩ = some (.int .i64 c) := (A3.out.2 0 (by simp)).1
    have yA1 : w1.cell? ⟨w.heap.size, 1, none⟩ = some (.int .i64 d) := (A3.out.2 1 (by simp)).1
    have yA2 : w1.cell? ⟨w.heap.size, 2, none⟩ = some (.slice aW nW kW) := (A3.out.2 2 (by simp)).1
    have yA3 : w1.cell? ⟨w.heap.size, 3, none⟩ = some (.slice aG nG kG) := (A3.out.2 3 (by simp)).1
    have yA4 : w1.cell? ⟨w.heap.size, 4, none⟩ = some (.slice aA nA kA) := (A3.out.2 4 (by simp)).1
    have hlA : w.heap.size < w1.heap.size := A3.out.1
    go_wp2
    go_ret
    exact ⟨rfl, B3.out⟩
  have hv : OV.coins ⟨c, d, nW, Z, nG, G, nA, N, O⟩ = sumX G nG + sumX (fun k => Z k 2) nW + sumX (fun k => sumX (O k) (N k)) nA := by rw [OV.coins, if_pos hok]
  obtain ⟨⟨c0, c1, eG, eA⟩, bG, bA, bW⟩ := OV.good hok
  simp only at c0 c1 eG eA bG bA bW
  rw [hv]
  clear hv
  have BG : Hid (∀ k, k < nG → 0 ≤ G k ∧ G k ≤ 900) := bG
  have BA : Hid (∀ k, k < nA → N k = 2 ∧ ∀ j, j < 2 → 0 ≤ O k j ∧ O k j ≤ 100000) := bA
  have BZ : Hid (∀ k, k < nW → 0 ≤ Z k 2 ∧ Z k 2 ≤ 99) := bW
  have hg4 : nG ≤ 4 := by omega
  have ha4 : nA ≤ 4 := by omega
  have EG : Hid ((nG : Int) = c ∧ (nA : Int) = c) := ⟨eG, eA⟩
  clear bG bA bW eG eA
  go_enter Try.func18, Try.ntmps18
  go_wp2_with fail
  obtain ⟨w0, e0⟩ : ∃ w0, w0 = w.alloc (.cells #[.int .i64 c, .int .i64 d, .slice aW nW kW, .slice aG nG kG, .slice aA nA kA] 34) := ⟨_, rfl⟩
  have B1 : Hid (Below w.heap.size w w0) := by rw [e0]; exact (Below.refl _ _).alloc (by simp) _
  have A2 : Hid (Bk w0 w.heap.size [.int .i64 c, .int .i64 d, .slice aW nW kW, .slice aG nG kG, .slice aA nA kA]) := by rw [e0]; exact bk_new w 34 [.int .i64 c, .int .i64 d, .slice aW nW kW, .slice aG nG kG, .slice aA nA kA]
  rw [← e0]
  clear e0
  refine (oneOk_spec _ ⟨c, d, nW, Z, nG, G, nA, N, O⟩ HS.out _ (oneAt_below HV.out B1.out)).mono ?_
  rintro e w1 ⟨rfl, hb1⟩
  have B3 : Hid (Below w.heap.size w w1) := bthen B1.out hb1
  have A3 : Hid (Bk w1 w.heap.size [.int .i64 c, .int .i64 d, .slice aW nW kW, .slice aG nG kG, .slice aA nA kA]) := A2.out.below hb1
  clear B1 A2
  clear hb1
  rw [hok]
  have yA0 : w1.cell? ⟨w.heap.size, 0, none⟩ = some (.int .i64 c) := (A3.out.2 0 (by simp)).1
  have yA1 : w1.cell? ⟨w.heap.size, 1, none⟩ = some (.int .i64 d) := (A3.out.2 1 (by simp)).1
  have yA2 : w1.cell? ⟨w.heap.size, 2, none⟩ = some (.slice aW nW kW) := (A3.out.2 2 (by simp)).1
  have yA3 : w1.cell? ⟨w.heap.size, 3, none⟩ = some (.slice aG nG kG) := (A3.out.2 3 (by simp)).1
  have yA4 : w1.cell? ⟨w.heap.size, 4, none⟩ = some (.slice aA nA kA) := (A3.out.2 4 (by simp)).1
  have hlA : w.heap.size < w1.heap.size := A3.out.1
  go_wp2_with fail
  clear yA0 yA1 yA2 yA3 yA4 hlA
  go_loopw [3, 4] (fun s i wr => ∃ (k : Nat) (z : Int), k ≤ nW ∧ .int .i64 k = i ∧ .int .i64 z = s ∧ z = sumX (fun k => Z k 2) k ∧ Below w.heap.size w wr ∧ Bk wr w.heap.size [.int .i64 c, .int .i64 d, .slice aW nW kW, .slice aG nG kG, .slice aA nA kA]) (fun _ i _ => nW - (intOf i).toNat)
  case atStart => exact ⟨0, _, Nat.zero_le _, rfl, rfl, by simp [sumX], B3.out, A3.out⟩
  case round =>
    clear B3 A3
    obtain ⟨k, z, hk, rfl, rfl, hz, hbel, hbox⟩ := hrel
    have HZ1 : Hid (z = sumX (fun k => Z k 2) k) := hz
    have B4 : Hid (Below w.heap.size w wr) := hbel
    have A5 : Hid (Bk wr w.heap.size [.int .i64 c, .int .i64 d, .slice aW nW kW, .slice aG nG kG, .slice aA nA kA]) := hbox
    clear hbel hbox
    obtain ⟨y0, y1⟩ := sumX_le (n := k) (X := fun k => Z k 2) (m := 99) fun j hj => BZ.out j (by omega)
    have zb : 0 ≤ z ∧ z ≤ 900000000 := by omega
    clear hz y0 y1
    obtain ⟨z0, z1⟩ := zb
    by_cases hkn : k < nW
    · have hkn' : (k : Int) < nW := by omega
      obtain ⟨b, o, rfl, hb, hrow⟩ : ∃ b o, aW = some ⟨b, o, none⟩ ∧ b < w.heap.size ∧ ∀ k j, k < nW → j < 6 → w.cell? ⟨b, o + k * 6 + j, none⟩ = some (P6.cv j (Z k j)) := by
        rcases HW.out with h | h
        · omega
        · exact h
      have c2 : wr.cell? ⟨b, o + k * 6 + 2, none⟩ = some (.int .i64 (Z k 2)) := (B4.out.cell (by exact hb)).trans (hrow k 2 hkn (by omega))
      clear hrow
      obtain ⟨x0, x1⟩ := BZ.out k hkn
      have hw : IntKind.wrap .i64 (z + Z k 2) = z + Z k 2 := by simp [IntKind.wrap, IntKind.bits, IntKind.signed]; omega
      have yA0 : wr.cell? ⟨w.heap.size, 0, none⟩ = some (.int .i64 c) := (A5.out.2 0 (by simp)).1
      have yA1 : wr.cell? ⟨w.heap.size, 1, none⟩ = some (.int .i64 d) := (A5.out.2 1 (by simp)).1
      have yA2 : wr.cell? ⟨w.heap.size, 2, none⟩ = some (.slice (some ⟨b, o, none⟩) nW kW) := (A5.out.2 2 (by simp)).1
      have yA3 : wr.cell? ⟨w.heap.size, 3, none⟩ = some (.slice aG nG kG) := (A5.out.2 3 (by simp)).1
      have yA4 : wr.cell? ⟨w.heap.size, 4, none⟩ = some (.slice aA nA kA) := (A5.out.2 4 (by simp)).1
      have hlA : w.heap.size < wr.heap.size := A5.out.1
      go_wp2
      go_roundw
      case rel => exact ⟨k + 1, z + Z k 2, by omega, by go_num, rfl, by rw [HZ1.out]; simp only [sumX], B4.out, A5.out⟩
      case measure => simp [intOf]; omega
    · have hkk : k = nW := by omega
      subst hkk
      have yA0 : wr.cell? ⟨w.heap.size, 0, none⟩ = some (.int .i64 c) := (A5.out.2 0 (by simp)).1
      have yA1 : wr.cell? ⟨w.heap.size, 1, none⟩ = some (.int .i64 d) := (A5.out.2 1 (by simp)).1
      have yA2 : wr.cell? ⟨w.heap.size, 2, none⟩ = some (.slice aW k kW) := (A5.out.2 2 (by simp)).1
      have yA3 : wr.cell? ⟨w.heap.size, 3, none⟩ = some (.slice aG nG kG) := (A5.out.2 3 (by simp)).1
      have yA4 : wr.cell? ⟨w.heap.size, 4, none⟩ = some (.slice aA nA kA) := (A5.out.2 4 (by simp)).1
      have hlA : w.heap.size < wr.heap.size := A5.out.1
      go_wp2_with fail
      clear yA0 yA1 yA2 yA3 yA4 hlA
      go_loopw [3, 5] (fun s i wr => ∃ (k2 : Nat) (y : Int), k2 ≤ nA ∧ .int .i64 k2 = i ∧ .int .i64 y = s ∧ y = z + sumX (fun k => G k + (O k 0 + O k 1)) k2 ∧ Below w.heap.size w wr ∧ Bk wr w.heap.size [.int .i64 c, .int .i64 d, .slice aW k kW, .slice aG nG kG, .slice aA nA kA]) (fun _ i _ => nA - (intOf i).toNat)
      case atStart => exact ⟨0, _, Nat.zero_le _, rfl, rfl, by simp [sumX], B4.out, A5.out⟩
      case round =>
        clear B4 A5
        obtain ⟨k2, y, hk2, rfl, rfl, hz2, hbel, hbox⟩ := hrel
        have HZ2 : Hid (y = z + sumX (fun k => G k + (O k 0 + O k 1)) k2) := hz2
        have B6 : Hid (Below w.heap.size w wr) := hbel
        have A7 : Hid (Bk wr w.heap.size [.int .i64 c, .int .i64 d, .slice aW k kW, .slice aG nG kG, .slice aA nA kA]) := hbox
        clear hbel hbox
        obtain ⟨y0, y1⟩ := sumX_le (n := k2) (X := fun k => G k + (O k 0 + O k 1)) (m := 200900) fun j hj => by
          obtain ⟨n2, hj2⟩ := BA.out j (by omega)
          have h0 := hj2 0 (by omega)
          have h1 := hj2 1 (by omega)
          have h2 := BG.out j (by have := EG.out; omega)
          omega
        have yb : 0 ≤ y ∧ y ≤ 901000000 := by omega
        clear hz2 y0 y1
        obtain ⟨y0, y1⟩ := yb
        by_cases hkn : k2 < nA
        · have hkc : (k2 : Int) < c := by have := EG.out; omega
          have hkA : (k2 : Int) < nA := by omega
          have hkG : (k2 : Int) < nG := by have := EG.out; omega
          obtain ⟨b1, o1, rfl, hb1, hr1⟩ : ∃ b o, aA = some ⟨b, o, none⟩ ∧ b < w.heap.size ∧ ∀ k, k < nA → ∃ x c, w.cell? ⟨b, o + k, none⟩ = some (.slice x (N k) c) ∧ Row1 w x (N k) (O k) := by
            rcases HA.out with h | h
            · omega
            · exact h
          obtain ⟨b2, o2, rfl, hb2, hr2⟩ : ∃ b o, aG = some ⟨b, o, none⟩ ∧ b < w.heap.size ∧ ∀ k, k < nG → w.cell? ⟨b, o + k, none⟩ = some (.int .i64 (G k)) := by
            rcases HG.out with h | h
            · omega
            · exact h
          obtain ⟨xa, xc, hc, hx⟩ := hr1 k2 hkn
          obtain ⟨n2, hj2⟩ := BA.out k2 hkn
          rw [n2] at hc hx
          obtain ⟨b3, o3, rfl, hb3, hr3⟩ : ∃ b o, xa = some ⟨b, o, none⟩ ∧ b < w.heap.size ∧ ∀ j, j < 2 → w.cell? ⟨b, o + j, none⟩ = some (.int .i64 (O k2 j)) := by
            rcases hx with h | h
            · omega
            · exact h
          obtain ⟨p0, p1⟩ := hj2 0 (by omega)
          obtain ⟨q0, q1⟩ := hj2 1 (by omega)
          obtain ⟨r0, r1⟩ := BG.out k2 (by omega)
          have hc1 : wr.cell? ⟨b1, o1 + k2, none⟩ = some (.slice (some ⟨b3, o3, none⟩) 2 xc) := (B6.out.cell (by exact hb1)).trans hc
          have hc2 : wr.cell? ⟨b2, o2 + k2, none⟩ = some (.int .i64 (G k2)) := (B6.out.cell (by exact hb2)).trans (hr2 k2 (by omega))
          have hc3 : wr.cell? ⟨b3, o3, none⟩ = some (.int .i64 (O k2 0)) := (B6.out.cell (by exact hb3)).trans (hr3 0 (by omega))
          have hc4 : wr.cell? ⟨b3, o3 + 1, none⟩ = some (.int .i64 (O k2 1)) := (B6.out.cell (by exact hb3)).trans (hr3 1 (by omega))
          have hl1 : b1 < wr.heap.size := Nat.lt_of_lt_of_le hb1 B6.out.size
          have hl2 : b2 < wr.heap.size := Nat.lt_of_lt_of_le hb2 B6.out.size
          have hl3 : b3 < wr.heap.size := Nat.lt_of_lt_of_le hb3 B6.out.size
          have HN2 : Hid (N k2 = 2) := n2
          clear hr1 hr2 hr3 hc hx hj2 n2
          have yA0 : wr.cell? ⟨w.heap.size, 0, none⟩ = some (.int .i64 c) := (A7.out.2 0 (by simp)).1
          have yA1 : wr.cell? ⟨w.heap.size, 1, none⟩ = some (.int .i64 d) := (A7.out.2 1 (by simp)).1
          have yA2 : wr.cell? ⟨w.heap.size, 2, none⟩ = some (.slice aW k kW) := (A7.out.2 2 (by simp)).1
          have yA3 : wr.cell? ⟨w.heap.size, 3, none⟩ = some (.slice (some ⟨b2, o2, none⟩) nG kG) := (A7.out.2 3 (by simp)).1
          have yA4 : wr.cell? ⟨w.heap.size, 4, none⟩ = some (.slice (some ⟨b1, o1, none⟩) nA kA) := (A7.out.2 4 (by simp)).1
          have hlA : w.heap.size < wr.heap.size := A7.out.1
          go_wp2
          refine wp_region_held_drew (S := fun w' => (∀ b o, b < wr.heap.size → w'.cell? ⟨b, o, none⟩ = wr.cell? ⟨b, o, none⟩) ∧ wr.heap.size ≤ w'.heap.size) (by kernel_rfl) ⟨fun _ _ _ => rfl, Nat.le_refl _⟩ ?_
          intro hHeld
          refine wpAnyH_take (i := 0) (v := .int .i64 y) rfl (by kernel_rfl) (by kernel_rfl) (by kernel_rfl) (fun _ _ _ h => h) (Or.inl ⟨by rfl, ?_⟩) (by assumption) ?_
          · intro wx hSw; go_simp
          try simp only [Act.put, List.setIfInBounds_toArray, List.set_cons_zero, List.set_cons_succ, List.getElem_toArray, List.getElem_cons_zero]
          refine wpAnyH_take (i := 1) (v := .pointer (some ⟨w.heap.size, 3, none⟩)) rfl (by kernel_rfl) (by kernel_rfl) (by kernel_rfl) (fun _ _ _ h => h) (Or.inl ⟨by rfl, ?_⟩) (by assumption) ?_
          · intro wx hSw; go_simp
          try simp only [Act.put, List.setIfInBounds_toArray, List.set_cons_zero, List.set_cons_succ, List.getElem_toArray, List.getElem_cons_zero, List.getElem_cons_succ]
          refine wpAnyH_take (i := 2) (v := .slice (some ⟨b2, o2, none⟩) nG kG) rfl (by kernel_rfl) (by kernel_rfl) (by kernel_rfl) (fun _ _ _ h => h) (Or.inl ⟨by rfl, ?_⟩) (by assumption) ?_
          · intro wx hSw; go_simp
          try simp only [Act.put, List.setIfInBounds_toArray, List.set_cons_zero, List.set_cons_succ, List.getElem_toArray, List.getElem_cons_zero, List.getElem_cons_succ]
          refine wpAnyH_take (i := 3) (v := .int .i64 (k2 : Int)) rfl (by kernel_rfl) (by kernel_rfl) (by kernel_rfl) (fun _ _ _ h => h) (Or.inl ⟨by rfl, ?_⟩) (by assumption) ?_
          · intro wx hSw; go_simp
          try simp only [Act.put, List.setIfInBounds_toArray, List.set_cons_zero, List.set_cons_succ, List.getElem_toArray, List.getElem_cons_zero, List.getElem_cons_succ]
          refine wpAnyH_take (i := 4) (v := .pointer (some ⟨b2, o2 + k2, none⟩)) rfl (by kernel_rfl) (by kernel_rfl) (by kernel_rfl) (fun _ _ _ h => h) (Or.inl ⟨by rfl, ?_⟩) (by assumption) ?_
          · intro wx hSw; go_simp
          try simp only [Act.put, List.setIfInBounds_toArray, List.set_cons_zero, List.set_cons_succ, List.getElem_toArray, List.getElem_cons_zero, List.getElem_cons_succ]
          refine wpAnyH_take (i := 5) (v := .int .i64 (G k2)) rfl (by kernel_rfl) (by kernel_rfl) (by kernel_rfl) (fun _ _ _ h => h) (Or.inl ⟨by rfl, ?_⟩) (by assumption) ?_
          · intro wx hSw; go_simp
          try simp only [Act.put, List.setIfInBounds_toArray, List.set_cons_zero, List.set_cons_succ, List.getElem_toArray, List.getElem_cons_zero, List.getElem_cons_succ]
          refine wpAnyH_take (i := 6) (v := .int .i64 (y + G k2)) rfl (by kernel_rfl) (by kernel_rfl) (by kernel_rfl) (fun _ _ _ h => h) (Or.inl ⟨by rfl, ?_⟩) (by assumption) ?_
          · intro wx hSw; go_simp <;> first | omega | (exact IntWalk.i64_in _ (by omega)) | go_num
          try simp only [Act.put, List.setIfInBounds_toArray, List.set_cons_zero, List.set_cons_succ, List.getElem_toArray, List.getElem_cons_zero, List.getElem_cons_succ]
          refine wpAnyH_take (i := 7) (v := .pointer (some ⟨w.heap.size, 4, none⟩)) rfl (by kernel_rfl) (by kernel_rfl) (by kernel_rfl) (fun _ _ _ h => h) (Or.inl ⟨by rfl, ?_⟩) (by assumption) ?_
          · intro wx hSw; go_simp
          try simp only [Act.put, List.setIfInBounds_toArray, List.set_cons_zero, List.set_cons_succ, List.getElem_toArray, List.getElem_cons_zero, List.getElem_cons_succ]
          refine wpAnyH_take (i := 8) (v := .slice (some ⟨b1, o1, none⟩) nA kA) rfl (by kernel_rfl) (by kernel_rfl) (by kernel_rfl) (fun _ _ _ h => h) (Or.inl ⟨by rfl, ?_⟩) (by assumption) ?_
          · intro wx hSw; go_simp
          try simp only [Act.put, List.setIfInBounds_toArray, List.set_cons_zero, List.set_cons_succ, List.getElem_toArray, List.getElem_cons_zero, List.getElem_cons_succ]
          refine wpAnyH_take (i := 9) (v := .int .i64 (k2 : Int)) rfl (by kernel_rfl) (by kernel_rfl) (by kernel_rfl) (fun _ _ _ h => h) (Or.inl ⟨by rfl, ?_⟩) (by assumption) ?_
          · intro wx hSw; go_simp
          try simp only [Act.put, List.setIfInBounds_toArray, List.set_cons_zero, List.set_cons_succ, List.getElem_toArray, List.getElem_cons_zero, List.getElem_cons_succ]
          refine wpAnyH_take (i := 10) (v := .pointer (some ⟨b1, o1 + k2, none⟩)) rfl (by kernel_rfl) (by kernel_rfl) (by kernel_rfl) (fun _ _ _ h => h) (Or.inl ⟨by rfl, ?_⟩) (by assumption) ?_
          · intro wx hSw; go_simp
          try simp only [Act.put, List.setIfInBounds_toArray, List.set_cons_zero, List.set_cons_succ, List.getElem_toArray, List.getElem_cons_zero, List.getElem_cons_succ]
          refine wpAnyH_take (i := 11) (v := .slice (some ⟨b3, o3, none⟩) 2 xc) rfl (by kernel_rfl) (by kernel_rfl) (by kernel_rfl) (fun _ _ _ h => h) (Or.inl ⟨by rfl, ?_⟩) (by assumption) ?_
          · intro wx hSw; go_simp
          try simp only [Act.put, List.setIfInBounds_toArray, List.set_cons_zero, List.set_cons_succ, List.getElem_toArray, List.getElem_cons_zero, List.getElem_cons_succ]
          refine wpAnyH_take (i := 12) (v := .pointer (some ⟨b3, o3, none⟩)) rfl (by kernel_rfl) (by kernel_rfl) (by kernel_rfl) (fun _ _ _ h => h) (Or.inl ⟨by rfl, ?_⟩) (by assumption) ?_
          · intro wx hSw; go_simp
          try simp only [Act.put, List.setIfInBounds_toArray, List.set_cons_zero, List.set_cons_succ, List.getElem_toArray, List.getElem_cons_zero, List.getElem_cons_succ]
          refine wpAnyH_take (i := 13) (v := .int .i64 (O k2 0)) rfl (by kernel_rfl) (by kernel_rfl) (by kernel_rfl) (fun _ _ _ h => h) (Or.inl ⟨by rfl, ?_⟩) (by assumption) ?_
          · intro wx hSw; go_simp
          try simp only [Act.put, List.setIfInBounds_toArray, List.set_cons_zero, List.set_cons_succ, List.getElem_toArray, List.getElem_cons_zero, List.getElem_cons_succ]
          refine wpAnyH_take (i := 14) (v := .int .i64 (y + G k2 + O k2 0)) rfl (by kernel_rfl) (by kernel_rfl) (by kernel_rfl) (fun _ _ _ h => h) (Or.inl ⟨by rfl, ?_⟩) (by assumption) ?_
          · intro wx hSw; go_simp <;> first | omega | (exact IntWalk.i64_in _ (by omega)) | go_num
          try simp only [Act.put, List.setIfInBounds_toArray, List.set_cons_zero, List.set_cons_succ, List.getElem_toArray, List.getElem_cons_zero, List.getElem_cons_succ]
          refine wpAnyH_take (i := 15) (v := .pointer (some ⟨w.heap.size, 4, none⟩)) rfl (by kernel_rfl) (by kernel_rfl) (by kernel_rfl) (fun _ _ _ h => h) (Or.inl ⟨by rfl, ?_⟩) (by assumption) ?_
          · intro wx hSw; go_simp
          try simp only [Act.put, List.setIfInBounds_toArray, List.set_cons_zero, List.set_cons_succ, List.getElem_toArray, List.getElem_cons_zero, List.getElem_cons_succ]
          refine wpAnyH_take (i := 16) (v := .slice (some ⟨b1, o1, none⟩) nA kA) rfl (by kernel_rfl) (by kernel_rfl) (by kernel_rfl) (fun _ _ _ h => h) (Or.inl ⟨by rfl, ?_⟩) (by assumption) ?_
          · intro wx hSw; go_simp
          try simp only [Act.put, List.setIfInBounds_toArray, List.set_cons_zero, List.set_cons_succ, List.getElem_toArray, List.getElem_cons_zero, List.getElem_cons_succ]
          refine wpAnyH_take (i := 17) (v := .int .i64 (k2 : Int)) rfl (by kernel_rfl) (by kernel_rfl) (by kernel_rfl) (fun _ _ _ h => h) (Or.inl ⟨by rfl, ?_⟩) (by assumption) ?_
          · intro wx hSw; go_simp
          try simp only [Act.put, List.setIfInBounds_toArray, List.set_cons_zero, List.set_cons_succ, List.getElem_toArray, List.getElem_cons_zero, List.getElem_cons_succ]
          refine wpAnyH_take (i := 18) (v := .pointer (some ⟨b1, o1 + k2, none⟩)) rfl (by kernel_rfl) (by kernel_rfl) (by kernel_rfl) (fun _ _ _ h => h) (Or.inl ⟨by rfl, ?_⟩) (by assumption) ?_
          · intro wx hSw; go_simp
          try simp only [Act.put, List.setIfInBounds_toArray, List.set_cons_zero, List.set_cons_succ, List.getElem_toArray, List.getElem_cons_zero, List.getElem_cons_succ]
          refine wpAnyH_take (i := 19) (v := .slice (some ⟨b3, o3, none⟩) 2 xc) rfl (by kernel_rfl) (by kernel_rfl) (by kernel_rfl) (fun _ _ _ h => h) (Or.inl ⟨by rfl, ?_⟩) (by assumption) ?_
          · intro wx hSw; go_simp
          try simp only [Act.put, List.setIfInBounds_toArray, List.set_cons_zero, List.set_cons_succ, List.getElem_toArray, List.getElem_cons_zero, List.getElem_cons_succ]
          refine wpAnyH_take (i := 20) (v := .pointer (some ⟨b3, o3 + 1, none⟩)) rfl (by kernel_rfl) (by kernel_rfl) (by kernel_rfl) (fun _ _ _ h => h) (Or.inl ⟨by rfl, ?_⟩) (by assumption) ?_
          · intro wx hSw; go_simp
          try simp only [Act.put, List.setIfInBounds_toArray, List.set_cons_zero, List.set_cons_succ, List.getElem_toArray, List.getElem_cons_zero, List.getElem_cons_succ]
          refine wpAnyH_take (i := 21) (v := .int .i64 (O k2 1)) rfl (by kernel_rfl) (by kernel_rfl) (by kernel_rfl) (fun _ _ _ h => h) (Or.inl ⟨by rfl, ?_⟩) (by assumption) ?_
          · intro wx hSw; go_simp
          try simp only [Act.put, List.setIfInBounds_toArray, List.set_cons_zero, List.set_cons_succ, List.getElem_toArray, List.getElem_cons_zero, List.getElem_cons_succ]
          refine wpAnyH_take (i := 22) (v := .int .i64 (y + G k2 + O k2 0 + O k2 1)) rfl (by kernel_rfl) (by kernel_rfl) (by kernel_rfl) (fun _ _ _ h => h) (Or.inl ⟨by rfl, ?_⟩) (by assumption) ?_
          · intro wx hSw; go_simp <;> first | omega | (exact IntWalk.i64_in _ (by omega)) | go_num
          try simp only [Act.put, List.setIfInBounds_toArray, List.set_cons_zero, List.set_cons_succ, List.getElem_toArray, List.getElem_cons_zero, List.getElem_cons_succ]
          refine wpAnyH_take (i := 23) (v := .int .i64 (y + G k2 + O k2 0 + O k2 1)) rfl (by kernel_rfl) (by kernel_rfl) (by kernel_rfl) (fun _ _ _ h => h) (Or.inl ⟨by rfl, ?_⟩) (by assumption) ?_
          · intro wx hSw; go_simp
          try simp only [Act.put, List.setIfInBounds_toArray, List.set_cons_zero, List.set_cons_succ, List.getElem_toArray, List.getElem_cons_zero, List.getElem_cons_succ]
          refine wpAnyH_done (by kernel_rfl) ?_ _
          clear hHeld
          clear yA0 yA1 yA2 yA3 yA4 hlA
          clear hc1 hc2 hc3 hc4
          go_wp2
          go_roundw
          case rel => exact ⟨k2 + 1, y + G k2 + O k2 0 + O k2 1, by omega, by go_num, by simp, by rw [HZ2.out]; simp only [sumX]; omega, bthen B6.out (by repeat (first | exact Below.refl _ _ | refine bthen ?_ (by assumption) | apply Below.drew)), A7.out.below (by repeat (first | exact Below.refl _ _ | refine bthen ?_ (by assumption) | apply Below.drew))⟩
          case measure => simp [intOf]; omega
        · have hkk : k2 = nA := by omega
          have hkc : ¬ (k2 : Int) < c := by have := EG.out; omega
          have yA0 : wr.cell? ⟨w.heap.size, 0, none⟩ = some (.int .i64 c) := (A7.out.2 0 (by simp)).1
          have yA1 : wr.cell? ⟨w.heap.size, 1, none⟩ = some (.int .i64 d) := (A7.out.2 1 (by simp)).1
          have yA2 : wr.cell? ⟨w.heap.size, 2, none⟩ = some (.slice aW k kW) := (A7.out.2 2 (by simp)).1
          have yA3 : wr.cell? ⟨w.heap.size, 3, none⟩ = some (.slice aG nG kG) := (A7.out.2 3 (by simp)).1
          have yA4 : wr.cell? ⟨w.heap.size, 4, none⟩ = some (.slice aA nA kA) := (A7.out.2 4 (by simp)).1
          have hlA : w.heap.size < wr.heap.size := A7.out.1
          go_wp2
          go_ret
          exact ⟨by rw [HZ2.out, HZ1.out, hkk, coins_both (fun k hk => (BA.out k hk).1), show nG = nA by have := EG.out; omega]; show Ending.returned (.int .i64 _) = _; congr 2; omega, B6.out⟩
end Go.Proofs.Ytoickljpjlhkoaa
