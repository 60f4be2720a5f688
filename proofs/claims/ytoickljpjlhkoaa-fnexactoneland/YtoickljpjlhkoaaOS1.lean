/- OneOk of the model; conditions: those typed. -/
import Derived.Test.YtoickljpjlhkoaaOP
namespace Go.Proofs.Ytoickljpjlhkoaa
open Go.RowKit Go.Deep
set_option linter.unusedVariables false


/-- What the model asks of the coins of one cell. -/
def purB (G : Nat → Int) (N : Nat → Nat) (A : Nat → Nat → Int) (k : Nat) : Bool := inB (G k) 0 900 && (((N k : Int) == 2) && (inB (A k 0) 0 100000 && inB (A k 1) 0 100000))
theorem cnt2 (X : Nat → Int) (n : Nat) (m : Int) : cntB X n 2 m = (((n : Int) == 2) && (inB (X 0) 0 m && inB (X 1) 0 m)) := by
  unfold cntB
  by_cases h : n = 2
  · subst h; simp [allIn]
  · have h1 : ((n : Int) == 2) = false := beq_eq_false_iff_ne.2 (by omega)
    rw [h1]; simp
theorem pur_all {c : Int} {nG nA : Nat} {G : Nat → Int} {N : Nat → Nat} {A : Nat → Nat → Int} (hG : (nG : Int) = c) (hA : (nA : Int) = c) (h : ∀ k, k < nA → purB G N A k = true) : (cntB G nG c 900 && (airB N A nA && ((nA : Int) == c))) = true := by
  have e : nG = nA := by omega
  have a1 : allIn G 900 nG = true := allIn_of fun k hk => by
    have := h k (by omega)
    simp only [purB, Bool.and_eq_true] at this
    exact this.1
  have a2 : airB N A nA = true := airB_of fun k hk => by
    have := h k hk
    rw [cnt2]
    simp only [purB, Bool.and_eq_true] at this ⊢
    exact this.2
  simp [cntB, a1, a2, hG, hA]
theorem pur_one {c : Int} {nG nA k : Nat} {G : Nat → Int} {N : Nat → Nat} {A : Nat → Nat → Int} (hG : (nG : Int) = c) (hA : (nA : Int) = c) (hk : k < nA) (h : purB G N A k = false) : (cntB G nG c 900 && (airB N A nA && ((nA : Int) == c))) = false := by
  unfold purB at h
  cases h1 : inB (G k) 0 900
  · rw [cntB, allIn_stop (show k < nG by omega) h1]; rfl
  · rw [h1, Bool.true_and, ← cnt2] at h
    rw [airB_stop hk h]; simp

set_option maxHeartbeats 4000000 in
theorem purses_spec (v : Value) (V : OV) (c0 : 2 ≤ V.c) (c1 : V.c ≤ 4) (w : World) (h : OneAt w v V) :
    Calls Try.prog 24 #[v] w fun e w' => e = .returned (.bool (cntB V.G V.nG V.c 900 && (airB V.N V.A V.nA && ((V.nA : Int) == V.c)))) ∧ Below w.heap.size w w' := by
  obtain ⟨aW, kW, aG, kG, aA, kA, rfl, rW, rG, rA⟩ := h
  obtain ⟨c, d, nW, Z, nG, G, nA, N, O⟩ := V
  simp only at rG rA c0 c1
  have HG : Hid (Row1 w aG nG G) := rG
  have HA : Hid (RowO w aA nA N O) := rA
  clear rW rG rA
  simp only
  by_cases hG : (nG : Int) = c
  · by_cases hA : (nA : Int) = c
    · have HHG : Hid ((nG : Int) = c) := hG
      have HHA : Hid ((nA : Int) = c) := hA
      have g1 : ((nG : Int) != c) = false := by simp [hG]
      have g2 : ((nA : Int) != c) = false := by simp [hA]
      clear hG hA
      go_enter Try.func24, Try.ntmps24
      go_wp2_with fail
      obtain ⟨w0, e0⟩ : ∃ w0, w0 = w.alloc (.cells #[.int .i64 c, .int .i64 d, .slice aW nW kW, .slice aG nG kG, .slice aA nA kA] 34) := ⟨_, rfl⟩
      have B1 : Hid (Below w.heap.size w w0) := by rw [e0]; exact (Below.refl _ _).alloc (by simp) _
      have A2 : Hid (Bk w0 w.heap.size [.int .i64 c, .int .i64 d, .slice aW nW kW, .slice aG nG kG, .slice aA nA kA]) := by rw [e0]; exact bk_new w 34 [.int .i64 c, .int .i64 d, .slice aW nW kW, .slice aG nG kG, .slice aA nA kA]
      rw [← e0]
      clear e0
      go_loopw [3] (fun i wr => ∃ k : Nat, k ≤ nA ∧ i = .int .i64 k ∧ (∀ j, j < k → purB G N O j = true) ∧ w0 = wr) (fun i _ => nA - (intOf i).toNat)
      case atStart => exact ⟨0, Nat.zero_le _, rfl, fun _ h => absurd h (by omega), rfl⟩
      case round =>
        obtain ⟨k, hk, rfl, hall, rfl⟩ := hrel
        have HL : Hid (∀ j, j < k → purB G N O j = true) := hall
        clear hall g1 g2
        by_cases hkn : k < nA
        · have hkc : (k : Int) < c := by have := HHA.out; omega
          have hkG : (k : Int) < nG := by have := HHG.out; omega
          have hkA : (k : Int) < nA := by omega
          obtain ⟨b1, o1, rfl, hb1, hr1⟩ : ∃ b o, aA = some ⟨b, o, none⟩ ∧ b < w.heap.size ∧ ∀ k, k < nA → ∃ x c, w.cell? ⟨b, o + k, none⟩ = some (.slice x (N k) c) ∧ Row1 w x (N k) (O k) := by
            rcases HA.out with h | h
            · omega
            · exact h
          obtain ⟨b2, o2, rfl, hb2, hr2⟩ : ∃ b o, aG = some ⟨b, o, none⟩ ∧ b < w.heap.size ∧ ∀ k, k < nG → w.cell? ⟨b, o + k, none⟩ = some (.int .i64 (G k)) := by
            rcases HG.out with h | h
            · omega
            · exact h
          obtain ⟨xa, xc, hc, hx⟩ := hr1 k hkn
          have hc1 : w0.cell? ⟨b1, o1 + k, none⟩ = some (.slice xa (N k) xc) := (B1.out.cell (p := ⟨b1, o1 + k, none⟩) hb1).trans hc
          have hc2 : w0.cell? ⟨b2, o2 + k, none⟩ = some (.int .i64 (G k)) := (B1.out.cell (p := ⟨b2, o2 + k, none⟩) hb2).trans (hr2 k (by omega))
          have HX : Hid (Row1 w0 xa (N k) (O k)) := row1_keep hx (keepS ⟨fun _ _ _ => rfl, Nat.le_refl _⟩ B1.out)
          clear hr1 hr2 hc hx
          have yA0 : w0.cell? ⟨w.heap.size, 0, none⟩ = some (.int .i64 c) := (A2.out.2 0 (by simp)).1
          have yA1 : w0.cell? ⟨w.heap.size, 1, none⟩ = some (.int .i64 d) := (A2.out.2 1 (by simp)).1
          have yA2 : w0.cell? ⟨w.heap.size, 2, none⟩ = some (.slice aW nW kW) := (A2.out.2 2 (by simp)).1
          have yA3 : w0.cell? ⟨w.heap.size, 3, none⟩ = some (.slice (some ⟨b2, o2, none⟩) nG kG) := (A2.out.2 3 (by simp)).1
          have yA4 : w0.cell? ⟨w.heap.size, 4, none⟩ = some (.slice (some ⟨b1, o1, none⟩) nA kA) := (A2.out.2 4 (by simp)).1
          have hlA : w.heap.size < w0.heap.size := A2.out.1
          go_wp2_with fail
          refine (in_spec _ _ _ _).mono ?_
          rintro e w1 ⟨rfl, e1⟩
          obtain rfl := e1.symm
          cases q1 : inB (G k) 0 900
          · go_wp2
            go_ret
            exact ⟨by rw [pur_one HHG.out HHA.out hkn (by simp [purB, q1])] <;> rfl, B1.out⟩
          by_cases hN : N k = 2
          · generalize hnk : N k = nk at *
            subst hN
            obtain ⟨b3, o3, rfl, hb3, hr3⟩ : ∃ b o, xa = some ⟨b, o, none⟩ ∧ b < w0.heap.size ∧ ∀ j, j < 2 → w0.cell? ⟨b, o + j, none⟩ = some (.int .i64 (O k j)) := by
              rcases HX.out with h | h
              · omega
              · exact h
            have y0 : w0.cell? ⟨b3, o3, none⟩ = some (.int .i64 (O k 0)) := hr3 0 (by omega)
            have y1 : w0.cell? ⟨b3, o3 + 1, none⟩ = some (.int .i64 (O k 1)) := hr3 1 (by omega)
            have HNK : Hid (N k = 2) := hnk
            clear hr3 hnk
            go_wp2_with fail
            refine (in_spec _ _ _ _).mono ?_
            rintro e w1 ⟨rfl, e1⟩
            obtain rfl := e1.symm
            cases q2 : inB (O k 0) 0 100000
            · go_wp2
              go_ret
              exact ⟨by rw [pur_one HHG.out HHA.out hkn (by simp [purB, HNK.out, q2])] <;> rfl, B1.out⟩
            go_wp2_with fail
            refine (in_spec _ _ _ _).mono ?_
            rintro e w1 ⟨rfl, e1⟩
            obtain rfl := e1.symm
            cases q3 : inB (O k 1) 0 100000
            · go_wp2
              go_ret
              exact ⟨by rw [pur_one HHG.out HHA.out hkn (by simp [purB, HNK.out, q3])] <;> rfl, B1.out⟩
            go_wp2
            go_roundw
            case rel => exact ⟨k + 1, by omega, by go_num, fun j hj => by
              by_cases hjk : j = k
              · subst hjk; simp [purB, q1, HNK.out, q2, q3]
              · exact HL.out j (by omega), by trivial⟩
            case measure => simp [intOf]; omega
          · have hN' : ((N k : Int) == 2) = false := beq_eq_false_iff_ne.2 (by omega)
            have hN2 : ¬ (N k : Int) = 2 := by omega
            go_wp2
            go_ret
            exact ⟨by rw [pur_one HHG.out HHA.out hkn (by unfold purB; rw [hN']; simp)] <;> rfl, B1.out⟩
        · have : k = nA := by omega
          have hkc : ¬ (k : Int) < c := by have := HHA.out; omega
          have yA0 : w0.cell? ⟨w.heap.size, 0, none⟩ = some (.int .i64 c) := (A2.out.2 0 (by simp)).1
          have yA1 : w0.cell? ⟨w.heap.size, 1, none⟩ = some (.int .i64 d) := (A2.out.2 1 (by simp)).1
          have yA2 : w0.cell? ⟨w.heap.size, 2, none⟩ = some (.slice aW nW kW) := (A2.out.2 2 (by simp)).1
          have yA3 : w0.cell? ⟨w.heap.size, 3, none⟩ = some (.slice aG nG kG) := (A2.out.2 3 (by simp)).1
          have yA4 : w0.cell? ⟨w.heap.size, 4, none⟩ = some (.slice aA nA kA) := (A2.out.2 4 (by simp)).1
          have hlA : w.heap.size < w0.heap.size := A2.out.1
          go_wp2
          go_ret
          exact ⟨by rw [pur_all HHG.out HHA.out (fun j hj => HL.out j (by omega))] <;> rfl, B1.out⟩
    · have g1 : ((nG : Int) != c) = false := by simp [hG]
      have g2 : ((nA : Int) == c) = false := beq_eq_false_iff_ne.2 hA
      have g3 : ((nA : Int) != c) = true := by simp [hA]
      have hv : (cntB G nG c 900 && (airB N O nA && ((nA : Int) == c))) = false := by rw [g2]; simp
      rw [hv]
      clear hG hA hv g2
      go_enter Try.func24, Try.ntmps24
      go_wp2
      go_ret
      exact ⟨rfl, (Below.refl _ _).alloc (by simp) _⟩
  · have g1 : ((nG : Int) == c) = false := beq_eq_false_iff_ne.2 hG
    have g3 : ((nG : Int) != c) = true := by simp [hG]
    have hv : (cntB G nG c 900 && (airB N O nA && ((nA : Int) == c))) = false := by rw [cntB, g1]; simp
    rw [hv]
    clear hG hv g1
    go_enter Try.func24, Try.ntmps24
    go_wp2
    go_ret
    exact ⟨rfl, (Below.refl _ _).alloc (by simp) _⟩
end Go.Proofs.Ytoickljpjlhkoaa
