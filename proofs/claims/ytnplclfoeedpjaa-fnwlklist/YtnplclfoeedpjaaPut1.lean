/- Where a walker is put: the first place whose number is greater, found by the library's IndexFunc with the program's own closure; conditions: the list is the call's own. -/
import Derived.Test.YtnplclfoeedpjaaOutLaw
namespace Go.Proofs.Ytnplclfoeedpjaa
open Go.RowKit Go.Deep Go.Maps
set_option linter.unusedVariables false

/-- Where the n-th of Z belongs among L. -/
def spot (Z : Nat → Nat → Int) (n : Nat) (L : List Nat) : Nat := L.findIdx (fun k => decide (Z n 0 < Z k 0))
/-- L with n put there. -/
def putAt (Z : Nat → Nat → Int) (n : Nat) (L : List Nat) : List Nat := L.take (spot Z n L) ++ n :: L.drop (spot Z n L)
/-- The walkers of Z's first n with the n-th one put among them. -/
def putL (Z : Nat → Nat → Int) (n : Nat) : List Nat := putAt Z n (rest Z n (Z n 0))

/-- What IndexFunc answers. -/
def spotInt (Z : Nat → Nat → Int) (n : Nat) (L : List Nat) : Int := if spot Z n L < L.length then (spot Z n L : Int) else -1
theorem spot_le (Z : Nat → Nat → Int) (n : Nat) (L : List Nat) : spot Z n L ≤ L.length := List.findIdx_le_length
theorem spot_lt {Z : Nat → Nat → Int} {n : Nat} {L : List Nat} {k : Nat} (h : k < spot Z n L) : ¬ Z n 0 < Z L[k]! 0 := by
  have h2 := List.not_of_lt_findIdx h
  have hk : k < L.length := Nat.lt_of_lt_of_le h (spot_le Z n L)
  rw [getElem!_pos L k hk]
  simpa using h2
theorem spot_at {Z : Nat → Nat → Int} {n : Nat} {L : List Nat} (h : spot Z n L < L.length) : Z n 0 < Z L[spot Z n L]! 0 := by
  have h2 := List.findIdx_getElem (p := fun k => decide (Z n 0 < Z k 0)) (xs := L) (w := h)
  rw [getElem!_pos L (spot Z n L) h]
  exact of_decide_eq_true h2
theorem putAt_len (Z : Nat → Nat → Int) (n : Nat) (L : List Nat) : (putAt Z n L).length = L.length + 1 := by
  have := spot_le Z n L
  unfold putAt
  simp
  omega

theorem closure27 (x0 x1 x2 x3 x4 y : Int) (bx : Nat) (w : World) (hb : bx < w.heap.size) (hc : w.cell? ⟨bx, 0, none⟩ = some (.int .i64 y)) :
    Calls Try.prog 14 #[.agg #[.int .i64 x0, .int .i64 x1, .int .i64 x2, .int .i64 x3, .int .i64 x4], .pointer (some ⟨bx, 0, none⟩)] w fun e w' => e = .returned (.bool (decide (y < x0))) ∧ Below w.heap.size w w' := by
  have hc' : ∀ o, (w.alloc o).cell? ⟨bx, 0, none⟩ = some (.int .i64 y) := fun o => (((Below.refl _ w).alloc (Nat.le_refl _) o).cell (p := ⟨bx, 0, none⟩) hb).trans hc
  go_enter Try.func14, Try.ntmps14
  go_wp2
  go_ret
  exact ⟨by simp, (Below.refl _ _).alloc (by simp) _⟩

set_option maxRecDepth 20000 in
set_option maxHeartbeats 1000000 in
theorem indexFunc (n : Nat) (L : List Nat) (Z : Nat → Nat → Int) (base g cap bx : Nat) (hL : L.length ≤ 1048576) (w : World) (hbx : bx < w.heap.size) (hcx : w.cell? ⟨bx, 0, none⟩ = some (.int .i64 (Z n 0)))
    (h : Walks w base (.slice (some ⟨g, 0, none⟩) L.length cap) L Z) :
    Calls Try.prog 13 #[.slice (some ⟨g, 0, none⟩) L.length cap, .func (.func 14) #[] #[.pointer (some ⟨bx, 0, none⟩)]] w fun e w' => e = .returned (.int .i64 (spotInt Z n L)) ∧ Below w.heap.size w w' := by
  obtain ⟨g', c', e, hbg, hgl, hown⟩ := h.own
  cases e
  have HR : Hid (∀ k j, k < L.length → j < 5 → w.cell? ⟨g, k * 5 + j, none⟩ = some (.int .i64 (Z L[k]! j))) := fun k j hk hj => hown.2 k j hk hj
  clear h hown hbg
  have HS : Hid (spot Z n L ≤ L.length) := spot_le Z n L
  have HI1 : Hid (spot Z n L < L.length → spotInt Z n L = (spot Z n L : Int)) := fun h => if_pos h
  have HI2 : Hid (¬ spot Z n L < L.length → spotInt Z n L = -1) := fun h => if_neg h
  generalize hN : L.length = N at *
  go_enter Try.func13, Try.ntmps13
  go_wp2
  go_loopw [8] (fun i wr => ∃ k : Nat, k ≤ N ∧ k ≤ spot Z n L ∧ .int .i64 k = i ∧ w.heap.size ≤ wr.heap.size ∧ Below w.heap.size w wr) (fun i _ => N - (intOf i).toNat)
  case atStart => exact ⟨0, Nat.zero_le _, Nat.zero_le _, rfl, Nat.le_refl _, Below.refl _ _⟩
  case round =>
    obtain ⟨k, hk, hks, rfl, hsz, hbel⟩ := hrel
    have HKS : Hid (k ≤ spot Z n L) := hks
    clear hks
    by_cases hkn : k < N
    · have hkn' : (k : Int) < (N : Int) := by omega
      obtain ⟨p, hp⟩ : ∃ p, L[k]! = p := ⟨_, rfl⟩
      have HP1 : Hid (k = spot Z n L → Z n 0 < Z p 0) := fun e => by rw [← hp, e]; exact spot_at (by rw [hN, ← e]; exact hkn)
      have HP2 : Hid (k < spot Z n L → ¬ Z n 0 < Z p 0) := fun e => by rw [← hp]; exact spot_lt e
      have c0 : wr.cell? ⟨g, k * 5, none⟩ = some (.int .i64 (Z p 0)) := (hbel.cell (by exact hgl)).trans (by rw [← hp]; exact HR.out k 0 hkn (by omega))
      have c1 : wr.cell? ⟨g, k * 5 + 1, none⟩ = some (.int .i64 (Z p 1)) := (hbel.cell (by exact hgl)).trans (by rw [← hp]; exact HR.out k 1 hkn (by omega))
      have c2 : wr.cell? ⟨g, k * 5 + 2, none⟩ = some (.int .i64 (Z p 2)) := (hbel.cell (by exact hgl)).trans (by rw [← hp]; exact HR.out k 2 hkn (by omega))
      have c3 : wr.cell? ⟨g, k * 5 + 3, none⟩ = some (.int .i64 (Z p 3)) := (hbel.cell (by exact hgl)).trans (by rw [← hp]; exact HR.out k 3 hkn (by omega))
      have c4 : wr.cell? ⟨g, k * 5 + 4, none⟩ = some (.int .i64 (Z p 4)) := (hbel.cell (by exact hgl)).trans (by rw [← hp]; exact HR.out k 4 hkn (by omega))
      clear hp
      have hcx' : wr.cell? ⟨bx, 0, none⟩ = some (.int .i64 (Z n 0)) := (hbel.cell (by exact hbx)).trans hcx
      go_wp2_with fail
      refine (closure27 _ _ _ _ _ (Z n 0) bx _ (by omega) hcx').mono ?_
      rintro e w1 ⟨rfl, hb1⟩
      have hb2 : Below w.heap.size w w1 := hbel.trans (hb1.mono hsz)
      have hs2 : w.heap.size ≤ w1.heap.size := Nat.le_trans hsz hb1.size
      by_cases hq : k = spot Z n L
      · have hd : decide (Z n 0 < Z p 0) = true := decide_eq_true (HP1.out hq)
        rw [hd]
        have HP : Hid (k = spot Z n L) := hq
        clear hq hd hb1 hbel hcx' c0 c1 c2 c3 c4
        go_wp2
        go_ret
        exact ⟨by rw [HI1.out (by rw [← HP.out]; exact hkn), ← HP.out]; rfl, hb2⟩
      · have hlt : k < spot Z n L := by have := HKS.out; omega
        have hd : decide (Z n 0 < Z p 0) = false := decide_eq_false (by have := HP2.out hlt; omega)
        rw [hd]
        have HLT : Hid (k < spot Z n L) := hlt
        clear hq hd hb1 hbel hcx' c0 c1 c2 c3 c4 hlt
        go_wp2
        go_roundw
        case rel => exact ⟨k + 1, by omega, HLT.out, by go_num, hs2, hb2⟩
        case measure => simp [intOf]; omega
    · have hkn' : k = N := by omega
      subst hkn'
      go_wp2
      go_ret
      exact ⟨by rw [HI2.out (by have := HKS.out; omega)]; rfl, hbel⟩
end Go.Proofs.Ytnplclfoeedpjaa
