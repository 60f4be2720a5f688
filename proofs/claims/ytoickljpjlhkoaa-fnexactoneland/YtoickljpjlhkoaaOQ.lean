/- OneLand: what it does, and where a walker stands; conditions: those typed. -/
import Derived.Test.YtoickljpjlhkoaaOH
namespace Go.Proofs.Ytoickljpjlhkoaa
open Go.RowKit Go.Deep
set_option linter.unusedVariables false


/-- A walker comes into its cell. -/
def OV.came (V : OV) (id : Int) : OV := { V with W := fun k j => if V.W k 0 = id ∧ j = 5 then 0 else V.W k j }
def OV.land (V : OV) (id : Int) : OV := if V.ok = true then V.came id else OV.none
theorem ownK_upd {w : World} {B n k : Nat} {Z : Nat → Nat → Int} (h : P6.OwnK w B n Z n) (hk : k < n) : P6.OwnK (w.setCell ⟨B, k * 6 + 5, none⟩ (.bool true)) B n (fun i j => if i = k ∧ j = 5 then 0 else Z i j) n := by
  refine ⟨fun i hi => ⟨?_, ?_⟩, fun i j hi hj => ?_⟩
  · by_cases hc : k * 6 + 5 = i
    · subst hc; rw [set_in (h.1 _ hi).1]; rfl
    · rw [set_out (fun e => hc e.2)]; exact (h.1 i hi).1
  · rw [set_frozen]; exact (h.1 i hi).2
  · dsimp only
    by_cases hc : i = k ∧ j = 5
    · obtain ⟨rfl, rfl⟩ := hc
      rw [if_pos ⟨rfl, rfl⟩]
      exact set_in (h.1 (i * 6 + 5) (by omega)).1
    · rw [if_neg hc, set_out (fun e => hc (by have := e.2; omega))]
      exact h.2 i j hi hj
theorem ownK_congr {w : World} {B n : Nat} {Z Y : Nat → Nat → Int} (h : P6.OwnK w B n Z n) (e : ∀ k j, k < n → j < 6 → Z k j = Y k j) : P6.OwnK w B n Y n := ⟨h.1, fun k j hk hj => by rw [← e k j hk hj]; exact h.2 k j hk hj⟩
theorem rw_congr {lo hi : Nat} {w : World} {v : Value} {n : Nat} {Z Y : Nat → Nat → Int} {g : Nat} (h : RW lo hi w v n Z g) (e : ∀ k j, k < n → j < 6 → Z k j = Y k j) : RW lo hi w v n Y g := by
  rcases h with h | ⟨c, h1, h2, h3, h4, h5⟩
  · exact .inl h
  · exact .inr ⟨c, h1, h2, h3, h4, ownK_congr h5 e⟩
/-- Numbers that rise are met once. -/
theorem allB_rise {c d : Int} {Z : Nat → Nat → Int} {n : Nat} (h : allB c d Z n = true) : ∀ i j, i < j → j < n → Z i 0 < Z j 0 := by
  intro i j
  induction j with
  | zero => intro h; omega
  | succ j ih =>
    intro hij hj
    have g := allB_at h (j + 1) hj
    simp only [goodB, Bool.and_eq_true, Bool.or_eq_true, beq_iff_eq, decide_eq_true_eq] at g
    have g2 : Z j 0 < Z (j + 1) 0 := by
      rcases g.2 with e | e
      · omega
      · exact e
    by_cases e : i = j
    · subst e; exact g2
    · have := ih (by omega) (by omega); omega

theorem same_impl (k : Nat) (Z : Nat → Nat → Int) (id : Int) (p : Nat) (w : World) (hp : p < w.heap.size) (hc : w.cell? ⟨p, 0, none⟩ = some (.int .i64 id)) :
    Calls Try.prog 60 #[.agg #[.int .i64 (Z k 0), .int .i64 (Z k 1), .int .i64 (Z k 2), .int .i64 (Z k 3), .int .i64 (Z k 4), .bool (P6.tr (Z k 5))], .pointer (some ⟨p, 0, none⟩)] w fun e w' => e = .returned (.bool (Z k 0 == id)) ∧ Below w.heap.size w w' := by
  go_enter Try.func60, Try.ntmps60
  go_wp2
  go_ret
  exact ⟨rfl, (Below.refl _ _).alloc (by simp) _⟩

set_option maxHeartbeats 2000000 in
theorem index_impl (a : Option Addr) (n cap : Nat) (Z : Nat → Nat → Int) (id : Int) (p : Nat) (hn : n ≤ 2000000) (w : World) (hp : p < w.heap.size) (hc : w.cell? ⟨p, 0, none⟩ = some (.int .i64 id)) (h : P6.RowK w a n Z) :
    Calls Try.prog 59 #[.slice a n cap, .func (.func 60) #[] #[.pointer (some ⟨p, 0, none⟩)]] w fun e w' => (∃ r : Int, e = .returned (.int .i64 r) ∧ ((∃ k : Nat, k < n ∧ r = k ∧ Z k 0 = id) ∨ (r = -1 ∧ ∀ j, j < n → ¬ Z j 0 = id))) ∧ Below w.heap.size w w' := by
  have HR : Hid (P6.RowK w a n Z) := h
  clear h
  go_enter Try.func59, Try.ntmps59
  go_wp2
  go_loopw [8] (fun i wr => ∃ k : Nat, k ≤ n ∧ i = .int .i64 k ∧ (∀ j, j < k → ¬ Z j 0 = id) ∧ Below w.heap.size w wr) (fun i _ => n - (intOf i).toNat)
  case atStart => exact ⟨0, Nat.zero_le _, rfl, fun _ h => absurd h (by omega), Below.refl _ _⟩
  case round =>
    obtain ⟨k, hk, rfl, hall, hbel⟩ := hrel
    have HL : Hid (∀ j, j < k → ¬ Z j 0 = id) := hall
    have HB : Hid (Below w.heap.size w wr) := hbel
    clear hall hbel
    by_cases hkn : k < n
    · have hkn' : (k : Int) < n := by omega
      obtain ⟨b, o, rfl, hb, hr⟩ : ∃ b o, a = some ⟨b, o, none⟩ ∧ b < w.heap.size ∧ ∀ k j, k < n → j < 6 → w.cell? ⟨b, o + k * 6 + j, none⟩ = some (P6.cv j (Z k j)) := by
        rcases HR.out with h | h
        · omega
        · exact h
      have c0 : wr.cell? ⟨b, o + k * 6, none⟩ = some (.int .i64 (Z k 0)) := (HB.out.cell (by exact hb)).trans (hr k 0 hkn (by omega))
      have c1 : wr.cell? ⟨b, o + k * 6 + 1, none⟩ = some (.int .i64 (Z k 1)) := (HB.out.cell (by exact hb)).trans (hr k 1 hkn (by omega))
      have c2 : wr.cell? ⟨b, o + k * 6 + 2, none⟩ = some (.int .i64 (Z k 2)) := (HB.out.cell (by exact hb)).trans (hr k 2 hkn (by omega))
      have c3 : wr.cell? ⟨b, o + k * 6 + 3, none⟩ = some (.int .i64 (Z k 3)) := (HB.out.cell (by exact hb)).trans (hr k 3 hkn (by omega))
      have c4 : wr.cell? ⟨b, o + k * 6 + 4, none⟩ = some (.int .i64 (Z k 4)) := (HB.out.cell (by exact hb)).trans (hr k 4 hkn (by omega))
      have c5 : wr.cell? ⟨b, o + k * 6 + 5, none⟩ = some (.bool (P6.tr (Z k 5))) := (HB.out.cell (by exact hb)).trans (hr k 5 hkn (by omega))
      clear hr
      go_wp2_with fail
      refine (same_impl k Z id p _ (Nat.lt_of_lt_of_le hp HB.out.size) ((HB.out.cell (p := ⟨p, 0, none⟩) hp).trans hc)).mono ?_
      rintro e w1 ⟨rfl, hb1⟩
      have B1 : Hid (Below w.heap.size w w1) := bthen HB.out hb1
      clear hb1 HB c0 c1 c2 c3 c4 c5
      by_cases hq : Z k 0 = id
      · have hq' : (Z k 0 == id) = true := by simp [hq]
        rw [hq']
        have HQ : Hid (Z k 0 = id) := hq
        clear hq hq'
        go_wp2
        go_ret
        exact ⟨⟨k, rfl, .inl ⟨k, hkn, rfl, HQ.out⟩⟩, B1.out⟩
      · have hq' : (Z k 0 == id) = false := beq_eq_false_iff_ne.2 hq
        rw [hq']
        go_wp2
        go_roundw
        case rel => exact ⟨k + 1, by omega, by go_num, fun j hj => by
          by_cases hjk : j = k
          · subst hjk; exact hq
          · exact HL.out j (by omega), B1.out⟩
        case measure => simp [intOf]; omega
    · have : k = n := by omega
      subst this
      go_wp2
      go_ret
      exact ⟨⟨-1, rfl, .inr ⟨rfl, HL.out⟩⟩, HB.out⟩

set_option maxHeartbeats 2000000 in
theorem place_impl (v : Value) (V : OV) (id : Int) (hn : V.nW ≤ 2000000) (w : World) (h : OneAt w v V) :
    Calls Try.prog 41 #[v, .int .i64 id] w fun e w' => (∃ r : Int, e = .returned (.int .i64 r) ∧ ((∃ k : Nat, k < V.nW ∧ r = k ∧ V.W k 0 = id) ∨ (r = -1 ∧ ∀ j, j < V.nW → ¬ V.W j 0 = id))) ∧ Below w.heap.size w w' := by
  obtain ⟨aW, kW, aG, kG, aA, kA, rfl, rW, rG, rA⟩ := h
  obtain ⟨c, d, nW, Z, nG, G, nA, N, O⟩ := V
  simp only at rW hn ⊢
  have HW : Hid (P6.RowK w aW nW Z) := rW
  clear rW rG rA
  go_enter Try.func41, Try.ntmps41
  go_wp2_with fail
  obtain ⟨w0, e0⟩ : ∃ w0, w0 = (w.alloc (.cells #[.int .i64 c, .int .i64 d, .slice aW nW kW, .slice aG nG kG, .slice aA nA kA] 34)).alloc (.cells #[.int .i64 id] 3) := ⟨_, rfl⟩
  have B1 : Hid (Below w.heap.size w w0) := by rw [e0]; exact ((Below.refl _ _).alloc (by simp) _).alloc (by simp) _
  have I2 : Hid (Bk w0 (w.heap.size + 1) [.int .i64 id]) := by rw [e0]; have := bk_new (w.alloc (.cells #[.int .i64 c, .int .i64 d, .slice aW nW kW, .slice aG nG kG, .slice aA nA kA] 34)) 3 [.int .i64 id]; rwa [show (w.alloc (.cells #[.int .i64 c, .int .i64 d, .slice aW nW kW, .slice aG nG kG, .slice aA nA kA] 34)).heap.size = w.heap.size + 1 by simp] at this
  rw [← e0]
  clear e0
  refine (index_impl aW nW kW Z id (w.heap.size + 1) hn _ I2.out.1 (I2.out.2 0 (by simp)).1 (P6.row_below HW.out B1.out)).mono ?_
  rintro e w1 ⟨⟨r, rfl, hr⟩, hb1⟩
  have B3 : Hid (Below w.heap.size w w1) := bthen B1.out hb1
  have I3 : Hid (Bk w1 (w.heap.size + 1) [.int .i64 id]) := I2.out.below hb1
  clear B1 I2
  clear hb1
  have HR : Hid ((∃ k : Nat, k < nW ∧ r = k ∧ Z k 0 = id) ∨ (r = -1 ∧ ∀ j, j < nW → ¬ Z j 0 = id)) := hr
  clear hr
  go_wp2
  go_ret
  exact ⟨⟨r, rfl, HR.out⟩, B3.out⟩
end Go.Proofs.Ytoickljpjlhkoaa
