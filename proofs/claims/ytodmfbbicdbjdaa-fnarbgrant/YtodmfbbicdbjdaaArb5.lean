/- Tables that the call owns, and what ArbNew of the program hands back; conditions: none. -/
import Derived.Test.YtodmfbbicdbjdaaArb4
import Derived.Test.YtodmfbbicdbjdaaPut
import Derived.Deep.DeepCutAuto
namespace Go.Proofs.Ytodmfbbicdbjdaa
open Go.RowKit Go.Deep
set_option linter.unusedVariables false

theorem OwnT.sm {lo hi : Nat} {w w' : World} {v : Value} {T : TV} (h : OwnT lo hi w v T) (hz : w.heap.size ≤ w'.heap.size) (k : ∀ b, lo ≤ b → b < hi → Sm w w' b) : OwnT lo hi w' v T := by
  obtain ⟨v0, v1, g0, g1, e, r0, r1, hn⟩ := h
  exact ⟨v0, v1, g0, g1, e, r0.sm hz (k g0), r1.sm hz (k g1), hn⟩
theorem OwnT.mono {lo hi lo' hi' : Nat} {w : World} {v : Value} {T : TV} (h : OwnT lo hi w v T) (h1 : lo' ≤ lo) (h2 : hi ≤ hi') (h3 : hi' ≤ w.heap.size) : OwnT lo' hi' w v T := by
  obtain ⟨v0, v1, g0, g1, e, r0, r1, hn⟩ := h
  have m : ∀ {v n X g}, RI lo hi w v n X g → RI lo' hi' w v n X g := fun h => by
    rcases h with h | ⟨c, q1, q2, q3, q4, q5⟩
    · exact .inl h
    · exact .inr ⟨c, q1, by omega, by omega, h3, q5⟩
  exact ⟨v0, v1, g0, g1, e, m r0, m r1, hn⟩
def TV.zero : TV := ⟨0, fun _ => 0, 0, fun _ => 0⟩
theorem ownT_zero (lo hi : Nat) (w : World) : OwnT lo hi w (.agg #[.slice none 0 0, .slice none 0 0]) TV.zero :=
  ⟨_, _, 0, 1, rfl, .inl ⟨rfl, none, 0, rfl⟩, .inl ⟨rfl, none, 0, rfl⟩, by decide⟩
theorem own1_upd {w : World} {B n k : Nat} {X : Nat → Int} {z : Int} (h : Own1 w B n X n) (hk : k < n) : Own1 (w.setCell ⟨B, k, none⟩ (.int .i64 z)) B n (fun j => if j = k then z else X j) n := by
  refine ⟨fun i hi => ⟨?_, by rw [set_frozen]; exact (h.1 i hi).2⟩, fun j hj => ?_⟩
  · by_cases hc : k = i
    · subst hc; rw [set_in (h.1 k hk).1]; rfl
    · rw [set_out (fun e => hc e.2)]; exact (h.1 i hi).1
  · by_cases hc : k = j
    · subst hc; rw [set_in (h.1 k hk).1]; simp
    · rw [set_out (fun e => hc e.2)]
      show _ = some (Value.int .i64 (if j = k then z else X j))
      rw [if_neg (fun e => hc e.symm)]; exact h.2 j hj
theorem own1_made (n : Nat) (w : World) : Own1 (w.alloc (.cells (madeCells #[.int .i64 0] (n * 1)) 3)) w.heap.size n (fun _ => 0) n :=
  ⟨fun i hi => by simp [size_madeCells, hi], fun j hj => by
    simp [madeCells, hj, Nat.mod_one]⟩
theorem own1_congr {w : World} {B n : Nat} {X Y : Nat → Int} (h : Own1 w B n X n) (e : ∀ j, j < n → X j = Y j) : Own1 w B n Y n :=
  ⟨h.1, fun j hj => by rw [← e j hj]; exact h.2 j hj⟩

theorem own1_made' (n : Nat) (w : World) : Own1 (w.alloc (.cells (madeCells #[.int .i64 0] n) 3)) w.heap.size n (fun _ => 0) n := by
  have := own1_made n w
  rwa [Nat.mul_one] at this
theorem own_p0 (n : Nat) (W : World) (o1 o2 : Obj) : Own1 (((W.alloc (.cells (madeCells #[.int .i64 0] n) 3)).alloc o1).alloc o2).drew W.heap.size n (fun _ => 0) n :=
  own1_below (own1_made' n W) (by simp) (((Below.refl _ _).alloc (Nat.le_refl _) _).alloc (by simp) _).drew
theorem own_p1 (n : Nat) (W : World) (o1 o2 : Obj) : Own1 (((W.alloc o1).alloc (.cells (madeCells #[.int .i64 0] n) 3)).alloc o2).drew (W.heap.size + 1) n (fun _ => 0) n := by
  have := own1_below (own1_made' n (W.alloc o1)) (by simp) ((Below.refl _ _).alloc (Nat.le_refl _) o2).drew
  rwa [show (W.alloc o1).heap.size = W.heap.size + 1 by simp] at this
theorem own_p2 (n : Nat) (W : World) (o1 o2 : Obj) : Own1 (((W.alloc o1).alloc o2).alloc (.cells (madeCells #[.int .i64 0] n) 3)).drew (W.heap.size + 1 + 1) n (fun _ => 0) n := by
  have := own1_below (own1_made' n ((W.alloc o1).alloc o2)) (by simp) (Below.refl _ _).drew
  rwa [show ((W.alloc o1).alloc o2).heap.size = W.heap.size + 1 + 1 by simp] at this
theorem bk_p0 (l : List Value) (t : TypeId) (W : World) (o1 o2 : Obj) : Bk (((W.alloc (.cells l.toArray t)).alloc o1).alloc o2).drew W.heap.size l :=
  (bk_new W t l).below (((Below.refl _ _).alloc (Nat.le_refl _) _).alloc (by simp) _).drew
theorem bk_p1 (l : List Value) (t : TypeId) (W : World) (o1 o2 : Obj) : Bk (((W.alloc o1).alloc (.cells l.toArray t)).alloc o2).drew (W.heap.size + 1) l := by
  have := (bk_new (W.alloc o1) t l).below ((Below.refl _ _).alloc (Nat.le_refl _) o2).drew
  rwa [show (W.alloc o1).heap.size = W.heap.size + 1 by simp] at this
theorem bk_p2 (l : List Value) (t : TypeId) (W : World) (o1 o2 : Obj) : Bk (((W.alloc o1).alloc o2).alloc (.cells l.toArray t)).drew (W.heap.size + 1 + 1) l := by
  have := (bk_new ((W.alloc o1).alloc o2) t l).below (Below.refl _ _).drew
  rwa [show ((W.alloc o1).alloc o2).heap.size = W.heap.size + 1 + 1 by simp] at this

def newT (c d : Int) : TV := if okB c d then ⟨c.toNat, fun _ => -1, c.toNat, fun _ => 0⟩ else TV.zero

set_option maxHeartbeats 4000000 in
theorem arbNew_impl (c d : Int) (w : World) :
    Calls Try.prog 12 #[.agg #[.int .i64 c, .int .i64 d]] w fun e w' => (∃ v, e = .returned v ∧ OwnT w.heap.size w'.heap.size w' v (newT c d)) ∧ Below w.heap.size w w' := by
  go_enter Try.func12, Try.ntmps12
  go_wp2_with fail
  obtain ⟨w0, e0⟩ : ∃ w0, w0 = (w.alloc (.cells #[.int .i64 c, .int .i64 d] 24)).alloc (.cells #[.slice none 0 0, .slice none 0 0] 27) := ⟨_, rfl⟩
  have B1 : Hid (Below w.heap.size w w0) := by rw [e0]; exact ((Below.refl _ _).alloc (by simp) _).alloc (by simp) _
  have M2 : Hid (Bk w0 w.heap.size [.int .i64 c, .int .i64 d]) := by rw [e0]; exact (bk_new w 24 [.int .i64 c, .int .i64 d]).below ((Below.refl _ _).alloc (Nat.le_refl _) _)
  have R3 : Hid (Bk w0 (w.heap.size + 1) [.slice none 0 0, .slice none 0 0]) := by rw [e0]; have := bk_new (w.alloc (.cells #[.int .i64 c, .int .i64 d] 24)) 27 [.slice none 0 0, .slice none 0 0]; rwa [show (w.alloc (.cells #[.int .i64 c, .int .i64 d] 24)).heap.size = w.heap.size + 1 by simp] at this
  rw [← e0]
  clear e0
  refine (ok_impl c d _).mono ?_
  rintro e w1 ⟨rfl, hb1⟩
  have B4 : Hid (Below w.heap.size w w1) := bthen B1.out hb1
  have M4 : Hid (Bk w1 w.heap.size [.int .i64 c, .int .i64 d]) := M2.out.below hb1
  have R4 : Hid (Bk w1 (w.heap.size + 1) [.slice none 0 0, .slice none 0 0]) := R3.out.below hb1
  clear B1 M2 R3
  clear hb1
  have yM0 : w1.cell? ⟨w.heap.size, 0, none⟩ = some (.int .i64 c) := (M4.out.2 0 (by simp)).1
  have zM0 : w1.frozen? ⟨w.heap.size, 0, none⟩ = false := (M4.out.2 0 (by simp)).2
  have yM1 : w1.cell? ⟨w.heap.size, 1, none⟩ = some (.int .i64 d) := (M4.out.2 1 (by simp)).1
  have zM1 : w1.frozen? ⟨w.heap.size, 1, none⟩ = false := (M4.out.2 1 (by simp)).2
  have hlM : w.heap.size < w1.heap.size := M4.out.1
  have yR0 : w1.cell? ⟨(w.heap.size + 1), 0, none⟩ = some (.slice none 0 0) := (R4.out.2 0 (by simp)).1
  have zR0 : w1.frozen? ⟨(w.heap.size + 1), 0, none⟩ = false := (R4.out.2 0 (by simp)).2
  have yR1 : w1.cell? ⟨(w.heap.size + 1), 1, none⟩ = some (.slice none 0 0) := (R4.out.2 1 (by simp)).1
  have zR1 : w1.frozen? ⟨(w.heap.size + 1), 1, none⟩ = false := (R4.out.2 1 (by simp)).2
  have hlR : (w.heap.size + 1) < w1.heap.size := R4.out.1
  cases hok : okB c d
  · have hv : newT c d = TV.zero := by simp [newT, hok]
    go_wp2
    refine bodyPost_ret (v := .agg #[.slice none 0 0, .slice none 0 0]) (by simp [results, Try.results12, go_sem, *]) rfl ?_
    exact ⟨⟨_, rfl, by rw [hv]; exact ownT_zero _ _ _⟩, (B4.out.setCell (by simp) _).setCell (by simp) _⟩
  have WB : Hid (Below w.heap.size w w1) := B4.out
  have hzR : w.heap.size + 1 < w1.heap.size := hlR
  obtain ⟨n, hcn, hn4⟩ : ∃ n : Nat, c = n ∧ n ≤ 4 := ⟨c.toNat, by have := okB_in hok; omega, by have := okB_in hok; omega⟩
  subst hcn
  have hv : newT n d = ⟨n, fun _ => -1, n, fun _ => 0⟩ := by simp [newT, hok]
  have HV : Hid (newT n d = ⟨n, fun _ => -1, n, fun _ => 0⟩) := hv
  clear hv
  have hmk := make1 n (by omega)
  have hmk2 : n ≤ 1048576 := by omega
  go_upto_region 3 with fail
  go_cut [3, 11, 14] (fun p s1 s2 wx => ∃ g b1 b2, .pointer (some ⟨g, 0, none⟩) = p ∧ .slice (some ⟨b1, 0, none⟩) n n = s1 ∧ .slice (some ⟨b2, 0, none⟩) n n = s2 ∧ Bk wx g [.slice (some ⟨b1, 0, none⟩) n n, .slice (some ⟨b2, 0, none⟩) n n] ∧ Own1 wx b1 n (fun _ => 0) n ∧ Own1 wx b2 n (fun _ => 0) n ∧ (w1.heap.size ≤ g ∧ w1.heap.size ≤ b1 ∧ w1.heap.size ≤ b2 ∧ b1 < wx.heap.size ∧ b2 < wx.heap.size ∧ ¬ g = b1 ∧ ¬ g = b2 ∧ ¬ b1 = b2) ∧ Below w1.heap.size w1 wx)
  case first =>
    go_region
    all_goals
      go_wp2
      go_meet
      case rel =>
        refine ⟨_, _, _, rfl, rfl, rfl, ?_, ?_, ?_, ⟨?_, ?_, ?_, ?_, ?_, ?_, ?_, ?_⟩, ?_⟩
        · first | exact bk_p0 [_, _] _ _ _ _ | exact bk_p1 [_, _] _ _ _ _ | exact bk_p2 [_, _] _ _ _ _
        · first | exact own_p0 _ _ _ _ | exact own_p1 _ _ _ _ | exact own_p2 _ _ _ _
        · first | exact own_p0 _ _ _ _ | exact own_p1 _ _ _ _ | exact own_p2 _ _ _ _
        · omega
        · omega
        · omega
        · simp <;> omega
        · simp <;> omega
        · omega
        · omega
        · omega
        · exact ((((Below.refl _ _).alloc (by simp) _).alloc (by simp <;> omega) _).alloc (by simp <;> omega) _).drew
  case rest =>
    have hbW : Hid (Below w1.heap.size w1 wc) := by obtain ⟨_, _, _, _, _, _, _, _, _, _, h⟩ := hcut; exact h
    obtain ⟨w2, hw2⟩ : ∃ w2, w2 = wc := ⟨_, rfl⟩
    subst hw2
    obtain ⟨g, b1, b2, rfl, rfl, rfl, hG, hO1, hO2, ⟨k1, k2, k3, k4, k5, k6, k7, k8⟩, hb2⟩ := hcut
    clear yM0 zM0 yM1 zM1 hlM yR0 zR0 yR1 zR1 hlR hmk
    have B5 : Hid (Below w.heap.size w w2) := bthen B4.out hb2
    have M5 : Hid (Bk w2 w.heap.size [.int .i64 (n : Int), .int .i64 d]) := M4.out.below hb2
    have R5 : Hid (Bk w2 (w.heap.size + 1) [.slice none 0 0, .slice none 0 0]) := R4.out.below hb2
    clear B4 M4 R4
    have hG0 : Hid (Bk w2 g [.slice (some ⟨b1, 0, none⟩) n n, .slice (some ⟨b2, 0, none⟩) n n]) := hG
    have B2 : Hid (Own1 w2 b2 n (fun _ => 0) n) := hO2
    have B1 : Hid (Own1 w2 b1 n (fun _ => 0) n) := hO1
    clear hG hO1 hO2 hb2
    have yG0 : w2.cell? ⟨g, 0, none⟩ = some (.slice (some ⟨b1, 0, none⟩) n n) := (hG0.out.2 0 (by simp)).1
    have yG1 : w2.cell? ⟨g, 1, none⟩ = some (.slice (some ⟨b2, 0, none⟩) n n) := (hG0.out.2 1 (by simp)).1
    have hlG : g < w2.heap.size := hG0.out.1
    have yR0 : w2.cell? ⟨(w.heap.size + 1), 0, none⟩ = some (.slice none 0 0) := (R5.out.2 0 (by simp)).1
    have yR1 : w2.cell? ⟨(w.heap.size + 1), 1, none⟩ = some (.slice none 0 0) := (R5.out.2 1 (by simp)).1
    have hlR : (w.heap.size + 1) < w2.heap.size := R5.out.1
    go_wp2
    go_loopw [19] (fun i wr => ∃ k : Nat, k ≤ n ∧ i = .int .i64 k ∧ Own1 wr b1 n (fun j => if j < k then -1 else 0) n ∧ (∀ b, b < w2.heap.size → ¬ b = b1 → Sm w2 wr b) ∧ w2.heap.size ≤ wr.heap.size ∧ Below w1.heap.size w1 wr) (fun i _ => n - (intOf i).toNat)
    case atStart => exact ⟨0, Nat.zero_le _, rfl, own1_congr B1.out (fun j _ => by simp), fun b _ _ => Sm.refl _ _, Nat.le_refl _, hbW.out⟩
    case round =>
      clear yG0 yG1 hlG yR0 yR1 hlR
      obtain ⟨k, hk, rfl, hown, hsm, hsz, hbel⟩ := hrel
      have GR : Hid (Bk wr g [.slice (some ⟨b1, 0, none⟩) n n, .slice (some ⟨b2, 0, none⟩) n n]) := hG0.out.sm hsz (hsm g hG0.out.1 k6)
      have RR : Hid (Bk wr (w.heap.size + 1) [.slice none 0 0, .slice none 0 0]) := R5.out.sm hsz (hsm _ R5.out.1 (by have := hzR; omega))
      have OW : Hid (Own1 wr b1 n (fun j => if j < k then -1 else 0) n) := hown
      have SM : Hid (∀ b, b < w2.heap.size → ¬ b = b1 → Sm w2 wr b) := hsm
      have BE : Hid (Below w1.heap.size w1 wr) := hbel
      clear hown hsm hbel
      have y0 : wr.cell? ⟨g, 0, none⟩ = some (.slice (some ⟨b1, 0, none⟩) n n) := (GR.out.2 0 (by simp)).1
      have y1 : wr.cell? ⟨g, 1, none⟩ = some (.slice (some ⟨b2, 0, none⟩) n n) := (GR.out.2 1 (by simp)).1
      by_cases hkn : k < n
      · have hkn' : (k : Int) < n := by omega
        obtain ⟨d0, f0⟩ := OW.out.1 k hkn
        obtain ⟨v0, d0⟩ := Option.isSome_iff_exists.1 d0
        go_wp2
        go_roundw
        case rel => exact ⟨k + 1, by omega, by go_num, own1_congr (own1_upd OW.out hkn) (fun j hj => by by_cases e : j = k <;> by_cases e2 : j < k <;> simp [e, e2] <;> omega), fun b hb hne => (SM.out b hb hne).trans (fun o => ⟨set_out (fun e => hne e.1.symm), set_frozen⟩), by rw [set_size]; exact hsz, BE.out.setCell (by omega) _⟩
        case measure => simp [intOf]; omega
      · have hkk : k = n := by omega
        subst hkk
        have r0 := RR.out.2 0 (by simp)
        have r1 := RR.out.2 1 (by simp)
        obtain ⟨r00, r01⟩ := r0
        obtain ⟨r10, r11⟩ := r1
        simp only [List.getD, List.getElem?_cons_zero, List.getElem?_cons_succ, Option.getD_some] at r00 r10
        have lR := RR.out.1
        have lG := GR.out.1
        go_wp2
        refine bodyPost_ret (v := .agg #[.slice (some ⟨b1, 0, none⟩) k k, .slice (some ⟨b2, 0, none⟩) k k]) (by simp [results, Try.results12, go_sem, *]) rfl ?_
        refine ⟨⟨_, rfl, ?_⟩, ?_⟩
        · rw [HV.out]
          refine ⟨_, _, b1, b2, rfl, .inr ⟨_, rfl, by omega, by simp [World.setCell]; omega, Nat.le_refl _, ?_⟩, .inr ⟨_, rfl, by omega, by simp [World.setCell]; omega, Nat.le_refl _, ?_⟩, k8⟩
          · exact own1_set (own1_set (own1_congr OW.out (fun j hj => by simp [hj])) (by omega)) (by omega)
          · exact own1_set (own1_set (own1_sm B2.out (SM.out b2 (by omega) (fun e => k8 e.symm))) (by omega)) (by omega)
        · exact ((bthen WB.out BE.out).setCell (by simp) _).setCell (by simp) _
end Go.Proofs.Ytodmfbbicdbjdaa
