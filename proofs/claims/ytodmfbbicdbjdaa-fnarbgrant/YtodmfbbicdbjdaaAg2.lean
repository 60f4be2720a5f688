/- The walk of l21Table: a map, a table and how many servers there are, are drawn; conditions: the reader lies open. -/
import Derived.Test.YtodmfbbicdbjdaaAg1
import Derived.Test.YtodmfbbicdbjdaaArb10
namespace Go.Proofs.Ytodmfbbicdbjdaa
open Go.RowKit Go.Deep
set_option linter.unusedVariables false

theorem grant_tab (c d : Int) (v : Value) (T : TV) (n cell server : Int) (hs : T.short 1048576) (w : World) (h : TabAt w v T) :
    Calls Try.prog 6 #[.agg #[.int .i64 c, .int .i64 d], v, .int .i64 n, .int .i64 cell, .int .i64 server] w fun e w' => ∃ bS lS bA lA N1 N2 t T2, e = .returned (.tuple #[.agg #[.slice bS N1 lS, .slice bA N2 lA], .bool t]) ∧ OwnT w.heap.size w'.heap.size w' (.agg #[.slice bS N1 lS, .slice bA N2 lA]) T2 ∧ T2.nS = N1 ∧ T2.nA = N2 ∧ (t = true → N1 = T.nS ∧ N2 = T.nA) ∧ Below w.heap.size w w' := by
  refine (grant_spec c d v T n cell server hs w h).mono ?_
  rintro e w' ⟨⟨u, t, rfl, ht, hO⟩, hb⟩
  obtain ⟨bS, lS, bA, lA, rfl, _, _⟩ := hO.at
  refine ⟨bS, lS, bA, lA, _, _, t, _, rfl, hO, rfl, rfl, fun e => ?_, hb⟩
  rw [e] at ht
  unfold grantR at ht ⊢
  split at ht
  · split at ht
    · rename_i h1 h2; simp only [h1, h2, if_true]; exact ⟨rfl, rfl⟩
    · cases ht
  · cases ht

set_option maxRecDepth 20000 in
set_option maxHeartbeats 4000000 in
theorem table_B {r : Nat} {ad : Option Addr} {len cap : Nat} {m nn : Int} {w : World} (h : RdB w r ad len cap m) (hm : m ≤ 100) :
    Calls Try.prog 14 #[.pointer (some ⟨r, 0, none⟩), .int .i64 nn] w fun e w' => ∃ c d v T n, e = .returned (.tuple #[.agg #[.int .i64 c, .int .i64 d], v, .int .i64 n]) ∧ TabIn w.heap.size w' v T ∧ T.short 1000 ∧ (-10 ≤ n ∧ n ≤ 10) ∧ RdB w' r ad len cap (m + 40) ∧ Kept r w w' := by
  have hrl := h.lt
  have H : Hid (RdB w r ad len cap m) := h
  clear h
  go_enter Try.func14, Try.ntmps14
  obtain ⟨wa, ea⟩ : ∃ wa, wa = (w.alloc (.cells #[.int .i64 0, .int .i64 0] 24)).alloc (.cells #[.slice none 0 0, .slice none 0 0] 27) := ⟨_, rfl⟩
  have Ka : Hid (Kept r w wa) := by rw [ea]; exact ((Kept.refl r w).alloc _).alloc _
  have Pa : Hid (Bk wa w.heap.size [.int .i64 0, .int .i64 0]) := by rw [ea]; exact (bk_new w 24 [.int .i64 0, .int .i64 0]).below ((Below.refl _ _).alloc (Nat.le_refl _) _)
  have Qa : Hid (Bk wa (w.heap.size + 1) [.slice none 0 0, .slice none 0 0]) := by rw [ea]; have h := bk_new (w.alloc (.cells #[.int .i64 0, .int .i64 0] 24)) 27 [.slice none 0 0, .slice none 0 0]; rw [World.size_alloc] at h; exact h
  have Ra : Hid (RdB wa r ad len cap m) := by rw [ea]; exact (H.out.alloc _).alloc _
  have hza : wa.heap.size = w.heap.size + 2 := by rw [ea]; simp
  go_wp2_with fail
  rw [← ea]
  clear ea H
  refine (pick_B Ra.out (by omega)).mono ?_
  rintro e w1 ⟨x, rfl, hx, hR1, hK1⟩
  have hx0 := hx.1
  have hx1 := hx.2.1 (by decide)
  have R1 : Hid (RdB w1 r ad len cap (m + 1)) := hR1
  have K1 : Hid (Kept r w w1) := Ka.out.trans hK1
  have P1 : Hid (Bk w1 w.heap.size [.int .i64 0, .int .i64 0]) := Pa.out.kp hK1 (by omega)
  have Q1 : Hid (Bk w1 (w.heap.size + 1) [.slice none 0 0, .slice none 0 0]) := Qa.out.kp hK1 (by omega)
  have hz1 : w.heap.size + 2 ≤ w1.heap.size := by have := hK1.size; omega
  clear Ka Pa Qa Ra hza hx hR1 hK1
  have hw1 : IntKind.i64.wrap (2 + x) = 2 + x := by rw [IntKind.wrap_i64]; omega
  obtain ⟨w2, e2⟩ : ∃ w2, w2 = w1.alloc (.cells #[.int .i64 (2 + x), .int .i64 3] 24) := ⟨_, rfl⟩
  have hb2 : Below w1.heap.size w1 w2 := by rw [e2]; exact (Below.refl _ _).alloc (Nat.le_refl _) _
  have M2 : Hid (Bk w2 w1.heap.size [.int .i64 (2 + x), .int .i64 3]) := by rw [e2]; exact bk_new w1 24 [.int .i64 (2 + x), .int .i64 3]
  have hz2 : w2.heap.size = w1.heap.size + 1 := by rw [e2]; simp
  have K2 : Hid (Kept r w w2) := K1.out.trans (Kept.ofBelow (r := r) hb2)
  have P2 : Hid (Bk w2 w.heap.size [.int .i64 0, .int .i64 0]) := P1.out.kp (Kept.ofBelow (r := r) hb2) (by omega)
  have Q2 : Hid (Bk w2 (w.heap.size + 1) [.slice none 0 0, .slice none 0 0]) := Q1.out.kp (Kept.ofBelow (r := r) hb2) (by omega)
  have R2 : Hid (RdB w2 r ad len cap (m + 1)) := R1.out.on hb2
  clear K1 P1 Q1 R1
  have hz2b := hz2
  clear hz2
  go_upto_region 2 with fail
  rw [← e2]
  clear e2 hb2
  obtain ⟨y0, y1⟩ : w2.cell? ⟨w1.heap.size, 0, none⟩ = some (.int .i64 (2 + x)) ∧ w2.cell? ⟨w1.heap.size, 1, none⟩ = some (.int .i64 3) := ⟨(M2.out.2 0 (by simp)).1, (M2.out.2 1 (by simp)).1⟩
  go_wp2_with fail
  refine (arbNew_spec (2 + x) 3 w2).mono ?_
  rintro e w3 ⟨⟨v, rfl, hO⟩, hb3⟩
  obtain ⟨C, eC⟩ : ∃ C : Nat, C = (2 + x).toNat := ⟨_, rfl⟩
  have hT : newT (2 + x) 3 = ⟨C, fun _ => -1, C, fun _ => 0⟩ := by
    have hok : okB (2 + x) 3 = true := by simp [okB, inB]; omega
    simp only [newT, hok, if_true]
    rw [eC]
  rw [hT] at hO
  have hCa : (C : Int) ≤ 2 + x := by omega
  have hCb : 2 + x ≤ (C : Int) := by omega
  clear hT eC
  have K3 : Hid (Kept r w w3) := K2.out.trans (Kept.ofBelow (r := r) hb3)
  have P3 : Hid (Bk w3 w.heap.size [.int .i64 0, .int .i64 0]) := P2.out.kp (Kept.ofBelow (r := r) hb3) (by omega)
  have Q3 : Hid (Bk w3 (w.heap.size + 1) [.slice none 0 0, .slice none 0 0]) := Q2.out.kp (Kept.ofBelow (r := r) hb3) (by omega)
  have R3 : Hid (RdB w3 r ad len cap (m + 1)) := R2.out.on hb3
  have M3 : Hid (Bk w3 w1.heap.size [.int .i64 (2 + x), .int .i64 3]) := M2.out.below hb3
  have hz3 := hb3.size
  clear K2 P2 Q2 R2 M2 hb3 y0 y1
  obtain ⟨aS, kS, aA, kA, rfl, _, _⟩ := hO.at
  have O3 : Hid (OwnT w2.heap.size w3.heap.size w3 (.agg #[.slice aS C kS, .slice aA C kA]) ⟨C, fun _ => -1, C, fun _ => 0⟩) := hO
  clear hO
  obtain ⟨w4, e4⟩ : ∃ w4, w4 = w3.alloc (.cells #[.slice aS C kS, .slice aA C kA] 27) := ⟨_, rfl⟩
  have hb4 : Below w3.heap.size w3 w4 := by rw [e4]; exact (Below.refl _ _).alloc (Nat.le_refl _) _
  have V4 : Hid (Bk w4 w3.heap.size [.slice aS C kS, .slice aA C kA]) := by rw [e4]; exact bk_new w3 27 [.slice aS C kS, .slice aA C kA]
  have K4 : Hid (Kept r w w4) := K3.out.trans (Kept.ofBelow (r := r) hb4)
  have P4 : Hid (Bk w4 w.heap.size [.int .i64 0, .int .i64 0]) := P3.out.kp (Kept.ofBelow (r := r) hb4) (by omega)
  have Q4 : Hid (Bk w4 (w.heap.size + 1) [.slice none 0 0, .slice none 0 0]) := Q3.out.kp (Kept.ofBelow (r := r) hb4) (by omega)
  have R4 : Hid (RdB w4 r ad len cap (m + 1)) := R3.out.on hb4
  have M4 : Hid (Bk w4 w1.heap.size [.int .i64 (2 + x), .int .i64 3]) := M3.out.below hb4
  have O4 : Hid (OwnT w2.heap.size w3.heap.size w4 (.agg #[.slice aS C kS, .slice aA C kA]) ⟨C, fun _ => -1, C, fun _ => 0⟩) := O3.out.below hb4
  have hz4 : w3.heap.size < w4.heap.size := V4.out.1
  clear K3 P3 Q3 R3 M3 O3
  go_wp2_with fail
  rw [← e4]
  clear e4 hb4
  refine (pick_B R4.out (by omega)).mono ?_
  rintro e w5 ⟨x2, rfl, hx2, hR5, hK5⟩
  have n0 := hx2.1
  have n1 := hx2.2.1 (by decide)
  have hw2 : IntKind.i64.wrap (1 + x2) = 1 + x2 := by rw [IntKind.wrap_i64]; omega
  have R5 : Hid (RdB w5 r ad len cap (m + 2)) := hR5.more (by omega)
  have K5 : Hid (Kept r w w5) := K4.out.trans hK5
  have P5 : Hid (Bk w5 w.heap.size [.int .i64 0, .int .i64 0]) := P4.out.kp hK5 (by omega)
  have Q5 : Hid (Bk w5 (w.heap.size + 1) [.slice none 0 0, .slice none 0 0]) := Q4.out.kp hK5 (by omega)
  have M5 : Hid (Bk w5 w1.heap.size [.int .i64 (2 + x), .int .i64 3]) := M4.out.kp hK5 (by omega)
  have V5 : Hid (Bk w5 w3.heap.size [.slice aS C kS, .slice aA C kA]) := V4.out.kp hK5 (by omega)
  have O5 : Hid (OwnT w2.heap.size w3.heap.size w5 (.agg #[.slice aS C kS, .slice aA C kA]) ⟨C, fun _ => -1, C, fun _ => 0⟩) := O4.out.kp hK5 (by omega) (by omega)
  have hz5 := hK5.size
  clear hx2 hR5 hK5 K4 P4 Q4 R4 M4 V4 O4
  go_wp2_with fail
  refine (pick_B R5.out (by omega)).mono ?_
  rintro e w6 ⟨x3, rfl, hx3, hR6, hK6⟩
  have k0 := hx3.1
  have k1 := hx3.2.1 (by decide)
  have R6 : Hid (RdB w6 r ad len cap (m + 3)) := hR6.more (by omega)
  have K6 : Hid (Kept r w w6) := K5.out.trans hK6
  have P6 : Hid (Bk w6 w.heap.size [.int .i64 0, .int .i64 0]) := P5.out.kp hK6 (by omega)
  have Q6 : Hid (Bk w6 (w.heap.size + 1) [.slice none 0 0, .slice none 0 0]) := Q5.out.kp hK6 (by omega)
  have M6 : Hid (Bk w6 w1.heap.size [.int .i64 (2 + x), .int .i64 3]) := M5.out.kp hK6 (by omega)
  have V6 : Hid (Bk w6 w3.heap.size [.slice aS C kS, .slice aA C kA]) := V5.out.kp hK6 (by omega)
  have O6 : Hid (OwnT w2.heap.size w3.heap.size w6 (.agg #[.slice aS C kS, .slice aA C kA]) ⟨C, fun _ => -1, C, fun _ => 0⟩) := O5.out.kp hK6 (by omega) (by omega)
  have hz6 := hK6.size
  clear hx3 hR6 hK6 K5 P5 Q5 R5 M5 V5 O5
  go_wp2_with fail
  go_loopw [10] (fun i wr => ∃ (k : Int) (aS : Option Addr) (kS : Nat) (aA : Option Addr) (kA : Nat) (Tv : TV) (lo hi : Nat), .int .i64 k = i ∧ 0 ≤ k ∧ k ≤ 5 ∧ Tv.nS = C ∧ Tv.nA = C ∧ w2.heap.size ≤ lo ∧ hi ≤ wr.heap.size ∧ (hi ≤ w3.heap.size ∨ w3.heap.size < lo) ∧ OwnT lo hi wr (.agg #[.slice aS C kS, .slice aA C kA]) Tv ∧ Bk wr w3.heap.size [.slice aS C kS, .slice aA C kA] ∧ Bk wr w1.heap.size [.int .i64 (2 + x), .int .i64 3] ∧ Bk wr w.heap.size [.int .i64 0, .int .i64 0] ∧ Bk wr (w.heap.size + 1) [.slice none 0 0, .slice none 0 0] ∧ RdB wr r ad len cap (m + 3 + 2 * (5 - k)) ∧ Kept r w wr) (fun i _ => (intOf i).toNat)
  case atStart => exact ⟨x3, aS, kS, aA, kA, _, w2.heap.size, w3.heap.size, rfl, k0, by omega, rfl, rfl, Nat.le_refl _, by omega, .inl (Nat.le_refl _), O6.out, V6.out, M6.out, P6.out, Q6.out, R6.out.more (by omega), K6.out⟩
  case round =>
    obtain ⟨k, aS, kS, aA, kA, Tv, lo, hi, rfl, hk0, hk5, hTS, hTA, hlo, hhi, hsep, hO, hV, hM, hP, hQ, hR, hK⟩ := hrel
    clear R6 K6 P6 Q6 M6 V6 O6
    have O0 : Hid (OwnT lo hi wr (.agg #[.slice aS C kS, .slice aA C kA]) Tv) := hO
    have V0 : Hid (Bk wr w3.heap.size [.slice aS C kS, .slice aA C kA]) := hV
    have M0 : Hid (Bk wr w1.heap.size [.int .i64 (2 + x), .int .i64 3]) := hM
    have P0 : Hid (Bk wr w.heap.size [.int .i64 0, .int .i64 0]) := hP
    have Q0 : Hid (Bk wr (w.heap.size + 1) [.slice none 0 0, .slice none 0 0]) := hQ
    have R0 : Hid (RdB wr r ad len cap (m + 3 + 2 * (5 - k))) := hR
    have K0 : Hid (Kept r w wr) := hK
    have HTS : Hid (Tv.nS = C ∧ Tv.nA = C) := ⟨hTS, hTA⟩
    have hV3 := hV.1
    clear hO hV hM hP hQ hR hK hTS hTA
    by_cases hkp : 0 < k
    · have hkp2 := hkp
      go_upto_region 7 with fail
      have Rwr : Hid (RdB wr.drew r ad len cap (m + 3 + 2 * (5 - k))) := R0.out.drew
      have Kwr : Hid (Kept r w wr.drew) := K0.out.drew
      have Mwr : Hid (Bk wr.drew w1.heap.size [.int .i64 (2 + x), .int .i64 3]) := M0.out
      have Vwr : Hid (Bk wr.drew w3.heap.size [.slice aS C kS, .slice aA C kA]) := V0.out
      have Pwr : Hid (Bk wr.drew w.heap.size [.int .i64 0, .int .i64 0]) := P0.out
      have Qwr : Hid (Bk wr.drew (w.heap.size + 1) [.slice none 0 0, .slice none 0 0]) := Q0.out
      have Owr : Hid (OwnT lo hi wr.drew (.agg #[.slice aS C kS, .slice aA C kA]) Tv) := O0.out
      refine wp_region_held_drew (S := fun w' => Bk w' w1.heap.size [.int .i64 (2 + x), .int .i64 3] ∧ Bk w' w3.heap.size [.slice aS C kS, .slice aA C kA]) (by kernel_rfl) ⟨Mwr.out, Vwr.out⟩ ?_
      intro hHeld
      have hzd1 : wr.heap.size ≤ wr.drew.heap.size := Nat.le_refl _
      have hzd2 : wr.drew.heap.size ≤ wr.heap.size := Nat.le_refl _
      clear R0 K0 M0 V0 P0 Q0 O0
      generalize wr.drew = wd at *
      refine wpAnyH_take (i := 0) (v := .agg #[.int .i64 (2 + x), .int .i64 3]) rfl (by kernel_rfl) (by kernel_rfl) (by kernel_rfl) (fun _ _ _ h => h) (Or.inl ⟨by rfl, ?_⟩) (by assumption) ?_
      · intro wx hSw; obtain ⟨⟨_, sm⟩, ⟨_, sv⟩⟩ := hSw; have m0 : wx.cell? ⟨w1.heap.size, 0, none⟩ = some (.int .i64 (2 + x)) := (sm 0 (by simp)).1; have m1 : wx.cell? ⟨w1.heap.size, 1, none⟩ = some (.int .i64 3) := (sm 1 (by simp)).1; have v0 : wx.cell? ⟨w3.heap.size, 0, none⟩ = some (.slice aS C kS) := (sv 0 (by simp)).1; have v1 : wx.cell? ⟨w3.heap.size, 1, none⟩ = some (.slice aA C kA) := (sv 1 (by simp)).1; clear sm sv; go_simp
      try simp only [Act.put, List.setIfInBounds_toArray, List.set_cons_zero, List.set_cons_succ, List.getElem_toArray, List.getElem_cons_zero]
      refine wpAnyH_take (i := 1) (v := .agg #[.slice aS C kS, .slice aA C kA]) rfl (by kernel_rfl) (by kernel_rfl) (by kernel_rfl) (fun _ _ _ h => h) (Or.inl ⟨by rfl, ?_⟩) (by assumption) ?_
      · intro wx hSw; obtain ⟨⟨_, sm⟩, ⟨_, sv⟩⟩ := hSw; have m0 : wx.cell? ⟨w1.heap.size, 0, none⟩ = some (.int .i64 (2 + x)) := (sm 0 (by simp)).1; have m1 : wx.cell? ⟨w1.heap.size, 1, none⟩ = some (.int .i64 3) := (sm 1 (by simp)).1; have v0 : wx.cell? ⟨w3.heap.size, 0, none⟩ = some (.slice aS C kS) := (sv 0 (by simp)).1; have v1 : wx.cell? ⟨w3.heap.size, 1, none⟩ = some (.slice aA C kA) := (sv 1 (by simp)).1; clear sm sv; go_simp
      try simp only [Act.put, List.setIfInBounds_toArray, List.set_cons_zero, List.set_cons_succ, List.getElem_toArray, List.getElem_cons_zero, List.getElem_cons_succ]
      refine wpAnyH_take (i := 2) (v := .int .i64 (1 + x2)) rfl (by kernel_rfl) (by kernel_rfl) (by kernel_rfl) (fun _ _ _ h => h) (Or.inl ⟨by rfl, ?_⟩) (by assumption) ?_
      · intro wx hSw; go_simp
      try simp only [Act.put, List.setIfInBounds_toArray, List.set_cons_zero, List.set_cons_succ, List.getElem_toArray, List.getElem_cons_zero, List.getElem_cons_succ]
      refine wpAnyH_take (i := 3) (v := .pointer (some ⟨r, 0, none⟩)) rfl (by kernel_rfl) (by kernel_rfl) (by kernel_rfl) (fun _ _ _ h => h) (Or.inl ⟨by rfl, ?_⟩) (by assumption) ?_
      · intro wx hSw; go_simp
      try simp only [Act.put, List.setIfInBounds_toArray, List.set_cons_zero, List.set_cons_succ, List.getElem_toArray, List.getElem_cons_zero, List.getElem_cons_succ]
      refine wpAnyH_take (i := 4) (v := .pointer (some ⟨w1.heap.size, 0, none⟩)) rfl (by kernel_rfl) (by kernel_rfl) (by kernel_rfl) (fun _ _ _ h => h) (Or.inl ⟨by rfl, ?_⟩) (by assumption) ?_
      · intro wx hSw; go_simp
      try simp only [Act.put, List.setIfInBounds_toArray, List.set_cons_zero, List.set_cons_succ, List.getElem_toArray, List.getElem_cons_zero, List.getElem_cons_succ]
      refine wpAnyH_take (i := 5) (v := .int .i64 (2 + x)) rfl (by kernel_rfl) (by kernel_rfl) (by kernel_rfl) (fun _ _ _ h => h) (Or.inl ⟨by rfl, ?_⟩) (by assumption) ?_
      · intro wx hSw; obtain ⟨⟨_, sm⟩, ⟨_, sv⟩⟩ := hSw; have m0 : wx.cell? ⟨w1.heap.size, 0, none⟩ = some (.int .i64 (2 + x)) := (sm 0 (by simp)).1; have m1 : wx.cell? ⟨w1.heap.size, 1, none⟩ = some (.int .i64 3) := (sm 1 (by simp)).1; have v0 : wx.cell? ⟨w3.heap.size, 0, none⟩ = some (.slice aS C kS) := (sv 0 (by simp)).1; have v1 : wx.cell? ⟨w3.heap.size, 1, none⟩ = some (.slice aA C kA) := (sv 1 (by simp)).1; clear sm sv; go_simp
      try simp only [Act.put, List.setIfInBounds_toArray, List.set_cons_zero, List.set_cons_succ, List.getElem_toArray, List.getElem_cons_zero, List.getElem_cons_succ]
      refine wpAnyH_take (i := 7) (v := .pointer (some ⟨r, 0, none⟩)) rfl (by kernel_rfl) (by kernel_rfl) (by kernel_rfl) (fun _ _ _ h => h) (Or.inl ⟨by rfl, ?_⟩) (by assumption) ?_
      · intro wx hSw; go_simp
      try simp only [Act.put, List.setIfInBounds_toArray, List.set_cons_zero, List.set_cons_succ, List.getElem_toArray, List.getElem_cons_zero, List.getElem_cons_succ]
      refine wpAnyH_take (i := 8) (v := .int .i64 (1 + x2)) rfl (by kernel_rfl) (by kernel_rfl) (by kernel_rfl) (fun _ _ _ h => h) (Or.inl ⟨by rfl, ?_⟩) (by assumption) ?_
      · intro wx hSw; go_simp
      try simp only [Act.put, List.setIfInBounds_toArray, List.set_cons_zero, List.set_cons_succ, List.getElem_toArray, List.getElem_cons_zero, List.getElem_cons_succ]
      refine wpAnyH_ready (rs := [6, 14]) (by kernel_rfl) (by simp) ?_
      refine (AllReadyH.cons rfl (fun K hK => ?_) (AllReadyH.cons rfl (fun K hK => ?_) AllReadyH.nil))
      · go_simp
        go_wp2_with (go_at_call 15; refine (pick_B (n := (2 + x)) Rwr.out (by omega)).mono ?_; rintro e y1 ⟨q1, rfl, hq1, hR, hKp⟩)
        have Ky1 : Hid (Kept r w y1) := Kwr.out.trans hKp
        have My1 : Hid (Bk y1 w1.heap.size [.int .i64 (2 + x), .int .i64 3]) := Mwr.out.kp hKp (by omega)
        have Vy1 : Hid (Bk y1 w3.heap.size [.slice aS C kS, .slice aA C kA]) := Vwr.out.kp hKp (by omega)
        have Py1 : Hid (Bk y1 w.heap.size [.int .i64 0, .int .i64 0]) := Pwr.out.kp hKp (by omega)
        have Qy1 : Hid (Bk y1 (w.heap.size + 1) [.slice none 0 0, .slice none 0 0]) := Qwr.out.kp hKp (by omega)
        have Oy1 : Hid (OwnT lo hi y1 (.agg #[.slice aS C kS, .slice aA C kA]) Tv) := Owr.out.kp hKp (by omega) (by omega)
        have hzy1 := hKp.size
        have Ry1 : Hid (RdB y1 r ad len cap (m + 3 + 2 * (5 - k) + 1)) := hR.more (by omega)
        refine hK.out _ _ ⟨My1.out, Vy1.out⟩ (fun hHeldy1 => ?_)
        clear hK K hR hKp hq1
        try simp only [Act.put, List.setIfInBounds_toArray, List.set_cons_zero, List.set_cons_succ, List.getElem_toArray, List.getElem_cons_zero, List.getElem_cons_succ]
        refine wpAnyH_ready (rs := [9, 14]) (by kernel_rfl) (by simp) ?_
        refine (AllReadyH.cons rfl (fun K hK => ?_) (AllReadyH.cons rfl (fun K hK => ?_) AllReadyH.nil))
        · go_simp
          go_wp2_with (go_at_call 15; refine (pick_B (n := (1 + x2)) Ry1.out (by omega)).mono ?_; rintro e y2 ⟨q2, rfl, hq2, hR, hKp⟩)
          have Ky2 : Hid (Kept r w y2) := Ky1.out.trans hKp
          have My2 : Hid (Bk y2 w1.heap.size [.int .i64 (2 + x), .int .i64 3]) := My1.out.kp hKp (by omega)
          have Vy2 : Hid (Bk y2 w3.heap.size [.slice aS C kS, .slice aA C kA]) := Vy1.out.kp hKp (by omega)
          have Py2 : Hid (Bk y2 w.heap.size [.int .i64 0, .int .i64 0]) := Py1.out.kp hKp (by omega)
          have Qy2 : Hid (Bk y2 (w.heap.size + 1) [.slice none 0 0, .slice none 0 0]) := Qy1.out.kp hKp (by omega)
          have Oy2 : Hid (OwnT lo hi y2 (.agg #[.slice aS C kS, .slice aA C kA]) Tv) := Oy1.out.kp hKp (by omega) (by omega)
          have hzy2 := hKp.size
          have Ry2 : Hid (RdB y2 r ad len cap (m + 3 + 2 * (5 - k) + 2)) := hR.more (by omega)
          refine hK.out _ _ ⟨My2.out, Vy2.out⟩ (fun hHeldy2 => ?_)
          clear hK K hR hKp hq2
          try simp only [Act.put, List.setIfInBounds_toArray, List.set_cons_zero, List.set_cons_succ, List.getElem_toArray, List.getElem_cons_zero, List.getElem_cons_succ]
          refine wpAnyH_ready (rs := [10, 14]) (by kernel_rfl) (by simp) ?_
          refine (AllReadyH.cons rfl (fun K hK => ?_) (AllReadyH.cons rfl (fun K hK => ?_) AllReadyH.nil))
          · go_simp
            go_wp2_with (go_at_call 6; refine (grant_tab (2 + x) 3 (.agg #[.slice aS C kS, .slice aA C kA]) Tv (1 + x2) q1 q2 (by have := HTS.out; exact ⟨by omega, by omega⟩) y2 Oy2.out.at).mono ?_; rintro e y3 ⟨bS, lS, bA, lA, N1, N2, tt, T2, rfl, hO2, hN1, hN2, htt, hb⟩)
            have Ky3 : Hid (Kept r w y3) := Ky2.out.trans (Kept.ofBelow (r := r) hb)
            have My3 : Hid (Bk y3 w1.heap.size [.int .i64 (2 + x), .int .i64 3]) := My2.out.kp (Kept.ofBelow (r := r) hb) (by omega)
            have Vy3 : Hid (Bk y3 w3.heap.size [.slice aS C kS, .slice aA C kA]) := Vy2.out.kp (Kept.ofBelow (r := r) hb) (by omega)
            have Py3 : Hid (Bk y3 w.heap.size [.int .i64 0, .int .i64 0]) := Py2.out.kp (Kept.ofBelow (r := r) hb) (by omega)
            have Qy3 : Hid (Bk y3 (w.heap.size + 1) [.slice none 0 0, .slice none 0 0]) := Qy2.out.kp (Kept.ofBelow (r := r) hb) (by omega)
            have Oy3 : Hid (OwnT lo hi y3 (.agg #[.slice aS C kS, .slice aA C kA]) Tv) := Oy2.out.kp (Kept.ofBelow (r := r) hb) (by omega) (by omega)
            have hzy3 := (Kept.ofBelow (r := r) hb).size
            have Ry3 : Hid (RdB y3 r ad len cap (m + 3 + 2 * (5 - k) + 2)) := (Ry2.out.on hb).more (by omega)
            have Gy3 : Hid (OwnT y2.heap.size y3.heap.size y3 (.agg #[.slice bS N1 lS, .slice bA N2 lA]) T2) := hO2
            have HT2 : Hid (T2.nS = N1 ∧ T2.nA = N2 ∧ (tt = true → N1 = C ∧ N2 = C)) := ⟨hN1, hN2, fun e => by have := htt e; have := HTS.out; omega⟩
            refine hK.out _ _ ⟨My3.out, Vy3.out⟩ (fun hHeldy3 => ?_)
            clear hK K hb hO2 hN1 hN2 htt
            try simp only [Act.put, List.setIfInBounds_toArray, List.set_cons_zero, List.set_cons_succ, List.getElem_toArray, List.getElem_cons_zero, List.getElem_cons_succ]
            refine wpAnyH_take (i := 11) (v := .tuple #[(.agg #[.slice bS N1 lS, .slice bA N2 lA]), .bool tt]) rfl (by kernel_rfl) (by kernel_rfl) (by kernel_rfl) (fun _ _ _ h => h) (Or.inl ⟨by rfl, ?_⟩) (by assumption) ?_
            · intro wx hSw; go_simp
            try simp only [Act.put, List.setIfInBounds_toArray, List.set_cons_zero, List.set_cons_succ, List.getElem_toArray, List.getElem_cons_zero, List.getElem_cons_succ]
            refine wpAnyH_take (i := 12) (v := (.agg #[.slice bS N1 lS, .slice bA N2 lA])) rfl (by kernel_rfl) (by kernel_rfl) (by kernel_rfl) (fun _ _ _ h => h) (Or.inl ⟨by rfl, ?_⟩) (by assumption) ?_
            · intro wx hSw; go_simp
            try simp only [Act.put, List.setIfInBounds_toArray, List.set_cons_zero, List.set_cons_succ, List.getElem_toArray, List.getElem_cons_zero, List.getElem_cons_succ]
            refine wpAnyH_take (i := 13) (v := .bool tt) rfl (by kernel_rfl) (by kernel_rfl) (by kernel_rfl) (fun _ _ _ h => h) (Or.inl ⟨by rfl, ?_⟩) (by assumption) ?_
            · intro wx hSw; go_simp
            try simp only [Act.put, List.setIfInBounds_toArray, List.set_cons_zero, List.set_cons_succ, List.getElem_toArray, List.getElem_cons_zero, List.getElem_cons_succ]
            refine wpAnyH_ready (rs := [14]) (by kernel_rfl) (by simp) ?_
            refine (AllReadyH.cons rfl (fun K hK => ?_) AllReadyH.nil)
            go_simp
            obtain ⟨y4, eA⟩ : ∃ Y, Y = y3.alloc (.cells #[.slice none 0 0, .slice none 0 0] 27) := ⟨_, rfl⟩
            rw [← eA]
            have hb : Below y3.heap.size y3 y4 := by rw [eA]; exact (Below.refl _ _).alloc (Nat.le_refl _) _
            have A0 : Bk y4 y3.heap.size [.slice none 0 0, .slice none 0 0] := by rw [eA]; exact bk_new y3 27 [.slice none 0 0, .slice none 0 0]
            clear eA
            obtain ⟨b11, eb⟩ : ∃ b, b = y3.heap.size := ⟨_, rfl⟩
            have eb1 : y3.heap.size ≤ b11 := by omega
            have eb2 : b11 ≤ y3.heap.size := by omega
            rw [← eb] at A0 ⊢
            have Ky4 : Hid (Kept r w y4) := Ky3.out.trans (Kept.ofBelow (r := r) hb)
            have My4 : Hid (Bk y4 w1.heap.size [.int .i64 (2 + x), .int .i64 3]) := My3.out.kp (Kept.ofBelow (r := r) hb) (by omega)
            have Vy4 : Hid (Bk y4 w3.heap.size [.slice aS C kS, .slice aA C kA]) := Vy3.out.kp (Kept.ofBelow (r := r) hb) (by omega)
            have Py4 : Hid (Bk y4 w.heap.size [.int .i64 0, .int .i64 0]) := Py3.out.kp (Kept.ofBelow (r := r) hb) (by omega)
            have Qy4 : Hid (Bk y4 (w.heap.size + 1) [.slice none 0 0, .slice none 0 0]) := Qy3.out.kp (Kept.ofBelow (r := r) hb) (by omega)
            have Oy4 : Hid (OwnT lo hi y4 (.agg #[.slice aS C kS, .slice aA C kA]) Tv) := Oy3.out.kp (Kept.ofBelow (r := r) hb) (by omega) (by omega)
            have hzy4 := (Kept.ofBelow (r := r) hb).size
            have Ay4 : Hid (Bk y4 b11 [.slice none 0 0, .slice none 0 0]) := A0
            have Ry4 : Hid (RdB y4 r ad len cap (m + 3 + 2 * (5 - k) + 2)) := (Ry3.out.on hb).more (by omega)
            have Gy4 : Hid (OwnT y2.heap.size y3.heap.size y4 (.agg #[.slice bS N1 lS, .slice bA N2 lA]) T2) := Gy3.out.below hb
            refine hK.out _ _ ⟨My4.out, Vy4.out⟩ (fun hHeldy4 => ?_)
            clear hK K hb A0 eb
            try simp only [Act.put, List.setIfInBounds_toArray, List.set_cons_zero, List.set_cons_succ, List.getElem_toArray, List.getElem_cons_zero, List.getElem_cons_succ]
            refine wpAnyH_ready (rs := [15]) (by kernel_rfl) (by simp) ?_
            refine AllReadyH.cons rfl (fun K hK => ?_) AllReadyH.nil
            have a0 : y4.cell? ⟨b11, 0, none⟩ = some (.slice none 0 0) := (Ay4.out.2 0 (by simp)).1
            have a1 : y4.cell? ⟨b11, 1, none⟩ = some (.slice none 0 0) := (Ay4.out.2 1 (by simp)).1
            have f0 : y4.frozen? ⟨b11, 0, none⟩ = false := (Ay4.out.2 0 (by simp)).2
            have f1 : y4.frozen? ⟨b11, 1, none⟩ = false := (Ay4.out.2 1 (by simp)).2
            have EP : Hid ((putL b11 [.slice bS N1 lS, .slice bA N2 lA] 0 y4) = ((y4.setCell ⟨b11, 0, none⟩ (.slice bS N1 lS)).setCell ⟨b11, 1, none⟩ (.slice bA N2 lA))) := rfl
            go_simp
            rw [← EP.out]
            clear a0 a1 f0 f1 EP
            have hzs : (putL b11 [.slice bS N1 lS, .slice bA N2 lA] 0 y4).heap.size = y4.heap.size := size_put b11 [.slice bS N1 lS, .slice bA N2 lA] 0 y4
            have hzs1 : y4.heap.size ≤ (putL b11 [.slice bS N1 lS, .slice bA N2 lA] 0 y4).heap.size := by omega
            have hbA := Ay4.out.1
            have Ay5 : Hid (Bk (putL b11 [.slice bS N1 lS, .slice bA N2 lA] 0 y4) b11 [.slice bS N1 lS, .slice bA N2 lA]) := bk_put Ay4.out rfl
            have My5 : Hid (Bk (putL b11 [.slice bS N1 lS, .slice bA N2 lA] 0 y4) w1.heap.size [.int .i64 (2 + x), .int .i64 3]) := My4.out.sm hzs1 (sm_put (by omega) [.slice bS N1 lS, .slice bA N2 lA] 0 y4)
            have Vy5 : Hid (Bk (putL b11 [.slice bS N1 lS, .slice bA N2 lA] 0 y4) w3.heap.size [.slice aS C kS, .slice aA C kA]) := Vy4.out.sm hzs1 (sm_put (by omega) [.slice bS N1 lS, .slice bA N2 lA] 0 y4)
            have Py5 : Hid (Bk (putL b11 [.slice bS N1 lS, .slice bA N2 lA] 0 y4) w.heap.size [.int .i64 0, .int .i64 0]) := Py4.out.sm hzs1 (sm_put (by omega) [.slice bS N1 lS, .slice bA N2 lA] 0 y4)
            have Qy5 : Hid (Bk (putL b11 [.slice bS N1 lS, .slice bA N2 lA] 0 y4) (w.heap.size + 1) [.slice none 0 0, .slice none 0 0]) := Qy4.out.sm hzs1 (sm_put (by omega) [.slice bS N1 lS, .slice bA N2 lA] 0 y4)
            have Oy5 : Hid (OwnT lo hi (putL b11 [.slice bS N1 lS, .slice bA N2 lA] 0 y4) (.agg #[.slice aS C kS, .slice aA C kA]) Tv) := Oy4.out.sm hzs1 (fun b h1 h2 => sm_put (by omega) [.slice bS N1 lS, .slice bA N2 lA] 0 y4)
            have hgs : ∀ b, y2.heap.size ≤ b → b < y3.heap.size → ¬ b = b11 := by
              intro b h1 h2
              omega
            have Gy5 : Hid (OwnT y2.heap.size y3.heap.size (putL b11 [.slice bS N1 lS, .slice bA N2 lA] 0 y4) (.agg #[.slice bS N1 lS, .slice bA N2 lA]) T2) := Gy4.out.sm hzs1 (fun b h1 h2 => sm_put (hgs b h1 h2) [.slice bS N1 lS, .slice bA N2 lA] 0 y4)
            have Ry5 : Hid (RdB (putL b11 [.slice bS N1 lS, .slice bA N2 lA] 0 y4) r ad len cap (m + 3 + 2 * (5 - k) + 2)) := Ry4.out.below (below_put (by omega) [.slice bS N1 lS, .slice bA N2 lA] 0 (Below.refl _ _))
            have Ky5 : Hid (Kept r w (putL b11 [.slice bS N1 lS, .slice bA N2 lA] 0 y4)) := (Ky4.out.setCell (q := ⟨b11, 0, none⟩) (.inl (by show w.heap.size ≤ b11; omega)) _).setCell (q := ⟨b11, 1, none⟩) (.inl (by show w.heap.size ≤ b11; omega)) _
            have hzy5 : y4.heap.size ≤ (putL b11 [.slice bS N1 lS, .slice bA N2 lA] 0 y4).heap.size := hzs1
            clear hzs hzs1 hgs
            generalize (putL b11 [.slice bS N1 lS, .slice bA N2 lA] 0 y4) = y5 at *
            refine hK.out _ _ ⟨My5.out, Vy5.out⟩ (fun hHeldy5 => ?_)
            clear hK K
            try simp only [Act.put, List.setIfInBounds_toArray, List.set_cons_zero, List.set_cons_succ, List.getElem_toArray, List.getElem_cons_zero, List.getElem_cons_succ]
            refine wpAnyH_take (i := 16) (v := .bool tt) rfl (by kernel_rfl) (by kernel_rfl) (by kernel_rfl) (fun _ _ _ h => h) (Or.inl ⟨by rfl, ?_⟩) (by assumption) ?_
            · intro wx hSw; go_simp
            try simp only [Act.put, List.setIfInBounds_toArray, List.set_cons_zero, List.set_cons_succ, List.getElem_toArray, List.getElem_cons_zero, List.getElem_cons_succ]
            refine wpAnyH_done (by kernel_rfl) ?_ _
            clear hHeld
            cases tt
            · go_wp2
              go_roundw
              case rel => exact ⟨k - 1, aS, kS, aA, kA, Tv, lo, hi, by go_num, by omega, by omega, HTS.out.1, HTS.out.2, hlo, by omega, hsep, Oy5.out, Vy5.out, My5.out, Py5.out, Qy5.out, Ry5.out.more (by omega), Ky5.out⟩
              case measure => simp [intOf]; omega
            · obtain ⟨e1, e2⟩ := HT2.out.2.2 rfl
              obtain rfl : C = N1 := e1.symm
              obtain rfl : C = N2 := e2.symm
              have a0 : y5.cell? ⟨b11, 0, none⟩ = some (.slice bS C lS) := (Ay5.out.2 0 (by simp)).1
              have a1 : y5.cell? ⟨b11, 1, none⟩ = some (.slice bA C lA) := (Ay5.out.2 1 (by simp)).1
              have v0 : y5.cell? ⟨w3.heap.size, 0, none⟩ = some (.slice aS C kS) := (Vy5.out.2 0 (by simp)).1
              have v1 : y5.cell? ⟨w3.heap.size, 1, none⟩ = some (.slice aA C kA) := (Vy5.out.2 1 (by simp)).1
              have f0 : y5.frozen? ⟨w3.heap.size, 0, none⟩ = false := (Vy5.out.2 0 (by simp)).2
              have f1 : y5.frozen? ⟨w3.heap.size, 1, none⟩ = false := (Vy5.out.2 1 (by simp)).2
              have hzs : y5.heap.size ≤ (putL w3.heap.size [.slice bS C lS, .slice bA C lA] 0 y5).heap.size := Nat.le_of_eq (size_put _ _ _ _).symm
              have hgx : w3.heap.size < y2.heap.size := by omega
              have VZ : Hid (Bk (putL w3.heap.size [.slice bS C lS, .slice bA C lA] 0 y5) w3.heap.size [.slice bS C lS, .slice bA C lA]) := bk_put Vy5.out rfl
              have MZ : Hid (Bk (putL w3.heap.size [.slice bS C lS, .slice bA C lA] 0 y5) w1.heap.size [.int .i64 (2 + x), .int .i64 3]) := My5.out.sm hzs (sm_put (by omega) [.slice bS C lS, .slice bA C lA] 0 y5)
              have PZ : Hid (Bk (putL w3.heap.size [.slice bS C lS, .slice bA C lA] 0 y5) w.heap.size [.int .i64 0, .int .i64 0]) := Py5.out.sm hzs (sm_put (by omega) [.slice bS C lS, .slice bA C lA] 0 y5)
              have QZ : Hid (Bk (putL w3.heap.size [.slice bS C lS, .slice bA C lA] 0 y5) (w.heap.size + 1) [.slice none 0 0, .slice none 0 0]) := Qy5.out.sm hzs (sm_put (by omega) [.slice bS C lS, .slice bA C lA] 0 y5)
              have OZ : Hid (OwnT y2.heap.size y3.heap.size (putL w3.heap.size [.slice bS C lS, .slice bA C lA] 0 y5) (.agg #[.slice bS C lS, .slice bA C lA]) T2) := Gy5.out.sm hzs (fun b h1 h2 => sm_put (by omega) [.slice bS C lS, .slice bA C lA] 0 y5)
              have RZ : Hid (RdB (putL w3.heap.size [.slice bS C lS, .slice bA C lA] 0 y5) r ad len cap (m + 3 + 2 * (5 - k) + 2)) := Ry5.out.below (below_put (by omega) [.slice bS C lS, .slice bA C lA] 0 (Below.refl _ _))
              have KZ : Hid (Kept r w (putL w3.heap.size [.slice bS C lS, .slice bA C lA] 0 y5)) := (Ky5.out.setCell (q := ⟨w3.heap.size, 0, none⟩) (.inl (by show w.heap.size ≤ w3.heap.size; omega)) _).setCell (q := ⟨w3.heap.size, 1, none⟩) (.inl (by show w.heap.size ≤ w3.heap.size; omega)) _
              have hzz : y3.heap.size ≤ (putL w3.heap.size [.slice bS C lS, .slice bA C lA] 0 y5).heap.size := by rw [size_put]; omega
              clear hzs
              go_wp2
              go_roundw
              case rel => exact ⟨k - 1, bS, lS, bA, lA, T2, y2.heap.size, y3.heap.size, by go_num, by omega, by omega, HT2.out.1, HT2.out.2.1, by omega, hzz, .inr hgx, OZ.out, VZ.out, MZ.out, PZ.out, QZ.out, RZ.out.more (by omega), KZ.out⟩
              case measure => simp [intOf]; omega
          · go_simp
            obtain ⟨y6, eA⟩ : ∃ Y, Y = y2.alloc (.cells #[.slice none 0 0, .slice none 0 0] 27) := ⟨_, rfl⟩
            rw [← eA]
            have hb : Below y2.heap.size y2 y6 := by rw [eA]; exact (Below.refl _ _).alloc (Nat.le_refl _) _
            have A0 : Bk y6 y2.heap.size [.slice none 0 0, .slice none 0 0] := by rw [eA]; exact bk_new y2 27 [.slice none 0 0, .slice none 0 0]
            clear eA
            obtain ⟨b11, eb⟩ : ∃ b, b = y2.heap.size := ⟨_, rfl⟩
            have eb1 : y2.heap.size ≤ b11 := by omega
            have eb2 : b11 ≤ y2.heap.size := by omega
            rw [← eb] at A0 ⊢
            have Ky6 : Hid (Kept r w y6) := Ky2.out.trans (Kept.ofBelow (r := r) hb)
            have My6 : Hid (Bk y6 w1.heap.size [.int .i64 (2 + x), .int .i64 3]) := My2.out.kp (Kept.ofBelow (r := r) hb) (by omega)
            have Vy6 : Hid (Bk y6 w3.heap.size [.slice aS C kS, .slice aA C kA]) := Vy2.out.kp (Kept.ofBelow (r := r) hb) (by omega)
            have Py6 : Hid (Bk y6 w.heap.size [.int .i64 0, .int .i64 0]) := Py2.out.kp (Kept.ofBelow (r := r) hb) (by omega)
            have Qy6 : Hid (Bk y6 (w.heap.size + 1) [.slice none 0 0, .slice none 0 0]) := Qy2.out.kp (Kept.ofBelow (r := r) hb) (by omega)
            have Oy6 : Hid (OwnT lo hi y6 (.agg #[.slice aS C kS, .slice aA C kA]) Tv) := Oy2.out.kp (Kept.ofBelow (r := r) hb) (by omega) (by omega)
            have hzy6 := (Kept.ofBelow (r := r) hb).size
            have Ay6 : Hid (Bk y6 b11 [.slice none 0 0, .slice none 0 0]) := A0
            have Ry6 : Hid (RdB y6 r ad len cap (m + 3 + 2 * (5 - k) + 2)) := (Ry2.out.on hb).more (by omega)
            refine hK.out _ _ ⟨My6.out, Vy6.out⟩ (fun hHeldy6 => ?_)
            clear hK K hb A0 eb
            try simp only [Act.put, List.setIfInBounds_toArray, List.set_cons_zero, List.set_cons_succ, List.getElem_toArray, List.getElem_cons_zero, List.getElem_cons_succ]
            refine wpAnyH_ready (rs := [10]) (by kernel_rfl) (by simp) ?_
            refine (AllReadyH.cons rfl (fun K hK => ?_) AllReadyH.nil)
            go_simp
            go_wp2_with (go_at_call 6; refine (grant_tab (2 + x) 3 (.agg #[.slice aS C kS, .slice aA C kA]) Tv (1 + x2) q1 q2 (by have := HTS.out; exact ⟨by omega, by omega⟩) y6 Oy6.out.at).mono ?_; rintro e y7 ⟨bS, lS, bA, lA, N1, N2, tt, T2, rfl, hO2, hN1, hN2, htt, hb⟩)
            have Ky7 : Hid (Kept r w y7) := Ky6.out.trans (Kept.ofBelow (r := r) hb)
            have My7 : Hid (Bk y7 w1.heap.size [.int .i64 (2 + x), .int .i64 3]) := My6.out.kp (Kept.ofBelow (r := r) hb) (by omega)
            have Vy7 : Hid (Bk y7 w3.heap.size [.slice aS C kS, .slice aA C kA]) := Vy6.out.kp (Kept.ofBelow (r := r) hb) (by omega)
            have Py7 : Hid (Bk y7 w.heap.size [.int .i64 0, .int .i64 0]) := Py6.out.kp (Kept.ofBelow (r := r) hb) (by omega)
            have Qy7 : Hid (Bk y7 (w.heap.size + 1) [.slice none 0 0, .slice none 0 0]) := Qy6.out.kp (Kept.ofBelow (r := r) hb) (by omega)
            have Oy7 : Hid (OwnT lo hi y7 (.agg #[.slice aS C kS, .slice aA C kA]) Tv) := Oy6.out.kp (Kept.ofBelow (r := r) hb) (by omega) (by omega)
            have hzy7 := (Kept.ofBelow (r := r) hb).size
            have Ay7 : Hid (Bk y7 b11 [.slice none 0 0, .slice none 0 0]) := Ay6.out.kp (Kept.ofBelow (r := r) hb) (by omega)
            have Ry7 : Hid (RdB y7 r ad len cap (m + 3 + 2 * (5 - k) + 2)) := (Ry6.out.on hb).more (by omega)
            have Gy7 : Hid (OwnT y6.heap.size y7.heap.size y7 (.agg #[.slice bS N1 lS, .slice bA N2 lA]) T2) := hO2
            have HT2 : Hid (T2.nS = N1 ∧ T2.nA = N2 ∧ (tt = true → N1 = C ∧ N2 = C)) := ⟨hN1, hN2, fun e => by have := htt e; have := HTS.out; omega⟩
            refine hK.out _ _ ⟨My7.out, Vy7.out⟩ (fun hHeldy7 => ?_)
            clear hK K hb hO2 hN1 hN2 htt
            try simp only [Act.put, List.setIfInBounds_toArray, List.set_cons_zero, List.set_cons_succ, List.getElem_toArray, List.getElem_cons_zero, List.getElem_cons_succ]
            refine wpAnyH_take (i := 11) (v := .tuple #[(.agg #[.slice bS N1 lS, .slice bA N2 lA]), .bool tt]) rfl (by kernel_rfl) (by kernel_rfl) (by kernel_rfl) (fun _ _ _ h => h) (Or.inl ⟨by rfl, ?_⟩) (by assumption) ?_
            · intro wx hSw; go_simp
            try simp only [Act.put, List.setIfInBounds_toArray, List.set_cons_zero, List.set_cons_succ, List.getElem_toArray, List.getElem_cons_zero, List.getElem_cons_succ]
            refine wpAnyH_take (i := 12) (v := (.agg #[.slice bS N1 lS, .slice bA N2 lA])) rfl (by kernel_rfl) (by kernel_rfl) (by kernel_rfl) (fun _ _ _ h => h) (Or.inl ⟨by rfl, ?_⟩) (by assumption) ?_
            · intro wx hSw; go_simp
            try simp only [Act.put, List.setIfInBounds_toArray, List.set_cons_zero, List.set_cons_succ, List.getElem_toArray, List.getElem_cons_zero, List.getElem_cons_succ]
            refine wpAnyH_take (i := 13) (v := .bool tt) rfl (by kernel_rfl) (by kernel_rfl) (by kernel_rfl) (fun _ _ _ h => h) (Or.inl ⟨by rfl, ?_⟩) (by assumption) ?_
            · intro wx hSw; go_simp
            try simp only [Act.put, List.setIfInBounds_toArray, List.set_cons_zero, List.set_cons_succ, List.getElem_toArray, List.getElem_cons_zero, List.getElem_cons_succ]
            refine wpAnyH_ready (rs := [15]) (by kernel_rfl) (by simp) ?_
            refine AllReadyH.cons rfl (fun K hK => ?_) AllReadyH.nil
            have a0 : y7.cell? ⟨b11, 0, none⟩ = some (.slice none 0 0) := (Ay7.out.2 0 (by simp)).1
            have a1 : y7.cell? ⟨b11, 1, none⟩ = some (.slice none 0 0) := (Ay7.out.2 1 (by simp)).1
            have f0 : y7.frozen? ⟨b11, 0, none⟩ = false := (Ay7.out.2 0 (by simp)).2
            have f1 : y7.frozen? ⟨b11, 1, none⟩ = false := (Ay7.out.2 1 (by simp)).2
            have EP : Hid ((putL b11 [.slice bS N1 lS, .slice bA N2 lA] 0 y7) = ((y7.setCell ⟨b11, 0, none⟩ (.slice bS N1 lS)).setCell ⟨b11, 1, none⟩ (.slice bA N2 lA))) := rfl
            go_simp
            rw [← EP.out]
            clear a0 a1 f0 f1 EP
            have hzs : (putL b11 [.slice bS N1 lS, .slice bA N2 lA] 0 y7).heap.size = y7.heap.size := size_put b11 [.slice bS N1 lS, .slice bA N2 lA] 0 y7
            have hzs1 : y7.heap.size ≤ (putL b11 [.slice bS N1 lS, .slice bA N2 lA] 0 y7).heap.size := by omega
            have hbA := Ay7.out.1
            have Ay8 : Hid (Bk (putL b11 [.slice bS N1 lS, .slice bA N2 lA] 0 y7) b11 [.slice bS N1 lS, .slice bA N2 lA]) := bk_put Ay7.out rfl
            have My8 : Hid (Bk (putL b11 [.slice bS N1 lS, .slice bA N2 lA] 0 y7) w1.heap.size [.int .i64 (2 + x), .int .i64 3]) := My7.out.sm hzs1 (sm_put (by omega) [.slice bS N1 lS, .slice bA N2 lA] 0 y7)
            have Vy8 : Hid (Bk (putL b11 [.slice bS N1 lS, .slice bA N2 lA] 0 y7) w3.heap.size [.slice aS C kS, .slice aA C kA]) := Vy7.out.sm hzs1 (sm_put (by omega) [.slice bS N1 lS, .slice bA N2 lA] 0 y7)
            have Py8 : Hid (Bk (putL b11 [.slice bS N1 lS, .slice bA N2 lA] 0 y7) w.heap.size [.int .i64 0, .int .i64 0]) := Py7.out.sm hzs1 (sm_put (by omega) [.slice bS N1 lS, .slice bA N2 lA] 0 y7)
            have Qy8 : Hid (Bk (putL b11 [.slice bS N1 lS, .slice bA N2 lA] 0 y7) (w.heap.size + 1) [.slice none 0 0, .slice none 0 0]) := Qy7.out.sm hzs1 (sm_put (by omega) [.slice bS N1 lS, .slice bA N2 lA] 0 y7)
            have Oy8 : Hid (OwnT lo hi (putL b11 [.slice bS N1 lS, .slice bA N2 lA] 0 y7) (.agg #[.slice aS C kS, .slice aA C kA]) Tv) := Oy7.out.sm hzs1 (fun b h1 h2 => sm_put (by omega) [.slice bS N1 lS, .slice bA N2 lA] 0 y7)
            have hgs : ∀ b, y6.heap.size ≤ b → b < y7.heap.size → ¬ b = b11 := by
              have hq := Ay6.out.1
              intro b h1 h2
              omega
            have Gy8 : Hid (OwnT y6.heap.size y7.heap.size (putL b11 [.slice bS N1 lS, .slice bA N2 lA] 0 y7) (.agg #[.slice bS N1 lS, .slice bA N2 lA]) T2) := Gy7.out.sm hzs1 (fun b h1 h2 => sm_put (hgs b h1 h2) [.slice bS N1 lS, .slice bA N2 lA] 0 y7)
            have Ry8 : Hid (RdB (putL b11 [.slice bS N1 lS, .slice bA N2 lA] 0 y7) r ad len cap (m + 3 + 2 * (5 - k) + 2)) := Ry7.out.below (below_put (by omega) [.slice bS N1 lS, .slice bA N2 lA] 0 (Below.refl _ _))
            have Ky8 : Hid (Kept r w (putL b11 [.slice bS N1 lS, .slice bA N2 lA] 0 y7)) := (Ky7.out.setCell (q := ⟨b11, 0, none⟩) (.inl (by show w.heap.size ≤ b11; omega)) _).setCell (q := ⟨b11, 1, none⟩) (.inl (by show w.heap.size ≤ b11; omega)) _
            have hzy8 : y7.heap.size ≤ (putL b11 [.slice bS N1 lS, .slice bA N2 lA] 0 y7).heap.size := hzs1
            clear hzs hzs1 hgs
            generalize (putL b11 [.slice bS N1 lS, .slice bA N2 lA] 0 y7) = y8 at *
            refine hK.out _ _ ⟨My8.out, Vy8.out⟩ (fun hHeldy8 => ?_)
            clear hK K
            try simp only [Act.put, List.setIfInBounds_toArray, List.set_cons_zero, List.set_cons_succ, List.getElem_toArray, List.getElem_cons_zero, List.getElem_cons_succ]
            refine wpAnyH_take (i := 16) (v := .bool tt) rfl (by kernel_rfl) (by kernel_rfl) (by kernel_rfl) (fun _ _ _ h => h) (Or.inl ⟨by rfl, ?_⟩) (by assumption) ?_
            · intro wx hSw; go_simp
            try simp only [Act.put, List.setIfInBounds_toArray, List.set_cons_zero, List.set_cons_succ, List.getElem_toArray, List.getElem_cons_zero, List.getElem_cons_succ]
            refine wpAnyH_done (by kernel_rfl) ?_ _
            clear hHeld
            cases tt
            · go_wp2
              go_roundw
              case rel => exact ⟨k - 1, aS, kS, aA, kA, Tv, lo, hi, by go_num, by omega, by omega, HTS.out.1, HTS.out.2, hlo, by omega, hsep, Oy8.out, Vy8.out, My8.out, Py8.out, Qy8.out, Ry8.out.more (by omega), Ky8.out⟩
              case measure => simp [intOf]; omega
            · obtain ⟨e1, e2⟩ := HT2.out.2.2 rfl
              obtain rfl : C = N1 := e1.symm
              obtain rfl : C = N2 := e2.symm
              have a0 : y8.cell? ⟨b11, 0, none⟩ = some (.slice bS C lS) := (Ay8.out.2 0 (by simp)).1
              have a1 : y8.cell? ⟨b11, 1, none⟩ = some (.slice bA C lA) := (Ay8.out.2 1 (by simp)).1
              have v0 : y8.cell? ⟨w3.heap.size, 0, none⟩ = some (.slice aS C kS) := (Vy8.out.2 0 (by simp)).1
              have v1 : y8.cell? ⟨w3.heap.size, 1, none⟩ = some (.slice aA C kA) := (Vy8.out.2 1 (by simp)).1
              have f0 : y8.frozen? ⟨w3.heap.size, 0, none⟩ = false := (Vy8.out.2 0 (by simp)).2
              have f1 : y8.frozen? ⟨w3.heap.size, 1, none⟩ = false := (Vy8.out.2 1 (by simp)).2
              have hzs : y8.heap.size ≤ (putL w3.heap.size [.slice bS C lS, .slice bA C lA] 0 y8).heap.size := Nat.le_of_eq (size_put _ _ _ _).symm
              have hgx : w3.heap.size < y6.heap.size := by omega
              have VZ : Hid (Bk (putL w3.heap.size [.slice bS C lS, .slice bA C lA] 0 y8) w3.heap.size [.slice bS C lS, .slice bA C lA]) := bk_put Vy8.out rfl
              have MZ : Hid (Bk (putL w3.heap.size [.slice bS C lS, .slice bA C lA] 0 y8) w1.heap.size [.int .i64 (2 + x), .int .i64 3]) := My8.out.sm hzs (sm_put (by omega) [.slice bS C lS, .slice bA C lA] 0 y8)
              have PZ : Hid (Bk (putL w3.heap.size [.slice bS C lS, .slice bA C lA] 0 y8) w.heap.size [.int .i64 0, .int .i64 0]) := Py8.out.sm hzs (sm_put (by omega) [.slice bS C lS, .slice bA C lA] 0 y8)
              have QZ : Hid (Bk (putL w3.heap.size [.slice bS C lS, .slice bA C lA] 0 y8) (w.heap.size + 1) [.slice none 0 0, .slice none 0 0]) := Qy8.out.sm hzs (sm_put (by omega) [.slice bS C lS, .slice bA C lA] 0 y8)
              have OZ : Hid (OwnT y6.heap.size y7.heap.size (putL w3.heap.size [.slice bS C lS, .slice bA C lA] 0 y8) (.agg #[.slice bS C lS, .slice bA C lA]) T2) := Gy8.out.sm hzs (fun b h1 h2 => sm_put (by omega) [.slice bS C lS, .slice bA C lA] 0 y8)
              have RZ : Hid (RdB (putL w3.heap.size [.slice bS C lS, .slice bA C lA] 0 y8) r ad len cap (m + 3 + 2 * (5 - k) + 2)) := Ry8.out.below (below_put (by omega) [.slice bS C lS, .slice bA C lA] 0 (Below.refl _ _))
              have KZ : Hid (Kept r w (putL w3.heap.size [.slice bS C lS, .slice bA C lA] 0 y8)) := (Ky8.out.setCell (q := ⟨w3.heap.size, 0, none⟩) (.inl (by show w.heap.size ≤ w3.heap.size; omega)) _).setCell (q := ⟨w3.heap.size, 1, none⟩) (.inl (by show w.heap.size ≤ w3.heap.size; omega)) _
              have hzz : y7.heap.size ≤ (putL w3.heap.size [.slice bS C lS, .slice bA C lA] 0 y8).heap.size := by rw [size_put]; omega
              clear hzs
              go_wp2
              go_roundw
              case rel => exact ⟨k - 1, bS, lS, bA, lA, T2, y6.heap.size, y7.heap.size, by go_num, by omega, by omega, HT2.out.1, HT2.out.2.1, by omega, hzz, .inr hgx, OZ.out, VZ.out, MZ.out, PZ.out, QZ.out, RZ.out.more (by omega), KZ.out⟩
              case measure => simp [intOf]; omega
        · go_simp
          obtain ⟨y9, eA⟩ : ∃ Y, Y = y1.alloc (.cells #[.slice none 0 0, .slice none 0 0] 27) := ⟨_, rfl⟩
          rw [← eA]
          have hb : Below y1.heap.size y1 y9 := by rw [eA]; exact (Below.refl _ _).alloc (Nat.le_refl _) _
          have A0 : Bk y9 y1.heap.size [.slice none 0 0, .slice none 0 0] := by rw [eA]; exact bk_new y1 27 [.slice none 0 0, .slice none 0 0]
          clear eA
          obtain ⟨b11, eb⟩ : ∃ b, b = y1.heap.size := ⟨_, rfl⟩
          have eb1 : y1.heap.size ≤ b11 := by omega
          have eb2 : b11 ≤ y1.heap.size := by omega
          rw [← eb] at A0 ⊢
          have Ky9 : Hid (Kept r w y9) := Ky1.out.trans (Kept.ofBelow (r := r) hb)
          have My9 : Hid (Bk y9 w1.heap.size [.int .i64 (2 + x), .int .i64 3]) := My1.out.kp (Kept.ofBelow (r := r) hb) (by omega)
          have Vy9 : Hid (Bk y9 w3.heap.size [.slice aS C kS, .slice aA C kA]) := Vy1.out.kp (Kept.ofBelow (r := r) hb) (by omega)
          have Py9 : Hid (Bk y9 w.heap.size [.int .i64 0, .int .i64 0]) := Py1.out.kp (Kept.ofBelow (r := r) hb) (by omega)
          have Qy9 : Hid (Bk y9 (w.heap.size + 1) [.slice none 0 0, .slice none 0 0]) := Qy1.out.kp (Kept.ofBelow (r := r) hb) (by omega)
          have Oy9 : Hid (OwnT lo hi y9 (.agg #[.slice aS C kS, .slice aA C kA]) Tv) := Oy1.out.kp (Kept.ofBelow (r := r) hb) (by omega) (by omega)
          have hzy9 := (Kept.ofBelow (r := r) hb).size
          have Ay9 : Hid (Bk y9 b11 [.slice none 0 0, .slice none 0 0]) := A0
          have Ry9 : Hid (RdB y9 r ad len cap (m + 3 + 2 * (5 - k) + 1)) := (Ry1.out.on hb).more (by omega)
          refine hK.out _ _ ⟨My9.out, Vy9.out⟩ (fun hHeldy9 => ?_)
          clear hK K hb A0 eb
          try simp only [Act.put, List.setIfInBounds_toArray, List.set_cons_zero, List.set_cons_succ, List.getElem_toArray, List.getElem_cons_zero, List.getElem_cons_succ]
          refine wpAnyH_ready (rs := [9]) (by kernel_rfl) (by simp) ?_
          refine (AllReadyH.cons rfl (fun K hK => ?_) AllReadyH.nil)
          go_simp
          go_wp2_with (go_at_call 15; refine (pick_B (n := (1 + x2)) Ry9.out (by omega)).mono ?_; rintro e y10 ⟨q2, rfl, hq2, hR, hKp⟩)
          have Ky10 : Hid (Kept r w y10) := Ky9.out.trans hKp
          have My10 : Hid (Bk y10 w1.heap.size [.int .i64 (2 + x), .int .i64 3]) := My9.out.kp hKp (by omega)
          have Vy10 : Hid (Bk y10 w3.heap.size [.slice aS C kS, .slice aA C kA]) := Vy9.out.kp hKp (by omega)
          have Py10 : Hid (Bk y10 w.heap.size [.int .i64 0, .int .i64 0]) := Py9.out.kp hKp (by omega)
          have Qy10 : Hid (Bk y10 (w.heap.size + 1) [.slice none 0 0, .slice none 0 0]) := Qy9.out.kp hKp (by omega)
          have Oy10 : Hid (OwnT lo hi y10 (.agg #[.slice aS C kS, .slice aA C kA]) Tv) := Oy9.out.kp hKp (by omega) (by omega)
          have hzy10 := hKp.size
          have Ay10 : Hid (Bk y10 b11 [.slice none 0 0, .slice none 0 0]) := Ay9.out.kp hKp (by omega)
          have Ry10 : Hid (RdB y10 r ad len cap (m + 3 + 2 * (5 - k) + 2)) := hR.more (by omega)
          refine hK.out _ _ ⟨My10.out, Vy10.out⟩ (fun hHeldy10 => ?_)
          clear hK K hR hKp hq2
          try simp only [Act.put, List.setIfInBounds_toArray, List.set_cons_zero, List.set_cons_succ, List.getElem_toArray, List.getElem_cons_zero, List.getElem_cons_succ]
          refine wpAnyH_ready (rs := [10]) (by kernel_rfl) (by simp) ?_
          refine (AllReadyH.cons rfl (fun K hK => ?_) AllReadyH.nil)
          go_simp
          go_wp2_with (go_at_call 6; refine (grant_tab (2 + x) 3 (.agg #[.slice aS C kS, .slice aA C kA]) Tv (1 + x2) q1 q2 (by have := HTS.out; exact ⟨by omega, by omega⟩) y10 Oy10.out.at).mono ?_; rintro e y11 ⟨bS, lS, bA, lA, N1, N2, tt, T2, rfl, hO2, hN1, hN2, htt, hb⟩)
          have Ky11 : Hid (Kept r w y11) := Ky10.out.trans (Kept.ofBelow (r := r) hb)
          have My11 : Hid (Bk y11 w1.heap.size [.int .i64 (2 + x), .int .i64 3]) := My10.out.kp (Kept.ofBelow (r := r) hb) (by omega)
          have Vy11 : Hid (Bk y11 w3.heap.size [.slice aS C kS, .slice aA C kA]) := Vy10.out.kp (Kept.ofBelow (r := r) hb) (by omega)
          have Py11 : Hid (Bk y11 w.heap.size [.int .i64 0, .int .i64 0]) := Py10.out.kp (Kept.ofBelow (r := r) hb) (by omega)
          have Qy11 : Hid (Bk y11 (w.heap.size + 1) [.slice none 0 0, .slice none 0 0]) := Qy10.out.kp (Kept.ofBelow (r := r) hb) (by omega)
          have Oy11 : Hid (OwnT lo hi y11 (.agg #[.slice aS C kS, .slice aA C kA]) Tv) := Oy10.out.kp (Kept.ofBelow (r := r) hb) (by omega) (by omega)
          have hzy11 := (Kept.ofBelow (r := r) hb).size
          have Ay11 : Hid (Bk y11 b11 [.slice none 0 0, .slice none 0 0]) := Ay10.out.kp (Kept.ofBelow (r := r) hb) (by omega)
          have Ry11 : Hid (RdB y11 r ad len cap (m + 3 + 2 * (5 - k) + 2)) := (Ry10.out.on hb).more (by omega)
          have Gy11 : Hid (OwnT y10.heap.size y11.heap.size y11 (.agg #[.slice bS N1 lS, .slice bA N2 lA]) T2) := hO2
          have HT2 : Hid (T2.nS = N1 ∧ T2.nA = N2 ∧ (tt = true → N1 = C ∧ N2 = C)) := ⟨hN1, hN2, fun e => by have := htt e; have := HTS.out; omega⟩
          refine hK.out _ _ ⟨My11.out, Vy11.out⟩ (fun hHeldy11 => ?_)
          clear hK K hb hO2 hN1 hN2 htt
          try simp only [Act.put, List.setIfInBounds_toArray, List.set_cons_zero, List.set_cons_succ, List.getElem_toArray, List.getElem_cons_zero, List.getElem_cons_succ]
          refine wpAnyH_take (i := 11) (v := .tuple #[(.agg #[.slice bS N1 lS, .slice bA N2 lA]), .bool tt]) rfl (by kernel_rfl) (by kernel_rfl) (by kernel_rfl) (fun _ _ _ h => h) (Or.inl ⟨by rfl, ?_⟩) (by assumption) ?_
          · intro wx hSw; go_simp
          try simp only [Act.put, List.setIfInBounds_toArray, List.set_cons_zero, List.set_cons_succ, List.getElem_toArray, List.getElem_cons_zero, List.getElem_cons_succ]
          refine wpAnyH_take (i := 12) (v := (.agg #[.slice bS N1 lS, .slice bA N2 lA])) rfl (by kernel_rfl) (by kernel_rfl) (by kernel_rfl) (fun _ _ _ h => h) (Or.inl ⟨by rfl, ?_⟩) (by assumption) ?_
          · intro wx hSw; go_simp
          try simp only [Act.put, List.setIfInBounds_toArray, List.set_cons_zero, List.set_cons_succ, List.getElem_toArray, List.getElem_cons_zero, List.getElem_cons_succ]
          refine wpAnyH_take (i := 13) (v := .bool tt) rfl (by kernel_rfl) (by kernel_rfl) (by kernel_rfl) (fun _ _ _ h => h) (Or.inl ⟨by rfl, ?_⟩) (by assumption) ?_
          · intro wx hSw; go_simp
          try simp only [Act.put, List.setIfInBounds_toArray, List.set_cons_zero, List.set_cons_succ, List.getElem_toArray, List.getElem_cons_zero, List.getElem_cons_succ]
          refine wpAnyH_ready (rs := [15]) (by kernel_rfl) (by simp) ?_
          refine AllReadyH.cons rfl (fun K hK => ?_) AllReadyH.nil
          have a0 : y11.cell? ⟨b11, 0, none⟩ = some (.slice none 0 0) := (Ay11.out.2 0 (by simp)).1
          have a1 : y11.cell? ⟨b11, 1, none⟩ = some (.slice none 0 0) := (Ay11.out.2 1 (by simp)).1
          have f0 : y11.frozen? ⟨b11, 0, none⟩ = false := (Ay11.out.2 0 (by simp)).2
          have f1 : y11.frozen? ⟨b11, 1, none⟩ = false := (Ay11.out.2 1 (by simp)).2
          have EP : Hid ((putL b11 [.slice bS N1 lS, .slice bA N2 lA] 0 y11) = ((y11.setCell ⟨b11, 0, none⟩ (.slice bS N1 lS)).setCell ⟨b11, 1, none⟩ (.slice bA N2 lA))) := rfl
          go_simp
          rw [← EP.out]
          clear a0 a1 f0 f1 EP
          have hzs : (putL b11 [.slice bS N1 lS, .slice bA N2 lA] 0 y11).heap.size = y11.heap.size := size_put b11 [.slice bS N1 lS, .slice bA N2 lA] 0 y11
          have hzs1 : y11.heap.size ≤ (putL b11 [.slice bS N1 lS, .slice bA N2 lA] 0 y11).heap.size := by omega
          have hbA := Ay11.out.1
          have Ay12 : Hid (Bk (putL b11 [.slice bS N1 lS, .slice bA N2 lA] 0 y11) b11 [.slice bS N1 lS, .slice bA N2 lA]) := bk_put Ay11.out rfl
          have My12 : Hid (Bk (putL b11 [.slice bS N1 lS, .slice bA N2 lA] 0 y11) w1.heap.size [.int .i64 (2 + x), .int .i64 3]) := My11.out.sm hzs1 (sm_put (by omega) [.slice bS N1 lS, .slice bA N2 lA] 0 y11)
          have Vy12 : Hid (Bk (putL b11 [.slice bS N1 lS, .slice bA N2 lA] 0 y11) w3.heap.size [.slice aS C kS, .slice aA C kA]) := Vy11.out.sm hzs1 (sm_put (by omega) [.slice bS N1 lS, .slice bA N2 lA] 0 y11)
          have Py12 : Hid (Bk (putL b11 [.slice bS N1 lS, .slice bA N2 lA] 0 y11) w.heap.size [.int .i64 0, .int .i64 0]) := Py11.out.sm hzs1 (sm_put (by omega) [.slice bS N1 lS, .slice bA N2 lA] 0 y11)
          have Qy12 : Hid (Bk (putL b11 [.slice bS N1 lS, .slice bA N2 lA] 0 y11) (w.heap.size + 1) [.slice none 0 0, .slice none 0 0]) := Qy11.out.sm hzs1 (sm_put (by omega) [.slice bS N1 lS, .slice bA N2 lA] 0 y11)
          have Oy12 : Hid (OwnT lo hi (putL b11 [.slice bS N1 lS, .slice bA N2 lA] 0 y11) (.agg #[.slice aS C kS, .slice aA C kA]) Tv) := Oy11.out.sm hzs1 (fun b h1 h2 => sm_put (by omega) [.slice bS N1 lS, .slice bA N2 lA] 0 y11)
          have hgs : ∀ b, y10.heap.size ≤ b → b < y11.heap.size → ¬ b = b11 := by
            have hq := Ay10.out.1
            intro b h1 h2
            omega
          have Gy12 : Hid (OwnT y10.heap.size y11.heap.size (putL b11 [.slice bS N1 lS, .slice bA N2 lA] 0 y11) (.agg #[.slice bS N1 lS, .slice bA N2 lA]) T2) := Gy11.out.sm hzs1 (fun b h1 h2 => sm_put (hgs b h1 h2) [.slice bS N1 lS, .slice bA N2 lA] 0 y11)
          have Ry12 : Hid (RdB (putL b11 [.slice bS N1 lS, .slice bA N2 lA] 0 y11) r ad len cap (m + 3 + 2 * (5 - k) + 2)) := Ry11.out.below (below_put (by omega) [.slice bS N1 lS, .slice bA N2 lA] 0 (Below.refl _ _))
          have Ky12 : Hid (Kept r w (putL b11 [.slice bS N1 lS, .slice bA N2 lA] 0 y11)) := (Ky11.out.setCell (q := ⟨b11, 0, none⟩) (.inl (by show w.heap.size ≤ b11; omega)) _).setCell (q := ⟨b11, 1, none⟩) (.inl (by show w.heap.size ≤ b11; omega)) _
          have hzy12 : y11.heap.size ≤ (putL b11 [.slice bS N1 lS, .slice bA N2 lA] 0 y11).heap.size := hzs1
          clear hzs hzs1 hgs
          generalize (putL b11 [.slice bS N1 lS, .slice bA N2 lA] 0 y11) = y12 at *
          refine hK.out _ _ ⟨My12.out, Vy12.out⟩ (fun hHeldy12 => ?_)
          clear hK K
          try simp only [Act.put, List.setIfInBounds_toArray, List.set_cons_zero, List.set_cons_succ, List.getElem_toArray, List.getElem_cons_zero, List.getElem_cons_succ]
          refine wpAnyH_take (i := 16) (v := .bool tt) rfl (by kernel_rfl) (by kernel_rfl) (by kernel_rfl) (fun _ _ _ h => h) (Or.inl ⟨by rfl, ?_⟩) (by assumption) ?_
          · intro wx hSw; go_simp
          try simp only [Act.put, List.setIfInBounds_toArray, List.set_cons_zero, List.set_cons_succ, List.getElem_toArray, List.getElem_cons_zero, List.getElem_cons_succ]
          refine wpAnyH_done (by kernel_rfl) ?_ _
          clear hHeld
          cases tt
          · go_wp2
            go_roundw
            case rel => exact ⟨k - 1, aS, kS, aA, kA, Tv, lo, hi, by go_num, by omega, by omega, HTS.out.1, HTS.out.2, hlo, by omega, hsep, Oy12.out, Vy12.out, My12.out, Py12.out, Qy12.out, Ry12.out.more (by omega), Ky12.out⟩
            case measure => simp [intOf]; omega
          · obtain ⟨e1, e2⟩ := HT2.out.2.2 rfl
            obtain rfl : C = N1 := e1.symm
            obtain rfl : C = N2 := e2.symm
            have a0 : y12.cell? ⟨b11, 0, none⟩ = some (.slice bS C lS) := (Ay12.out.2 0 (by simp)).1
            have a1 : y12.cell? ⟨b11, 1, none⟩ = some (.slice bA C lA) := (Ay12.out.2 1 (by simp)).1
            have v0 : y12.cell? ⟨w3.heap.size, 0, none⟩ = some (.slice aS C kS) := (Vy12.out.2 0 (by simp)).1
            have v1 : y12.cell? ⟨w3.heap.size, 1, none⟩ = some (.slice aA C kA) := (Vy12.out.2 1 (by simp)).1
            have f0 : y12.frozen? ⟨w3.heap.size, 0, none⟩ = false := (Vy12.out.2 0 (by simp)).2
            have f1 : y12.frozen? ⟨w3.heap.size, 1, none⟩ = false := (Vy12.out.2 1 (by simp)).2
            have hzs : y12.heap.size ≤ (putL w3.heap.size [.slice bS C lS, .slice bA C lA] 0 y12).heap.size := Nat.le_of_eq (size_put _ _ _ _).symm
            have hgx : w3.heap.size < y10.heap.size := by omega
            have VZ : Hid (Bk (putL w3.heap.size [.slice bS C lS, .slice bA C lA] 0 y12) w3.heap.size [.slice bS C lS, .slice bA C lA]) := bk_put Vy12.out rfl
            have MZ : Hid (Bk (putL w3.heap.size [.slice bS C lS, .slice bA C lA] 0 y12) w1.heap.size [.int .i64 (2 + x), .int .i64 3]) := My12.out.sm hzs (sm_put (by omega) [.slice bS C lS, .slice bA C lA] 0 y12)
            have PZ : Hid (Bk (putL w3.heap.size [.slice bS C lS, .slice bA C lA] 0 y12) w.heap.size [.int .i64 0, .int .i64 0]) := Py12.out.sm hzs (sm_put (by omega) [.slice bS C lS, .slice bA C lA] 0 y12)
            have QZ : Hid (Bk (putL w3.heap.size [.slice bS C lS, .slice bA C lA] 0 y12) (w.heap.size + 1) [.slice none 0 0, .slice none 0 0]) := Qy12.out.sm hzs (sm_put (by omega) [.slice bS C lS, .slice bA C lA] 0 y12)
            have OZ : Hid (OwnT y10.heap.size y11.heap.size (putL w3.heap.size [.slice bS C lS, .slice bA C lA] 0 y12) (.agg #[.slice bS C lS, .slice bA C lA]) T2) := Gy12.out.sm hzs (fun b h1 h2 => sm_put (by omega) [.slice bS C lS, .slice bA C lA] 0 y12)
            have RZ : Hid (RdB (putL w3.heap.size [.slice bS C lS, .slice bA C lA] 0 y12) r ad len cap (m + 3 + 2 * (5 - k) + 2)) := Ry12.out.below (below_put (by omega) [.slice bS C lS, .slice bA C lA] 0 (Below.refl _ _))
            have KZ : Hid (Kept r w (putL w3.heap.size [.slice bS C lS, .slice bA C lA] 0 y12)) := (Ky12.out.setCell (q := ⟨w3.heap.size, 0, none⟩) (.inl (by show w.heap.size ≤ w3.heap.size; omega)) _).setCell (q := ⟨w3.heap.size, 1, none⟩) (.inl (by show w.heap.size ≤ w3.heap.size; omega)) _
            have hzz : y11.heap.size ≤ (putL w3.heap.size [.slice bS C lS, .slice bA C lA] 0 y12).heap.size := by rw [size_put]; omega
            clear hzs
            go_wp2
            go_roundw
            case rel => exact ⟨k - 1, bS, lS, bA, lA, T2, y10.heap.size, y11.heap.size, by go_num, by omega, by omega, HT2.out.1, HT2.out.2.1, by omega, hzz, .inr hgx, OZ.out, VZ.out, MZ.out, PZ.out, QZ.out, RZ.out.more (by omega), KZ.out⟩
            case measure => simp [intOf]; omega
      · go_simp
        obtain ⟨y13, eA⟩ : ∃ Y, Y = wd.alloc (.cells #[.slice none 0 0, .slice none 0 0] 27) := ⟨_, rfl⟩
        rw [← eA]
        have hb : Below wd.heap.size wd y13 := by rw [eA]; exact (Below.refl _ _).alloc (Nat.le_refl _) _
        have A0 : Bk y13 wd.heap.size [.slice none 0 0, .slice none 0 0] := by rw [eA]; exact bk_new wd 27 [.slice none 0 0, .slice none 0 0]
        clear eA
        obtain ⟨b11, eb⟩ : ∃ b, b = wd.heap.size := ⟨_, rfl⟩
        have eb1 : wd.heap.size ≤ b11 := by omega
        have eb2 : b11 ≤ wd.heap.size := by omega
        rw [← eb] at A0 ⊢
        have Ky13 : Hid (Kept r w y13) := Kwr.out.trans (Kept.ofBelow (r := r) hb)
        have My13 : Hid (Bk y13 w1.heap.size [.int .i64 (2 + x), .int .i64 3]) := Mwr.out.kp (Kept.ofBelow (r := r) hb) (by omega)
        have Vy13 : Hid (Bk y13 w3.heap.size [.slice aS C kS, .slice aA C kA]) := Vwr.out.kp (Kept.ofBelow (r := r) hb) (by omega)
        have Py13 : Hid (Bk y13 w.heap.size [.int .i64 0, .int .i64 0]) := Pwr.out.kp (Kept.ofBelow (r := r) hb) (by omega)
        have Qy13 : Hid (Bk y13 (w.heap.size + 1) [.slice none 0 0, .slice none 0 0]) := Qwr.out.kp (Kept.ofBelow (r := r) hb) (by omega)
        have Oy13 : Hid (OwnT lo hi y13 (.agg #[.slice aS C kS, .slice aA C kA]) Tv) := Owr.out.kp (Kept.ofBelow (r := r) hb) (by omega) (by omega)
        have hzy13 := (Kept.ofBelow (r := r) hb).size
        have Ay13 : Hid (Bk y13 b11 [.slice none 0 0, .slice none 0 0]) := A0
        have Ry13 : Hid (RdB y13 r ad len cap (m + 3 + 2 * (5 - k) + 0)) := (Rwr.out.on hb).more (by omega)
        refine hK.out _ _ ⟨My13.out, Vy13.out⟩ (fun hHeldy13 => ?_)
        clear hK K hb A0 eb
        try simp only [Act.put, List.setIfInBounds_toArray, List.set_cons_zero, List.set_cons_succ, List.getElem_toArray, List.getElem_cons_zero, List.getElem_cons_succ]
        refine wpAnyH_ready (rs := [6]) (by kernel_rfl) (by simp) ?_
        refine (AllReadyH.cons rfl (fun K hK => ?_) AllReadyH.nil)
        go_simp
        go_wp2_with (go_at_call 15; refine (pick_B (n := (2 + x)) Ry13.out (by omega)).mono ?_; rintro e y14 ⟨q1, rfl, hq1, hR, hKp⟩)
        have Ky14 : Hid (Kept r w y14) := Ky13.out.trans hKp
        have My14 : Hid (Bk y14 w1.heap.size [.int .i64 (2 + x), .int .i64 3]) := My13.out.kp hKp (by omega)
        have Vy14 : Hid (Bk y14 w3.heap.size [.slice aS C kS, .slice aA C kA]) := Vy13.out.kp hKp (by omega)
        have Py14 : Hid (Bk y14 w.heap.size [.int .i64 0, .int .i64 0]) := Py13.out.kp hKp (by omega)
        have Qy14 : Hid (Bk y14 (w.heap.size + 1) [.slice none 0 0, .slice none 0 0]) := Qy13.out.kp hKp (by omega)
        have Oy14 : Hid (OwnT lo hi y14 (.agg #[.slice aS C kS, .slice aA C kA]) Tv) := Oy13.out.kp hKp (by omega) (by omega)
        have hzy14 := hKp.size
        have Ay14 : Hid (Bk y14 b11 [.slice none 0 0, .slice none 0 0]) := Ay13.out.kp hKp (by omega)
        have Ry14 : Hid (RdB y14 r ad len cap (m + 3 + 2 * (5 - k) + 1)) := hR.more (by omega)
        refine hK.out _ _ ⟨My14.out, Vy14.out⟩ (fun hHeldy14 => ?_)
        clear hK K hR hKp hq1
        try simp only [Act.put, List.setIfInBounds_toArray, List.set_cons_zero, List.set_cons_succ, List.getElem_toArray, List.getElem_cons_zero, List.getElem_cons_succ]
        refine wpAnyH_ready (rs := [9]) (by kernel_rfl) (by simp) ?_
        refine (AllReadyH.cons rfl (fun K hK => ?_) AllReadyH.nil)
        go_simp
        go_wp2_with (go_at_call 15; refine (pick_B (n := (1 + x2)) Ry14.out (by omega)).mono ?_; rintro e y15 ⟨q2, rfl, hq2, hR, hKp⟩)
        have Ky15 : Hid (Kept r w y15) := Ky14.out.trans hKp
        have My15 : Hid (Bk y15 w1.heap.size [.int .i64 (2 + x), .int .i64 3]) := My14.out.kp hKp (by omega)
        have Vy15 : Hid (Bk y15 w3.heap.size [.slice aS C kS, .slice aA C kA]) := Vy14.out.kp hKp (by omega)
        have Py15 : Hid (Bk y15 w.heap.size [.int .i64 0, .int .i64 0]) := Py14.out.kp hKp (by omega)
        have Qy15 : Hid (Bk y15 (w.heap.size + 1) [.slice none 0 0, .slice none 0 0]) := Qy14.out.kp hKp (by omega)
        have Oy15 : Hid (OwnT lo hi y15 (.agg #[.slice aS C kS, .slice aA C kA]) Tv) := Oy14.out.kp hKp (by omega) (by omega)
        have hzy15 := hKp.size
        have Ay15 : Hid (Bk y15 b11 [.slice none 0 0, .slice none 0 0]) := Ay14.out.kp hKp (by omega)
        have Ry15 : Hid (RdB y15 r ad len cap (m + 3 + 2 * (5 - k) + 2)) := hR.more (by omega)
        refine hK.out _ _ ⟨My15.out, Vy15.out⟩ (fun hHeldy15 => ?_)
        clear hK K hR hKp hq2
        try simp only [Act.put, List.setIfInBounds_toArray, List.set_cons_zero, List.set_cons_succ, List.getElem_toArray, List.getElem_cons_zero, List.getElem_cons_succ]
        refine wpAnyH_ready (rs := [10]) (by kernel_rfl) (by simp) ?_
        refine (AllReadyH.cons rfl (fun K hK => ?_) AllReadyH.nil)
        go_simp
        go_wp2_with (go_at_call 6; refine (grant_tab (2 + x) 3 (.agg #[.slice aS C kS, .slice aA C kA]) Tv (1 + x2) q1 q2 (by have := HTS.out; exact ⟨by omega, by omega⟩) y15 Oy15.out.at).mono ?_; rintro e y16 ⟨bS, lS, bA, lA, N1, N2, tt, T2, rfl, hO2, hN1, hN2, htt, hb⟩)
        have Ky16 : Hid (Kept r w y16) := Ky15.out.trans (Kept.ofBelow (r := r) hb)
        have My16 : Hid (Bk y16 w1.heap.size [.int .i64 (2 + x), .int .i64 3]) := My15.out.kp (Kept.ofBelow (r := r) hb) (by omega)
        have Vy16 : Hid (Bk y16 w3.heap.size [.slice aS C kS, .slice aA C kA]) := Vy15.out.kp (Kept.ofBelow (r := r) hb) (by omega)
        have Py16 : Hid (Bk y16 w.heap.size [.int .i64 0, .int .i64 0]) := Py15.out.kp (Kept.ofBelow (r := r) hb) (by omega)
        have Qy16 : Hid (Bk y16 (w.heap.size + 1) [.slice none 0 0, .slice none 0 0]) := Qy15.out.kp (Kept.ofBelow (r := r) hb) (by omega)
        have Oy16 : Hid (OwnT lo hi y16 (.agg #[.slice aS C kS, .slice aA C kA]) Tv) := Oy15.out.kp (Kept.ofBelow (r := r) hb) (by omega) (by omega)
        have hzy16 := (Kept.ofBelow (r := r) hb).size
        have Ay16 : Hid (Bk y16 b11 [.slice none 0 0, .slice none 0 0]) := Ay15.out.kp (Kept.ofBelow (r := r) hb) (by omega)
        have Ry16 : Hid (RdB y16 r ad len cap (m + 3 + 2 * (5 - k) + 2)) := (Ry15.out.on hb).more (by omega)
        have Gy16 : Hid (OwnT y15.heap.size y16.heap.size y16 (.agg #[.slice bS N1 lS, .slice bA N2 lA]) T2) := hO2
        have HT2 : Hid (T2.nS = N1 ∧ T2.nA = N2 ∧ (tt = true → N1 = C ∧ N2 = C)) := ⟨hN1, hN2, fun e => by have := htt e; have := HTS.out; omega⟩
        refine hK.out _ _ ⟨My16.out, Vy16.out⟩ (fun hHeldy16 => ?_)
        clear hK K hb hO2 hN1 hN2 htt
        try simp only [Act.put, List.setIfInBounds_toArray, List.set_cons_zero, List.set_cons_succ, List.getElem_toArray, List.getElem_cons_zero, List.getElem_cons_succ]
        refine wpAnyH_take (i := 11) (v := .tuple #[(.agg #[.slice bS N1 lS, .slice bA N2 lA]), .bool tt]) rfl (by kernel_rfl) (by kernel_rfl) (by kernel_rfl) (fun _ _ _ h => h) (Or.inl ⟨by rfl, ?_⟩) (by assumption) ?_
        · intro wx hSw; go_simp
        try simp only [Act.put, List.setIfInBounds_toArray, List.set_cons_zero, List.set_cons_succ, List.getElem_toArray, List.getElem_cons_zero, List.getElem_cons_succ]
        refine wpAnyH_take (i := 12) (v := (.agg #[.slice bS N1 lS, .slice bA N2 lA])) rfl (by kernel_rfl) (by kernel_rfl) (by kernel_rfl) (fun _ _ _ h => h) (Or.inl ⟨by rfl, ?_⟩) (by assumption) ?_
        · intro wx hSw; go_simp
        try simp only [Act.put, List.setIfInBounds_toArray, List.set_cons_zero, List.set_cons_succ, List.getElem_toArray, List.getElem_cons_zero, List.getElem_cons_succ]
        refine wpAnyH_take (i := 13) (v := .bool tt) rfl (by kernel_rfl) (by kernel_rfl) (by kernel_rfl) (fun _ _ _ h => h) (Or.inl ⟨by rfl, ?_⟩) (by assumption) ?_
        · intro wx hSw; go_simp
        try simp only [Act.put, List.setIfInBounds_toArray, List.set_cons_zero, List.set_cons_succ, List.getElem_toArray, List.getElem_cons_zero, List.getElem_cons_succ]
        refine wpAnyH_ready (rs := [15]) (by kernel_rfl) (by simp) ?_
        refine AllReadyH.cons rfl (fun K hK => ?_) AllReadyH.nil
        have a0 : y16.cell? ⟨b11, 0, none⟩ = some (.slice none 0 0) := (Ay16.out.2 0 (by simp)).1
        have a1 : y16.cell? ⟨b11, 1, none⟩ = some (.slice none 0 0) := (Ay16.out.2 1 (by simp)).1
        have f0 : y16.frozen? ⟨b11, 0, none⟩ = false := (Ay16.out.2 0 (by simp)).2
        have f1 : y16.frozen? ⟨b11, 1, none⟩ = false := (Ay16.out.2 1 (by simp)).2
        have EP : Hid ((putL b11 [.slice bS N1 lS, .slice bA N2 lA] 0 y16) = ((y16.setCell ⟨b11, 0, none⟩ (.slice bS N1 lS)).setCell ⟨b11, 1, none⟩ (.slice bA N2 lA))) := rfl
        go_simp
        rw [← EP.out]
        clear a0 a1 f0 f1 EP
        have hzs : (putL b11 [.slice bS N1 lS, .slice bA N2 lA] 0 y16).heap.size = y16.heap.size := size_put b11 [.slice bS N1 lS, .slice bA N2 lA] 0 y16
        have hzs1 : y16.heap.size ≤ (putL b11 [.slice bS N1 lS, .slice bA N2 lA] 0 y16).heap.size := by omega
        have hbA := Ay16.out.1
        have Ay17 : Hid (Bk (putL b11 [.slice bS N1 lS, .slice bA N2 lA] 0 y16) b11 [.slice bS N1 lS, .slice bA N2 lA]) := bk_put Ay16.out rfl
        have My17 : Hid (Bk (putL b11 [.slice bS N1 lS, .slice bA N2 lA] 0 y16) w1.heap.size [.int .i64 (2 + x), .int .i64 3]) := My16.out.sm hzs1 (sm_put (by omega) [.slice bS N1 lS, .slice bA N2 lA] 0 y16)
        have Vy17 : Hid (Bk (putL b11 [.slice bS N1 lS, .slice bA N2 lA] 0 y16) w3.heap.size [.slice aS C kS, .slice aA C kA]) := Vy16.out.sm hzs1 (sm_put (by omega) [.slice bS N1 lS, .slice bA N2 lA] 0 y16)
        have Py17 : Hid (Bk (putL b11 [.slice bS N1 lS, .slice bA N2 lA] 0 y16) w.heap.size [.int .i64 0, .int .i64 0]) := Py16.out.sm hzs1 (sm_put (by omega) [.slice bS N1 lS, .slice bA N2 lA] 0 y16)
        have Qy17 : Hid (Bk (putL b11 [.slice bS N1 lS, .slice bA N2 lA] 0 y16) (w.heap.size + 1) [.slice none 0 0, .slice none 0 0]) := Qy16.out.sm hzs1 (sm_put (by omega) [.slice bS N1 lS, .slice bA N2 lA] 0 y16)
        have Oy17 : Hid (OwnT lo hi (putL b11 [.slice bS N1 lS, .slice bA N2 lA] 0 y16) (.agg #[.slice aS C kS, .slice aA C kA]) Tv) := Oy16.out.sm hzs1 (fun b h1 h2 => sm_put (by omega) [.slice bS N1 lS, .slice bA N2 lA] 0 y16)
        have hgs : ∀ b, y15.heap.size ≤ b → b < y16.heap.size → ¬ b = b11 := by
          have hq := Ay15.out.1
          intro b h1 h2
          omega
        have Gy17 : Hid (OwnT y15.heap.size y16.heap.size (putL b11 [.slice bS N1 lS, .slice bA N2 lA] 0 y16) (.agg #[.slice bS N1 lS, .slice bA N2 lA]) T2) := Gy16.out.sm hzs1 (fun b h1 h2 => sm_put (hgs b h1 h2) [.slice bS N1 lS, .slice bA N2 lA] 0 y16)
        have Ry17 : Hid (RdB (putL b11 [.slice bS N1 lS, .slice bA N2 lA] 0 y16) r ad len cap (m + 3 + 2 * (5 - k) + 2)) := Ry16.out.below (below_put (by omega) [.slice bS N1 lS, .slice bA N2 lA] 0 (Below.refl _ _))
        have Ky17 : Hid (Kept r w (putL b11 [.slice bS N1 lS, .slice bA N2 lA] 0 y16)) := (Ky16.out.setCell (q := ⟨b11, 0, none⟩) (.inl (by show w.heap.size ≤ b11; omega)) _).setCell (q := ⟨b11, 1, none⟩) (.inl (by show w.heap.size ≤ b11; omega)) _
        have hzy17 : y16.heap.size ≤ (putL b11 [.slice bS N1 lS, .slice bA N2 lA] 0 y16).heap.size := hzs1
        clear hzs hzs1 hgs
        generalize (putL b11 [.slice bS N1 lS, .slice bA N2 lA] 0 y16) = y17 at *
        refine hK.out _ _ ⟨My17.out, Vy17.out⟩ (fun hHeldy17 => ?_)
        clear hK K
        try simp only [Act.put, List.setIfInBounds_toArray, List.set_cons_zero, List.set_cons_succ, List.getElem_toArray, List.getElem_cons_zero, List.getElem_cons_succ]
        refine wpAnyH_take (i := 16) (v := .bool tt) rfl (by kernel_rfl) (by kernel_rfl) (by kernel_rfl) (fun _ _ _ h => h) (Or.inl ⟨by rfl, ?_⟩) (by assumption) ?_
        · intro wx hSw; go_simp
        try simp only [Act.put, List.setIfInBounds_toArray, List.set_cons_zero, List.set_cons_succ, List.getElem_toArray, List.getElem_cons_zero, List.getElem_cons_succ]
        refine wpAnyH_done (by kernel_rfl) ?_ _
        clear hHeld
        cases tt
        · go_wp2
          go_roundw
          case rel => exact ⟨k - 1, aS, kS, aA, kA, Tv, lo, hi, by go_num, by omega, by omega, HTS.out.1, HTS.out.2, hlo, by omega, hsep, Oy17.out, Vy17.out, My17.out, Py17.out, Qy17.out, Ry17.out.more (by omega), Ky17.out⟩
          case measure => simp [intOf]; omega
        · obtain ⟨e1, e2⟩ := HT2.out.2.2 rfl
          obtain rfl : C = N1 := e1.symm
          obtain rfl : C = N2 := e2.symm
          have a0 : y17.cell? ⟨b11, 0, none⟩ = some (.slice bS C lS) := (Ay17.out.2 0 (by simp)).1
          have a1 : y17.cell? ⟨b11, 1, none⟩ = some (.slice bA C lA) := (Ay17.out.2 1 (by simp)).1
          have v0 : y17.cell? ⟨w3.heap.size, 0, none⟩ = some (.slice aS C kS) := (Vy17.out.2 0 (by simp)).1
          have v1 : y17.cell? ⟨w3.heap.size, 1, none⟩ = some (.slice aA C kA) := (Vy17.out.2 1 (by simp)).1
          have f0 : y17.frozen? ⟨w3.heap.size, 0, none⟩ = false := (Vy17.out.2 0 (by simp)).2
          have f1 : y17.frozen? ⟨w3.heap.size, 1, none⟩ = false := (Vy17.out.2 1 (by simp)).2
          have hzs : y17.heap.size ≤ (putL w3.heap.size [.slice bS C lS, .slice bA C lA] 0 y17).heap.size := Nat.le_of_eq (size_put _ _ _ _).symm
          have hgx : w3.heap.size < y15.heap.size := by omega
          have VZ : Hid (Bk (putL w3.heap.size [.slice bS C lS, .slice bA C lA] 0 y17) w3.heap.size [.slice bS C lS, .slice bA C lA]) := bk_put Vy17.out rfl
          have MZ : Hid (Bk (putL w3.heap.size [.slice bS C lS, .slice bA C lA] 0 y17) w1.heap.size [.int .i64 (2 + x), .int .i64 3]) := My17.out.sm hzs (sm_put (by omega) [.slice bS C lS, .slice bA C lA] 0 y17)
          have PZ : Hid (Bk (putL w3.heap.size [.slice bS C lS, .slice bA C lA] 0 y17) w.heap.size [.int .i64 0, .int .i64 0]) := Py17.out.sm hzs (sm_put (by omega) [.slice bS C lS, .slice bA C lA] 0 y17)
          have QZ : Hid (Bk (putL w3.heap.size [.slice bS C lS, .slice bA C lA] 0 y17) (w.heap.size + 1) [.slice none 0 0, .slice none 0 0]) := Qy17.out.sm hzs (sm_put (by omega) [.slice bS C lS, .slice bA C lA] 0 y17)
          have OZ : Hid (OwnT y15.heap.size y16.heap.size (putL w3.heap.size [.slice bS C lS, .slice bA C lA] 0 y17) (.agg #[.slice bS C lS, .slice bA C lA]) T2) := Gy17.out.sm hzs (fun b h1 h2 => sm_put (by omega) [.slice bS C lS, .slice bA C lA] 0 y17)
          have RZ : Hid (RdB (putL w3.heap.size [.slice bS C lS, .slice bA C lA] 0 y17) r ad len cap (m + 3 + 2 * (5 - k) + 2)) := Ry17.out.below (below_put (by omega) [.slice bS C lS, .slice bA C lA] 0 (Below.refl _ _))
          have KZ : Hid (Kept r w (putL w3.heap.size [.slice bS C lS, .slice bA C lA] 0 y17)) := (Ky17.out.setCell (q := ⟨w3.heap.size, 0, none⟩) (.inl (by show w.heap.size ≤ w3.heap.size; omega)) _).setCell (q := ⟨w3.heap.size, 1, none⟩) (.inl (by show w.heap.size ≤ w3.heap.size; omega)) _
          have hzz : y16.heap.size ≤ (putL w3.heap.size [.slice bS C lS, .slice bA C lA] 0 y17).heap.size := by rw [size_put]; omega
          clear hzs
          go_wp2
          go_roundw
          case rel => exact ⟨k - 1, bS, lS, bA, lA, T2, y15.heap.size, y16.heap.size, by go_num, by omega, by omega, HT2.out.1, HT2.out.2.1, by omega, hzz, .inr hgx, OZ.out, VZ.out, MZ.out, PZ.out, QZ.out, RZ.out.more (by omega), KZ.out⟩
          case measure => simp [intOf]; omega
    · have hk00 : k = 0 := by omega
      subst hk00
      clear hkp
      go_wp2_with fail
      refine (pick_B R0.out (by omega)).mono ?_
      rintro e w7 ⟨x7, rfl, hx7, hR7, hK7⟩
      have K7 : Hid (Kept r w w7) := K0.out.trans hK7
      have M7 : Hid (Bk w7 w1.heap.size [.int .i64 (2 + x), .int .i64 3]) := M0.out.kp hK7 (by omega)
      have V7 : Hid (Bk w7 w3.heap.size [.slice aS C kS, .slice aA C kA]) := V0.out.kp hK7 (by omega)
      have P7 : Hid (Bk w7 w.heap.size [.int .i64 0, .int .i64 0]) := P0.out.kp hK7 (by omega)
      have Q7 : Hid (Bk w7 (w.heap.size + 1) [.slice none 0 0, .slice none 0 0]) := Q0.out.kp hK7 (by omega)
      have O7 : Hid (OwnT lo hi w7 (.agg #[.slice aS C kS, .slice aA C kA]) Tv) := O0.out.kp hK7 (by omega) (by omega)
      have hz7 := hK7.size
      have R7 : Hid (RdB w7 r ad len cap (m + 14)) := hR7.more (by omega)
      clear hx7 hR7 hK7 R0 K0 M0 V0 P0 Q0 O0
      by_cases hx70 : 0 < x7
      · have T7 := O7.out.tabIn
        go_upto_region 11 with fail
        have Md : Hid (Bk w7.drew w1.heap.size [.int .i64 (2 + x), .int .i64 3]) := M7.out
        have Vd : Hid (Bk w7.drew w3.heap.size [.slice aS C kS, .slice aA C kA]) := V7.out
        have Pd : Hid (Bk w7.drew w.heap.size [.int .i64 0, .int .i64 0]) := P7.out
        have Qd : Hid (Bk w7.drew (w.heap.size + 1) [.slice none 0 0, .slice none 0 0]) := Q7.out
        have Rd : Hid (RdB w7.drew r ad len cap (m + 14)) := R7.out.drew
        have Kd : Hid (Kept r w w7.drew) := K7.out.drew
        have Td : Hid (TabIn lo w7.drew (.agg #[.slice aS C kS, .slice aA C kA]) Tv) := T7
        have hzd1 : w7.heap.size ≤ w7.drew.heap.size := Nat.le_refl _
        have hzd2 : w7.drew.heap.size ≤ w7.heap.size := Nat.le_refl _
        refine wp_region_held_drew (S := fun w' => Bk w' w1.heap.size [.int .i64 (2 + x), .int .i64 3] ∧ Bk w' w3.heap.size [.slice aS C kS, .slice aA C kA]) (by kernel_rfl) ⟨Md.out, Vd.out⟩ ?_
        intro hHeld
        clear M7 V7 P7 Q7 R7 K7
        generalize w7.drew = xd at *
        refine wpAnyH_take (i := 0) (v := .agg #[.int .i64 (2 + x), .int .i64 3]) rfl (by kernel_rfl) (by kernel_rfl) (by kernel_rfl) (fun _ _ _ h => h) (Or.inl ⟨by rfl, ?_⟩) (by assumption) ?_
        · intro wx hSw; obtain ⟨⟨_, sm⟩, ⟨_, sv⟩⟩ := hSw; have m0 : wx.cell? ⟨w1.heap.size, 0, none⟩ = some (.int .i64 (2 + x)) := (sm 0 (by simp)).1; have m1 : wx.cell? ⟨w1.heap.size, 1, none⟩ = some (.int .i64 3) := (sm 1 (by simp)).1; have v0 : wx.cell? ⟨w3.heap.size, 0, none⟩ = some (.slice aS C kS) := (sv 0 (by simp)).1; have v1 : wx.cell? ⟨w3.heap.size, 1, none⟩ = some (.slice aA C kA) := (sv 1 (by simp)).1; clear sm sv; go_simp
        try simp only [Act.put, List.setIfInBounds_toArray, List.set_cons_zero, List.set_cons_succ, List.getElem_toArray, List.getElem_cons_zero]
        refine wpAnyH_take (i := 1) (v := .agg #[.slice aS C kS, .slice aA C kA]) rfl (by kernel_rfl) (by kernel_rfl) (by kernel_rfl) (fun _ _ _ h => h) (Or.inl ⟨by rfl, ?_⟩) (by assumption) ?_
        · intro wx hSw; obtain ⟨⟨_, sm⟩, ⟨_, sv⟩⟩ := hSw; have m0 : wx.cell? ⟨w1.heap.size, 0, none⟩ = some (.int .i64 (2 + x)) := (sm 0 (by simp)).1; have m1 : wx.cell? ⟨w1.heap.size, 1, none⟩ = some (.int .i64 3) := (sm 1 (by simp)).1; have v0 : wx.cell? ⟨w3.heap.size, 0, none⟩ = some (.slice aS C kS) := (sv 0 (by simp)).1; have v1 : wx.cell? ⟨w3.heap.size, 1, none⟩ = some (.slice aA C kA) := (sv 1 (by simp)).1; clear sm sv; go_simp
        try simp only [Act.put, List.setIfInBounds_toArray, List.set_cons_zero, List.set_cons_succ, List.getElem_toArray, List.getElem_cons_zero, List.getElem_cons_succ]
        refine wpAnyH_take (i := 2) (v := .int .i64 (1 + x2)) rfl (by kernel_rfl) (by kernel_rfl) (by kernel_rfl) (fun _ _ _ h => h) (Or.inl ⟨by rfl, ?_⟩) (by assumption) ?_
        · intro wx hSw; go_simp
        try simp only [Act.put, List.setIfInBounds_toArray, List.set_cons_zero, List.set_cons_succ, List.getElem_toArray, List.getElem_cons_zero, List.getElem_cons_succ]
        refine wpAnyH_ready (rs := [3]) (by kernel_rfl) (by simp) ?_
        refine AllReadyH.cons rfl (fun K hK => ?_) AllReadyH.nil
        have p0 : xd.cell? ⟨w.heap.size, 0, none⟩ = some (.int .i64 0) := (Pd.out.2 0 (by simp)).1
        have p1 : xd.cell? ⟨w.heap.size, 1, none⟩ = some (.int .i64 0) := (Pd.out.2 1 (by simp)).1
        have f0 : xd.frozen? ⟨w.heap.size, 0, none⟩ = false := (Pd.out.2 0 (by simp)).2
        have f1 : xd.frozen? ⟨w.heap.size, 1, none⟩ = false := (Pd.out.2 1 (by simp)).2
        have EP : Hid ((putL w.heap.size [.int .i64 (2 + x), .int .i64 3] 0 xd) = ((xd.setCell ⟨w.heap.size, 0, none⟩ (.int .i64 (2 + x))).setCell ⟨w.heap.size, 1, none⟩ (.int .i64 3))) := rfl
        go_simp
        rw [← EP.out]
        clear p0 p1 f0 f1 EP
        have hzs : (putL w.heap.size [.int .i64 (2 + x), .int .i64 3] 0 xd).heap.size = xd.heap.size := size_put _ _ _ _
        have hzs1 : xd.heap.size ≤ (putL w.heap.size [.int .i64 (2 + x), .int .i64 3] 0 xd).heap.size := by omega
        have Pe : Hid (Bk (putL w.heap.size [.int .i64 (2 + x), .int .i64 3] 0 xd) w.heap.size [.int .i64 (2 + x), .int .i64 3]) := bk_put Pd.out rfl
        have Me : Hid (Bk (putL w.heap.size [.int .i64 (2 + x), .int .i64 3] 0 xd) w1.heap.size [.int .i64 (2 + x), .int .i64 3]) := Md.out.sm hzs1 (sm_put (by omega) [.int .i64 (2 + x), .int .i64 3] 0 xd)
        have Ve : Hid (Bk (putL w.heap.size [.int .i64 (2 + x), .int .i64 3] 0 xd) w3.heap.size [.slice aS C kS, .slice aA C kA]) := Vd.out.sm hzs1 (sm_put (by omega) [.int .i64 (2 + x), .int .i64 3] 0 xd)
        have Qe : Hid (Bk (putL w.heap.size [.int .i64 (2 + x), .int .i64 3] 0 xd) (w.heap.size + 1) [.slice none 0 0, .slice none 0 0]) := Qd.out.sm hzs1 (sm_put (by omega) [.int .i64 (2 + x), .int .i64 3] 0 xd)
        have Re : Hid (RdB (putL w.heap.size [.int .i64 (2 + x), .int .i64 3] 0 xd) r ad len cap (m + 14)) := Rd.out.below (below_put (by omega) [.int .i64 (2 + x), .int .i64 3] 0 (Below.refl _ _))
        have Ke : Hid (Kept r w (putL w.heap.size [.int .i64 (2 + x), .int .i64 3] 0 xd)) := (Kd.out.setCell (q := ⟨w.heap.size, 0, none⟩) (.inl (by show w.heap.size ≤ w.heap.size; omega)) _).setCell (q := ⟨w.heap.size, 1, none⟩) (.inl (by show w.heap.size ≤ w.heap.size; omega)) _
        have Te : Hid (TabIn lo (putL w.heap.size [.int .i64 (2 + x), .int .i64 3] 0 xd) (.agg #[.slice aS C kS, .slice aA C kA]) Tv) := Td.out.sm hzs1 (fun b h1 h2 => sm_put (by omega) [.int .i64 (2 + x), .int .i64 3] 0 xd)
        clear hzs
        generalize (putL w.heap.size [.int .i64 (2 + x), .int .i64 3] 0 xd) = xe at *
        refine hK.out _ _ ⟨Me.out, Ve.out⟩ (fun hHelde => ?_)
        clear hK K Md Vd Pd Qd Rd Kd Td
        try simp only [Act.put, List.setIfInBounds_toArray, List.set_cons_zero, List.set_cons_succ, List.getElem_toArray, List.getElem_cons_zero, List.getElem_cons_succ]
        refine wpAnyH_ready (rs := [4]) (by kernel_rfl) (by simp) ?_
        refine AllReadyH.cons rfl (fun K hK => ?_) AllReadyH.nil
        have p0 : xe.cell? ⟨(w.heap.size + 1), 0, none⟩ = some (.slice none 0 0) := (Qe.out.2 0 (by simp)).1
        have p1 : xe.cell? ⟨(w.heap.size + 1), 1, none⟩ = some (.slice none 0 0) := (Qe.out.2 1 (by simp)).1
        have f0 : xe.frozen? ⟨(w.heap.size + 1), 0, none⟩ = false := (Qe.out.2 0 (by simp)).2
        have f1 : xe.frozen? ⟨(w.heap.size + 1), 1, none⟩ = false := (Qe.out.2 1 (by simp)).2
        have EP : Hid ((putL (w.heap.size + 1) [.slice aS C kS, .slice aA C kA] 0 xe) = ((xe.setCell ⟨(w.heap.size + 1), 0, none⟩ (.slice aS C kS)).setCell ⟨(w.heap.size + 1), 1, none⟩ (.slice aA C kA))) := rfl
        go_simp
        rw [← EP.out]
        clear p0 p1 f0 f1 EP
        have hzt : (putL (w.heap.size + 1) [.slice aS C kS, .slice aA C kA] 0 xe).heap.size = xe.heap.size := size_put _ _ _ _
        have hzt1 : xe.heap.size ≤ (putL (w.heap.size + 1) [.slice aS C kS, .slice aA C kA] 0 xe).heap.size := by omega
        have Qf : Hid (Bk (putL (w.heap.size + 1) [.slice aS C kS, .slice aA C kA] 0 xe) (w.heap.size + 1) [.slice aS C kS, .slice aA C kA]) := bk_put Qe.out rfl
        have Mf : Hid (Bk (putL (w.heap.size + 1) [.slice aS C kS, .slice aA C kA] 0 xe) w1.heap.size [.int .i64 (2 + x), .int .i64 3]) := Me.out.sm hzt1 (sm_put (by omega) [.slice aS C kS, .slice aA C kA] 0 xe)
        have Vf : Hid (Bk (putL (w.heap.size + 1) [.slice aS C kS, .slice aA C kA] 0 xe) w3.heap.size [.slice aS C kS, .slice aA C kA]) := Ve.out.sm hzt1 (sm_put (by omega) [.slice aS C kS, .slice aA C kA] 0 xe)
        have Pf : Hid (Bk (putL (w.heap.size + 1) [.slice aS C kS, .slice aA C kA] 0 xe) w.heap.size [.int .i64 (2 + x), .int .i64 3]) := Pe.out.sm hzt1 (sm_put (by omega) [.slice aS C kS, .slice aA C kA] 0 xe)
        have Rf : Hid (RdB (putL (w.heap.size + 1) [.slice aS C kS, .slice aA C kA] 0 xe) r ad len cap (m + 14)) := Re.out.below (below_put (by omega) [.slice aS C kS, .slice aA C kA] 0 (Below.refl _ _))
        have Kf : Hid (Kept r w (putL (w.heap.size + 1) [.slice aS C kS, .slice aA C kA] 0 xe)) := (Ke.out.setCell (q := ⟨(w.heap.size + 1), 0, none⟩) (.inl (by show w.heap.size ≤ (w.heap.size + 1); omega)) _).setCell (q := ⟨(w.heap.size + 1), 1, none⟩) (.inl (by show w.heap.size ≤ (w.heap.size + 1); omega)) _
        have Tf : Hid (TabIn lo (putL (w.heap.size + 1) [.slice aS C kS, .slice aA C kA] 0 xe) (.agg #[.slice aS C kS, .slice aA C kA]) Tv) := Te.out.sm hzt1 (fun b h1 h2 => sm_put (by omega) [.slice aS C kS, .slice aA C kA] 0 xe)
        clear hzt
        generalize (putL (w.heap.size + 1) [.slice aS C kS, .slice aA C kA] 0 xe) = xf at *
        refine hK.out _ _ ⟨Mf.out, Vf.out⟩ (fun hHeldf => ?_)
        clear hK K Me Ve Pe Qe Re Ke Te
        try simp only [Act.put, List.setIfInBounds_toArray, List.set_cons_zero, List.set_cons_succ, List.getElem_toArray, List.getElem_cons_zero, List.getElem_cons_succ]
        refine wpAnyH_take (i := 5) (v := .int .i64 (1 + x2)) rfl (by kernel_rfl) (by kernel_rfl) (by kernel_rfl) (fun _ _ _ h => h) (Or.inl ⟨by rfl, ?_⟩) (by assumption) ?_
        · intro wx hSw; go_simp
        try simp only [Act.put, List.setIfInBounds_toArray, List.set_cons_zero, List.set_cons_succ, List.getElem_toArray, List.getElem_cons_zero, List.getElem_cons_succ]
        refine wpAnyH_done (by kernel_rfl) ?_ _
        have p0 : xf.cell? ⟨w.heap.size, 0, none⟩ = some (.int .i64 (2 + x)) := (Pf.out.2 0 (by simp)).1
        have p1 : xf.cell? ⟨w.heap.size, 1, none⟩ = some (.int .i64 3) := (Pf.out.2 1 (by simp)).1
        have q0 : xf.cell? ⟨(w.heap.size + 1), 0, none⟩ = some (.slice aS C kS) := (Qf.out.2 0 (by simp)).1
        have q1 : xf.cell? ⟨(w.heap.size + 1), 1, none⟩ = some (.slice aA C kA) := (Qf.out.2 1 (by simp)).1
        go_wp2
        refine bodyPost_ret (v := .tuple #[.agg #[.int .i64 (2 + x), .int .i64 3], .agg #[.slice aS C kS, .slice aA C kA], .int .i64 (1 + x2)]) (by simp [results, Try.results14, go_sem, p0, p1, q0, q1]) rfl ⟨_, _, _, Tv, _, rfl, Tf.out.mono (by omega), (by have := HTS.out; exact ⟨by omega, by omega⟩), ⟨by omega, by omega⟩, Rf.out.more (by omega), Kf.out⟩
      · have cM0 : w7.cell? ⟨w1.heap.size, 0, none⟩ = some (.int .i64 (2 + x)) := (M7.out.2 0 (by simp)).1
        go_wp2_with fail
        refine (pick_B R7.out (by omega)).mono ?_
        rintro e w8 ⟨kq, rfl, hkq, hRp, hKp⟩
        have K8 : Hid (Kept r w w8) := K7.out.trans hKp
        have M8 : Hid (Bk w8 w1.heap.size [.int .i64 (2 + x), .int .i64 3]) := M7.out.kp hKp (by omega)
        have V8 : Hid (Bk w8 w3.heap.size [.slice aS C kS, .slice aA C kA]) := V7.out.kp hKp (by omega)
        have P8 : Hid (Bk w8 w.heap.size [.int .i64 0, .int .i64 0]) := P7.out.kp hKp (by omega)
        have Q8 : Hid (Bk w8 (w.heap.size + 1) [.slice none 0 0, .slice none 0 0]) := Q7.out.kp hKp (by omega)
        have O8 : Hid (OwnT lo hi w8 (.agg #[.slice aS C kS, .slice aA C kA]) Tv) := O7.out.kp hKp (by omega) (by omega)
        have hz8 := hKp.size
        have R8 : Hid (RdB w8 r ad len cap (m + 15)) := hRp.more (by omega)
        obtain ⟨kk, rfl⟩ := Int.eq_ofNat_of_zero_le hkq.1
        have hkk : kk < C := by have := hkq.2.1 (by omega); omega
        clear hkq cM0
        clear hRp hKp R7 K7 M7 V7 P7 Q7 O7
        go_wp2_with fail
        refine (pick_B R8.out (by omega)).mono ?_
        rintro e w9 ⟨z5, rfl, hz5p, hRp, hKp⟩
        have K9 : Hid (Kept r w w9) := K8.out.trans hKp
        have M9 : Hid (Bk w9 w1.heap.size [.int .i64 (2 + x), .int .i64 3]) := M8.out.kp hKp (by omega)
        have V9 : Hid (Bk w9 w3.heap.size [.slice aS C kS, .slice aA C kA]) := V8.out.kp hKp (by omega)
        have P9 : Hid (Bk w9 w.heap.size [.int .i64 0, .int .i64 0]) := P8.out.kp hKp (by omega)
        have Q9 : Hid (Bk w9 (w.heap.size + 1) [.slice none 0 0, .slice none 0 0]) := Q8.out.kp hKp (by omega)
        have O9 : Hid (OwnT lo hi w9 (.agg #[.slice aS C kS, .slice aA C kA]) Tv) := O8.out.kp hKp (by omega) (by omega)
        have hz9 := hKp.size
        have R9 : Hid (RdB w9 r ad len cap (m + 16)) := hRp.more (by omega)
        have z50 := hz5p.1
        have z51 := hz5p.2.1 (by decide)
        clear hz5p
        clear hRp hKp R8 K8 M8 V8 P8 Q8 O8
        have hz5c : z5 = 0 ∨ z5 = 1 ∨ z5 = 2 ∨ z5 = 3 ∨ z5 = 4 := by omega
        obtain ⟨gS, gA, dS, dA, ev, hgS1, hgS2, hgA1, hgA2, ⟨hgne, hhi9⟩, hOS, hOA⟩ := ownT_two O9.out (by have := HTS.out; omega) (by have := HTS.out; omega)
        rw [HTS.out.1, HTS.out.2] at ev
        rw [HTS.out.1] at hOS
        rw [HTS.out.2] at hOA
        injection ev with ev
        injection ev with ev
        injection ev with ev1 ev
        injection ev with ev2 _
        injection ev1 with ev1 _ ev3
        injection ev2 with ev2 _ ev4
        subst ev1
        subst ev2
        subst ev3
        subst ev4
        have OS : Hid (Own1 w9 gS C Tv.S C) := hOS
        have OA : Hid (Own1 w9 gA C Tv.A C) := hOA
        clear hOS hOA
        rcases hz5c with rfl | rfl | rfl | rfl | rfl
        · go_upto_region 16 with fail
          have Kd : Hid (Kept r w w9.drew) := K9.out.drew
          have Md : Hid (Bk w9.drew w1.heap.size [.int .i64 (2 + x), .int .i64 3]) := M9.out
          have Vd : Hid (Bk w9.drew w3.heap.size [.slice (some ⟨gS, 0, none⟩) C kS, .slice (some ⟨gA, 0, none⟩) C kA]) := V9.out
          have Pd : Hid (Bk w9.drew w.heap.size [.int .i64 0, .int .i64 0]) := P9.out
          have Qd : Hid (Bk w9.drew (w.heap.size + 1) [.slice none 0 0, .slice none 0 0]) := Q9.out
          have Rd : Hid (RdB w9.drew r ad len cap (m + 16)) := R9.out.drew
          have Sd : Hid (Own1 w9.drew gS C Tv.S C) := OS.out
          have Ad : Hid (Own1 w9.drew gA C Tv.A C) := OA.out
          have hzd1 : w9.heap.size ≤ w9.drew.heap.size := Nat.le_refl _
          refine wp_region_held_drew (S := fun w' => Bk w' w3.heap.size [.slice (some ⟨gS, 0, none⟩) C kS, .slice (some ⟨gA, 0, none⟩) C kA]) (by kernel_rfl) Vd.out ?_
          intro hHeld
          clear K9 M9 V9 P9 Q9 O9 R9 OS OA
          generalize w9.drew = xd at *
          have hkk' : (kk : Int) < (C : Int) := by omega
          refine wpAnyH_take (i := 0) (v := .pointer (some ⟨w3.heap.size, 0, none⟩)) rfl (by kernel_rfl) (by kernel_rfl) (by kernel_rfl) (fun _ _ _ h => h) (Or.inl ⟨by rfl, ?_⟩) (by assumption) ?_
          · intro wx hSw; go_simp
          try simp only [Act.put, List.setIfInBounds_toArray, List.set_cons_zero, List.set_cons_succ, List.getElem_toArray, List.getElem_cons_zero]
          refine wpAnyH_take (i := 1) (v := .slice (some ⟨gS, 0, none⟩) C kS) rfl (by kernel_rfl) (by kernel_rfl) (by kernel_rfl) (fun _ _ _ h => h) (Or.inl ⟨by rfl, ?_⟩) (by assumption) ?_
          · intro wx hSw; obtain ⟨_, sv⟩ := hSw; have v0 : wx.cell? ⟨w3.heap.size, 0, none⟩ = some (.slice (some ⟨gS, 0, none⟩) C kS) := (sv 0 (by simp)).1; have v1 : wx.cell? ⟨w3.heap.size, 1, none⟩ = some (.slice (some ⟨gA, 0, none⟩) C kA) := (sv 1 (by simp)).1; clear sv; go_simp
          try simp only [Act.put, List.setIfInBounds_toArray, List.set_cons_zero, List.set_cons_succ, List.getElem_toArray, List.getElem_cons_zero, List.getElem_cons_succ]
          refine wpAnyH_take (i := 2) (v := .int .i64 (kk : Int)) rfl (by kernel_rfl) (by kernel_rfl) (by kernel_rfl) (fun _ _ _ h => h) (Or.inl ⟨by rfl, ?_⟩) (by assumption) ?_
          · intro wx hSw; go_simp
          try simp only [Act.put, List.setIfInBounds_toArray, List.set_cons_zero, List.set_cons_succ, List.getElem_toArray, List.getElem_cons_zero, List.getElem_cons_succ]
          refine wpAnyH_take (i := 4) (v := .pointer (some ⟨r, 0, none⟩)) rfl (by kernel_rfl) (by kernel_rfl) (by kernel_rfl) (fun _ _ _ h => h) (Or.inl ⟨by rfl, ?_⟩) (by assumption) ?_
          · intro wx hSw; go_simp
          try simp only [Act.put, List.setIfInBounds_toArray, List.set_cons_zero, List.set_cons_succ, List.getElem_toArray, List.getElem_cons_zero, List.getElem_cons_succ]
          refine wpAnyH_ready (rs := [3, 5]) (by kernel_rfl) (by simp) ?_
          refine (AllReadyH.cons rfl (fun K hK => ?_) (AllReadyH.cons rfl (fun K hK => ?_) AllReadyH.nil))
          · go_simp
            obtain ⟨xe, eA⟩ : ∃ Y, Y = xd.alloc (.cells #[.int .i64 (-2), .int .i64 (-1), .int .i64 (3), .int .i64 (0)] 3) := ⟨_, rfl⟩
            rw [← eA]
            have hb : Below xd.heap.size xd xe := by rw [eA]; exact (Below.refl _ _).alloc (Nat.le_refl _) _
            have L0 : Lits xe xd.heap.size [-2, -1, 3, 0] := by rw [eA]; exact Lits.new [-2, -1, 3, 0] xd 3
            clear eA
            obtain ⟨gL, eb⟩ : ∃ b, b = xd.heap.size := ⟨_, rfl⟩
            have eb1 : xd.heap.size ≤ gL := by omega
            have eb2 : gL ≤ xd.heap.size := by omega
            rw [← eb] at L0 ⊢
            have Ke : Hid (Kept r w xe) := Kd.out.trans (Kept.ofBelow (r := r) hb)
            have Me : Hid (Bk xe w1.heap.size [.int .i64 (2 + x), .int .i64 3]) := Md.out.kp (Kept.ofBelow (r := r) hb) (by omega)
            have Ve : Hid (Bk xe w3.heap.size [.slice (some ⟨gS, 0, none⟩) C kS, .slice (some ⟨gA, 0, none⟩) C kA]) := Vd.out.kp (Kept.ofBelow (r := r) hb) (by omega)
            have Pe : Hid (Bk xe w.heap.size [.int .i64 0, .int .i64 0]) := Pd.out.kp (Kept.ofBelow (r := r) hb) (by omega)
            have Qe : Hid (Bk xe (w.heap.size + 1) [.slice none 0 0, .slice none 0 0]) := Qd.out.kp (Kept.ofBelow (r := r) hb) (by omega)
            have Se : Hid (Own1 xe gS C Tv.S C) := own1_sm Sd.out ((Kept.ofBelow (r := r) hb).sm (by omega) (by omega))
            have Ae : Hid (Own1 xe gA C Tv.A C) := own1_sm Ad.out ((Kept.ofBelow (r := r) hb).sm (by omega) (by omega))
            have hzxe := (Kept.ofBelow (r := r) hb).size
            have Le : Hid (Lits xe gL [-2, -1, 3, 0]) := L0
            have Re : Hid (RdB xe r ad len cap (m + 18)) := (Rd.out.on hb).more (by omega)
            refine hK.out _ _ Ve.out (fun hHelde => ?_)
            clear hK K hb L0 eb
            try simp only [Act.put, List.setIfInBounds_toArray, List.set_cons_zero, List.set_cons_succ, List.getElem_toArray, List.getElem_cons_zero, List.getElem_cons_succ]
            refine wpAnyH_ready (rs := [5]) (by kernel_rfl) (by simp) ?_
            refine AllReadyH.cons rfl (fun K hK => ?_) AllReadyH.nil
            go_simp
            go_wp2_with (go_at_call 15; refine (pick_B (n := 4) Re.out (by omega)).mono ?_; rintro e xf ⟨x4, rfl, hx4, hRp, hKp⟩)
            have Kf : Hid (Kept r w xf) := Ke.out.trans hKp
            have Mf : Hid (Bk xf w1.heap.size [.int .i64 (2 + x), .int .i64 3]) := Me.out.kp hKp (by omega)
            have Vf : Hid (Bk xf w3.heap.size [.slice (some ⟨gS, 0, none⟩) C kS, .slice (some ⟨gA, 0, none⟩) C kA]) := Ve.out.kp hKp (by omega)
            have Pf : Hid (Bk xf w.heap.size [.int .i64 0, .int .i64 0]) := Pe.out.kp hKp (by omega)
            have Qf : Hid (Bk xf (w.heap.size + 1) [.slice none 0 0, .slice none 0 0]) := Qe.out.kp hKp (by omega)
            have Sf : Hid (Own1 xf gS C Tv.S C) := own1_sm Se.out (hKp.sm (by omega) (by omega))
            have Af : Hid (Own1 xf gA C Tv.A C) := own1_sm Ae.out (hKp.sm (by omega) (by omega))
            have hzxf := hKp.size
            have Lf : Hid (Lits xf gL [-2, -1, 3, 0]) := Lits.kept hKp Le.out (by omega)
            have Rf : Hid (RdB xf r ad len cap (m + 19)) := hRp.more (by omega)
            have x40 := hx4.1
            have x41 := hx4.2.1 (by decide)
            refine hK.out _ _ Vf.out (fun hHeldf => ?_)
            clear hK K hRp hKp hx4
            try simp only [Act.put, List.setIfInBounds_toArray, List.set_cons_zero, List.set_cons_succ, List.getElem_toArray, List.getElem_cons_zero, List.getElem_cons_succ]
            refine wpAnyH_take (i := 6) (v := .pointer (some ⟨gL, x4.toNat, none⟩)) rfl (by kernel_rfl) (by kernel_rfl) (by kernel_rfl) (fun _ _ _ h => h) (Or.inl ⟨by rfl, ?_⟩) (by assumption) ?_
            · intro wx hSw; go_simp
            try simp only [Act.put, List.setIfInBounds_toArray, List.set_cons_zero, List.set_cons_succ, List.getElem_toArray, List.getElem_cons_zero, List.getElem_cons_succ]
            obtain ⟨z, hcz⟩ : ∃ z, xf.cell? ⟨gL, x4.toNat, none⟩ = some (.int .i64 z) := ⟨_, Lf.out.2 x4 x40 (by simpa using x41)⟩
            refine wpAnyH_ready (rs := [7]) (by kernel_rfl) (by simp) ?_
            refine AllReadyH.cons rfl (fun K hK => ?_) AllReadyH.nil
            go_simp
            refine hK.out _ _ Vf.out (fun hHeldL => ?_)
            clear hK K hcz
            try simp only [Act.put, List.setIfInBounds_toArray, List.set_cons_zero, List.set_cons_succ, List.getElem_toArray, List.getElem_cons_zero, List.getElem_cons_succ]
            refine wpAnyH_take (i := 8) (v := .pointer (some ⟨gS, kk, none⟩)) rfl (by kernel_rfl) (by kernel_rfl) (by kernel_rfl) (fun _ _ _ h => h) (Or.inl ⟨by rfl, ?_⟩) (by assumption) ?_
            · intro wx hSw; go_simp
            try simp only [Act.put, List.setIfInBounds_toArray, List.set_cons_zero, List.set_cons_succ, List.getElem_toArray, List.getElem_cons_zero, List.getElem_cons_succ]
            refine wpAnyH_ready (rs := [9]) (by kernel_rfl) (by simp) ?_
            refine AllReadyH.cons rfl (fun K hK => ?_) AllReadyH.nil
            have c0 := Sf.out.2 kk hkk
            have f0 := (Sf.out.1 kk hkk).2
            go_simp
            clear c0 f0
            obtain ⟨w10, e10⟩ : ∃ w10, w10 = xf.setCell ⟨gS, kk, none⟩ (.int .i64 z) := ⟨_, rfl⟩
            rw [← e10]
            have hz10 : w10.heap.size = xf.heap.size := by rw [e10]; exact set_size
            have M10 : Hid (Bk w10 w1.heap.size [.int .i64 (2 + x), .int .i64 3]) := by rw [e10]; exact Mf.out.far (by omega)
            have P10 : Hid (Bk w10 w.heap.size [.int .i64 0, .int .i64 0]) := by rw [e10]; exact Pf.out.far (by omega)
            have Q10 : Hid (Bk w10 (w.heap.size + 1) [.slice none 0 0, .slice none 0 0]) := by rw [e10]; exact Qf.out.far (by omega)
            have V10 : Hid (Bk w10 w3.heap.size [.slice (some ⟨gS, 0, none⟩) C kS, .slice (some ⟨gA, 0, none⟩) C kA]) := by rw [e10]; exact Vf.out.far (by omega)
            have R10 : Hid (RdB w10 r ad len cap (m + 19)) := by rw [e10]; exact (Rf.out.below ((Below.refl _ _).setCell (p := ⟨gS, kk, none⟩) (by show r + 1 ≤ gS; omega) _)).more (by omega)
            have K10 : Hid (Kept r w w10) := by rw [e10]; exact Kf.out.setCell (q := ⟨gS, kk, none⟩) (.inl (by show w.heap.size ≤ gS; omega)) _
            obtain ⟨T2, eT2⟩ : ∃ T2 : TV, T2 = ⟨C, fun j => if j = kk then z else Tv.S j, C, Tv.A⟩ := ⟨_, rfl⟩
            have U1 : Own1 w10 gS C (fun j => if j = kk then z else Tv.S j) C := by rw [e10]; exact own1_upd Sf.out hkk
            have U2 : Own1 w10 gA C Tv.A C := by rw [e10]; exact own1_set Af.out (by omega)
            have T10 : TabIn lo w10 (.agg #[.slice (some ⟨gS, 0, none⟩) C kS, .slice (some ⟨gA, 0, none⟩) C kA]) T2 := by
              rw [eT2]
              refine ⟨_, _, _, _, rfl, .inr ⟨gS, 0, rfl, hgS1, by omega, fun j hj => ?_⟩, .inr ⟨gA, 0, rfl, hgA1, by omega, fun j hj => ?_⟩⟩
              · rw [Nat.zero_add]; exact U1.2 j hj
              · rw [Nat.zero_add]; exact U2.2 j hj
            have hsh : T2.short 1000 := by rw [eT2]; exact ⟨by show C ≤ 1000; omega, by show C ≤ 1000; omega⟩
            have hz11 : xf.heap.size ≤ w10.heap.size := Nat.le_of_eq hz10.symm
            refine hK.out _ _ V10.out (fun hHeldS => ?_)
            clear hK K e10 hz10 eT2 U1 U2
            try simp only [Act.put, List.setIfInBounds_toArray, List.set_cons_zero, List.set_cons_succ, List.getElem_toArray, List.getElem_cons_zero, List.getElem_cons_succ]
            refine wpAnyH_done (by kernel_rfl) ?_ _
            clear hHeld
            go_upto_region 23 with fail
            have Md : Hid (Bk w10.drew w1.heap.size [.int .i64 (2 + x), .int .i64 3]) := M10.out
            have Vd : Hid (Bk w10.drew w3.heap.size [.slice (some ⟨gS, 0, none⟩) C kS, .slice (some ⟨gA, 0, none⟩) C kA]) := V10.out
            have Pd : Hid (Bk w10.drew w.heap.size [.int .i64 0, .int .i64 0]) := P10.out
            have Qd : Hid (Bk w10.drew (w.heap.size + 1) [.slice none 0 0, .slice none 0 0]) := Q10.out
            have Rd : Hid (RdB w10.drew r ad len cap (m + 19)) := R10.out.drew
            have Kd : Hid (Kept r w w10.drew) := K10.out.drew
            have Td : Hid (TabIn lo w10.drew (.agg #[.slice (some ⟨gS, 0, none⟩) C kS, .slice (some ⟨gA, 0, none⟩) C kA]) T2) := T10
            have hzd1 : w10.heap.size ≤ w10.drew.heap.size := Nat.le_refl _
            have hzd2 : w10.drew.heap.size ≤ w10.heap.size := Nat.le_refl _
            refine wp_region_held_drew (S := fun w' => Bk w' w1.heap.size [.int .i64 (2 + x), .int .i64 3] ∧ Bk w' w3.heap.size [.slice (some ⟨gS, 0, none⟩) C kS, .slice (some ⟨gA, 0, none⟩) C kA]) (by kernel_rfl) ⟨Md.out, Vd.out⟩ ?_
            intro hHeld
            clear M10 V10 P10 Q10 R10 K10
            generalize w10.drew = xd at *
            refine wpAnyH_take (i := 0) (v := .agg #[.int .i64 (2 + x), .int .i64 3]) rfl (by kernel_rfl) (by kernel_rfl) (by kernel_rfl) (fun _ _ _ h => h) (Or.inl ⟨by rfl, ?_⟩) (by assumption) ?_
            · intro wx hSw; obtain ⟨⟨_, sm⟩, ⟨_, sv⟩⟩ := hSw; have m0 : wx.cell? ⟨w1.heap.size, 0, none⟩ = some (.int .i64 (2 + x)) := (sm 0 (by simp)).1; have m1 : wx.cell? ⟨w1.heap.size, 1, none⟩ = some (.int .i64 3) := (sm 1 (by simp)).1; have v0 : wx.cell? ⟨w3.heap.size, 0, none⟩ = some (.slice (some ⟨gS, 0, none⟩) C kS) := (sv 0 (by simp)).1; have v1 : wx.cell? ⟨w3.heap.size, 1, none⟩ = some (.slice (some ⟨gA, 0, none⟩) C kA) := (sv 1 (by simp)).1; clear sm sv; go_simp
            try simp only [Act.put, List.setIfInBounds_toArray, List.set_cons_zero, List.set_cons_succ, List.getElem_toArray, List.getElem_cons_zero]
            refine wpAnyH_take (i := 1) (v := .agg #[.slice (some ⟨gS, 0, none⟩) C kS, .slice (some ⟨gA, 0, none⟩) C kA]) rfl (by kernel_rfl) (by kernel_rfl) (by kernel_rfl) (fun _ _ _ h => h) (Or.inl ⟨by rfl, ?_⟩) (by assumption) ?_
            · intro wx hSw; obtain ⟨⟨_, sm⟩, ⟨_, sv⟩⟩ := hSw; have m0 : wx.cell? ⟨w1.heap.size, 0, none⟩ = some (.int .i64 (2 + x)) := (sm 0 (by simp)).1; have m1 : wx.cell? ⟨w1.heap.size, 1, none⟩ = some (.int .i64 3) := (sm 1 (by simp)).1; have v0 : wx.cell? ⟨w3.heap.size, 0, none⟩ = some (.slice (some ⟨gS, 0, none⟩) C kS) := (sv 0 (by simp)).1; have v1 : wx.cell? ⟨w3.heap.size, 1, none⟩ = some (.slice (some ⟨gA, 0, none⟩) C kA) := (sv 1 (by simp)).1; clear sm sv; go_simp
            try simp only [Act.put, List.setIfInBounds_toArray, List.set_cons_zero, List.set_cons_succ, List.getElem_toArray, List.getElem_cons_zero, List.getElem_cons_succ]
            refine wpAnyH_take (i := 2) (v := .int .i64 (1 + x2)) rfl (by kernel_rfl) (by kernel_rfl) (by kernel_rfl) (fun _ _ _ h => h) (Or.inl ⟨by rfl, ?_⟩) (by assumption) ?_
            · intro wx hSw; go_simp
            try simp only [Act.put, List.setIfInBounds_toArray, List.set_cons_zero, List.set_cons_succ, List.getElem_toArray, List.getElem_cons_zero, List.getElem_cons_succ]
            refine wpAnyH_ready (rs := [3]) (by kernel_rfl) (by simp) ?_
            refine AllReadyH.cons rfl (fun K hK => ?_) AllReadyH.nil
            have p0 : xd.cell? ⟨w.heap.size, 0, none⟩ = some (.int .i64 0) := (Pd.out.2 0 (by simp)).1
            have p1 : xd.cell? ⟨w.heap.size, 1, none⟩ = some (.int .i64 0) := (Pd.out.2 1 (by simp)).1
            have f0 : xd.frozen? ⟨w.heap.size, 0, none⟩ = false := (Pd.out.2 0 (by simp)).2
            have f1 : xd.frozen? ⟨w.heap.size, 1, none⟩ = false := (Pd.out.2 1 (by simp)).2
            have EP : Hid ((putL w.heap.size [.int .i64 (2 + x), .int .i64 3] 0 xd) = ((xd.setCell ⟨w.heap.size, 0, none⟩ (.int .i64 (2 + x))).setCell ⟨w.heap.size, 1, none⟩ (.int .i64 3))) := rfl
            go_simp
            rw [← EP.out]
            clear p0 p1 f0 f1 EP
            have hzs : (putL w.heap.size [.int .i64 (2 + x), .int .i64 3] 0 xd).heap.size = xd.heap.size := size_put _ _ _ _
            have hzs1 : xd.heap.size ≤ (putL w.heap.size [.int .i64 (2 + x), .int .i64 3] 0 xd).heap.size := by omega
            have Pe : Hid (Bk (putL w.heap.size [.int .i64 (2 + x), .int .i64 3] 0 xd) w.heap.size [.int .i64 (2 + x), .int .i64 3]) := bk_put Pd.out rfl
            have Me : Hid (Bk (putL w.heap.size [.int .i64 (2 + x), .int .i64 3] 0 xd) w1.heap.size [.int .i64 (2 + x), .int .i64 3]) := Md.out.sm hzs1 (sm_put (by omega) [.int .i64 (2 + x), .int .i64 3] 0 xd)
            have Ve : Hid (Bk (putL w.heap.size [.int .i64 (2 + x), .int .i64 3] 0 xd) w3.heap.size [.slice (some ⟨gS, 0, none⟩) C kS, .slice (some ⟨gA, 0, none⟩) C kA]) := Vd.out.sm hzs1 (sm_put (by omega) [.int .i64 (2 + x), .int .i64 3] 0 xd)
            have Qe : Hid (Bk (putL w.heap.size [.int .i64 (2 + x), .int .i64 3] 0 xd) (w.heap.size + 1) [.slice none 0 0, .slice none 0 0]) := Qd.out.sm hzs1 (sm_put (by omega) [.int .i64 (2 + x), .int .i64 3] 0 xd)
            have Re : Hid (RdB (putL w.heap.size [.int .i64 (2 + x), .int .i64 3] 0 xd) r ad len cap (m + 19)) := Rd.out.below (below_put (by omega) [.int .i64 (2 + x), .int .i64 3] 0 (Below.refl _ _))
            have Ke : Hid (Kept r w (putL w.heap.size [.int .i64 (2 + x), .int .i64 3] 0 xd)) := (Kd.out.setCell (q := ⟨w.heap.size, 0, none⟩) (.inl (by show w.heap.size ≤ w.heap.size; omega)) _).setCell (q := ⟨w.heap.size, 1, none⟩) (.inl (by show w.heap.size ≤ w.heap.size; omega)) _
            have Te : Hid (TabIn lo (putL w.heap.size [.int .i64 (2 + x), .int .i64 3] 0 xd) (.agg #[.slice (some ⟨gS, 0, none⟩) C kS, .slice (some ⟨gA, 0, none⟩) C kA]) T2) := Td.out.sm hzs1 (fun b h1 h2 => sm_put (by omega) [.int .i64 (2 + x), .int .i64 3] 0 xd)
            clear hzs
            generalize (putL w.heap.size [.int .i64 (2 + x), .int .i64 3] 0 xd) = xe at *
            refine hK.out _ _ ⟨Me.out, Ve.out⟩ (fun hHelde => ?_)
            clear hK K Md Vd Pd Qd Rd Kd Td
            try simp only [Act.put, List.setIfInBounds_toArray, List.set_cons_zero, List.set_cons_succ, List.getElem_toArray, List.getElem_cons_zero, List.getElem_cons_succ]
            refine wpAnyH_ready (rs := [4]) (by kernel_rfl) (by simp) ?_
            refine AllReadyH.cons rfl (fun K hK => ?_) AllReadyH.nil
            have p0 : xe.cell? ⟨(w.heap.size + 1), 0, none⟩ = some (.slice none 0 0) := (Qe.out.2 0 (by simp)).1
            have p1 : xe.cell? ⟨(w.heap.size + 1), 1, none⟩ = some (.slice none 0 0) := (Qe.out.2 1 (by simp)).1
            have f0 : xe.frozen? ⟨(w.heap.size + 1), 0, none⟩ = false := (Qe.out.2 0 (by simp)).2
            have f1 : xe.frozen? ⟨(w.heap.size + 1), 1, none⟩ = false := (Qe.out.2 1 (by simp)).2
            have EP : Hid ((putL (w.heap.size + 1) [.slice (some ⟨gS, 0, none⟩) C kS, .slice (some ⟨gA, 0, none⟩) C kA] 0 xe) = ((xe.setCell ⟨(w.heap.size + 1), 0, none⟩ (.slice (some ⟨gS, 0, none⟩) C kS)).setCell ⟨(w.heap.size + 1), 1, none⟩ (.slice (some ⟨gA, 0, none⟩) C kA))) := rfl
            go_simp
            rw [← EP.out]
            clear p0 p1 f0 f1 EP
            have hzt : (putL (w.heap.size + 1) [.slice (some ⟨gS, 0, none⟩) C kS, .slice (some ⟨gA, 0, none⟩) C kA] 0 xe).heap.size = xe.heap.size := size_put _ _ _ _
            have hzt1 : xe.heap.size ≤ (putL (w.heap.size + 1) [.slice (some ⟨gS, 0, none⟩) C kS, .slice (some ⟨gA, 0, none⟩) C kA] 0 xe).heap.size := by omega
            have Qf : Hid (Bk (putL (w.heap.size + 1) [.slice (some ⟨gS, 0, none⟩) C kS, .slice (some ⟨gA, 0, none⟩) C kA] 0 xe) (w.heap.size + 1) [.slice (some ⟨gS, 0, none⟩) C kS, .slice (some ⟨gA, 0, none⟩) C kA]) := bk_put Qe.out rfl
            have Mf : Hid (Bk (putL (w.heap.size + 1) [.slice (some ⟨gS, 0, none⟩) C kS, .slice (some ⟨gA, 0, none⟩) C kA] 0 xe) w1.heap.size [.int .i64 (2 + x), .int .i64 3]) := Me.out.sm hzt1 (sm_put (by omega) [.slice (some ⟨gS, 0, none⟩) C kS, .slice (some ⟨gA, 0, none⟩) C kA] 0 xe)
            have Vf : Hid (Bk (putL (w.heap.size + 1) [.slice (some ⟨gS, 0, none⟩) C kS, .slice (some ⟨gA, 0, none⟩) C kA] 0 xe) w3.heap.size [.slice (some ⟨gS, 0, none⟩) C kS, .slice (some ⟨gA, 0, none⟩) C kA]) := Ve.out.sm hzt1 (sm_put (by omega) [.slice (some ⟨gS, 0, none⟩) C kS, .slice (some ⟨gA, 0, none⟩) C kA] 0 xe)
            have Pf : Hid (Bk (putL (w.heap.size + 1) [.slice (some ⟨gS, 0, none⟩) C kS, .slice (some ⟨gA, 0, none⟩) C kA] 0 xe) w.heap.size [.int .i64 (2 + x), .int .i64 3]) := Pe.out.sm hzt1 (sm_put (by omega) [.slice (some ⟨gS, 0, none⟩) C kS, .slice (some ⟨gA, 0, none⟩) C kA] 0 xe)
            have Rf : Hid (RdB (putL (w.heap.size + 1) [.slice (some ⟨gS, 0, none⟩) C kS, .slice (some ⟨gA, 0, none⟩) C kA] 0 xe) r ad len cap (m + 19)) := Re.out.below (below_put (by omega) [.slice (some ⟨gS, 0, none⟩) C kS, .slice (some ⟨gA, 0, none⟩) C kA] 0 (Below.refl _ _))
            have Kf : Hid (Kept r w (putL (w.heap.size + 1) [.slice (some ⟨gS, 0, none⟩) C kS, .slice (some ⟨gA, 0, none⟩) C kA] 0 xe)) := (Ke.out.setCell (q := ⟨(w.heap.size + 1), 0, none⟩) (.inl (by show w.heap.size ≤ (w.heap.size + 1); omega)) _).setCell (q := ⟨(w.heap.size + 1), 1, none⟩) (.inl (by show w.heap.size ≤ (w.heap.size + 1); omega)) _
            have Tf : Hid (TabIn lo (putL (w.heap.size + 1) [.slice (some ⟨gS, 0, none⟩) C kS, .slice (some ⟨gA, 0, none⟩) C kA] 0 xe) (.agg #[.slice (some ⟨gS, 0, none⟩) C kS, .slice (some ⟨gA, 0, none⟩) C kA]) T2) := Te.out.sm hzt1 (fun b h1 h2 => sm_put (by omega) [.slice (some ⟨gS, 0, none⟩) C kS, .slice (some ⟨gA, 0, none⟩) C kA] 0 xe)
            clear hzt
            generalize (putL (w.heap.size + 1) [.slice (some ⟨gS, 0, none⟩) C kS, .slice (some ⟨gA, 0, none⟩) C kA] 0 xe) = xf at *
            refine hK.out _ _ ⟨Mf.out, Vf.out⟩ (fun hHeldf => ?_)
            clear hK K Me Ve Pe Qe Re Ke Te
            try simp only [Act.put, List.setIfInBounds_toArray, List.set_cons_zero, List.set_cons_succ, List.getElem_toArray, List.getElem_cons_zero, List.getElem_cons_succ]
            refine wpAnyH_take (i := 5) (v := .int .i64 (1 + x2)) rfl (by kernel_rfl) (by kernel_rfl) (by kernel_rfl) (fun _ _ _ h => h) (Or.inl ⟨by rfl, ?_⟩) (by assumption) ?_
            · intro wx hSw; go_simp
            try simp only [Act.put, List.setIfInBounds_toArray, List.set_cons_zero, List.set_cons_succ, List.getElem_toArray, List.getElem_cons_zero, List.getElem_cons_succ]
            refine wpAnyH_done (by kernel_rfl) ?_ _
            have p0 : xf.cell? ⟨w.heap.size, 0, none⟩ = some (.int .i64 (2 + x)) := (Pf.out.2 0 (by simp)).1
            have p1 : xf.cell? ⟨w.heap.size, 1, none⟩ = some (.int .i64 3) := (Pf.out.2 1 (by simp)).1
            have q0 : xf.cell? ⟨(w.heap.size + 1), 0, none⟩ = some (.slice (some ⟨gS, 0, none⟩) C kS) := (Qf.out.2 0 (by simp)).1
            have q1 : xf.cell? ⟨(w.heap.size + 1), 1, none⟩ = some (.slice (some ⟨gA, 0, none⟩) C kA) := (Qf.out.2 1 (by simp)).1
            go_wp2
            refine bodyPost_ret (v := .tuple #[.agg #[.int .i64 (2 + x), .int .i64 3], .agg #[.slice (some ⟨gS, 0, none⟩) C kS, .slice (some ⟨gA, 0, none⟩) C kA], .int .i64 (1 + x2)]) (by simp [results, Try.results14, go_sem, p0, p1, q0, q1]) rfl ⟨_, _, _, T2, _, rfl, Tf.out.mono (by omega), hsh, ⟨by omega, by omega⟩, Rf.out.more (by omega), Kf.out⟩
          · go_simp
            go_wp2_with (go_at_call 15; refine (pick_B (n := 4) Rd.out (by omega)).mono ?_; rintro e xe ⟨x4, rfl, hx4, hRp, hKp⟩)
            have Ke : Hid (Kept r w xe) := Kd.out.trans hKp
            have Me : Hid (Bk xe w1.heap.size [.int .i64 (2 + x), .int .i64 3]) := Md.out.kp hKp (by omega)
            have Ve : Hid (Bk xe w3.heap.size [.slice (some ⟨gS, 0, none⟩) C kS, .slice (some ⟨gA, 0, none⟩) C kA]) := Vd.out.kp hKp (by omega)
            have Pe : Hid (Bk xe w.heap.size [.int .i64 0, .int .i64 0]) := Pd.out.kp hKp (by omega)
            have Qe : Hid (Bk xe (w.heap.size + 1) [.slice none 0 0, .slice none 0 0]) := Qd.out.kp hKp (by omega)
            have Se : Hid (Own1 xe gS C Tv.S C) := own1_sm Sd.out (hKp.sm (by omega) (by omega))
            have Ae : Hid (Own1 xe gA C Tv.A C) := own1_sm Ad.out (hKp.sm (by omega) (by omega))
            have hzxe := hKp.size
            have Re : Hid (RdB xe r ad len cap (m + 18)) := hRp.more (by omega)
            have x40 := hx4.1
            have x41 := hx4.2.1 (by decide)
            refine hK.out _ _ Ve.out (fun hHelde => ?_)
            clear hK K hRp hKp hx4
            try simp only [Act.put, List.setIfInBounds_toArray, List.set_cons_zero, List.set_cons_succ, List.getElem_toArray, List.getElem_cons_zero, List.getElem_cons_succ]
            refine wpAnyH_ready (rs := [3]) (by kernel_rfl) (by simp) ?_
            refine AllReadyH.cons rfl (fun K hK => ?_) AllReadyH.nil
            go_simp
            obtain ⟨xf, eA⟩ : ∃ Y, Y = xe.alloc (.cells #[.int .i64 (-2), .int .i64 (-1), .int .i64 (3), .int .i64 (0)] 3) := ⟨_, rfl⟩
            rw [← eA]
            have hb : Below xe.heap.size xe xf := by rw [eA]; exact (Below.refl _ _).alloc (Nat.le_refl _) _
            have L0 : Lits xf xe.heap.size [-2, -1, 3, 0] := by rw [eA]; exact Lits.new [-2, -1, 3, 0] xe 3
            clear eA
            obtain ⟨gL, eb⟩ : ∃ b, b = xe.heap.size := ⟨_, rfl⟩
            have eb1 : xe.heap.size ≤ gL := by omega
            have eb2 : gL ≤ xe.heap.size := by omega
            rw [← eb] at L0 ⊢
            have Kf : Hid (Kept r w xf) := Ke.out.trans (Kept.ofBelow (r := r) hb)
            have Mf : Hid (Bk xf w1.heap.size [.int .i64 (2 + x), .int .i64 3]) := Me.out.kp (Kept.ofBelow (r := r) hb) (by omega)
            have Vf : Hid (Bk xf w3.heap.size [.slice (some ⟨gS, 0, none⟩) C kS, .slice (some ⟨gA, 0, none⟩) C kA]) := Ve.out.kp (Kept.ofBelow (r := r) hb) (by omega)
            have Pf : Hid (Bk xf w.heap.size [.int .i64 0, .int .i64 0]) := Pe.out.kp (Kept.ofBelow (r := r) hb) (by omega)
            have Qf : Hid (Bk xf (w.heap.size + 1) [.slice none 0 0, .slice none 0 0]) := Qe.out.kp (Kept.ofBelow (r := r) hb) (by omega)
            have Sf : Hid (Own1 xf gS C Tv.S C) := own1_sm Se.out ((Kept.ofBelow (r := r) hb).sm (by omega) (by omega))
            have Af : Hid (Own1 xf gA C Tv.A C) := own1_sm Ae.out ((Kept.ofBelow (r := r) hb).sm (by omega) (by omega))
            have hzxf := (Kept.ofBelow (r := r) hb).size
            have Lf : Hid (Lits xf gL [-2, -1, 3, 0]) := L0
            have Rf : Hid (RdB xf r ad len cap (m + 18)) := (Re.out.on hb).more (by omega)
            refine hK.out _ _ Vf.out (fun hHeldf => ?_)
            clear hK K hb L0 eb
            try simp only [Act.put, List.setIfInBounds_toArray, List.set_cons_zero, List.set_cons_succ, List.getElem_toArray, List.getElem_cons_zero, List.getElem_cons_succ]
            refine wpAnyH_take (i := 6) (v := .pointer (some ⟨gL, x4.toNat, none⟩)) rfl (by kernel_rfl) (by kernel_rfl) (by kernel_rfl) (fun _ _ _ h => h) (Or.inl ⟨by rfl, ?_⟩) (by assumption) ?_
            · intro wx hSw; go_simp
            try simp only [Act.put, List.setIfInBounds_toArray, List.set_cons_zero, List.set_cons_succ, List.getElem_toArray, List.getElem_cons_zero, List.getElem_cons_succ]
            obtain ⟨z, hcz⟩ : ∃ z, xf.cell? ⟨gL, x4.toNat, none⟩ = some (.int .i64 z) := ⟨_, Lf.out.2 x4 x40 (by simpa using x41)⟩
            refine wpAnyH_ready (rs := [7]) (by kernel_rfl) (by simp) ?_
            refine AllReadyH.cons rfl (fun K hK => ?_) AllReadyH.nil
            go_simp
            refine hK.out _ _ Vf.out (fun hHeldL => ?_)
            clear hK K hcz
            try simp only [Act.put, List.setIfInBounds_toArray, List.set_cons_zero, List.set_cons_succ, List.getElem_toArray, List.getElem_cons_zero, List.getElem_cons_succ]
            refine wpAnyH_take (i := 8) (v := .pointer (some ⟨gS, kk, none⟩)) rfl (by kernel_rfl) (by kernel_rfl) (by kernel_rfl) (fun _ _ _ h => h) (Or.inl ⟨by rfl, ?_⟩) (by assumption) ?_
            · intro wx hSw; go_simp
            try simp only [Act.put, List.setIfInBounds_toArray, List.set_cons_zero, List.set_cons_succ, List.getElem_toArray, List.getElem_cons_zero, List.getElem_cons_succ]
            refine wpAnyH_ready (rs := [9]) (by kernel_rfl) (by simp) ?_
            refine AllReadyH.cons rfl (fun K hK => ?_) AllReadyH.nil
            have c0 := Sf.out.2 kk hkk
            have f0 := (Sf.out.1 kk hkk).2
            go_simp
            clear c0 f0
            obtain ⟨w10, e10⟩ : ∃ w10, w10 = xf.setCell ⟨gS, kk, none⟩ (.int .i64 z) := ⟨_, rfl⟩
            rw [← e10]
            have hz10 : w10.heap.size = xf.heap.size := by rw [e10]; exact set_size
            have M10 : Hid (Bk w10 w1.heap.size [.int .i64 (2 + x), .int .i64 3]) := by rw [e10]; exact Mf.out.far (by omega)
            have P10 : Hid (Bk w10 w.heap.size [.int .i64 0, .int .i64 0]) := by rw [e10]; exact Pf.out.far (by omega)
            have Q10 : Hid (Bk w10 (w.heap.size + 1) [.slice none 0 0, .slice none 0 0]) := by rw [e10]; exact Qf.out.far (by omega)
            have V10 : Hid (Bk w10 w3.heap.size [.slice (some ⟨gS, 0, none⟩) C kS, .slice (some ⟨gA, 0, none⟩) C kA]) := by rw [e10]; exact Vf.out.far (by omega)
            have R10 : Hid (RdB w10 r ad len cap (m + 19)) := by rw [e10]; exact (Rf.out.below ((Below.refl _ _).setCell (p := ⟨gS, kk, none⟩) (by show r + 1 ≤ gS; omega) _)).more (by omega)
            have K10 : Hid (Kept r w w10) := by rw [e10]; exact Kf.out.setCell (q := ⟨gS, kk, none⟩) (.inl (by show w.heap.size ≤ gS; omega)) _
            obtain ⟨T2, eT2⟩ : ∃ T2 : TV, T2 = ⟨C, fun j => if j = kk then z else Tv.S j, C, Tv.A⟩ := ⟨_, rfl⟩
            have U1 : Own1 w10 gS C (fun j => if j = kk then z else Tv.S j) C := by rw [e10]; exact own1_upd Sf.out hkk
            have U2 : Own1 w10 gA C Tv.A C := by rw [e10]; exact own1_set Af.out (by omega)
            have T10 : TabIn lo w10 (.agg #[.slice (some ⟨gS, 0, none⟩) C kS, .slice (some ⟨gA, 0, none⟩) C kA]) T2 := by
              rw [eT2]
              refine ⟨_, _, _, _, rfl, .inr ⟨gS, 0, rfl, hgS1, by omega, fun j hj => ?_⟩, .inr ⟨gA, 0, rfl, hgA1, by omega, fun j hj => ?_⟩⟩
              · rw [Nat.zero_add]; exact U1.2 j hj
              · rw [Nat.zero_add]; exact U2.2 j hj
            have hsh : T2.short 1000 := by rw [eT2]; exact ⟨by show C ≤ 1000; omega, by show C ≤ 1000; omega⟩
            have hz11 : xf.heap.size ≤ w10.heap.size := Nat.le_of_eq hz10.symm
            refine hK.out _ _ V10.out (fun hHeldS => ?_)
            clear hK K e10 hz10 eT2 U1 U2
            try simp only [Act.put, List.setIfInBounds_toArray, List.set_cons_zero, List.set_cons_succ, List.getElem_toArray, List.getElem_cons_zero, List.getElem_cons_succ]
            refine wpAnyH_done (by kernel_rfl) ?_ _
            clear hHeld
            go_upto_region 23 with fail
            have Md : Hid (Bk w10.drew w1.heap.size [.int .i64 (2 + x), .int .i64 3]) := M10.out
            have Vd : Hid (Bk w10.drew w3.heap.size [.slice (some ⟨gS, 0, none⟩) C kS, .slice (some ⟨gA, 0, none⟩) C kA]) := V10.out
            have Pd : Hid (Bk w10.drew w.heap.size [.int .i64 0, .int .i64 0]) := P10.out
            have Qd : Hid (Bk w10.drew (w.heap.size + 1) [.slice none 0 0, .slice none 0 0]) := Q10.out
            have Rd : Hid (RdB w10.drew r ad len cap (m + 19)) := R10.out.drew
            have Kd : Hid (Kept r w w10.drew) := K10.out.drew
            have Td : Hid (TabIn lo w10.drew (.agg #[.slice (some ⟨gS, 0, none⟩) C kS, .slice (some ⟨gA, 0, none⟩) C kA]) T2) := T10
            have hzd1 : w10.heap.size ≤ w10.drew.heap.size := Nat.le_refl _
            have hzd2 : w10.drew.heap.size ≤ w10.heap.size := Nat.le_refl _
            refine wp_region_held_drew (S := fun w' => Bk w' w1.heap.size [.int .i64 (2 + x), .int .i64 3] ∧ Bk w' w3.heap.size [.slice (some ⟨gS, 0, none⟩) C kS, .slice (some ⟨gA, 0, none⟩) C kA]) (by kernel_rfl) ⟨Md.out, Vd.out⟩ ?_
            intro hHeld
            clear M10 V10 P10 Q10 R10 K10
            generalize w10.drew = xd at *
            refine wpAnyH_take (i := 0) (v := .agg #[.int .i64 (2 + x), .int .i64 3]) rfl (by kernel_rfl) (by kernel_rfl) (by kernel_rfl) (fun _ _ _ h => h) (Or.inl ⟨by rfl, ?_⟩) (by assumption) ?_
            · intro wx hSw; obtain ⟨⟨_, sm⟩, ⟨_, sv⟩⟩ := hSw; have m0 : wx.cell? ⟨w1.heap.size, 0, none⟩ = some (.int .i64 (2 + x)) := (sm 0 (by simp)).1; have m1 : wx.cell? ⟨w1.heap.size, 1, none⟩ = some (.int .i64 3) := (sm 1 (by simp)).1; have v0 : wx.cell? ⟨w3.heap.size, 0, none⟩ = some (.slice (some ⟨gS, 0, none⟩) C kS) := (sv 0 (by simp)).1; have v1 : wx.cell? ⟨w3.heap.size, 1, none⟩ = some (.slice (some ⟨gA, 0, none⟩) C kA) := (sv 1 (by simp)).1; clear sm sv; go_simp
            try simp only [Act.put, List.setIfInBounds_toArray, List.set_cons_zero, List.set_cons_succ, List.getElem_toArray, List.getElem_cons_zero]
            refine wpAnyH_take (i := 1) (v := .agg #[.slice (some ⟨gS, 0, none⟩) C kS, .slice (some ⟨gA, 0, none⟩) C kA]) rfl (by kernel_rfl) (by kernel_rfl) (by kernel_rfl) (fun _ _ _ h => h) (Or.inl ⟨by rfl, ?_⟩) (by assumption) ?_
            · intro wx hSw; obtain ⟨⟨_, sm⟩, ⟨_, sv⟩⟩ := hSw; have m0 : wx.cell? ⟨w1.heap.size, 0, none⟩ = some (.int .i64 (2 + x)) := (sm 0 (by simp)).1; have m1 : wx.cell? ⟨w1.heap.size, 1, none⟩ = some (.int .i64 3) := (sm 1 (by simp)).1; have v0 : wx.cell? ⟨w3.heap.size, 0, none⟩ = some (.slice (some ⟨gS, 0, none⟩) C kS) := (sv 0 (by simp)).1; have v1 : wx.cell? ⟨w3.heap.size, 1, none⟩ = some (.slice (some ⟨gA, 0, none⟩) C kA) := (sv 1 (by simp)).1; clear sm sv; go_simp
            try simp only [Act.put, List.setIfInBounds_toArray, List.set_cons_zero, List.set_cons_succ, List.getElem_toArray, List.getElem_cons_zero, List.getElem_cons_succ]
            refine wpAnyH_take (i := 2) (v := .int .i64 (1 + x2)) rfl (by kernel_rfl) (by kernel_rfl) (by kernel_rfl) (fun _ _ _ h => h) (Or.inl ⟨by rfl, ?_⟩) (by assumption) ?_
            · intro wx hSw; go_simp
            try simp only [Act.put, List.setIfInBounds_toArray, List.set_cons_zero, List.set_cons_succ, List.getElem_toArray, List.getElem_cons_zero, List.getElem_cons_succ]
            refine wpAnyH_ready (rs := [3]) (by kernel_rfl) (by simp) ?_
            refine AllReadyH.cons rfl (fun K hK => ?_) AllReadyH.nil
            have p0 : xd.cell? ⟨w.heap.size, 0, none⟩ = some (.int .i64 0) := (Pd.out.2 0 (by simp)).1
            have p1 : xd.cell? ⟨w.heap.size, 1, none⟩ = some (.int .i64 0) := (Pd.out.2 1 (by simp)).1
            have f0 : xd.frozen? ⟨w.heap.size, 0, none⟩ = false := (Pd.out.2 0 (by simp)).2
            have f1 : xd.frozen? ⟨w.heap.size, 1, none⟩ = false := (Pd.out.2 1 (by simp)).2
            have EP : Hid ((putL w.heap.size [.int .i64 (2 + x), .int .i64 3] 0 xd) = ((xd.setCell ⟨w.heap.size, 0, none⟩ (.int .i64 (2 + x))).setCell ⟨w.heap.size, 1, none⟩ (.int .i64 3))) := rfl
            go_simp
            rw [← EP.out]
            clear p0 p1 f0 f1 EP
            have hzs : (putL w.heap.size [.int .i64 (2 + x), .int .i64 3] 0 xd).heap.size = xd.heap.size := size_put _ _ _ _
            have hzs1 : xd.heap.size ≤ (putL w.heap.size [.int .i64 (2 + x), .int .i64 3] 0 xd).heap.size := by omega
            have Pe : Hid (Bk (putL w.heap.size [.int .i64 (2 + x), .int .i64 3] 0 xd) w.heap.size [.int .i64 (2 + x), .int .i64 3]) := bk_put Pd.out rfl
            have Me : Hid (Bk (putL w.heap.size [.int .i64 (2 + x), .int .i64 3] 0 xd) w1.heap.size [.int .i64 (2 + x), .int .i64 3]) := Md.out.sm hzs1 (sm_put (by omega) [.int .i64 (2 + x), .int .i64 3] 0 xd)
            have Ve : Hid (Bk (putL w.heap.size [.int .i64 (2 + x), .int .i64 3] 0 xd) w3.heap.size [.slice (some ⟨gS, 0, none⟩) C kS, .slice (some ⟨gA, 0, none⟩) C kA]) := Vd.out.sm hzs1 (sm_put (by omega) [.int .i64 (2 + x), .int .i64 3] 0 xd)
            have Qe : Hid (Bk (putL w.heap.size [.int .i64 (2 + x), .int .i64 3] 0 xd) (w.heap.size + 1) [.slice none 0 0, .slice none 0 0]) := Qd.out.sm hzs1 (sm_put (by omega) [.int .i64 (2 + x), .int .i64 3] 0 xd)
            have Re : Hid (RdB (putL w.heap.size [.int .i64 (2 + x), .int .i64 3] 0 xd) r ad len cap (m + 19)) := Rd.out.below (below_put (by omega) [.int .i64 (2 + x), .int .i64 3] 0 (Below.refl _ _))
            have Ke : Hid (Kept r w (putL w.heap.size [.int .i64 (2 + x), .int .i64 3] 0 xd)) := (Kd.out.setCell (q := ⟨w.heap.size, 0, none⟩) (.inl (by show w.heap.size ≤ w.heap.size; omega)) _).setCell (q := ⟨w.heap.size, 1, none⟩) (.inl (by show w.heap.size ≤ w.heap.size; omega)) _
            have Te : Hid (TabIn lo (putL w.heap.size [.int .i64 (2 + x), .int .i64 3] 0 xd) (.agg #[.slice (some ⟨gS, 0, none⟩) C kS, .slice (some ⟨gA, 0, none⟩) C kA]) T2) := Td.out.sm hzs1 (fun b h1 h2 => sm_put (by omega) [.int .i64 (2 + x), .int .i64 3] 0 xd)
            clear hzs
            generalize (putL w.heap.size [.int .i64 (2 + x), .int .i64 3] 0 xd) = xe at *
            refine hK.out _ _ ⟨Me.out, Ve.out⟩ (fun hHelde => ?_)
            clear hK K Md Vd Pd Qd Rd Kd Td
            try simp only [Act.put, List.setIfInBounds_toArray, List.set_cons_zero, List.set_cons_succ, List.getElem_toArray, List.getElem_cons_zero, List.getElem_cons_succ]
            refine wpAnyH_ready (rs := [4]) (by kernel_rfl) (by simp) ?_
            refine AllReadyH.cons rfl (fun K hK => ?_) AllReadyH.nil
            have p0 : xe.cell? ⟨(w.heap.size + 1), 0, none⟩ = some (.slice none 0 0) := (Qe.out.2 0 (by simp)).1
            have p1 : xe.cell? ⟨(w.heap.size + 1), 1, none⟩ = some (.slice none 0 0) := (Qe.out.2 1 (by simp)).1
            have f0 : xe.frozen? ⟨(w.heap.size + 1), 0, none⟩ = false := (Qe.out.2 0 (by simp)).2
            have f1 : xe.frozen? ⟨(w.heap.size + 1), 1, none⟩ = false := (Qe.out.2 1 (by simp)).2
            have EP : Hid ((putL (w.heap.size + 1) [.slice (some ⟨gS, 0, none⟩) C kS, .slice (some ⟨gA, 0, none⟩) C kA] 0 xe) = ((xe.setCell ⟨(w.heap.size + 1), 0, none⟩ (.slice (some ⟨gS, 0, none⟩) C kS)).setCell ⟨(w.heap.size + 1), 1, none⟩ (.slice (some ⟨gA, 0, none⟩) C kA))) := rfl
            go_simp
            rw [← EP.out]
            clear p0 p1 f0 f1 EP
            have hzt : (putL (w.heap.size + 1) [.slice (some ⟨gS, 0, none⟩) C kS, .slice (some ⟨gA, 0, none⟩) C kA] 0 xe).heap.size = xe.heap.size := size_put _ _ _ _
            have hzt1 : xe.heap.size ≤ (putL (w.heap.size + 1) [.slice (some ⟨gS, 0, none⟩) C kS, .slice (some ⟨gA, 0, none⟩) C kA] 0 xe).heap.size := by omega
            have Qf : Hid (Bk (putL (w.heap.size + 1) [.slice (some ⟨gS, 0, none⟩) C kS, .slice (some ⟨gA, 0, none⟩) C kA] 0 xe) (w.heap.size + 1) [.slice (some ⟨gS, 0, none⟩) C kS, .slice (some ⟨gA, 0, none⟩) C kA]) := bk_put Qe.out rfl
            have Mf : Hid (Bk (putL (w.heap.size + 1) [.slice (some ⟨gS, 0, none⟩) C kS, .slice (some ⟨gA, 0, none⟩) C kA] 0 xe) w1.heap.size [.int .i64 (2 + x), .int .i64 3]) := Me.out.sm hzt1 (sm_put (by omega) [.slice (some ⟨gS, 0, none⟩) C kS, .slice (some ⟨gA, 0, none⟩) C kA] 0 xe)
            have Vf : Hid (Bk (putL (w.heap.size + 1) [.slice (some ⟨gS, 0, none⟩) C kS, .slice (some ⟨gA, 0, none⟩) C kA] 0 xe) w3.heap.size [.slice (some ⟨gS, 0, none⟩) C kS, .slice (some ⟨gA, 0, none⟩) C kA]) := Ve.out.sm hzt1 (sm_put (by omega) [.slice (some ⟨gS, 0, none⟩) C kS, .slice (some ⟨gA, 0, none⟩) C kA] 0 xe)
            have Pf : Hid (Bk (putL (w.heap.size + 1) [.slice (some ⟨gS, 0, none⟩) C kS, .slice (some ⟨gA, 0, none⟩) C kA] 0 xe) w.heap.size [.int .i64 (2 + x), .int .i64 3]) := Pe.out.sm hzt1 (sm_put (by omega) [.slice (some ⟨gS, 0, none⟩) C kS, .slice (some ⟨gA, 0, none⟩) C kA] 0 xe)
            have Rf : Hid (RdB (putL (w.heap.size + 1) [.slice (some ⟨gS, 0, none⟩) C kS, .slice (some ⟨gA, 0, none⟩) C kA] 0 xe) r ad len cap (m + 19)) := Re.out.below (below_put (by omega) [.slice (some ⟨gS, 0, none⟩) C kS, .slice (some ⟨gA, 0, none⟩) C kA] 0 (Below.refl _ _))
            have Kf : Hid (Kept r w (putL (w.heap.size + 1) [.slice (some ⟨gS, 0, none⟩) C kS, .slice (some ⟨gA, 0, none⟩) C kA] 0 xe)) := (Ke.out.setCell (q := ⟨(w.heap.size + 1), 0, none⟩) (.inl (by show w.heap.size ≤ (w.heap.size + 1); omega)) _).setCell (q := ⟨(w.heap.size + 1), 1, none⟩) (.inl (by show w.heap.size ≤ (w.heap.size + 1); omega)) _
            have Tf : Hid (TabIn lo (putL (w.heap.size + 1) [.slice (some ⟨gS, 0, none⟩) C kS, .slice (some ⟨gA, 0, none⟩) C kA] 0 xe) (.agg #[.slice (some ⟨gS, 0, none⟩) C kS, .slice (some ⟨gA, 0, none⟩) C kA]) T2) := Te.out.sm hzt1 (fun b h1 h2 => sm_put (by omega) [.slice (some ⟨gS, 0, none⟩) C kS, .slice (some ⟨gA, 0, none⟩) C kA] 0 xe)
            clear hzt
            generalize (putL (w.heap.size + 1) [.slice (some ⟨gS, 0, none⟩) C kS, .slice (some ⟨gA, 0, none⟩) C kA] 0 xe) = xf at *
            refine hK.out _ _ ⟨Mf.out, Vf.out⟩ (fun hHeldf => ?_)
            clear hK K Me Ve Pe Qe Re Ke Te
            try simp only [Act.put, List.setIfInBounds_toArray, List.set_cons_zero, List.set_cons_succ, List.getElem_toArray, List.getElem_cons_zero, List.getElem_cons_succ]
            refine wpAnyH_take (i := 5) (v := .int .i64 (1 + x2)) rfl (by kernel_rfl) (by kernel_rfl) (by kernel_rfl) (fun _ _ _ h => h) (Or.inl ⟨by rfl, ?_⟩) (by assumption) ?_
            · intro wx hSw; go_simp
            try simp only [Act.put, List.setIfInBounds_toArray, List.set_cons_zero, List.set_cons_succ, List.getElem_toArray, List.getElem_cons_zero, List.getElem_cons_succ]
            refine wpAnyH_done (by kernel_rfl) ?_ _
            have p0 : xf.cell? ⟨w.heap.size, 0, none⟩ = some (.int .i64 (2 + x)) := (Pf.out.2 0 (by simp)).1
            have p1 : xf.cell? ⟨w.heap.size, 1, none⟩ = some (.int .i64 3) := (Pf.out.2 1 (by simp)).1
            have q0 : xf.cell? ⟨(w.heap.size + 1), 0, none⟩ = some (.slice (some ⟨gS, 0, none⟩) C kS) := (Qf.out.2 0 (by simp)).1
            have q1 : xf.cell? ⟨(w.heap.size + 1), 1, none⟩ = some (.slice (some ⟨gA, 0, none⟩) C kA) := (Qf.out.2 1 (by simp)).1
            go_wp2
            refine bodyPost_ret (v := .tuple #[.agg #[.int .i64 (2 + x), .int .i64 3], .agg #[.slice (some ⟨gS, 0, none⟩) C kS, .slice (some ⟨gA, 0, none⟩) C kA], .int .i64 (1 + x2)]) (by simp [results, Try.results14, go_sem, p0, p1, q0, q1]) rfl ⟨_, _, _, T2, _, rfl, Tf.out.mono (by omega), hsh, ⟨by omega, by omega⟩, Rf.out.more (by omega), Kf.out⟩
        · go_upto_region 18 with fail
          have Kd : Hid (Kept r w w9.drew) := K9.out.drew
          have Md : Hid (Bk w9.drew w1.heap.size [.int .i64 (2 + x), .int .i64 3]) := M9.out
          have Vd : Hid (Bk w9.drew w3.heap.size [.slice (some ⟨gS, 0, none⟩) C kS, .slice (some ⟨gA, 0, none⟩) C kA]) := V9.out
          have Pd : Hid (Bk w9.drew w.heap.size [.int .i64 0, .int .i64 0]) := P9.out
          have Qd : Hid (Bk w9.drew (w.heap.size + 1) [.slice none 0 0, .slice none 0 0]) := Q9.out
          have Rd : Hid (RdB w9.drew r ad len cap (m + 16)) := R9.out.drew
          have Sd : Hid (Own1 w9.drew gS C Tv.S C) := OS.out
          have Ad : Hid (Own1 w9.drew gA C Tv.A C) := OA.out
          have hzd1 : w9.heap.size ≤ w9.drew.heap.size := Nat.le_refl _
          refine wp_region_held_drew (S := fun w' => Bk w' w3.heap.size [.slice (some ⟨gS, 0, none⟩) C kS, .slice (some ⟨gA, 0, none⟩) C kA]) (by kernel_rfl) Vd.out ?_
          intro hHeld
          clear K9 M9 V9 P9 Q9 O9 R9 OS OA
          generalize w9.drew = xd at *
          have hkk' : (kk : Int) < (C : Int) := by omega
          refine wpAnyH_take (i := 0) (v := .pointer (some ⟨w3.heap.size, 1, none⟩)) rfl (by kernel_rfl) (by kernel_rfl) (by kernel_rfl) (fun _ _ _ h => h) (Or.inl ⟨by rfl, ?_⟩) (by assumption) ?_
          · intro wx hSw; go_simp
          try simp only [Act.put, List.setIfInBounds_toArray, List.set_cons_zero, List.set_cons_succ, List.getElem_toArray, List.getElem_cons_zero]
          refine wpAnyH_take (i := 1) (v := .slice (some ⟨gA, 0, none⟩) C kA) rfl (by kernel_rfl) (by kernel_rfl) (by kernel_rfl) (fun _ _ _ h => h) (Or.inl ⟨by rfl, ?_⟩) (by assumption) ?_
          · intro wx hSw; obtain ⟨_, sv⟩ := hSw; have v0 : wx.cell? ⟨w3.heap.size, 0, none⟩ = some (.slice (some ⟨gS, 0, none⟩) C kS) := (sv 0 (by simp)).1; have v1 : wx.cell? ⟨w3.heap.size, 1, none⟩ = some (.slice (some ⟨gA, 0, none⟩) C kA) := (sv 1 (by simp)).1; clear sv; go_simp
          try simp only [Act.put, List.setIfInBounds_toArray, List.set_cons_zero, List.set_cons_succ, List.getElem_toArray, List.getElem_cons_zero, List.getElem_cons_succ]
          refine wpAnyH_take (i := 2) (v := .int .i64 (kk : Int)) rfl (by kernel_rfl) (by kernel_rfl) (by kernel_rfl) (fun _ _ _ h => h) (Or.inl ⟨by rfl, ?_⟩) (by assumption) ?_
          · intro wx hSw; go_simp
          try simp only [Act.put, List.setIfInBounds_toArray, List.set_cons_zero, List.set_cons_succ, List.getElem_toArray, List.getElem_cons_zero, List.getElem_cons_succ]
          refine wpAnyH_take (i := 4) (v := .pointer (some ⟨r, 0, none⟩)) rfl (by kernel_rfl) (by kernel_rfl) (by kernel_rfl) (fun _ _ _ h => h) (Or.inl ⟨by rfl, ?_⟩) (by assumption) ?_
          · intro wx hSw; go_simp
          try simp only [Act.put, List.setIfInBounds_toArray, List.set_cons_zero, List.set_cons_succ, List.getElem_toArray, List.getElem_cons_zero, List.getElem_cons_succ]
          refine wpAnyH_ready (rs := [3, 5]) (by kernel_rfl) (by simp) ?_
          refine (AllReadyH.cons rfl (fun K hK => ?_) (AllReadyH.cons rfl (fun K hK => ?_) AllReadyH.nil))
          · go_simp
            obtain ⟨xe, eA⟩ : ∃ Y, Y = xd.alloc (.cells #[.int .i64 (-1), .int .i64 (0), .int .i64 (900), .int .i64 (901)] 3) := ⟨_, rfl⟩
            rw [← eA]
            have hb : Below xd.heap.size xd xe := by rw [eA]; exact (Below.refl _ _).alloc (Nat.le_refl _) _
            have L0 : Lits xe xd.heap.size [-1, 0, 900, 901] := by rw [eA]; exact Lits.new [-1, 0, 900, 901] xd 3
            clear eA
            obtain ⟨gL, eb⟩ : ∃ b, b = xd.heap.size := ⟨_, rfl⟩
            have eb1 : xd.heap.size ≤ gL := by omega
            have eb2 : gL ≤ xd.heap.size := by omega
            rw [← eb] at L0 ⊢
            have Ke : Hid (Kept r w xe) := Kd.out.trans (Kept.ofBelow (r := r) hb)
            have Me : Hid (Bk xe w1.heap.size [.int .i64 (2 + x), .int .i64 3]) := Md.out.kp (Kept.ofBelow (r := r) hb) (by omega)
            have Ve : Hid (Bk xe w3.heap.size [.slice (some ⟨gS, 0, none⟩) C kS, .slice (some ⟨gA, 0, none⟩) C kA]) := Vd.out.kp (Kept.ofBelow (r := r) hb) (by omega)
            have Pe : Hid (Bk xe w.heap.size [.int .i64 0, .int .i64 0]) := Pd.out.kp (Kept.ofBelow (r := r) hb) (by omega)
            have Qe : Hid (Bk xe (w.heap.size + 1) [.slice none 0 0, .slice none 0 0]) := Qd.out.kp (Kept.ofBelow (r := r) hb) (by omega)
            have Se : Hid (Own1 xe gS C Tv.S C) := own1_sm Sd.out ((Kept.ofBelow (r := r) hb).sm (by omega) (by omega))
            have Ae : Hid (Own1 xe gA C Tv.A C) := own1_sm Ad.out ((Kept.ofBelow (r := r) hb).sm (by omega) (by omega))
            have hzxe := (Kept.ofBelow (r := r) hb).size
            have Le : Hid (Lits xe gL [-1, 0, 900, 901]) := L0
            have Re : Hid (RdB xe r ad len cap (m + 18)) := (Rd.out.on hb).more (by omega)
            refine hK.out _ _ Ve.out (fun hHelde => ?_)
            clear hK K hb L0 eb
            try simp only [Act.put, List.setIfInBounds_toArray, List.set_cons_zero, List.set_cons_succ, List.getElem_toArray, List.getElem_cons_zero, List.getElem_cons_succ]
            refine wpAnyH_ready (rs := [5]) (by kernel_rfl) (by simp) ?_
            refine AllReadyH.cons rfl (fun K hK => ?_) AllReadyH.nil
            go_simp
            go_wp2_with (go_at_call 15; refine (pick_B (n := 4) Re.out (by omega)).mono ?_; rintro e xf ⟨x4, rfl, hx4, hRp, hKp⟩)
            have Kf : Hid (Kept r w xf) := Ke.out.trans hKp
            have Mf : Hid (Bk xf w1.heap.size [.int .i64 (2 + x), .int .i64 3]) := Me.out.kp hKp (by omega)
            have Vf : Hid (Bk xf w3.heap.size [.slice (some ⟨gS, 0, none⟩) C kS, .slice (some ⟨gA, 0, none⟩) C kA]) := Ve.out.kp hKp (by omega)
            have Pf : Hid (Bk xf w.heap.size [.int .i64 0, .int .i64 0]) := Pe.out.kp hKp (by omega)
            have Qf : Hid (Bk xf (w.heap.size + 1) [.slice none 0 0, .slice none 0 0]) := Qe.out.kp hKp (by omega)
            have Sf : Hid (Own1 xf gS C Tv.S C) := own1_sm Se.out (hKp.sm (by omega) (by omega))
            have Af : Hid (Own1 xf gA C Tv.A C) := own1_sm Ae.out (hKp.sm (by omega) (by omega))
            have hzxf := hKp.size
            have Lf : Hid (Lits xf gL [-1, 0, 900, 901]) := Lits.kept hKp Le.out (by omega)
            have Rf : Hid (RdB xf r ad len cap (m + 19)) := hRp.more (by omega)
            have x40 := hx4.1
            have x41 := hx4.2.1 (by decide)
            refine hK.out _ _ Vf.out (fun hHeldf => ?_)
            clear hK K hRp hKp hx4
            try simp only [Act.put, List.setIfInBounds_toArray, List.set_cons_zero, List.set_cons_succ, List.getElem_toArray, List.getElem_cons_zero, List.getElem_cons_succ]
            refine wpAnyH_take (i := 6) (v := .pointer (some ⟨gL, x4.toNat, none⟩)) rfl (by kernel_rfl) (by kernel_rfl) (by kernel_rfl) (fun _ _ _ h => h) (Or.inl ⟨by rfl, ?_⟩) (by assumption) ?_
            · intro wx hSw; go_simp
            try simp only [Act.put, List.setIfInBounds_toArray, List.set_cons_zero, List.set_cons_succ, List.getElem_toArray, List.getElem_cons_zero, List.getElem_cons_succ]
            obtain ⟨z, hcz⟩ : ∃ z, xf.cell? ⟨gL, x4.toNat, none⟩ = some (.int .i64 z) := ⟨_, Lf.out.2 x4 x40 (by simpa using x41)⟩
            refine wpAnyH_ready (rs := [7]) (by kernel_rfl) (by simp) ?_
            refine AllReadyH.cons rfl (fun K hK => ?_) AllReadyH.nil
            go_simp
            refine hK.out _ _ Vf.out (fun hHeldL => ?_)
            clear hK K hcz
            try simp only [Act.put, List.setIfInBounds_toArray, List.set_cons_zero, List.set_cons_succ, List.getElem_toArray, List.getElem_cons_zero, List.getElem_cons_succ]
            refine wpAnyH_take (i := 8) (v := .pointer (some ⟨gA, kk, none⟩)) rfl (by kernel_rfl) (by kernel_rfl) (by kernel_rfl) (fun _ _ _ h => h) (Or.inl ⟨by rfl, ?_⟩) (by assumption) ?_
            · intro wx hSw; go_simp
            try simp only [Act.put, List.setIfInBounds_toArray, List.set_cons_zero, List.set_cons_succ, List.getElem_toArray, List.getElem_cons_zero, List.getElem_cons_succ]
            refine wpAnyH_ready (rs := [9]) (by kernel_rfl) (by simp) ?_
            refine AllReadyH.cons rfl (fun K hK => ?_) AllReadyH.nil
            have c0 := Af.out.2 kk hkk
            have f0 := (Af.out.1 kk hkk).2
            go_simp
            clear c0 f0
            obtain ⟨w10, e10⟩ : ∃ w10, w10 = xf.setCell ⟨gA, kk, none⟩ (.int .i64 z) := ⟨_, rfl⟩
            rw [← e10]
            have hz10 : w10.heap.size = xf.heap.size := by rw [e10]; exact set_size
            have M10 : Hid (Bk w10 w1.heap.size [.int .i64 (2 + x), .int .i64 3]) := by rw [e10]; exact Mf.out.far (by omega)
            have P10 : Hid (Bk w10 w.heap.size [.int .i64 0, .int .i64 0]) := by rw [e10]; exact Pf.out.far (by omega)
            have Q10 : Hid (Bk w10 (w.heap.size + 1) [.slice none 0 0, .slice none 0 0]) := by rw [e10]; exact Qf.out.far (by omega)
            have V10 : Hid (Bk w10 w3.heap.size [.slice (some ⟨gS, 0, none⟩) C kS, .slice (some ⟨gA, 0, none⟩) C kA]) := by rw [e10]; exact Vf.out.far (by omega)
            have R10 : Hid (RdB w10 r ad len cap (m + 19)) := by rw [e10]; exact (Rf.out.below ((Below.refl _ _).setCell (p := ⟨gA, kk, none⟩) (by show r + 1 ≤ gA; omega) _)).more (by omega)
            have K10 : Hid (Kept r w w10) := by rw [e10]; exact Kf.out.setCell (q := ⟨gA, kk, none⟩) (.inl (by show w.heap.size ≤ gA; omega)) _
            obtain ⟨T2, eT2⟩ : ∃ T2 : TV, T2 = ⟨C, Tv.S, C, fun j => if j = kk then z else Tv.A j⟩ := ⟨_, rfl⟩
            have U1 : Own1 w10 gA C (fun j => if j = kk then z else Tv.A j) C := by rw [e10]; exact own1_upd Af.out hkk
            have U2 : Own1 w10 gS C Tv.S C := by rw [e10]; exact own1_set Sf.out (by omega)
            have T10 : TabIn lo w10 (.agg #[.slice (some ⟨gS, 0, none⟩) C kS, .slice (some ⟨gA, 0, none⟩) C kA]) T2 := by
              rw [eT2]
              refine ⟨_, _, _, _, rfl, .inr ⟨gS, 0, rfl, hgS1, by omega, fun j hj => ?_⟩, .inr ⟨gA, 0, rfl, hgA1, by omega, fun j hj => ?_⟩⟩
              · rw [Nat.zero_add]; exact U2.2 j hj
              · rw [Nat.zero_add]; exact U1.2 j hj
            have hsh : T2.short 1000 := by rw [eT2]; exact ⟨by show C ≤ 1000; omega, by show C ≤ 1000; omega⟩
            have hz11 : xf.heap.size ≤ w10.heap.size := Nat.le_of_eq hz10.symm
            refine hK.out _ _ V10.out (fun hHeldS => ?_)
            clear hK K e10 hz10 eT2 U1 U2
            try simp only [Act.put, List.setIfInBounds_toArray, List.set_cons_zero, List.set_cons_succ, List.getElem_toArray, List.getElem_cons_zero, List.getElem_cons_succ]
            refine wpAnyH_done (by kernel_rfl) ?_ _
            clear hHeld
            go_upto_region 23 with fail
            have Md : Hid (Bk w10.drew w1.heap.size [.int .i64 (2 + x), .int .i64 3]) := M10.out
            have Vd : Hid (Bk w10.drew w3.heap.size [.slice (some ⟨gS, 0, none⟩) C kS, .slice (some ⟨gA, 0, none⟩) C kA]) := V10.out
            have Pd : Hid (Bk w10.drew w.heap.size [.int .i64 0, .int .i64 0]) := P10.out
            have Qd : Hid (Bk w10.drew (w.heap.size + 1) [.slice none 0 0, .slice none 0 0]) := Q10.out
            have Rd : Hid (RdB w10.drew r ad len cap (m + 19)) := R10.out.drew
            have Kd : Hid (Kept r w w10.drew) := K10.out.drew
            have Td : Hid (TabIn lo w10.drew (.agg #[.slice (some ⟨gS, 0, none⟩) C kS, .slice (some ⟨gA, 0, none⟩) C kA]) T2) := T10
            have hzd1 : w10.heap.size ≤ w10.drew.heap.size := Nat.le_refl _
            have hzd2 : w10.drew.heap.size ≤ w10.heap.size := Nat.le_refl _
            refine wp_region_held_drew (S := fun w' => Bk w' w1.heap.size [.int .i64 (2 + x), .int .i64 3] ∧ Bk w' w3.heap.size [.slice (some ⟨gS, 0, none⟩) C kS, .slice (some ⟨gA, 0, none⟩) C kA]) (by kernel_rfl) ⟨Md.out, Vd.out⟩ ?_
            intro hHeld
            clear M10 V10 P10 Q10 R10 K10
            generalize w10.drew = xd at *
            refine wpAnyH_take (i := 0) (v := .agg #[.int .i64 (2 + x), .int .i64 3]) rfl (by kernel_rfl) (by kernel_rfl) (by kernel_rfl) (fun _ _ _ h => h) (Or.inl ⟨by rfl, ?_⟩) (by assumption) ?_
            · intro wx hSw; obtain ⟨⟨_, sm⟩, ⟨_, sv⟩⟩ := hSw; have m0 : wx.cell? ⟨w1.heap.size, 0, none⟩ = some (.int .i64 (2 + x)) := (sm 0 (by simp)).1; have m1 : wx.cell? ⟨w1.heap.size, 1, none⟩ = some (.int .i64 3) := (sm 1 (by simp)).1; have v0 : wx.cell? ⟨w3.heap.size, 0, none⟩ = some (.slice (some ⟨gS, 0, none⟩) C kS) := (sv 0 (by simp)).1; have v1 : wx.cell? ⟨w3.heap.size, 1, none⟩ = some (.slice (some ⟨gA, 0, none⟩) C kA) := (sv 1 (by simp)).1; clear sm sv; go_simp
            try simp only [Act.put, List.setIfInBounds_toArray, List.set_cons_zero, List.set_cons_succ, List.getElem_toArray, List.getElem_cons_zero]
            refine wpAnyH_take (i := 1) (v := .agg #[.slice (some ⟨gS, 0, none⟩) C kS, .slice (some ⟨gA, 0, none⟩) C kA]) rfl (by kernel_rfl) (by kernel_rfl) (by kernel_rfl) (fun _ _ _ h => h) (Or.inl ⟨by rfl, ?_⟩) (by assumption) ?_
            · intro wx hSw; obtain ⟨⟨_, sm⟩, ⟨_, sv⟩⟩ := hSw; have m0 : wx.cell? ⟨w1.heap.size, 0, none⟩ = some (.int .i64 (2 + x)) := (sm 0 (by simp)).1; have m1 : wx.cell? ⟨w1.heap.size, 1, none⟩ = some (.int .i64 3) := (sm 1 (by simp)).1; have v0 : wx.cell? ⟨w3.heap.size, 0, none⟩ = some (.slice (some ⟨gS, 0, none⟩) C kS) := (sv 0 (by simp)).1; have v1 : wx.cell? ⟨w3.heap.size, 1, none⟩ = some (.slice (some ⟨gA, 0, none⟩) C kA) := (sv 1 (by simp)).1; clear sm sv; go_simp
            try simp only [Act.put, List.setIfInBounds_toArray, List.set_cons_zero, List.set_cons_succ, List.getElem_toArray, List.getElem_cons_zero, List.getElem_cons_succ]
            refine wpAnyH_take (i := 2) (v := .int .i64 (1 + x2)) rfl (by kernel_rfl) (by kernel_rfl) (by kernel_rfl) (fun _ _ _ h => h) (Or.inl ⟨by rfl, ?_⟩) (by assumption) ?_
            · intro wx hSw; go_simp
            try simp only [Act.put, List.setIfInBounds_toArray, List.set_cons_zero, List.set_cons_succ, List.getElem_toArray, List.getElem_cons_zero, List.getElem_cons_succ]
            refine wpAnyH_ready (rs := [3]) (by kernel_rfl) (by simp) ?_
            refine AllReadyH.cons rfl (fun K hK => ?_) AllReadyH.nil
            have p0 : xd.cell? ⟨w.heap.size, 0, none⟩ = some (.int .i64 0) := (Pd.out.2 0 (by simp)).1
            have p1 : xd.cell? ⟨w.heap.size, 1, none⟩ = some (.int .i64 0) := (Pd.out.2 1 (by simp)).1
            have f0 : xd.frozen? ⟨w.heap.size, 0, none⟩ = false := (Pd.out.2 0 (by simp)).2
            have f1 : xd.frozen? ⟨w.heap.size, 1, none⟩ = false := (Pd.out.2 1 (by simp)).2
            have EP : Hid ((putL w.heap.size [.int .i64 (2 + x), .int .i64 3] 0 xd) = ((xd.setCell ⟨w.heap.size, 0, none⟩ (.int .i64 (2 + x))).setCell ⟨w.heap.size, 1, none⟩ (.int .i64 3))) := rfl
            go_simp
            rw [← EP.out]
            clear p0 p1 f0 f1 EP
            have hzs : (putL w.heap.size [.int .i64 (2 + x), .int .i64 3] 0 xd).heap.size = xd.heap.size := size_put _ _ _ _
            have hzs1 : xd.heap.size ≤ (putL w.heap.size [.int .i64 (2 + x), .int .i64 3] 0 xd).heap.size := by omega
            have Pe : Hid (Bk (putL w.heap.size [.int .i64 (2 + x), .int .i64 3] 0 xd) w.heap.size [.int .i64 (2 + x), .int .i64 3]) := bk_put Pd.out rfl
            have Me : Hid (Bk (putL w.heap.size [.int .i64 (2 + x), .int .i64 3] 0 xd) w1.heap.size [.int .i64 (2 + x), .int .i64 3]) := Md.out.sm hzs1 (sm_put (by omega) [.int .i64 (2 + x), .int .i64 3] 0 xd)
            have Ve : Hid (Bk (putL w.heap.size [.int .i64 (2 + x), .int .i64 3] 0 xd) w3.heap.size [.slice (some ⟨gS, 0, none⟩) C kS, .slice (some ⟨gA, 0, none⟩) C kA]) := Vd.out.sm hzs1 (sm_put (by omega) [.int .i64 (2 + x), .int .i64 3] 0 xd)
            have Qe : Hid (Bk (putL w.heap.size [.int .i64 (2 + x), .int .i64 3] 0 xd) (w.heap.size + 1) [.slice none 0 0, .slice none 0 0]) := Qd.out.sm hzs1 (sm_put (by omega) [.int .i64 (2 + x), .int .i64 3] 0 xd)
            have Re : Hid (RdB (putL w.heap.size [.int .i64 (2 + x), .int .i64 3] 0 xd) r ad len cap (m + 19)) := Rd.out.below (below_put (by omega) [.int .i64 (2 + x), .int .i64 3] 0 (Below.refl _ _))
            have Ke : Hid (Kept r w (putL w.heap.size [.int .i64 (2 + x), .int .i64 3] 0 xd)) := (Kd.out.setCell (q := ⟨w.heap.size, 0, none⟩) (.inl (by show w.heap.size ≤ w.heap.size; omega)) _).setCell (q := ⟨w.heap.size, 1, none⟩) (.inl (by show w.heap.size ≤ w.heap.size; omega)) _
            have Te : Hid (TabIn lo (putL w.heap.size [.int .i64 (2 + x), .int .i64 3] 0 xd) (.agg #[.slice (some ⟨gS, 0, none⟩) C kS, .slice (some ⟨gA, 0, none⟩) C kA]) T2) := Td.out.sm hzs1 (fun b h1 h2 => sm_put (by omega) [.int .i64 (2 + x), .int .i64 3] 0 xd)
            clear hzs
            generalize (putL w.heap.size [.int .i64 (2 + x), .int .i64 3] 0 xd) = xe at *
            refine hK.out _ _ ⟨Me.out, Ve.out⟩ (fun hHelde => ?_)
            clear hK K Md Vd Pd Qd Rd Kd Td
            try simp only [Act.put, List.setIfInBounds_toArray, List.set_cons_zero, List.set_cons_succ, List.getElem_toArray, List.getElem_cons_zero, List.getElem_cons_succ]
            refine wpAnyH_ready (rs := [4]) (by kernel_rfl) (by simp) ?_
            refine AllReadyH.cons rfl (fun K hK => ?_) AllReadyH.nil
            have p0 : xe.cell? ⟨(w.heap.size + 1), 0, none⟩ = some (.slice none 0 0) := (Qe.out.2 0 (by simp)).1
            have p1 : xe.cell? ⟨(w.heap.size + 1), 1, none⟩ = some (.slice none 0 0) := (Qe.out.2 1 (by simp)).1
            have f0 : xe.frozen? ⟨(w.heap.size + 1), 0, none⟩ = false := (Qe.out.2 0 (by simp)).2
            have f1 : xe.frozen? ⟨(w.heap.size + 1), 1, none⟩ = false := (Qe.out.2 1 (by simp)).2
            have EP : Hid ((putL (w.heap.size + 1) [.slice (some ⟨gS, 0, none⟩) C kS, .slice (some ⟨gA, 0, none⟩) C kA] 0 xe) = ((xe.setCell ⟨(w.heap.size + 1), 0, none⟩ (.slice (some ⟨gS, 0, none⟩) C kS)).setCell ⟨(w.heap.size + 1), 1, none⟩ (.slice (some ⟨gA, 0, none⟩) C kA))) := rfl
            go_simp
            rw [← EP.out]
            clear p0 p1 f0 f1 EP
            have hzt : (putL (w.heap.size + 1) [.slice (some ⟨gS, 0, none⟩) C kS, .slice (some ⟨gA, 0, none⟩) C kA] 0 xe).heap.size = xe.heap.size := size_put _ _ _ _
            have hzt1 : xe.heap.size ≤ (putL (w.heap.size + 1) [.slice (some ⟨gS, 0, none⟩) C kS, .slice (some ⟨gA, 0, none⟩) C kA] 0 xe).heap.size := by omega
            have Qf : Hid (Bk (putL (w.heap.size + 1) [.slice (some ⟨gS, 0, none⟩) C kS, .slice (some ⟨gA, 0, none⟩) C kA] 0 xe) (w.heap.size + 1) [.slice (some ⟨gS, 0, none⟩) C kS, .slice (some ⟨gA, 0, none⟩) C kA]) := bk_put Qe.out rfl
            have Mf : Hid (Bk (putL (w.heap.size + 1) [.slice (some ⟨gS, 0, none⟩) C kS, .slice (some ⟨gA, 0, none⟩) C kA] 0 xe) w1.heap.size [.int .i64 (2 + x), .int .i64 3]) := Me.out.sm hzt1 (sm_put (by omega) [.slice (some ⟨gS, 0, none⟩) C kS, .slice (some ⟨gA, 0, none⟩) C kA] 0 xe)
            have Vf : Hid (Bk (putL (w.heap.size + 1) [.slice (some ⟨gS, 0, none⟩) C kS, .slice (some ⟨gA, 0, none⟩) C kA] 0 xe) w3.heap.size [.slice (some ⟨gS, 0, none⟩) C kS, .slice (some ⟨gA, 0, none⟩) C kA]) := Ve.out.sm hzt1 (sm_put (by omega) [.slice (some ⟨gS, 0, none⟩) C kS, .slice (some ⟨gA, 0, none⟩) C kA] 0 xe)
            have Pf : Hid (Bk (putL (w.heap.size + 1) [.slice (some ⟨gS, 0, none⟩) C kS, .slice (some ⟨gA, 0, none⟩) C kA] 0 xe) w.heap.size [.int .i64 (2 + x), .int .i64 3]) := Pe.out.sm hzt1 (sm_put (by omega) [.slice (some ⟨gS, 0, none⟩) C kS, .slice (some ⟨gA, 0, none⟩) C kA] 0 xe)
            have Rf : Hid (RdB (putL (w.heap.size + 1) [.slice (some ⟨gS, 0, none⟩) C kS, .slice (some ⟨gA, 0, none⟩) C kA] 0 xe) r ad len cap (m + 19)) := Re.out.below (below_put (by omega) [.slice (some ⟨gS, 0, none⟩) C kS, .slice (some ⟨gA, 0, none⟩) C kA] 0 (Below.refl _ _))
            have Kf : Hid (Kept r w (putL (w.heap.size + 1) [.slice (some ⟨gS, 0, none⟩) C kS, .slice (some ⟨gA, 0, none⟩) C kA] 0 xe)) := (Ke.out.setCell (q := ⟨(w.heap.size + 1), 0, none⟩) (.inl (by show w.heap.size ≤ (w.heap.size + 1); omega)) _).setCell (q := ⟨(w.heap.size + 1), 1, none⟩) (.inl (by show w.heap.size ≤ (w.heap.size + 1); omega)) _
            have Tf : Hid (TabIn lo (putL (w.heap.size + 1) [.slice (some ⟨gS, 0, none⟩) C kS, .slice (some ⟨gA, 0, none⟩) C kA] 0 xe) (.agg #[.slice (some ⟨gS, 0, none⟩) C kS, .slice (some ⟨gA, 0, none⟩) C kA]) T2) := Te.out.sm hzt1 (fun b h1 h2 => sm_put (by omega) [.slice (some ⟨gS, 0, none⟩) C kS, .slice (some ⟨gA, 0, none⟩) C kA] 0 xe)
            clear hzt
            generalize (putL (w.heap.size + 1) [.slice (some ⟨gS, 0, none⟩) C kS, .slice (some ⟨gA, 0, none⟩) C kA] 0 xe) = xf at *
            refine hK.out _ _ ⟨Mf.out, Vf.out⟩ (fun hHeldf => ?_)
            clear hK K Me Ve Pe Qe Re Ke Te
            try simp only [Act.put, List.setIfInBounds_toArray, List.set_cons_zero, List.set_cons_succ, List.getElem_toArray, List.getElem_cons_zero, List.getElem_cons_succ]
            refine wpAnyH_take (i := 5) (v := .int .i64 (1 + x2)) rfl (by kernel_rfl) (by kernel_rfl) (by kernel_rfl) (fun _ _ _ h => h) (Or.inl ⟨by rfl, ?_⟩) (by assumption) ?_
            · intro wx hSw; go_simp
            try simp only [Act.put, List.setIfInBounds_toArray, List.set_cons_zero, List.set_cons_succ, List.getElem_toArray, List.getElem_cons_zero, List.getElem_cons_succ]
            refine wpAnyH_done (by kernel_rfl) ?_ _
            have p0 : xf.cell? ⟨w.heap.size, 0, none⟩ = some (.int .i64 (2 + x)) := (Pf.out.2 0 (by simp)).1
            have p1 : xf.cell? ⟨w.heap.size, 1, none⟩ = some (.int .i64 3) := (Pf.out.2 1 (by simp)).1
            have q0 : xf.cell? ⟨(w.heap.size + 1), 0, none⟩ = some (.slice (some ⟨gS, 0, none⟩) C kS) := (Qf.out.2 0 (by simp)).1
            have q1 : xf.cell? ⟨(w.heap.size + 1), 1, none⟩ = some (.slice (some ⟨gA, 0, none⟩) C kA) := (Qf.out.2 1 (by simp)).1
            go_wp2
            refine bodyPost_ret (v := .tuple #[.agg #[.int .i64 (2 + x), .int .i64 3], .agg #[.slice (some ⟨gS, 0, none⟩) C kS, .slice (some ⟨gA, 0, none⟩) C kA], .int .i64 (1 + x2)]) (by simp [results, Try.results14, go_sem, p0, p1, q0, q1]) rfl ⟨_, _, _, T2, _, rfl, Tf.out.mono (by omega), hsh, ⟨by omega, by omega⟩, Rf.out.more (by omega), Kf.out⟩
          · go_simp
            go_wp2_with (go_at_call 15; refine (pick_B (n := 4) Rd.out (by omega)).mono ?_; rintro e xe ⟨x4, rfl, hx4, hRp, hKp⟩)
            have Ke : Hid (Kept r w xe) := Kd.out.trans hKp
            have Me : Hid (Bk xe w1.heap.size [.int .i64 (2 + x), .int .i64 3]) := Md.out.kp hKp (by omega)
            have Ve : Hid (Bk xe w3.heap.size [.slice (some ⟨gS, 0, none⟩) C kS, .slice (some ⟨gA, 0, none⟩) C kA]) := Vd.out.kp hKp (by omega)
            have Pe : Hid (Bk xe w.heap.size [.int .i64 0, .int .i64 0]) := Pd.out.kp hKp (by omega)
            have Qe : Hid (Bk xe (w.heap.size + 1) [.slice none 0 0, .slice none 0 0]) := Qd.out.kp hKp (by omega)
            have Se : Hid (Own1 xe gS C Tv.S C) := own1_sm Sd.out (hKp.sm (by omega) (by omega))
            have Ae : Hid (Own1 xe gA C Tv.A C) := own1_sm Ad.out (hKp.sm (by omega) (by omega))
            have hzxe := hKp.size
            have Re : Hid (RdB xe r ad len cap (m + 18)) := hRp.more (by omega)
            have x40 := hx4.1
            have x41 := hx4.2.1 (by decide)
            refine hK.out _ _ Ve.out (fun hHelde => ?_)
            clear hK K hRp hKp hx4
            try simp only [Act.put, List.setIfInBounds_toArray, List.set_cons_zero, List.set_cons_succ, List.getElem_toArray, List.getElem_cons_zero, List.getElem_cons_succ]
            refine wpAnyH_ready (rs := [3]) (by kernel_rfl) (by simp) ?_
            refine AllReadyH.cons rfl (fun K hK => ?_) AllReadyH.nil
            go_simp
            obtain ⟨xf, eA⟩ : ∃ Y, Y = xe.alloc (.cells #[.int .i64 (-1), .int .i64 (0), .int .i64 (900), .int .i64 (901)] 3) := ⟨_, rfl⟩
            rw [← eA]
            have hb : Below xe.heap.size xe xf := by rw [eA]; exact (Below.refl _ _).alloc (Nat.le_refl _) _
            have L0 : Lits xf xe.heap.size [-1, 0, 900, 901] := by rw [eA]; exact Lits.new [-1, 0, 900, 901] xe 3
            clear eA
            obtain ⟨gL, eb⟩ : ∃ b, b = xe.heap.size := ⟨_, rfl⟩
            have eb1 : xe.heap.size ≤ gL := by omega
            have eb2 : gL ≤ xe.heap.size := by omega
            rw [← eb] at L0 ⊢
            have Kf : Hid (Kept r w xf) := Ke.out.trans (Kept.ofBelow (r := r) hb)
            have Mf : Hid (Bk xf w1.heap.size [.int .i64 (2 + x), .int .i64 3]) := Me.out.kp (Kept.ofBelow (r := r) hb) (by omega)
            have Vf : Hid (Bk xf w3.heap.size [.slice (some ⟨gS, 0, none⟩) C kS, .slice (some ⟨gA, 0, none⟩) C kA]) := Ve.out.kp (Kept.ofBelow (r := r) hb) (by omega)
            have Pf : Hid (Bk xf w.heap.size [.int .i64 0, .int .i64 0]) := Pe.out.kp (Kept.ofBelow (r := r) hb) (by omega)
            have Qf : Hid (Bk xf (w.heap.size + 1) [.slice none 0 0, .slice none 0 0]) := Qe.out.kp (Kept.ofBelow (r := r) hb) (by omega)
            have Sf : Hid (Own1 xf gS C Tv.S C) := own1_sm Se.out ((Kept.ofBelow (r := r) hb).sm (by omega) (by omega))
            have Af : Hid (Own1 xf gA C Tv.A C) := own1_sm Ae.out ((Kept.ofBelow (r := r) hb).sm (by omega) (by omega))
            have hzxf := (Kept.ofBelow (r := r) hb).size
            have Lf : Hid (Lits xf gL [-1, 0, 900, 901]) := L0
            have Rf : Hid (RdB xf r ad len cap (m + 18)) := (Re.out.on hb).more (by omega)
            refine hK.out _ _ Vf.out (fun hHeldf => ?_)
            clear hK K hb L0 eb
            try simp only [Act.put, List.setIfInBounds_toArray, List.set_cons_zero, List.set_cons_succ, List.getElem_toArray, List.getElem_cons_zero, List.getElem_cons_succ]
            refine wpAnyH_take (i := 6) (v := .pointer (some ⟨gL, x4.toNat, none⟩)) rfl (by kernel_rfl) (by kernel_rfl) (by kernel_rfl) (fun _ _ _ h => h) (Or.inl ⟨by rfl, ?_⟩) (by assumption) ?_
            · intro wx hSw; go_simp
            try simp only [Act.put, List.setIfInBounds_toArray, List.set_cons_zero, List.set_cons_succ, List.getElem_toArray, List.getElem_cons_zero, List.getElem_cons_succ]
            obtain ⟨z, hcz⟩ : ∃ z, xf.cell? ⟨gL, x4.toNat, none⟩ = some (.int .i64 z) := ⟨_, Lf.out.2 x4 x40 (by simpa using x41)⟩
            refine wpAnyH_ready (rs := [7]) (by kernel_rfl) (by simp) ?_
            refine AllReadyH.cons rfl (fun K hK => ?_) AllReadyH.nil
            go_simp
            refine hK.out _ _ Vf.out (fun hHeldL => ?_)
            clear hK K hcz
            try simp only [Act.put, List.setIfInBounds_toArray, List.set_cons_zero, List.set_cons_succ, List.getElem_toArray, List.getElem_cons_zero, List.getElem_cons_succ]
            refine wpAnyH_take (i := 8) (v := .pointer (some ⟨gA, kk, none⟩)) rfl (by kernel_rfl) (by kernel_rfl) (by kernel_rfl) (fun _ _ _ h => h) (Or.inl ⟨by rfl, ?_⟩) (by assumption) ?_
            · intro wx hSw; go_simp
            try simp only [Act.put, List.setIfInBounds_toArray, List.set_cons_zero, List.set_cons_succ, List.getElem_toArray, List.getElem_cons_zero, List.getElem_cons_succ]
            refine wpAnyH_ready (rs := [9]) (by kernel_rfl) (by simp) ?_
            refine AllReadyH.cons rfl (fun K hK => ?_) AllReadyH.nil
            have c0 := Af.out.2 kk hkk
            have f0 := (Af.out.1 kk hkk).2
            go_simp
            clear c0 f0
            obtain ⟨w10, e10⟩ : ∃ w10, w10 = xf.setCell ⟨gA, kk, none⟩ (.int .i64 z) := ⟨_, rfl⟩
            rw [← e10]
            have hz10 : w10.heap.size = xf.heap.size := by rw [e10]; exact set_size
            have M10 : Hid (Bk w10 w1.heap.size [.int .i64 (2 + x), .int .i64 3]) := by rw [e10]; exact Mf.out.far (by omega)
            have P10 : Hid (Bk w10 w.heap.size [.int .i64 0, .int .i64 0]) := by rw [e10]; exact Pf.out.far (by omega)
            have Q10 : Hid (Bk w10 (w.heap.size + 1) [.slice none 0 0, .slice none 0 0]) := by rw [e10]; exact Qf.out.far (by omega)
            have V10 : Hid (Bk w10 w3.heap.size [.slice (some ⟨gS, 0, none⟩) C kS, .slice (some ⟨gA, 0, none⟩) C kA]) := by rw [e10]; exact Vf.out.far (by omega)
            have R10 : Hid (RdB w10 r ad len cap (m + 19)) := by rw [e10]; exact (Rf.out.below ((Below.refl _ _).setCell (p := ⟨gA, kk, none⟩) (by show r + 1 ≤ gA; omega) _)).more (by omega)
            have K10 : Hid (Kept r w w10) := by rw [e10]; exact Kf.out.setCell (q := ⟨gA, kk, none⟩) (.inl (by show w.heap.size ≤ gA; omega)) _
            obtain ⟨T2, eT2⟩ : ∃ T2 : TV, T2 = ⟨C, Tv.S, C, fun j => if j = kk then z else Tv.A j⟩ := ⟨_, rfl⟩
            have U1 : Own1 w10 gA C (fun j => if j = kk then z else Tv.A j) C := by rw [e10]; exact own1_upd Af.out hkk
            have U2 : Own1 w10 gS C Tv.S C := by rw [e10]; exact own1_set Sf.out (by omega)
            have T10 : TabIn lo w10 (.agg #[.slice (some ⟨gS, 0, none⟩) C kS, .slice (some ⟨gA, 0, none⟩) C kA]) T2 := by
              rw [eT2]
              refine ⟨_, _, _, _, rfl, .inr ⟨gS, 0, rfl, hgS1, by omega, fun j hj => ?_⟩, .inr ⟨gA, 0, rfl, hgA1, by omega, fun j hj => ?_⟩⟩
              · rw [Nat.zero_add]; exact U2.2 j hj
              · rw [Nat.zero_add]; exact U1.2 j hj
            have hsh : T2.short 1000 := by rw [eT2]; exact ⟨by show C ≤ 1000; omega, by show C ≤ 1000; omega⟩
            have hz11 : xf.heap.size ≤ w10.heap.size := Nat.le_of_eq hz10.symm
            refine hK.out _ _ V10.out (fun hHeldS => ?_)
            clear hK K e10 hz10 eT2 U1 U2
            try simp only [Act.put, List.setIfInBounds_toArray, List.set_cons_zero, List.set_cons_succ, List.getElem_toArray, List.getElem_cons_zero, List.getElem_cons_succ]
            refine wpAnyH_done (by kernel_rfl) ?_ _
            clear hHeld
            go_upto_region 23 with fail
            have Md : Hid (Bk w10.drew w1.heap.size [.int .i64 (2 + x), .int .i64 3]) := M10.out
            have Vd : Hid (Bk w10.drew w3.heap.size [.slice (some ⟨gS, 0, none⟩) C kS, .slice (some ⟨gA, 0, none⟩) C kA]) := V10.out
            have Pd : Hid (Bk w10.drew w.heap.size [.int .i64 0, .int .i64 0]) := P10.out
            have Qd : Hid (Bk w10.drew (w.heap.size + 1) [.slice none 0 0, .slice none 0 0]) := Q10.out
            have Rd : Hid (RdB w10.drew r ad len cap (m + 19)) := R10.out.drew
            have Kd : Hid (Kept r w w10.drew) := K10.out.drew
            have Td : Hid (TabIn lo w10.drew (.agg #[.slice (some ⟨gS, 0, none⟩) C kS, .slice (some ⟨gA, 0, none⟩) C kA]) T2) := T10
            have hzd1 : w10.heap.size ≤ w10.drew.heap.size := Nat.le_refl _
            have hzd2 : w10.drew.heap.size ≤ w10.heap.size := Nat.le_refl _
            refine wp_region_held_drew (S := fun w' => Bk w' w1.heap.size [.int .i64 (2 + x), .int .i64 3] ∧ Bk w' w3.heap.size [.slice (some ⟨gS, 0, none⟩) C kS, .slice (some ⟨gA, 0, none⟩) C kA]) (by kernel_rfl) ⟨Md.out, Vd.out⟩ ?_
            intro hHeld
            clear M10 V10 P10 Q10 R10 K10
            generalize w10.drew = xd at *
            refine wpAnyH_take (i := 0) (v := .agg #[.int .i64 (2 + x), .int .i64 3]) rfl (by kernel_rfl) (by kernel_rfl) (by kernel_rfl) (fun _ _ _ h => h) (Or.inl ⟨by rfl, ?_⟩) (by assumption) ?_
            · intro wx hSw; obtain ⟨⟨_, sm⟩, ⟨_, sv⟩⟩ := hSw; have m0 : wx.cell? ⟨w1.heap.size, 0, none⟩ = some (.int .i64 (2 + x)) := (sm 0 (by simp)).1; have m1 : wx.cell? ⟨w1.heap.size, 1, none⟩ = some (.int .i64 3) := (sm 1 (by simp)).1; have v0 : wx.cell? ⟨w3.heap.size, 0, none⟩ = some (.slice (some ⟨gS, 0, none⟩) C kS) := (sv 0 (by simp)).1; have v1 : wx.cell? ⟨w3.heap.size, 1, none⟩ = some (.slice (some ⟨gA, 0, none⟩) C kA) := (sv 1 (by simp)).1; clear sm sv; go_simp
            try simp only [Act.put, List.setIfInBounds_toArray, List.set_cons_zero, List.set_cons_succ, List.getElem_toArray, List.getElem_cons_zero]
            refine wpAnyH_take (i := 1) (v := .agg #[.slice (some ⟨gS, 0, none⟩) C kS, .slice (some ⟨gA, 0, none⟩) C kA]) rfl (by kernel_rfl) (by kernel_rfl) (by kernel_rfl) (fun _ _ _ h => h) (Or.inl ⟨by rfl, ?_⟩) (by assumption) ?_
            · intro wx hSw; obtain ⟨⟨_, sm⟩, ⟨_, sv⟩⟩ := hSw; have m0 : wx.cell? ⟨w1.heap.size, 0, none⟩ = some (.int .i64 (2 + x)) := (sm 0 (by simp)).1; have m1 : wx.cell? ⟨w1.heap.size, 1, none⟩ = some (.int .i64 3) := (sm 1 (by simp)).1; have v0 : wx.cell? ⟨w3.heap.size, 0, none⟩ = some (.slice (some ⟨gS, 0, none⟩) C kS) := (sv 0 (by simp)).1; have v1 : wx.cell? ⟨w3.heap.size, 1, none⟩ = some (.slice (some ⟨gA, 0, none⟩) C kA) := (sv 1 (by simp)).1; clear sm sv; go_simp
            try simp only [Act.put, List.setIfInBounds_toArray, List.set_cons_zero, List.set_cons_succ, List.getElem_toArray, List.getElem_cons_zero, List.getElem_cons_succ]
            refine wpAnyH_take (i := 2) (v := .int .i64 (1 + x2)) rfl (by kernel_rfl) (by kernel_rfl) (by kernel_rfl) (fun _ _ _ h => h) (Or.inl ⟨by rfl, ?_⟩) (by assumption) ?_
            · intro wx hSw; go_simp
            try simp only [Act.put, List.setIfInBounds_toArray, List.set_cons_zero, List.set_cons_succ, List.getElem_toArray, List.getElem_cons_zero, List.getElem_cons_succ]
            refine wpAnyH_ready (rs := [3]) (by kernel_rfl) (by simp) ?_
            refine AllReadyH.cons rfl (fun K hK => ?_) AllReadyH.nil
            have p0 : xd.cell? ⟨w.heap.size, 0, none⟩ = some (.int .i64 0) := (Pd.out.2 0 (by simp)).1
            have p1 : xd.cell? ⟨w.heap.size, 1, none⟩ = some (.int .i64 0) := (Pd.out.2 1 (by simp)).1
            have f0 : xd.frozen? ⟨w.heap.size, 0, none⟩ = false := (Pd.out.2 0 (by simp)).2
            have f1 : xd.frozen? ⟨w.heap.size, 1, none⟩ = false := (Pd.out.2 1 (by simp)).2
            have EP : Hid ((putL w.heap.size [.int .i64 (2 + x), .int .i64 3] 0 xd) = ((xd.setCell ⟨w.heap.size, 0, none⟩ (.int .i64 (2 + x))).setCell ⟨w.heap.size, 1, none⟩ (.int .i64 3))) := rfl
            go_simp
            rw [← EP.out]
            clear p0 p1 f0 f1 EP
            have hzs : (putL w.heap.size [.int .i64 (2 + x), .int .i64 3] 0 xd).heap.size = xd.heap.size := size_put _ _ _ _
            have hzs1 : xd.heap.size ≤ (putL w.heap.size [.int .i64 (2 + x), .int .i64 3] 0 xd).heap.size := by omega
            have Pe : Hid (Bk (putL w.heap.size [.int .i64 (2 + x), .int .i64 3] 0 xd) w.heap.size [.int .i64 (2 + x), .int .i64 3]) := bk_put Pd.out rfl
            have Me : Hid (Bk (putL w.heap.size [.int .i64 (2 + x), .int .i64 3] 0 xd) w1.heap.size [.int .i64 (2 + x), .int .i64 3]) := Md.out.sm hzs1 (sm_put (by omega) [.int .i64 (2 + x), .int .i64 3] 0 xd)
            have Ve : Hid (Bk (putL w.heap.size [.int .i64 (2 + x), .int .i64 3] 0 xd) w3.heap.size [.slice (some ⟨gS, 0, none⟩) C kS, .slice (some ⟨gA, 0, none⟩) C kA]) := Vd.out.sm hzs1 (sm_put (by omega) [.int .i64 (2 + x), .int .i64 3] 0 xd)
            have Qe : Hid (Bk (putL w.heap.size [.int .i64 (2 + x), .int .i64 3] 0 xd) (w.heap.size + 1) [.slice none 0 0, .slice none 0 0]) := Qd.out.sm hzs1 (sm_put (by omega) [.int .i64 (2 + x), .int .i64 3] 0 xd)
            have Re : Hid (RdB (putL w.heap.size [.int .i64 (2 + x), .int .i64 3] 0 xd) r ad len cap (m + 19)) := Rd.out.below (below_put (by omega) [.int .i64 (2 + x), .int .i64 3] 0 (Below.refl _ _))
            have Ke : Hid (Kept r w (putL w.heap.size [.int .i64 (2 + x), .int .i64 3] 0 xd)) := (Kd.out.setCell (q := ⟨w.heap.size, 0, none⟩) (.inl (by show w.heap.size ≤ w.heap.size; omega)) _).setCell (q := ⟨w.heap.size, 1, none⟩) (.inl (by show w.heap.size ≤ w.heap.size; omega)) _
            have Te : Hid (TabIn lo (putL w.heap.size [.int .i64 (2 + x), .int .i64 3] 0 xd) (.agg #[.slice (some ⟨gS, 0, none⟩) C kS, .slice (some ⟨gA, 0, none⟩) C kA]) T2) := Td.out.sm hzs1 (fun b h1 h2 => sm_put (by omega) [.int .i64 (2 + x), .int .i64 3] 0 xd)
            clear hzs
            generalize (putL w.heap.size [.int .i64 (2 + x), .int .i64 3] 0 xd) = xe at *
            refine hK.out _ _ ⟨Me.out, Ve.out⟩ (fun hHelde => ?_)
            clear hK K Md Vd Pd Qd Rd Kd Td
            try simp only [Act.put, List.setIfInBounds_toArray, List.set_cons_zero, List.set_cons_succ, List.getElem_toArray, List.getElem_cons_zero, List.getElem_cons_succ]
            refine wpAnyH_ready (rs := [4]) (by kernel_rfl) (by simp) ?_
            refine AllReadyH.cons rfl (fun K hK => ?_) AllReadyH.nil
            have p0 : xe.cell? ⟨(w.heap.size + 1), 0, none⟩ = some (.slice none 0 0) := (Qe.out.2 0 (by simp)).1
            have p1 : xe.cell? ⟨(w.heap.size + 1), 1, none⟩ = some (.slice none 0 0) := (Qe.out.2 1 (by simp)).1
            have f0 : xe.frozen? ⟨(w.heap.size + 1), 0, none⟩ = false := (Qe.out.2 0 (by simp)).2
            have f1 : xe.frozen? ⟨(w.heap.size + 1), 1, none⟩ = false := (Qe.out.2 1 (by simp)).2
            have EP : Hid ((putL (w.heap.size + 1) [.slice (some ⟨gS, 0, none⟩) C kS, .slice (some ⟨gA, 0, none⟩) C kA] 0 xe) = ((xe.setCell ⟨(w.heap.size + 1), 0, none⟩ (.slice (some ⟨gS, 0, none⟩) C kS)).setCell ⟨(w.heap.size + 1), 1, none⟩ (.slice (some ⟨gA, 0, none⟩) C kA))) := rfl
            go_simp
            rw [← EP.out]
            clear p0 p1 f0 f1 EP
            have hzt : (putL (w.heap.size + 1) [.slice (some ⟨gS, 0, none⟩) C kS, .slice (some ⟨gA, 0, none⟩) C kA] 0 xe).heap.size = xe.heap.size := size_put _ _ _ _
            have hzt1 : xe.heap.size ≤ (putL (w.heap.size + 1) [.slice (some ⟨gS, 0, none⟩) C kS, .slice (some ⟨gA, 0, none⟩) C kA] 0 xe).heap.size := by omega
            have Qf : Hid (Bk (putL (w.heap.size + 1) [.slice (some ⟨gS, 0, none⟩) C kS, .slice (some ⟨gA, 0, none⟩) C kA] 0 xe) (w.heap.size + 1) [.slice (some ⟨gS, 0, none⟩) C kS, .slice (some ⟨gA, 0, none⟩) C kA]) := bk_put Qe.out rfl
            have Mf : Hid (Bk (putL (w.heap.size + 1) [.slice (some ⟨gS, 0, none⟩) C kS, .slice (some ⟨gA, 0, none⟩) C kA] 0 xe) w1.heap.size [.int .i64 (2 + x), .int .i64 3]) := Me.out.sm hzt1 (sm_put (by omega) [.slice (some ⟨gS, 0, none⟩) C kS, .slice (some ⟨gA, 0, none⟩) C kA] 0 xe)
            have Vf : Hid (Bk (putL (w.heap.size + 1) [.slice (some ⟨gS, 0, none⟩) C kS, .slice (some ⟨gA, 0, none⟩) C kA] 0 xe) w3.heap.size [.slice (some ⟨gS, 0, none⟩) C kS, .slice (some ⟨gA, 0, none⟩) C kA]) := Ve.out.sm hzt1 (sm_put (by omega) [.slice (some ⟨gS, 0, none⟩) C kS, .slice (some ⟨gA, 0, none⟩) C kA] 0 xe)
            have Pf : Hid (Bk (putL (w.heap.size + 1) [.slice (some ⟨gS, 0, none⟩) C kS, .slice (some ⟨gA, 0, none⟩) C kA] 0 xe) w.heap.size [.int .i64 (2 + x), .int .i64 3]) := Pe.out.sm hzt1 (sm_put (by omega) [.slice (some ⟨gS, 0, none⟩) C kS, .slice (some ⟨gA, 0, none⟩) C kA] 0 xe)
            have Rf : Hid (RdB (putL (w.heap.size + 1) [.slice (some ⟨gS, 0, none⟩) C kS, .slice (some ⟨gA, 0, none⟩) C kA] 0 xe) r ad len cap (m + 19)) := Re.out.below (below_put (by omega) [.slice (some ⟨gS, 0, none⟩) C kS, .slice (some ⟨gA, 0, none⟩) C kA] 0 (Below.refl _ _))
            have Kf : Hid (Kept r w (putL (w.heap.size + 1) [.slice (some ⟨gS, 0, none⟩) C kS, .slice (some ⟨gA, 0, none⟩) C kA] 0 xe)) := (Ke.out.setCell (q := ⟨(w.heap.size + 1), 0, none⟩) (.inl (by show w.heap.size ≤ (w.heap.size + 1); omega)) _).setCell (q := ⟨(w.heap.size + 1), 1, none⟩) (.inl (by show w.heap.size ≤ (w.heap.size + 1); omega)) _
            have Tf : Hid (TabIn lo (putL (w.heap.size + 1) [.slice (some ⟨gS, 0, none⟩) C kS, .slice (some ⟨gA, 0, none⟩) C kA] 0 xe) (.agg #[.slice (some ⟨gS, 0, none⟩) C kS, .slice (some ⟨gA, 0, none⟩) C kA]) T2) := Te.out.sm hzt1 (fun b h1 h2 => sm_put (by omega) [.slice (some ⟨gS, 0, none⟩) C kS, .slice (some ⟨gA, 0, none⟩) C kA] 0 xe)
            clear hzt
            generalize (putL (w.heap.size + 1) [.slice (some ⟨gS, 0, none⟩) C kS, .slice (some ⟨gA, 0, none⟩) C kA] 0 xe) = xf at *
            refine hK.out _ _ ⟨Mf.out, Vf.out⟩ (fun hHeldf => ?_)
            clear hK K Me Ve Pe Qe Re Ke Te
            try simp only [Act.put, List.setIfInBounds_toArray, List.set_cons_zero, List.set_cons_succ, List.getElem_toArray, List.getElem_cons_zero, List.getElem_cons_succ]
            refine wpAnyH_take (i := 5) (v := .int .i64 (1 + x2)) rfl (by kernel_rfl) (by kernel_rfl) (by kernel_rfl) (fun _ _ _ h => h) (Or.inl ⟨by rfl, ?_⟩) (by assumption) ?_
            · intro wx hSw; go_simp
            try simp only [Act.put, List.setIfInBounds_toArray, List.set_cons_zero, List.set_cons_succ, List.getElem_toArray, List.getElem_cons_zero, List.getElem_cons_succ]
            refine wpAnyH_done (by kernel_rfl) ?_ _
            have p0 : xf.cell? ⟨w.heap.size, 0, none⟩ = some (.int .i64 (2 + x)) := (Pf.out.2 0 (by simp)).1
            have p1 : xf.cell? ⟨w.heap.size, 1, none⟩ = some (.int .i64 3) := (Pf.out.2 1 (by simp)).1
            have q0 : xf.cell? ⟨(w.heap.size + 1), 0, none⟩ = some (.slice (some ⟨gS, 0, none⟩) C kS) := (Qf.out.2 0 (by simp)).1
            have q1 : xf.cell? ⟨(w.heap.size + 1), 1, none⟩ = some (.slice (some ⟨gA, 0, none⟩) C kA) := (Qf.out.2 1 (by simp)).1
            go_wp2
            refine bodyPost_ret (v := .tuple #[.agg #[.int .i64 (2 + x), .int .i64 3], .agg #[.slice (some ⟨gS, 0, none⟩) C kS, .slice (some ⟨gA, 0, none⟩) C kA], .int .i64 (1 + x2)]) (by simp [results, Try.results14, go_sem, p0, p1, q0, q1]) rfl ⟨_, _, _, T2, _, rfl, Tf.out.mono (by omega), hsh, ⟨by omega, by omega⟩, Rf.out.more (by omega), Kf.out⟩
        · have hC1 : (1 : Int) ≤ (C : Int) := by omega
          have c0 : w9.cell? ⟨w3.heap.size, 0, none⟩ = some (.slice (some ⟨gS, 0, none⟩) C kS) := (V9.out.2 0 (by simp)).1
          have c1 : w9.cell? ⟨w3.heap.size, 1, none⟩ = some (.slice (some ⟨gA, 0, none⟩) C kA) := (V9.out.2 1 (by simp)).1
          have f0 : w9.frozen? ⟨w3.heap.size, 0, none⟩ = false := (V9.out.2 0 (by simp)).2
          have f1 : w9.frozen? ⟨w3.heap.size, 1, none⟩ = false := (V9.out.2 1 (by simp)).2
          go_upto_region 23 with fail
          clear c0 c1 f0 f1
          obtain ⟨aN, eN⟩ : ∃ a : Option Addr, a = (if kA = 1 then some ⟨gA, 0, none⟩ else some ⟨gA, 1, none⟩) := ⟨_, rfl⟩
          rw [← eN]
          obtain ⟨w10, e10⟩ : ∃ w10, w10 = w9.setCell ⟨w3.heap.size, 1, none⟩ (.slice aN (C - 1) (kA - 1)) := ⟨_, rfl⟩
          rw [← e10]
          have hz10 : w10.heap.size = w9.heap.size := by rw [e10]; exact set_size
          have M10 : Hid (Bk w10 w1.heap.size [.int .i64 (2 + x), .int .i64 3]) := by rw [e10]; exact M9.out.far (by omega)
          have P10 : Hid (Bk w10 w.heap.size [.int .i64 0, .int .i64 0]) := by rw [e10]; exact P9.out.far (by omega)
          have Q10 : Hid (Bk w10 (w.heap.size + 1) [.slice none 0 0, .slice none 0 0]) := by rw [e10]; exact Q9.out.far (by omega)
          have V10 : Hid (Bk w10 w3.heap.size [.slice (some ⟨gS, 0, none⟩) C kS, .slice aN (C - 1) (kA - 1)]) := by rw [e10]; exact V9.out.set (j := 1) (by simp)
          have R10 : Hid (RdB w10 r ad len cap (m + 19)) := by rw [e10]; exact (R9.out.below ((Below.refl _ _).setCell (p := ⟨w3.heap.size, 1, none⟩) (by show r + 1 ≤ w3.heap.size; omega) _)).more (by omega)
          have K10 : Hid (Kept r w w10) := by rw [e10]; exact K9.out.setCell (q := ⟨w3.heap.size, 1, none⟩) (.inl (by show w.heap.size ≤ w3.heap.size; omega)) _
          obtain ⟨off, eo⟩ : ∃ o : Nat, o = (if kA = 1 then 0 else 1) := ⟨_, rfl⟩
          have ho1 : off ≤ 1 := by rw [eo]; split <;> omega
          have ha : aN = some ⟨gA, off, none⟩ := by rw [eN, eo]; split <;> rfl
          obtain ⟨T2, eT2⟩ : ∃ T2 : TV, T2 = ⟨C, Tv.S, C - 1, fun j => Tv.A (off + j)⟩ := ⟨_, rfl⟩
          have T10 : TabIn lo w10 (.agg #[.slice (some ⟨gS, 0, none⟩) C kS, .slice aN (C - 1) (kA - 1)]) T2 := by
            rw [eT2]
            refine ⟨_, _, _, _, rfl, .inr ⟨gS, 0, rfl, hgS1, by omega, fun j hj => ?_⟩, .inr ⟨gA, off, ha, hgA1, by omega, fun j hj => ?_⟩⟩
            · rw [e10, set_out (fun e => by omega), Nat.zero_add]; exact OS.out.2 j hj
            · rw [e10, set_out (fun e => by omega)]; have hj2 : j < C - 1 := hj; exact OA.out.2 (off + j) (by omega)
          have hsh : T2.short 1000 := by rw [eT2]; exact ⟨by show C ≤ 1000; omega, by show C - 1 ≤ 1000; omega⟩
          have hz11 : w9.heap.size ≤ w10.heap.size := Nat.le_of_eq hz10.symm
          clear e10 hz10 eN eo ha eT2 K9 M9 V9 P9 Q9 O9 R9 OS OA
          have Md : Hid (Bk w10.drew w1.heap.size [.int .i64 (2 + x), .int .i64 3]) := M10.out
          have Vd : Hid (Bk w10.drew w3.heap.size [.slice (some ⟨gS, 0, none⟩) C kS, .slice aN (C - 1) (kA - 1)]) := V10.out
          have Pd : Hid (Bk w10.drew w.heap.size [.int .i64 0, .int .i64 0]) := P10.out
          have Qd : Hid (Bk w10.drew (w.heap.size + 1) [.slice none 0 0, .slice none 0 0]) := Q10.out
          have Rd : Hid (RdB w10.drew r ad len cap (m + 19)) := R10.out.drew
          have Kd : Hid (Kept r w w10.drew) := K10.out.drew
          have Td : Hid (TabIn lo w10.drew (.agg #[.slice (some ⟨gS, 0, none⟩) C kS, .slice aN (C - 1) (kA - 1)]) T2) := T10
          have hzd1 : w10.heap.size ≤ w10.drew.heap.size := Nat.le_refl _
          have hzd2 : w10.drew.heap.size ≤ w10.heap.size := Nat.le_refl _
          refine wp_region_held_drew (S := fun w' => Bk w' w1.heap.size [.int .i64 (2 + x), .int .i64 3] ∧ Bk w' w3.heap.size [.slice (some ⟨gS, 0, none⟩) C kS, .slice aN (C - 1) (kA - 1)]) (by kernel_rfl) ⟨Md.out, Vd.out⟩ ?_
          intro hHeld
          clear M10 V10 P10 Q10 R10 K10
          generalize w10.drew = xd at *
          refine wpAnyH_take (i := 0) (v := .agg #[.int .i64 (2 + x), .int .i64 3]) rfl (by kernel_rfl) (by kernel_rfl) (by kernel_rfl) (fun _ _ _ h => h) (Or.inl ⟨by rfl, ?_⟩) (by assumption) ?_
          · intro wx hSw; obtain ⟨⟨_, sm⟩, ⟨_, sv⟩⟩ := hSw; have m0 : wx.cell? ⟨w1.heap.size, 0, none⟩ = some (.int .i64 (2 + x)) := (sm 0 (by simp)).1; have m1 : wx.cell? ⟨w1.heap.size, 1, none⟩ = some (.int .i64 3) := (sm 1 (by simp)).1; have v0 : wx.cell? ⟨w3.heap.size, 0, none⟩ = some (.slice (some ⟨gS, 0, none⟩) C kS) := (sv 0 (by simp)).1; have v1 : wx.cell? ⟨w3.heap.size, 1, none⟩ = some (.slice aN (C - 1) (kA - 1)) := (sv 1 (by simp)).1; clear sm sv; go_simp
          try simp only [Act.put, List.setIfInBounds_toArray, List.set_cons_zero, List.set_cons_succ, List.getElem_toArray, List.getElem_cons_zero]
          refine wpAnyH_take (i := 1) (v := .agg #[.slice (some ⟨gS, 0, none⟩) C kS, .slice aN (C - 1) (kA - 1)]) rfl (by kernel_rfl) (by kernel_rfl) (by kernel_rfl) (fun _ _ _ h => h) (Or.inl ⟨by rfl, ?_⟩) (by assumption) ?_
          · intro wx hSw; obtain ⟨⟨_, sm⟩, ⟨_, sv⟩⟩ := hSw; have m0 : wx.cell? ⟨w1.heap.size, 0, none⟩ = some (.int .i64 (2 + x)) := (sm 0 (by simp)).1; have m1 : wx.cell? ⟨w1.heap.size, 1, none⟩ = some (.int .i64 3) := (sm 1 (by simp)).1; have v0 : wx.cell? ⟨w3.heap.size, 0, none⟩ = some (.slice (some ⟨gS, 0, none⟩) C kS) := (sv 0 (by simp)).1; have v1 : wx.cell? ⟨w3.heap.size, 1, none⟩ = some (.slice aN (C - 1) (kA - 1)) := (sv 1 (by simp)).1; clear sm sv; go_simp
          try simp only [Act.put, List.setIfInBounds_toArray, List.set_cons_zero, List.set_cons_succ, List.getElem_toArray, List.getElem_cons_zero, List.getElem_cons_succ]
          refine wpAnyH_take (i := 2) (v := .int .i64 (1 + x2)) rfl (by kernel_rfl) (by kernel_rfl) (by kernel_rfl) (fun _ _ _ h => h) (Or.inl ⟨by rfl, ?_⟩) (by assumption) ?_
          · intro wx hSw; go_simp
          try simp only [Act.put, List.setIfInBounds_toArray, List.set_cons_zero, List.set_cons_succ, List.getElem_toArray, List.getElem_cons_zero, List.getElem_cons_succ]
          refine wpAnyH_ready (rs := [3]) (by kernel_rfl) (by simp) ?_
          refine AllReadyH.cons rfl (fun K hK => ?_) AllReadyH.nil
          have p0 : xd.cell? ⟨w.heap.size, 0, none⟩ = some (.int .i64 0) := (Pd.out.2 0 (by simp)).1
          have p1 : xd.cell? ⟨w.heap.size, 1, none⟩ = some (.int .i64 0) := (Pd.out.2 1 (by simp)).1
          have f0 : xd.frozen? ⟨w.heap.size, 0, none⟩ = false := (Pd.out.2 0 (by simp)).2
          have f1 : xd.frozen? ⟨w.heap.size, 1, none⟩ = false := (Pd.out.2 1 (by simp)).2
          have EP : Hid ((putL w.heap.size [.int .i64 (2 + x), .int .i64 3] 0 xd) = ((xd.setCell ⟨w.heap.size, 0, none⟩ (.int .i64 (2 + x))).setCell ⟨w.heap.size, 1, none⟩ (.int .i64 3))) := rfl
          go_simp
          rw [← EP.out]
          clear p0 p1 f0 f1 EP
          have hzs : (putL w.heap.size [.int .i64 (2 + x), .int .i64 3] 0 xd).heap.size = xd.heap.size := size_put _ _ _ _
          have hzs1 : xd.heap.size ≤ (putL w.heap.size [.int .i64 (2 + x), .int .i64 3] 0 xd).heap.size := by omega
          have Pe : Hid (Bk (putL w.heap.size [.int .i64 (2 + x), .int .i64 3] 0 xd) w.heap.size [.int .i64 (2 + x), .int .i64 3]) := bk_put Pd.out rfl
          have Me : Hid (Bk (putL w.heap.size [.int .i64 (2 + x), .int .i64 3] 0 xd) w1.heap.size [.int .i64 (2 + x), .int .i64 3]) := Md.out.sm hzs1 (sm_put (by omega) [.int .i64 (2 + x), .int .i64 3] 0 xd)
          have Ve : Hid (Bk (putL w.heap.size [.int .i64 (2 + x), .int .i64 3] 0 xd) w3.heap.size [.slice (some ⟨gS, 0, none⟩) C kS, .slice aN (C - 1) (kA - 1)]) := Vd.out.sm hzs1 (sm_put (by omega) [.int .i64 (2 + x), .int .i64 3] 0 xd)
          have Qe : Hid (Bk (putL w.heap.size [.int .i64 (2 + x), .int .i64 3] 0 xd) (w.heap.size + 1) [.slice none 0 0, .slice none 0 0]) := Qd.out.sm hzs1 (sm_put (by omega) [.int .i64 (2 + x), .int .i64 3] 0 xd)
          have Re : Hid (RdB (putL w.heap.size [.int .i64 (2 + x), .int .i64 3] 0 xd) r ad len cap (m + 19)) := Rd.out.below (below_put (by omega) [.int .i64 (2 + x), .int .i64 3] 0 (Below.refl _ _))
          have Ke : Hid (Kept r w (putL w.heap.size [.int .i64 (2 + x), .int .i64 3] 0 xd)) := (Kd.out.setCell (q := ⟨w.heap.size, 0, none⟩) (.inl (by show w.heap.size ≤ w.heap.size; omega)) _).setCell (q := ⟨w.heap.size, 1, none⟩) (.inl (by show w.heap.size ≤ w.heap.size; omega)) _
          have Te : Hid (TabIn lo (putL w.heap.size [.int .i64 (2 + x), .int .i64 3] 0 xd) (.agg #[.slice (some ⟨gS, 0, none⟩) C kS, .slice aN (C - 1) (kA - 1)]) T2) := Td.out.sm hzs1 (fun b h1 h2 => sm_put (by omega) [.int .i64 (2 + x), .int .i64 3] 0 xd)
          clear hzs
          generalize (putL w.heap.size [.int .i64 (2 + x), .int .i64 3] 0 xd) = xe at *
          refine hK.out _ _ ⟨Me.out, Ve.out⟩ (fun hHelde => ?_)
          clear hK K Md Vd Pd Qd Rd Kd Td
          try simp only [Act.put, List.setIfInBounds_toArray, List.set_cons_zero, List.set_cons_succ, List.getElem_toArray, List.getElem_cons_zero, List.getElem_cons_succ]
          refine wpAnyH_ready (rs := [4]) (by kernel_rfl) (by simp) ?_
          refine AllReadyH.cons rfl (fun K hK => ?_) AllReadyH.nil
          have p0 : xe.cell? ⟨(w.heap.size + 1), 0, none⟩ = some (.slice none 0 0) := (Qe.out.2 0 (by simp)).1
          have p1 : xe.cell? ⟨(w.heap.size + 1), 1, none⟩ = some (.slice none 0 0) := (Qe.out.2 1 (by simp)).1
          have f0 : xe.frozen? ⟨(w.heap.size + 1), 0, none⟩ = false := (Qe.out.2 0 (by simp)).2
          have f1 : xe.frozen? ⟨(w.heap.size + 1), 1, none⟩ = false := (Qe.out.2 1 (by simp)).2
          have EP : Hid ((putL (w.heap.size + 1) [.slice (some ⟨gS, 0, none⟩) C kS, .slice aN (C - 1) (kA - 1)] 0 xe) = ((xe.setCell ⟨(w.heap.size + 1), 0, none⟩ (.slice (some ⟨gS, 0, none⟩) C kS)).setCell ⟨(w.heap.size + 1), 1, none⟩ (.slice aN (C - 1) (kA - 1)))) := rfl
          go_simp
          rw [← EP.out]
          clear p0 p1 f0 f1 EP
          have hzt : (putL (w.heap.size + 1) [.slice (some ⟨gS, 0, none⟩) C kS, .slice aN (C - 1) (kA - 1)] 0 xe).heap.size = xe.heap.size := size_put _ _ _ _
          have hzt1 : xe.heap.size ≤ (putL (w.heap.size + 1) [.slice (some ⟨gS, 0, none⟩) C kS, .slice aN (C - 1) (kA - 1)] 0 xe).heap.size := by omega
          have Qf : Hid (Bk (putL (w.heap.size + 1) [.slice (some ⟨gS, 0, none⟩) C kS, .slice aN (C - 1) (kA - 1)] 0 xe) (w.heap.size + 1) [.slice (some ⟨gS, 0, none⟩) C kS, .slice aN (C - 1) (kA - 1)]) := bk_put Qe.out rfl
          have Mf : Hid (Bk (putL (w.heap.size + 1) [.slice (some ⟨gS, 0, none⟩) C kS, .slice aN (C - 1) (kA - 1)] 0 xe) w1.heap.size [.int .i64 (2 + x), .int .i64 3]) := Me.out.sm hzt1 (sm_put (by omega) [.slice (some ⟨gS, 0, none⟩) C kS, .slice aN (C - 1) (kA - 1)] 0 xe)
          have Vf : Hid (Bk (putL (w.heap.size + 1) [.slice (some ⟨gS, 0, none⟩) C kS, .slice aN (C - 1) (kA - 1)] 0 xe) w3.heap.size [.slice (some ⟨gS, 0, none⟩) C kS, .slice aN (C - 1) (kA - 1)]) := Ve.out.sm hzt1 (sm_put (by omega) [.slice (some ⟨gS, 0, none⟩) C kS, .slice aN (C - 1) (kA - 1)] 0 xe)
          have Pf : Hid (Bk (putL (w.heap.size + 1) [.slice (some ⟨gS, 0, none⟩) C kS, .slice aN (C - 1) (kA - 1)] 0 xe) w.heap.size [.int .i64 (2 + x), .int .i64 3]) := Pe.out.sm hzt1 (sm_put (by omega) [.slice (some ⟨gS, 0, none⟩) C kS, .slice aN (C - 1) (kA - 1)] 0 xe)
          have Rf : Hid (RdB (putL (w.heap.size + 1) [.slice (some ⟨gS, 0, none⟩) C kS, .slice aN (C - 1) (kA - 1)] 0 xe) r ad len cap (m + 19)) := Re.out.below (below_put (by omega) [.slice (some ⟨gS, 0, none⟩) C kS, .slice aN (C - 1) (kA - 1)] 0 (Below.refl _ _))
          have Kf : Hid (Kept r w (putL (w.heap.size + 1) [.slice (some ⟨gS, 0, none⟩) C kS, .slice aN (C - 1) (kA - 1)] 0 xe)) := (Ke.out.setCell (q := ⟨(w.heap.size + 1), 0, none⟩) (.inl (by show w.heap.size ≤ (w.heap.size + 1); omega)) _).setCell (q := ⟨(w.heap.size + 1), 1, none⟩) (.inl (by show w.heap.size ≤ (w.heap.size + 1); omega)) _
          have Tf : Hid (TabIn lo (putL (w.heap.size + 1) [.slice (some ⟨gS, 0, none⟩) C kS, .slice aN (C - 1) (kA - 1)] 0 xe) (.agg #[.slice (some ⟨gS, 0, none⟩) C kS, .slice aN (C - 1) (kA - 1)]) T2) := Te.out.sm hzt1 (fun b h1 h2 => sm_put (by omega) [.slice (some ⟨gS, 0, none⟩) C kS, .slice aN (C - 1) (kA - 1)] 0 xe)
          clear hzt
          generalize (putL (w.heap.size + 1) [.slice (some ⟨gS, 0, none⟩) C kS, .slice aN (C - 1) (kA - 1)] 0 xe) = xf at *
          refine hK.out _ _ ⟨Mf.out, Vf.out⟩ (fun hHeldf => ?_)
          clear hK K Me Ve Pe Qe Re Ke Te
          try simp only [Act.put, List.setIfInBounds_toArray, List.set_cons_zero, List.set_cons_succ, List.getElem_toArray, List.getElem_cons_zero, List.getElem_cons_succ]
          refine wpAnyH_take (i := 5) (v := .int .i64 (1 + x2)) rfl (by kernel_rfl) (by kernel_rfl) (by kernel_rfl) (fun _ _ _ h => h) (Or.inl ⟨by rfl, ?_⟩) (by assumption) ?_
          · intro wx hSw; go_simp
          try simp only [Act.put, List.setIfInBounds_toArray, List.set_cons_zero, List.set_cons_succ, List.getElem_toArray, List.getElem_cons_zero, List.getElem_cons_succ]
          refine wpAnyH_done (by kernel_rfl) ?_ _
          have p0 : xf.cell? ⟨w.heap.size, 0, none⟩ = some (.int .i64 (2 + x)) := (Pf.out.2 0 (by simp)).1
          have p1 : xf.cell? ⟨w.heap.size, 1, none⟩ = some (.int .i64 3) := (Pf.out.2 1 (by simp)).1
          have q0 : xf.cell? ⟨(w.heap.size + 1), 0, none⟩ = some (.slice (some ⟨gS, 0, none⟩) C kS) := (Qf.out.2 0 (by simp)).1
          have q1 : xf.cell? ⟨(w.heap.size + 1), 1, none⟩ = some (.slice aN (C - 1) (kA - 1)) := (Qf.out.2 1 (by simp)).1
          go_wp2
          refine bodyPost_ret (v := .tuple #[.agg #[.int .i64 (2 + x), .int .i64 3], .agg #[.slice (some ⟨gS, 0, none⟩) C kS, .slice aN (C - 1) (kA - 1)], .int .i64 (1 + x2)]) (by simp [results, Try.results14, go_sem, p0, p1, q0, q1]) rfl ⟨_, _, _, T2, _, rfl, Tf.out.mono (by omega), hsh, ⟨by omega, by omega⟩, Rf.out.more (by omega), Kf.out⟩
        · go_wp2_with fail
          refine (pick_B (R9.out.alloc _) (by omega)).mono ?_
          rintro e w10 ⟨xi, rfl, hxi, hRp, hKp⟩
          have K10 : Hid (Kept r w w10) := (K9.out.alloc _).trans hKp
          have M10 : Hid (Bk w10 w1.heap.size [.int .i64 (2 + x), .int .i64 3]) := (M9.out.below ((Below.refl _ _).alloc (Nat.le_refl _) _)).kp hKp (by omega)
          have V10 : Hid (Bk w10 w3.heap.size [.slice (some ⟨gS, 0, none⟩) C kS, .slice (some ⟨gA, 0, none⟩) C kA]) := (V9.out.below ((Below.refl _ _).alloc (Nat.le_refl _) _)).kp hKp (by omega)
          have P10 : Hid (Bk w10 w.heap.size [.int .i64 0, .int .i64 0]) := (P9.out.below ((Below.refl _ _).alloc (Nat.le_refl _) _)).kp hKp (by omega)
          have Q10 : Hid (Bk w10 (w.heap.size + 1) [.slice none 0 0, .slice none 0 0]) := (Q9.out.below ((Below.refl _ _).alloc (Nat.le_refl _) _)).kp hKp (by omega)
          have O10 : Hid (OwnT lo hi w10 (.agg #[.slice (some ⟨gS, 0, none⟩) C kS, .slice (some ⟨gA, 0, none⟩) C kA]) Tv) := (O9.out.below ((Below.refl _ _).alloc (Nat.le_refl _) _)).kp hKp (by omega) (by simp; omega)
          have hz10 := hKp.size
          have R10 : Hid (RdB w10 r ad len cap (m + 17)) := hRp.more (by omega)
          rw [World.size_alloc] at hz10
          have l0 : w10.cell? ⟨w9.heap.size, 0, none⟩ = some (.int .i64 0) := ((kcell hKp).1 w9.heap.size 0 (by simp) (by omega)).trans (by simp)
          have l1 : w10.cell? ⟨w9.heap.size, 1, none⟩ = some (.int .i64 4) := ((kcell hKp).1 w9.heap.size 1 (by simp) (by omega)).trans (by simp)
          have l2 : w10.cell? ⟨w9.heap.size, 2, none⟩ = some (.int .i64 1) := ((kcell hKp).1 w9.heap.size 2 (by simp) (by omega)).trans (by simp)
          have xi0 := hxi.1
          have xi1 := hxi.2.1 (by decide)
          have T10 := O10.out.tabIn
          clear hRp hKp hxi K9 M9 V9 P9 Q9 O9 R9 OS OA
          have hxi3 : xi = 0 ∨ xi = 1 ∨ xi = 2 := by omega
          rcases hxi3 with rfl | rfl | rfl
          · go_upto_region 23 with fail
            have Md : Hid (Bk w10.drew w1.heap.size [.int .i64 (2 + x), .int .i64 3]) := M10.out
            have Vd : Hid (Bk w10.drew w3.heap.size [.slice (some ⟨gS, 0, none⟩) C kS, .slice (some ⟨gA, 0, none⟩) C kA]) := V10.out
            have Pd : Hid (Bk w10.drew w.heap.size [.int .i64 0, .int .i64 0]) := P10.out
            have Qd : Hid (Bk w10.drew (w.heap.size + 1) [.slice none 0 0, .slice none 0 0]) := Q10.out
            have Rd : Hid (RdB w10.drew r ad len cap (m + 17)) := R10.out.drew
            have Kd : Hid (Kept r w w10.drew) := K10.out.drew
            have Td : Hid (TabIn lo w10.drew (.agg #[.slice (some ⟨gS, 0, none⟩) C kS, .slice (some ⟨gA, 0, none⟩) C kA]) Tv) := T10
            have hzd1 : w10.heap.size ≤ w10.drew.heap.size := Nat.le_refl _
            have hzd2 : w10.drew.heap.size ≤ w10.heap.size := Nat.le_refl _
            refine wp_region_held_drew (S := fun w' => Bk w' w1.heap.size [.int .i64 (2 + x), .int .i64 3] ∧ Bk w' w3.heap.size [.slice (some ⟨gS, 0, none⟩) C kS, .slice (some ⟨gA, 0, none⟩) C kA]) (by kernel_rfl) ⟨Md.out, Vd.out⟩ ?_
            intro hHeld
            clear M10 V10 P10 Q10 R10 K10
            generalize w10.drew = xd at *
            refine wpAnyH_take (i := 0) (v := .agg #[.int .i64 (2 + x), .int .i64 3]) rfl (by kernel_rfl) (by kernel_rfl) (by kernel_rfl) (fun _ _ _ h => h) (Or.inl ⟨by rfl, ?_⟩) (by assumption) ?_
            · intro wx hSw; obtain ⟨⟨_, sm⟩, ⟨_, sv⟩⟩ := hSw; have m0 : wx.cell? ⟨w1.heap.size, 0, none⟩ = some (.int .i64 (2 + x)) := (sm 0 (by simp)).1; have m1 : wx.cell? ⟨w1.heap.size, 1, none⟩ = some (.int .i64 3) := (sm 1 (by simp)).1; have v0 : wx.cell? ⟨w3.heap.size, 0, none⟩ = some (.slice (some ⟨gS, 0, none⟩) C kS) := (sv 0 (by simp)).1; have v1 : wx.cell? ⟨w3.heap.size, 1, none⟩ = some (.slice (some ⟨gA, 0, none⟩) C kA) := (sv 1 (by simp)).1; clear sm sv; go_simp
            try simp only [Act.put, List.setIfInBounds_toArray, List.set_cons_zero, List.set_cons_succ, List.getElem_toArray, List.getElem_cons_zero]
            refine wpAnyH_take (i := 1) (v := .agg #[.slice (some ⟨gS, 0, none⟩) C kS, .slice (some ⟨gA, 0, none⟩) C kA]) rfl (by kernel_rfl) (by kernel_rfl) (by kernel_rfl) (fun _ _ _ h => h) (Or.inl ⟨by rfl, ?_⟩) (by assumption) ?_
            · intro wx hSw; obtain ⟨⟨_, sm⟩, ⟨_, sv⟩⟩ := hSw; have m0 : wx.cell? ⟨w1.heap.size, 0, none⟩ = some (.int .i64 (2 + x)) := (sm 0 (by simp)).1; have m1 : wx.cell? ⟨w1.heap.size, 1, none⟩ = some (.int .i64 3) := (sm 1 (by simp)).1; have v0 : wx.cell? ⟨w3.heap.size, 0, none⟩ = some (.slice (some ⟨gS, 0, none⟩) C kS) := (sv 0 (by simp)).1; have v1 : wx.cell? ⟨w3.heap.size, 1, none⟩ = some (.slice (some ⟨gA, 0, none⟩) C kA) := (sv 1 (by simp)).1; clear sm sv; go_simp
            try simp only [Act.put, List.setIfInBounds_toArray, List.set_cons_zero, List.set_cons_succ, List.getElem_toArray, List.getElem_cons_zero, List.getElem_cons_succ]
            refine wpAnyH_take (i := 2) (v := .int .i64 0) rfl (by kernel_rfl) (by kernel_rfl) (by kernel_rfl) (fun _ _ _ h => h) (Or.inl ⟨by rfl, ?_⟩) (by assumption) ?_
            · intro wx hSw; go_simp
            try simp only [Act.put, List.setIfInBounds_toArray, List.set_cons_zero, List.set_cons_succ, List.getElem_toArray, List.getElem_cons_zero, List.getElem_cons_succ]
            refine wpAnyH_ready (rs := [3]) (by kernel_rfl) (by simp) ?_
            refine AllReadyH.cons rfl (fun K hK => ?_) AllReadyH.nil
            have p0 : xd.cell? ⟨w.heap.size, 0, none⟩ = some (.int .i64 0) := (Pd.out.2 0 (by simp)).1
            have p1 : xd.cell? ⟨w.heap.size, 1, none⟩ = some (.int .i64 0) := (Pd.out.2 1 (by simp)).1
            have f0 : xd.frozen? ⟨w.heap.size, 0, none⟩ = false := (Pd.out.2 0 (by simp)).2
            have f1 : xd.frozen? ⟨w.heap.size, 1, none⟩ = false := (Pd.out.2 1 (by simp)).2
            have EP : Hid ((putL w.heap.size [.int .i64 (2 + x), .int .i64 3] 0 xd) = ((xd.setCell ⟨w.heap.size, 0, none⟩ (.int .i64 (2 + x))).setCell ⟨w.heap.size, 1, none⟩ (.int .i64 3))) := rfl
            go_simp
            rw [← EP.out]
            clear p0 p1 f0 f1 EP
            have hzs : (putL w.heap.size [.int .i64 (2 + x), .int .i64 3] 0 xd).heap.size = xd.heap.size := size_put _ _ _ _
            have hzs1 : xd.heap.size ≤ (putL w.heap.size [.int .i64 (2 + x), .int .i64 3] 0 xd).heap.size := by omega
            have Pe : Hid (Bk (putL w.heap.size [.int .i64 (2 + x), .int .i64 3] 0 xd) w.heap.size [.int .i64 (2 + x), .int .i64 3]) := bk_put Pd.out rfl
            have Me : Hid (Bk (putL w.heap.size [.int .i64 (2 + x), .int .i64 3] 0 xd) w1.heap.size [.int .i64 (2 + x), .int .i64 3]) := Md.out.sm hzs1 (sm_put (by omega) [.int .i64 (2 + x), .int .i64 3] 0 xd)
            have Ve : Hid (Bk (putL w.heap.size [.int .i64 (2 + x), .int .i64 3] 0 xd) w3.heap.size [.slice (some ⟨gS, 0, none⟩) C kS, .slice (some ⟨gA, 0, none⟩) C kA]) := Vd.out.sm hzs1 (sm_put (by omega) [.int .i64 (2 + x), .int .i64 3] 0 xd)
            have Qe : Hid (Bk (putL w.heap.size [.int .i64 (2 + x), .int .i64 3] 0 xd) (w.heap.size + 1) [.slice none 0 0, .slice none 0 0]) := Qd.out.sm hzs1 (sm_put (by omega) [.int .i64 (2 + x), .int .i64 3] 0 xd)
            have Re : Hid (RdB (putL w.heap.size [.int .i64 (2 + x), .int .i64 3] 0 xd) r ad len cap (m + 17)) := Rd.out.below (below_put (by omega) [.int .i64 (2 + x), .int .i64 3] 0 (Below.refl _ _))
            have Ke : Hid (Kept r w (putL w.heap.size [.int .i64 (2 + x), .int .i64 3] 0 xd)) := (Kd.out.setCell (q := ⟨w.heap.size, 0, none⟩) (.inl (by show w.heap.size ≤ w.heap.size; omega)) _).setCell (q := ⟨w.heap.size, 1, none⟩) (.inl (by show w.heap.size ≤ w.heap.size; omega)) _
            have Te : Hid (TabIn lo (putL w.heap.size [.int .i64 (2 + x), .int .i64 3] 0 xd) (.agg #[.slice (some ⟨gS, 0, none⟩) C kS, .slice (some ⟨gA, 0, none⟩) C kA]) Tv) := Td.out.sm hzs1 (fun b h1 h2 => sm_put (by omega) [.int .i64 (2 + x), .int .i64 3] 0 xd)
            clear hzs
            generalize (putL w.heap.size [.int .i64 (2 + x), .int .i64 3] 0 xd) = xe at *
            refine hK.out _ _ ⟨Me.out, Ve.out⟩ (fun hHelde => ?_)
            clear hK K Md Vd Pd Qd Rd Kd Td
            try simp only [Act.put, List.setIfInBounds_toArray, List.set_cons_zero, List.set_cons_succ, List.getElem_toArray, List.getElem_cons_zero, List.getElem_cons_succ]
            refine wpAnyH_ready (rs := [4]) (by kernel_rfl) (by simp) ?_
            refine AllReadyH.cons rfl (fun K hK => ?_) AllReadyH.nil
            have p0 : xe.cell? ⟨(w.heap.size + 1), 0, none⟩ = some (.slice none 0 0) := (Qe.out.2 0 (by simp)).1
            have p1 : xe.cell? ⟨(w.heap.size + 1), 1, none⟩ = some (.slice none 0 0) := (Qe.out.2 1 (by simp)).1
            have f0 : xe.frozen? ⟨(w.heap.size + 1), 0, none⟩ = false := (Qe.out.2 0 (by simp)).2
            have f1 : xe.frozen? ⟨(w.heap.size + 1), 1, none⟩ = false := (Qe.out.2 1 (by simp)).2
            have EP : Hid ((putL (w.heap.size + 1) [.slice (some ⟨gS, 0, none⟩) C kS, .slice (some ⟨gA, 0, none⟩) C kA] 0 xe) = ((xe.setCell ⟨(w.heap.size + 1), 0, none⟩ (.slice (some ⟨gS, 0, none⟩) C kS)).setCell ⟨(w.heap.size + 1), 1, none⟩ (.slice (some ⟨gA, 0, none⟩) C kA))) := rfl
            go_simp
            rw [← EP.out]
            clear p0 p1 f0 f1 EP
            have hzt : (putL (w.heap.size + 1) [.slice (some ⟨gS, 0, none⟩) C kS, .slice (some ⟨gA, 0, none⟩) C kA] 0 xe).heap.size = xe.heap.size := size_put _ _ _ _
            have hzt1 : xe.heap.size ≤ (putL (w.heap.size + 1) [.slice (some ⟨gS, 0, none⟩) C kS, .slice (some ⟨gA, 0, none⟩) C kA] 0 xe).heap.size := by omega
            have Qf : Hid (Bk (putL (w.heap.size + 1) [.slice (some ⟨gS, 0, none⟩) C kS, .slice (some ⟨gA, 0, none⟩) C kA] 0 xe) (w.heap.size + 1) [.slice (some ⟨gS, 0, none⟩) C kS, .slice (some ⟨gA, 0, none⟩) C kA]) := bk_put Qe.out rfl
            have Mf : Hid (Bk (putL (w.heap.size + 1) [.slice (some ⟨gS, 0, none⟩) C kS, .slice (some ⟨gA, 0, none⟩) C kA] 0 xe) w1.heap.size [.int .i64 (2 + x), .int .i64 3]) := Me.out.sm hzt1 (sm_put (by omega) [.slice (some ⟨gS, 0, none⟩) C kS, .slice (some ⟨gA, 0, none⟩) C kA] 0 xe)
            have Vf : Hid (Bk (putL (w.heap.size + 1) [.slice (some ⟨gS, 0, none⟩) C kS, .slice (some ⟨gA, 0, none⟩) C kA] 0 xe) w3.heap.size [.slice (some ⟨gS, 0, none⟩) C kS, .slice (some ⟨gA, 0, none⟩) C kA]) := Ve.out.sm hzt1 (sm_put (by omega) [.slice (some ⟨gS, 0, none⟩) C kS, .slice (some ⟨gA, 0, none⟩) C kA] 0 xe)
            have Pf : Hid (Bk (putL (w.heap.size + 1) [.slice (some ⟨gS, 0, none⟩) C kS, .slice (some ⟨gA, 0, none⟩) C kA] 0 xe) w.heap.size [.int .i64 (2 + x), .int .i64 3]) := Pe.out.sm hzt1 (sm_put (by omega) [.slice (some ⟨gS, 0, none⟩) C kS, .slice (some ⟨gA, 0, none⟩) C kA] 0 xe)
            have Rf : Hid (RdB (putL (w.heap.size + 1) [.slice (some ⟨gS, 0, none⟩) C kS, .slice (some ⟨gA, 0, none⟩) C kA] 0 xe) r ad len cap (m + 17)) := Re.out.below (below_put (by omega) [.slice (some ⟨gS, 0, none⟩) C kS, .slice (some ⟨gA, 0, none⟩) C kA] 0 (Below.refl _ _))
            have Kf : Hid (Kept r w (putL (w.heap.size + 1) [.slice (some ⟨gS, 0, none⟩) C kS, .slice (some ⟨gA, 0, none⟩) C kA] 0 xe)) := (Ke.out.setCell (q := ⟨(w.heap.size + 1), 0, none⟩) (.inl (by show w.heap.size ≤ (w.heap.size + 1); omega)) _).setCell (q := ⟨(w.heap.size + 1), 1, none⟩) (.inl (by show w.heap.size ≤ (w.heap.size + 1); omega)) _
            have Tf : Hid (TabIn lo (putL (w.heap.size + 1) [.slice (some ⟨gS, 0, none⟩) C kS, .slice (some ⟨gA, 0, none⟩) C kA] 0 xe) (.agg #[.slice (some ⟨gS, 0, none⟩) C kS, .slice (some ⟨gA, 0, none⟩) C kA]) Tv) := Te.out.sm hzt1 (fun b h1 h2 => sm_put (by omega) [.slice (some ⟨gS, 0, none⟩) C kS, .slice (some ⟨gA, 0, none⟩) C kA] 0 xe)
            clear hzt
            generalize (putL (w.heap.size + 1) [.slice (some ⟨gS, 0, none⟩) C kS, .slice (some ⟨gA, 0, none⟩) C kA] 0 xe) = xf at *
            refine hK.out _ _ ⟨Mf.out, Vf.out⟩ (fun hHeldf => ?_)
            clear hK K Me Ve Pe Qe Re Ke Te
            try simp only [Act.put, List.setIfInBounds_toArray, List.set_cons_zero, List.set_cons_succ, List.getElem_toArray, List.getElem_cons_zero, List.getElem_cons_succ]
            refine wpAnyH_take (i := 5) (v := .int .i64 0) rfl (by kernel_rfl) (by kernel_rfl) (by kernel_rfl) (fun _ _ _ h => h) (Or.inl ⟨by rfl, ?_⟩) (by assumption) ?_
            · intro wx hSw; go_simp
            try simp only [Act.put, List.setIfInBounds_toArray, List.set_cons_zero, List.set_cons_succ, List.getElem_toArray, List.getElem_cons_zero, List.getElem_cons_succ]
            refine wpAnyH_done (by kernel_rfl) ?_ _
            have p0 : xf.cell? ⟨w.heap.size, 0, none⟩ = some (.int .i64 (2 + x)) := (Pf.out.2 0 (by simp)).1
            have p1 : xf.cell? ⟨w.heap.size, 1, none⟩ = some (.int .i64 3) := (Pf.out.2 1 (by simp)).1
            have q0 : xf.cell? ⟨(w.heap.size + 1), 0, none⟩ = some (.slice (some ⟨gS, 0, none⟩) C kS) := (Qf.out.2 0 (by simp)).1
            have q1 : xf.cell? ⟨(w.heap.size + 1), 1, none⟩ = some (.slice (some ⟨gA, 0, none⟩) C kA) := (Qf.out.2 1 (by simp)).1
            go_wp2
            refine bodyPost_ret (v := .tuple #[.agg #[.int .i64 (2 + x), .int .i64 3], .agg #[.slice (some ⟨gS, 0, none⟩) C kS, .slice (some ⟨gA, 0, none⟩) C kA], .int .i64 0]) (by simp [results, Try.results14, go_sem, p0, p1, q0, q1]) rfl ⟨_, _, _, Tv, _, rfl, Tf.out.mono (by omega), (by have := HTS.out; exact ⟨by omega, by omega⟩), ⟨by omega, by omega⟩, Rf.out.more (by omega), Kf.out⟩
          · go_upto_region 23 with fail
            have Md : Hid (Bk w10.drew w1.heap.size [.int .i64 (2 + x), .int .i64 3]) := M10.out
            have Vd : Hid (Bk w10.drew w3.heap.size [.slice (some ⟨gS, 0, none⟩) C kS, .slice (some ⟨gA, 0, none⟩) C kA]) := V10.out
            have Pd : Hid (Bk w10.drew w.heap.size [.int .i64 0, .int .i64 0]) := P10.out
            have Qd : Hid (Bk w10.drew (w.heap.size + 1) [.slice none 0 0, .slice none 0 0]) := Q10.out
            have Rd : Hid (RdB w10.drew r ad len cap (m + 17)) := R10.out.drew
            have Kd : Hid (Kept r w w10.drew) := K10.out.drew
            have Td : Hid (TabIn lo w10.drew (.agg #[.slice (some ⟨gS, 0, none⟩) C kS, .slice (some ⟨gA, 0, none⟩) C kA]) Tv) := T10
            have hzd1 : w10.heap.size ≤ w10.drew.heap.size := Nat.le_refl _
            have hzd2 : w10.drew.heap.size ≤ w10.heap.size := Nat.le_refl _
            refine wp_region_held_drew (S := fun w' => Bk w' w1.heap.size [.int .i64 (2 + x), .int .i64 3] ∧ Bk w' w3.heap.size [.slice (some ⟨gS, 0, none⟩) C kS, .slice (some ⟨gA, 0, none⟩) C kA]) (by kernel_rfl) ⟨Md.out, Vd.out⟩ ?_
            intro hHeld
            clear M10 V10 P10 Q10 R10 K10
            generalize w10.drew = xd at *
            refine wpAnyH_take (i := 0) (v := .agg #[.int .i64 (2 + x), .int .i64 3]) rfl (by kernel_rfl) (by kernel_rfl) (by kernel_rfl) (fun _ _ _ h => h) (Or.inl ⟨by rfl, ?_⟩) (by assumption) ?_
            · intro wx hSw; obtain ⟨⟨_, sm⟩, ⟨_, sv⟩⟩ := hSw; have m0 : wx.cell? ⟨w1.heap.size, 0, none⟩ = some (.int .i64 (2 + x)) := (sm 0 (by simp)).1; have m1 : wx.cell? ⟨w1.heap.size, 1, none⟩ = some (.int .i64 3) := (sm 1 (by simp)).1; have v0 : wx.cell? ⟨w3.heap.size, 0, none⟩ = some (.slice (some ⟨gS, 0, none⟩) C kS) := (sv 0 (by simp)).1; have v1 : wx.cell? ⟨w3.heap.size, 1, none⟩ = some (.slice (some ⟨gA, 0, none⟩) C kA) := (sv 1 (by simp)).1; clear sm sv; go_simp
            try simp only [Act.put, List.setIfInBounds_toArray, List.set_cons_zero, List.set_cons_succ, List.getElem_toArray, List.getElem_cons_zero]
            refine wpAnyH_take (i := 1) (v := .agg #[.slice (some ⟨gS, 0, none⟩) C kS, .slice (some ⟨gA, 0, none⟩) C kA]) rfl (by kernel_rfl) (by kernel_rfl) (by kernel_rfl) (fun _ _ _ h => h) (Or.inl ⟨by rfl, ?_⟩) (by assumption) ?_
            · intro wx hSw; obtain ⟨⟨_, sm⟩, ⟨_, sv⟩⟩ := hSw; have m0 : wx.cell? ⟨w1.heap.size, 0, none⟩ = some (.int .i64 (2 + x)) := (sm 0 (by simp)).1; have m1 : wx.cell? ⟨w1.heap.size, 1, none⟩ = some (.int .i64 3) := (sm 1 (by simp)).1; have v0 : wx.cell? ⟨w3.heap.size, 0, none⟩ = some (.slice (some ⟨gS, 0, none⟩) C kS) := (sv 0 (by simp)).1; have v1 : wx.cell? ⟨w3.heap.size, 1, none⟩ = some (.slice (some ⟨gA, 0, none⟩) C kA) := (sv 1 (by simp)).1; clear sm sv; go_simp
            try simp only [Act.put, List.setIfInBounds_toArray, List.set_cons_zero, List.set_cons_succ, List.getElem_toArray, List.getElem_cons_zero, List.getElem_cons_succ]
            refine wpAnyH_take (i := 2) (v := .int .i64 4) rfl (by kernel_rfl) (by kernel_rfl) (by kernel_rfl) (fun _ _ _ h => h) (Or.inl ⟨by rfl, ?_⟩) (by assumption) ?_
            · intro wx hSw; go_simp
            try simp only [Act.put, List.setIfInBounds_toArray, List.set_cons_zero, List.set_cons_succ, List.getElem_toArray, List.getElem_cons_zero, List.getElem_cons_succ]
            refine wpAnyH_ready (rs := [3]) (by kernel_rfl) (by simp) ?_
            refine AllReadyH.cons rfl (fun K hK => ?_) AllReadyH.nil
            have p0 : xd.cell? ⟨w.heap.size, 0, none⟩ = some (.int .i64 0) := (Pd.out.2 0 (by simp)).1
            have p1 : xd.cell? ⟨w.heap.size, 1, none⟩ = some (.int .i64 0) := (Pd.out.2 1 (by simp)).1
            have f0 : xd.frozen? ⟨w.heap.size, 0, none⟩ = false := (Pd.out.2 0 (by simp)).2
            have f1 : xd.frozen? ⟨w.heap.size, 1, none⟩ = false := (Pd.out.2 1 (by simp)).2
            have EP : Hid ((putL w.heap.size [.int .i64 (2 + x), .int .i64 3] 0 xd) = ((xd.setCell ⟨w.heap.size, 0, none⟩ (.int .i64 (2 + x))).setCell ⟨w.heap.size, 1, none⟩ (.int .i64 3))) := rfl
            go_simp
            rw [← EP.out]
            clear p0 p1 f0 f1 EP
            have hzs : (putL w.heap.size [.int .i64 (2 + x), .int .i64 3] 0 xd).heap.size = xd.heap.size := size_put _ _ _ _
            have hzs1 : xd.heap.size ≤ (putL w.heap.size [.int .i64 (2 + x), .int .i64 3] 0 xd).heap.size := by omega
            have Pe : Hid (Bk (putL w.heap.size [.int .i64 (2 + x), .int .i64 3] 0 xd) w.heap.size [.int .i64 (2 + x), .int .i64 3]) := bk_put Pd.out rfl
            have Me : Hid (Bk (putL w.heap.size [.int .i64 (2 + x), .int .i64 3] 0 xd) w1.heap.size [.int .i64 (2 + x), .int .i64 3]) := Md.out.sm hzs1 (sm_put (by omega) [.int .i64 (2 + x), .int .i64 3] 0 xd)
            have Ve : Hid (Bk (putL w.heap.size [.int .i64 (2 + x), .int .i64 3] 0 xd) w3.heap.size [.slice (some ⟨gS, 0, none⟩) C kS, .slice (some ⟨gA, 0, none⟩) C kA]) := Vd.out.sm hzs1 (sm_put (by omega) [.int .i64 (2 + x), .int .i64 3] 0 xd)
            have Qe : Hid (Bk (putL w.heap.size [.int .i64 (2 + x), .int .i64 3] 0 xd) (w.heap.size + 1) [.slice none 0 0, .slice none 0 0]) := Qd.out.sm hzs1 (sm_put (by omega) [.int .i64 (2 + x), .int .i64 3] 0 xd)
            have Re : Hid (RdB (putL w.heap.size [.int .i64 (2 + x), .int .i64 3] 0 xd) r ad len cap (m + 17)) := Rd.out.below (below_put (by omega) [.int .i64 (2 + x), .int .i64 3] 0 (Below.refl _ _))
            have Ke : Hid (Kept r w (putL w.heap.size [.int .i64 (2 + x), .int .i64 3] 0 xd)) := (Kd.out.setCell (q := ⟨w.heap.size, 0, none⟩) (.inl (by show w.heap.size ≤ w.heap.size; omega)) _).setCell (q := ⟨w.heap.size, 1, none⟩) (.inl (by show w.heap.size ≤ w.heap.size; omega)) _
            have Te : Hid (TabIn lo (putL w.heap.size [.int .i64 (2 + x), .int .i64 3] 0 xd) (.agg #[.slice (some ⟨gS, 0, none⟩) C kS, .slice (some ⟨gA, 0, none⟩) C kA]) Tv) := Td.out.sm hzs1 (fun b h1 h2 => sm_put (by omega) [.int .i64 (2 + x), .int .i64 3] 0 xd)
            clear hzs
            generalize (putL w.heap.size [.int .i64 (2 + x), .int .i64 3] 0 xd) = xe at *
            refine hK.out _ _ ⟨Me.out, Ve.out⟩ (fun hHelde => ?_)
            clear hK K Md Vd Pd Qd Rd Kd Td
            try simp only [Act.put, List.setIfInBounds_toArray, List.set_cons_zero, List.set_cons_succ, List.getElem_toArray, List.getElem_cons_zero, List.getElem_cons_succ]
            refine wpAnyH_ready (rs := [4]) (by kernel_rfl) (by simp) ?_
            refine AllReadyH.cons rfl (fun K hK => ?_) AllReadyH.nil
            have p0 : xe.cell? ⟨(w.heap.size + 1), 0, none⟩ = some (.slice none 0 0) := (Qe.out.2 0 (by simp)).1
            have p1 : xe.cell? ⟨(w.heap.size + 1), 1, none⟩ = some (.slice none 0 0) := (Qe.out.2 1 (by simp)).1
            have f0 : xe.frozen? ⟨(w.heap.size + 1), 0, none⟩ = false := (Qe.out.2 0 (by simp)).2
            have f1 : xe.frozen? ⟨(w.heap.size + 1), 1, none⟩ = false := (Qe.out.2 1 (by simp)).2
            have EP : Hid ((putL (w.heap.size + 1) [.slice (some ⟨gS, 0, none⟩) C kS, .slice (some ⟨gA, 0, none⟩) C kA] 0 xe) = ((xe.setCell ⟨(w.heap.size + 1), 0, none⟩ (.slice (some ⟨gS, 0, none⟩) C kS)).setCell ⟨(w.heap.size + 1), 1, none⟩ (.slice (some ⟨gA, 0, none⟩) C kA))) := rfl
            go_simp
            rw [← EP.out]
            clear p0 p1 f0 f1 EP
            have hzt : (putL (w.heap.size + 1) [.slice (some ⟨gS, 0, none⟩) C kS, .slice (some ⟨gA, 0, none⟩) C kA] 0 xe).heap.size = xe.heap.size := size_put _ _ _ _
            have hzt1 : xe.heap.size ≤ (putL (w.heap.size + 1) [.slice (some ⟨gS, 0, none⟩) C kS, .slice (some ⟨gA, 0, none⟩) C kA] 0 xe).heap.size := by omega
            have Qf : Hid (Bk (putL (w.heap.size + 1) [.slice (some ⟨gS, 0, none⟩) C kS, .slice (some ⟨gA, 0, none⟩) C kA] 0 xe) (w.heap.size + 1) [.slice (some ⟨gS, 0, none⟩) C kS, .slice (some ⟨gA, 0, none⟩) C kA]) := bk_put Qe.out rfl
            have Mf : Hid (Bk (putL (w.heap.size + 1) [.slice (some ⟨gS, 0, none⟩) C kS, .slice (some ⟨gA, 0, none⟩) C kA] 0 xe) w1.heap.size [.int .i64 (2 + x), .int .i64 3]) := Me.out.sm hzt1 (sm_put (by omega) [.slice (some ⟨gS, 0, none⟩) C kS, .slice (some ⟨gA, 0, none⟩) C kA] 0 xe)
            have Vf : Hid (Bk (putL (w.heap.size + 1) [.slice (some ⟨gS, 0, none⟩) C kS, .slice (some ⟨gA, 0, none⟩) C kA] 0 xe) w3.heap.size [.slice (some ⟨gS, 0, none⟩) C kS, .slice (some ⟨gA, 0, none⟩) C kA]) := Ve.out.sm hzt1 (sm_put (by omega) [.slice (some ⟨gS, 0, none⟩) C kS, .slice (some ⟨gA, 0, none⟩) C kA] 0 xe)
            have Pf : Hid (Bk (putL (w.heap.size + 1) [.slice (some ⟨gS, 0, none⟩) C kS, .slice (some ⟨gA, 0, none⟩) C kA] 0 xe) w.heap.size [.int .i64 (2 + x), .int .i64 3]) := Pe.out.sm hzt1 (sm_put (by omega) [.slice (some ⟨gS, 0, none⟩) C kS, .slice (some ⟨gA, 0, none⟩) C kA] 0 xe)
            have Rf : Hid (RdB (putL (w.heap.size + 1) [.slice (some ⟨gS, 0, none⟩) C kS, .slice (some ⟨gA, 0, none⟩) C kA] 0 xe) r ad len cap (m + 17)) := Re.out.below (below_put (by omega) [.slice (some ⟨gS, 0, none⟩) C kS, .slice (some ⟨gA, 0, none⟩) C kA] 0 (Below.refl _ _))
            have Kf : Hid (Kept r w (putL (w.heap.size + 1) [.slice (some ⟨gS, 0, none⟩) C kS, .slice (some ⟨gA, 0, none⟩) C kA] 0 xe)) := (Ke.out.setCell (q := ⟨(w.heap.size + 1), 0, none⟩) (.inl (by show w.heap.size ≤ (w.heap.size + 1); omega)) _).setCell (q := ⟨(w.heap.size + 1), 1, none⟩) (.inl (by show w.heap.size ≤ (w.heap.size + 1); omega)) _
            have Tf : Hid (TabIn lo (putL (w.heap.size + 1) [.slice (some ⟨gS, 0, none⟩) C kS, .slice (some ⟨gA, 0, none⟩) C kA] 0 xe) (.agg #[.slice (some ⟨gS, 0, none⟩) C kS, .slice (some ⟨gA, 0, none⟩) C kA]) Tv) := Te.out.sm hzt1 (fun b h1 h2 => sm_put (by omega) [.slice (some ⟨gS, 0, none⟩) C kS, .slice (some ⟨gA, 0, none⟩) C kA] 0 xe)
            clear hzt
            generalize (putL (w.heap.size + 1) [.slice (some ⟨gS, 0, none⟩) C kS, .slice (some ⟨gA, 0, none⟩) C kA] 0 xe) = xf at *
            refine hK.out _ _ ⟨Mf.out, Vf.out⟩ (fun hHeldf => ?_)
            clear hK K Me Ve Pe Qe Re Ke Te
            try simp only [Act.put, List.setIfInBounds_toArray, List.set_cons_zero, List.set_cons_succ, List.getElem_toArray, List.getElem_cons_zero, List.getElem_cons_succ]
            refine wpAnyH_take (i := 5) (v := .int .i64 4) rfl (by kernel_rfl) (by kernel_rfl) (by kernel_rfl) (fun _ _ _ h => h) (Or.inl ⟨by rfl, ?_⟩) (by assumption) ?_
            · intro wx hSw; go_simp
            try simp only [Act.put, List.setIfInBounds_toArray, List.set_cons_zero, List.set_cons_succ, List.getElem_toArray, List.getElem_cons_zero, List.getElem_cons_succ]
            refine wpAnyH_done (by kernel_rfl) ?_ _
            have p0 : xf.cell? ⟨w.heap.size, 0, none⟩ = some (.int .i64 (2 + x)) := (Pf.out.2 0 (by simp)).1
            have p1 : xf.cell? ⟨w.heap.size, 1, none⟩ = some (.int .i64 3) := (Pf.out.2 1 (by simp)).1
            have q0 : xf.cell? ⟨(w.heap.size + 1), 0, none⟩ = some (.slice (some ⟨gS, 0, none⟩) C kS) := (Qf.out.2 0 (by simp)).1
            have q1 : xf.cell? ⟨(w.heap.size + 1), 1, none⟩ = some (.slice (some ⟨gA, 0, none⟩) C kA) := (Qf.out.2 1 (by simp)).1
            go_wp2
            refine bodyPost_ret (v := .tuple #[.agg #[.int .i64 (2 + x), .int .i64 3], .agg #[.slice (some ⟨gS, 0, none⟩) C kS, .slice (some ⟨gA, 0, none⟩) C kA], .int .i64 4]) (by simp [results, Try.results14, go_sem, p0, p1, q0, q1]) rfl ⟨_, _, _, Tv, _, rfl, Tf.out.mono (by omega), (by have := HTS.out; exact ⟨by omega, by omega⟩), ⟨by omega, by omega⟩, Rf.out.more (by omega), Kf.out⟩
          · go_upto_region 23 with fail
            have Md : Hid (Bk w10.drew w1.heap.size [.int .i64 (2 + x), .int .i64 3]) := M10.out
            have Vd : Hid (Bk w10.drew w3.heap.size [.slice (some ⟨gS, 0, none⟩) C kS, .slice (some ⟨gA, 0, none⟩) C kA]) := V10.out
            have Pd : Hid (Bk w10.drew w.heap.size [.int .i64 0, .int .i64 0]) := P10.out
            have Qd : Hid (Bk w10.drew (w.heap.size + 1) [.slice none 0 0, .slice none 0 0]) := Q10.out
            have Rd : Hid (RdB w10.drew r ad len cap (m + 17)) := R10.out.drew
            have Kd : Hid (Kept r w w10.drew) := K10.out.drew
            have Td : Hid (TabIn lo w10.drew (.agg #[.slice (some ⟨gS, 0, none⟩) C kS, .slice (some ⟨gA, 0, none⟩) C kA]) Tv) := T10
            have hzd1 : w10.heap.size ≤ w10.drew.heap.size := Nat.le_refl _
            have hzd2 : w10.drew.heap.size ≤ w10.heap.size := Nat.le_refl _
            refine wp_region_held_drew (S := fun w' => Bk w' w1.heap.size [.int .i64 (2 + x), .int .i64 3] ∧ Bk w' w3.heap.size [.slice (some ⟨gS, 0, none⟩) C kS, .slice (some ⟨gA, 0, none⟩) C kA]) (by kernel_rfl) ⟨Md.out, Vd.out⟩ ?_
            intro hHeld
            clear M10 V10 P10 Q10 R10 K10
            generalize w10.drew = xd at *
            refine wpAnyH_take (i := 0) (v := .agg #[.int .i64 (2 + x), .int .i64 3]) rfl (by kernel_rfl) (by kernel_rfl) (by kernel_rfl) (fun _ _ _ h => h) (Or.inl ⟨by rfl, ?_⟩) (by assumption) ?_
            · intro wx hSw; obtain ⟨⟨_, sm⟩, ⟨_, sv⟩⟩ := hSw; have m0 : wx.cell? ⟨w1.heap.size, 0, none⟩ = some (.int .i64 (2 + x)) := (sm 0 (by simp)).1; have m1 : wx.cell? ⟨w1.heap.size, 1, none⟩ = some (.int .i64 3) := (sm 1 (by simp)).1; have v0 : wx.cell? ⟨w3.heap.size, 0, none⟩ = some (.slice (some ⟨gS, 0, none⟩) C kS) := (sv 0 (by simp)).1; have v1 : wx.cell? ⟨w3.heap.size, 1, none⟩ = some (.slice (some ⟨gA, 0, none⟩) C kA) := (sv 1 (by simp)).1; clear sm sv; go_simp
            try simp only [Act.put, List.setIfInBounds_toArray, List.set_cons_zero, List.set_cons_succ, List.getElem_toArray, List.getElem_cons_zero]
            refine wpAnyH_take (i := 1) (v := .agg #[.slice (some ⟨gS, 0, none⟩) C kS, .slice (some ⟨gA, 0, none⟩) C kA]) rfl (by kernel_rfl) (by kernel_rfl) (by kernel_rfl) (fun _ _ _ h => h) (Or.inl ⟨by rfl, ?_⟩) (by assumption) ?_
            · intro wx hSw; obtain ⟨⟨_, sm⟩, ⟨_, sv⟩⟩ := hSw; have m0 : wx.cell? ⟨w1.heap.size, 0, none⟩ = some (.int .i64 (2 + x)) := (sm 0 (by simp)).1; have m1 : wx.cell? ⟨w1.heap.size, 1, none⟩ = some (.int .i64 3) := (sm 1 (by simp)).1; have v0 : wx.cell? ⟨w3.heap.size, 0, none⟩ = some (.slice (some ⟨gS, 0, none⟩) C kS) := (sv 0 (by simp)).1; have v1 : wx.cell? ⟨w3.heap.size, 1, none⟩ = some (.slice (some ⟨gA, 0, none⟩) C kA) := (sv 1 (by simp)).1; clear sm sv; go_simp
            try simp only [Act.put, List.setIfInBounds_toArray, List.set_cons_zero, List.set_cons_succ, List.getElem_toArray, List.getElem_cons_zero, List.getElem_cons_succ]
            refine wpAnyH_take (i := 2) (v := .int .i64 1) rfl (by kernel_rfl) (by kernel_rfl) (by kernel_rfl) (fun _ _ _ h => h) (Or.inl ⟨by rfl, ?_⟩) (by assumption) ?_
            · intro wx hSw; go_simp
            try simp only [Act.put, List.setIfInBounds_toArray, List.set_cons_zero, List.set_cons_succ, List.getElem_toArray, List.getElem_cons_zero, List.getElem_cons_succ]
            refine wpAnyH_ready (rs := [3]) (by kernel_rfl) (by simp) ?_
            refine AllReadyH.cons rfl (fun K hK => ?_) AllReadyH.nil
            have p0 : xd.cell? ⟨w.heap.size, 0, none⟩ = some (.int .i64 0) := (Pd.out.2 0 (by simp)).1
            have p1 : xd.cell? ⟨w.heap.size, 1, none⟩ = some (.int .i64 0) := (Pd.out.2 1 (by simp)).1
            have f0 : xd.frozen? ⟨w.heap.size, 0, none⟩ = false := (Pd.out.2 0 (by simp)).2
            have f1 : xd.frozen? ⟨w.heap.size, 1, none⟩ = false := (Pd.out.2 1 (by simp)).2
            have EP : Hid ((putL w.heap.size [.int .i64 (2 + x), .int .i64 3] 0 xd) = ((xd.setCell ⟨w.heap.size, 0, none⟩ (.int .i64 (2 + x))).setCell ⟨w.heap.size, 1, none⟩ (.int .i64 3))) := rfl
            go_simp
            rw [← EP.out]
            clear p0 p1 f0 f1 EP
            have hzs : (putL w.heap.size [.int .i64 (2 + x), .int .i64 3] 0 xd).heap.size = xd.heap.size := size_put _ _ _ _
            have hzs1 : xd.heap.size ≤ (putL w.heap.size [.int .i64 (2 + x), .int .i64 3] 0 xd).heap.size := by omega
            have Pe : Hid (Bk (putL w.heap.size [.int .i64 (2 + x), .int .i64 3] 0 xd) w.heap.size [.int .i64 (2 + x), .int .i64 3]) := bk_put Pd.out rfl
            have Me : Hid (Bk (putL w.heap.size [.int .i64 (2 + x), .int .i64 3] 0 xd) w1.heap.size [.int .i64 (2 + x), .int .i64 3]) := Md.out.sm hzs1 (sm_put (by omega) [.int .i64 (2 + x), .int .i64 3] 0 xd)
            have Ve : Hid (Bk (putL w.heap.size [.int .i64 (2 + x), .int .i64 3] 0 xd) w3.heap.size [.slice (some ⟨gS, 0, none⟩) C kS, .slice (some ⟨gA, 0, none⟩) C kA]) := Vd.out.sm hzs1 (sm_put (by omega) [.int .i64 (2 + x), .int .i64 3] 0 xd)
            have Qe : Hid (Bk (putL w.heap.size [.int .i64 (2 + x), .int .i64 3] 0 xd) (w.heap.size + 1) [.slice none 0 0, .slice none 0 0]) := Qd.out.sm hzs1 (sm_put (by omega) [.int .i64 (2 + x), .int .i64 3] 0 xd)
            have Re : Hid (RdB (putL w.heap.size [.int .i64 (2 + x), .int .i64 3] 0 xd) r ad len cap (m + 17)) := Rd.out.below (below_put (by omega) [.int .i64 (2 + x), .int .i64 3] 0 (Below.refl _ _))
            have Ke : Hid (Kept r w (putL w.heap.size [.int .i64 (2 + x), .int .i64 3] 0 xd)) := (Kd.out.setCell (q := ⟨w.heap.size, 0, none⟩) (.inl (by show w.heap.size ≤ w.heap.size; omega)) _).setCell (q := ⟨w.heap.size, 1, none⟩) (.inl (by show w.heap.size ≤ w.heap.size; omega)) _
            have Te : Hid (TabIn lo (putL w.heap.size [.int .i64 (2 + x), .int .i64 3] 0 xd) (.agg #[.slice (some ⟨gS, 0, none⟩) C kS, .slice (some ⟨gA, 0, none⟩) C kA]) Tv) := Td.out.sm hzs1 (fun b h1 h2 => sm_put (by omega) [.int .i64 (2 + x), .int .i64 3] 0 xd)
            clear hzs
            generalize (putL w.heap.size [.int .i64 (2 + x), .int .i64 3] 0 xd) = xe at *
            refine hK.out _ _ ⟨Me.out, Ve.out⟩ (fun hHelde => ?_)
            clear hK K Md Vd Pd Qd Rd Kd Td
            try simp only [Act.put, List.setIfInBounds_toArray, List.set_cons_zero, List.set_cons_succ, List.getElem_toArray, List.getElem_cons_zero, List.getElem_cons_succ]
            refine wpAnyH_ready (rs := [4]) (by kernel_rfl) (by simp) ?_
            refine AllReadyH.cons rfl (fun K hK => ?_) AllReadyH.nil
            have p0 : xe.cell? ⟨(w.heap.size + 1), 0, none⟩ = some (.slice none 0 0) := (Qe.out.2 0 (by simp)).1
            have p1 : xe.cell? ⟨(w.heap.size + 1), 1, none⟩ = some (.slice none 0 0) := (Qe.out.2 1 (by simp)).1
            have f0 : xe.frozen? ⟨(w.heap.size + 1), 0, none⟩ = false := (Qe.out.2 0 (by simp)).2
            have f1 : xe.frozen? ⟨(w.heap.size + 1), 1, none⟩ = false := (Qe.out.2 1 (by simp)).2
            have EP : Hid ((putL (w.heap.size + 1) [.slice (some ⟨gS, 0, none⟩) C kS, .slice (some ⟨gA, 0, none⟩) C kA] 0 xe) = ((xe.setCell ⟨(w.heap.size + 1), 0, none⟩ (.slice (some ⟨gS, 0, none⟩) C kS)).setCell ⟨(w.heap.size + 1), 1, none⟩ (.slice (some ⟨gA, 0, none⟩) C kA))) := rfl
            go_simp
            rw [← EP.out]
            clear p0 p1 f0 f1 EP
            have hzt : (putL (w.heap.size + 1) [.slice (some ⟨gS, 0, none⟩) C kS, .slice (some ⟨gA, 0, none⟩) C kA] 0 xe).heap.size = xe.heap.size := size_put _ _ _ _
            have hzt1 : xe.heap.size ≤ (putL (w.heap.size + 1) [.slice (some ⟨gS, 0, none⟩) C kS, .slice (some ⟨gA, 0, none⟩) C kA] 0 xe).heap.size := by omega
            have Qf : Hid (Bk (putL (w.heap.size + 1) [.slice (some ⟨gS, 0, none⟩) C kS, .slice (some ⟨gA, 0, none⟩) C kA] 0 xe) (w.heap.size + 1) [.slice (some ⟨gS, 0, none⟩) C kS, .slice (some ⟨gA, 0, none⟩) C kA]) := bk_put Qe.out rfl
            have Mf : Hid (Bk (putL (w.heap.size + 1) [.slice (some ⟨gS, 0, none⟩) C kS, .slice (some ⟨gA, 0, none⟩) C kA] 0 xe) w1.heap.size [.int .i64 (2 + x), .int .i64 3]) := Me.out.sm hzt1 (sm_put (by omega) [.slice (some ⟨gS, 0, none⟩) C kS, .slice (some ⟨gA, 0, none⟩) C kA] 0 xe)
            have Vf : Hid (Bk (putL (w.heap.size + 1) [.slice (some ⟨gS, 0, none⟩) C kS, .slice (some ⟨gA, 0, none⟩) C kA] 0 xe) w3.heap.size [.slice (some ⟨gS, 0, none⟩) C kS, .slice (some ⟨gA, 0, none⟩) C kA]) := Ve.out.sm hzt1 (sm_put (by omega) [.slice (some ⟨gS, 0, none⟩) C kS, .slice (some ⟨gA, 0, none⟩) C kA] 0 xe)
            have Pf : Hid (Bk (putL (w.heap.size + 1) [.slice (some ⟨gS, 0, none⟩) C kS, .slice (some ⟨gA, 0, none⟩) C kA] 0 xe) w.heap.size [.int .i64 (2 + x), .int .i64 3]) := Pe.out.sm hzt1 (sm_put (by omega) [.slice (some ⟨gS, 0, none⟩) C kS, .slice (some ⟨gA, 0, none⟩) C kA] 0 xe)
            have Rf : Hid (RdB (putL (w.heap.size + 1) [.slice (some ⟨gS, 0, none⟩) C kS, .slice (some ⟨gA, 0, none⟩) C kA] 0 xe) r ad len cap (m + 17)) := Re.out.below (below_put (by omega) [.slice (some ⟨gS, 0, none⟩) C kS, .slice (some ⟨gA, 0, none⟩) C kA] 0 (Below.refl _ _))
            have Kf : Hid (Kept r w (putL (w.heap.size + 1) [.slice (some ⟨gS, 0, none⟩) C kS, .slice (some ⟨gA, 0, none⟩) C kA] 0 xe)) := (Ke.out.setCell (q := ⟨(w.heap.size + 1), 0, none⟩) (.inl (by show w.heap.size ≤ (w.heap.size + 1); omega)) _).setCell (q := ⟨(w.heap.size + 1), 1, none⟩) (.inl (by show w.heap.size ≤ (w.heap.size + 1); omega)) _
            have Tf : Hid (TabIn lo (putL (w.heap.size + 1) [.slice (some ⟨gS, 0, none⟩) C kS, .slice (some ⟨gA, 0, none⟩) C kA] 0 xe) (.agg #[.slice (some ⟨gS, 0, none⟩) C kS, .slice (some ⟨gA, 0, none⟩) C kA]) Tv) := Te.out.sm hzt1 (fun b h1 h2 => sm_put (by omega) [.slice (some ⟨gS, 0, none⟩) C kS, .slice (some ⟨gA, 0, none⟩) C kA] 0 xe)
            clear hzt
            generalize (putL (w.heap.size + 1) [.slice (some ⟨gS, 0, none⟩) C kS, .slice (some ⟨gA, 0, none⟩) C kA] 0 xe) = xf at *
            refine hK.out _ _ ⟨Mf.out, Vf.out⟩ (fun hHeldf => ?_)
            clear hK K Me Ve Pe Qe Re Ke Te
            try simp only [Act.put, List.setIfInBounds_toArray, List.set_cons_zero, List.set_cons_succ, List.getElem_toArray, List.getElem_cons_zero, List.getElem_cons_succ]
            refine wpAnyH_take (i := 5) (v := .int .i64 1) rfl (by kernel_rfl) (by kernel_rfl) (by kernel_rfl) (fun _ _ _ h => h) (Or.inl ⟨by rfl, ?_⟩) (by assumption) ?_
            · intro wx hSw; go_simp
            try simp only [Act.put, List.setIfInBounds_toArray, List.set_cons_zero, List.set_cons_succ, List.getElem_toArray, List.getElem_cons_zero, List.getElem_cons_succ]
            refine wpAnyH_done (by kernel_rfl) ?_ _
            have p0 : xf.cell? ⟨w.heap.size, 0, none⟩ = some (.int .i64 (2 + x)) := (Pf.out.2 0 (by simp)).1
            have p1 : xf.cell? ⟨w.heap.size, 1, none⟩ = some (.int .i64 3) := (Pf.out.2 1 (by simp)).1
            have q0 : xf.cell? ⟨(w.heap.size + 1), 0, none⟩ = some (.slice (some ⟨gS, 0, none⟩) C kS) := (Qf.out.2 0 (by simp)).1
            have q1 : xf.cell? ⟨(w.heap.size + 1), 1, none⟩ = some (.slice (some ⟨gA, 0, none⟩) C kA) := (Qf.out.2 1 (by simp)).1
            go_wp2
            refine bodyPost_ret (v := .tuple #[.agg #[.int .i64 (2 + x), .int .i64 3], .agg #[.slice (some ⟨gS, 0, none⟩) C kS, .slice (some ⟨gA, 0, none⟩) C kA], .int .i64 1]) (by simp [results, Try.results14, go_sem, p0, p1, q0, q1]) rfl ⟨_, _, _, Tv, _, rfl, Tf.out.mono (by omega), (by have := HTS.out; exact ⟨by omega, by omega⟩), ⟨by omega, by omega⟩, Rf.out.more (by omega), Kf.out⟩
        · go_wp2_with fail
          refine (map_B R9.out (by omega)).mono ?_
          rintro e w10 ⟨c2, d2, rfl, hm2, hRp, hKp⟩
          have K10 : Hid (Kept r w w10) := K9.out.trans hKp
          have M10 : Hid (Bk w10 w1.heap.size [.int .i64 (2 + x), .int .i64 3]) := M9.out.kp hKp (by omega)
          have V10 : Hid (Bk w10 w3.heap.size [.slice (some ⟨gS, 0, none⟩) C kS, .slice (some ⟨gA, 0, none⟩) C kA]) := V9.out.kp hKp (by omega)
          have P10 : Hid (Bk w10 w.heap.size [.int .i64 0, .int .i64 0]) := P9.out.kp hKp (by omega)
          have Q10 : Hid (Bk w10 (w.heap.size + 1) [.slice none 0 0, .slice none 0 0]) := Q9.out.kp hKp (by omega)
          have O10 : Hid (OwnT lo hi w10 (.agg #[.slice (some ⟨gS, 0, none⟩) C kS, .slice (some ⟨gA, 0, none⟩) C kA]) Tv) := O9.out.kp hKp (by omega) (by omega)
          have hz10 := hKp.size
          have R10 : Hid (RdB w10 r ad len cap (m + 26)) := hRp.more (by omega)
          have c0 : w10.cell? ⟨w1.heap.size, 0, none⟩ = some (.int .i64 (2 + x)) := (M10.out.2 0 (by simp)).1
          have c1 : w10.cell? ⟨w1.heap.size, 1, none⟩ = some (.int .i64 3) := (M10.out.2 1 (by simp)).1
          have f0 : w10.frozen? ⟨w1.heap.size, 0, none⟩ = false := (M10.out.2 0 (by simp)).2
          have f1 : w10.frozen? ⟨w1.heap.size, 1, none⟩ = false := (M10.out.2 1 (by simp)).2
          clear hRp hKp hm2 K9 M9 V9 P9 Q9 O9 R9 OS OA
          have EP : Hid ((putL w1.heap.size [.int .i64 c2, .int .i64 d2] 0 w10) = ((w10.setCell ⟨w1.heap.size, 0, none⟩ (.int .i64 c2)).setCell ⟨w1.heap.size, 1, none⟩ (.int .i64 d2))) := rfl
          go_upto_region 23 with fail
          rw [← EP.out]
          clear c0 c1 f0 f1 EP
          have hzq : w10.heap.size ≤ (putL w1.heap.size [.int .i64 c2, .int .i64 d2] 0 w10).heap.size := Nat.le_of_eq (size_put _ _ _ _).symm
          have M11 : Hid (Bk (putL w1.heap.size [.int .i64 c2, .int .i64 d2] 0 w10) w1.heap.size [.int .i64 c2, .int .i64 d2]) := bk_put M10.out rfl
          have V11 : Hid (Bk (putL w1.heap.size [.int .i64 c2, .int .i64 d2] 0 w10) w3.heap.size [.slice (some ⟨gS, 0, none⟩) C kS, .slice (some ⟨gA, 0, none⟩) C kA]) := V10.out.sm hzq (sm_put (by omega) [.int .i64 c2, .int .i64 d2] 0 w10)
          have P11 : Hid (Bk (putL w1.heap.size [.int .i64 c2, .int .i64 d2] 0 w10) w.heap.size [.int .i64 0, .int .i64 0]) := P10.out.sm hzq (sm_put (by omega) [.int .i64 c2, .int .i64 d2] 0 w10)
          have Q11 : Hid (Bk (putL w1.heap.size [.int .i64 c2, .int .i64 d2] 0 w10) (w.heap.size + 1) [.slice none 0 0, .slice none 0 0]) := Q10.out.sm hzq (sm_put (by omega) [.int .i64 c2, .int .i64 d2] 0 w10)
          have T11 : TabIn lo (putL w1.heap.size [.int .i64 c2, .int .i64 d2] 0 w10) (.agg #[.slice (some ⟨gS, 0, none⟩) C kS, .slice (some ⟨gA, 0, none⟩) C kA]) Tv := O10.out.tabIn.sm hzq (fun b h1 h2 => sm_put (by omega) [.int .i64 c2, .int .i64 d2] 0 w10)
          have R11 : Hid (RdB (putL w1.heap.size [.int .i64 c2, .int .i64 d2] 0 w10) r ad len cap (m + 26)) := R10.out.below (below_put (by omega) [.int .i64 c2, .int .i64 d2] 0 (Below.refl _ _))
          have K11 : Hid (Kept r w (putL w1.heap.size [.int .i64 c2, .int .i64 d2] 0 w10)) := (K10.out.setCell (q := ⟨w1.heap.size, 0, none⟩) (.inl (by show w.heap.size ≤ w1.heap.size; omega)) _).setCell (q := ⟨w1.heap.size, 1, none⟩) (.inl (by show w.heap.size ≤ w1.heap.size; omega)) _
          clear K10 M10 V10 P10 Q10 O10 R10
          generalize (putL w1.heap.size [.int .i64 c2, .int .i64 d2] 0 w10) = w11 at *
          have Md : Hid (Bk w11.drew w1.heap.size [.int .i64 c2, .int .i64 d2]) := M11.out
          have Vd : Hid (Bk w11.drew w3.heap.size [.slice (some ⟨gS, 0, none⟩) C kS, .slice (some ⟨gA, 0, none⟩) C kA]) := V11.out
          have Pd : Hid (Bk w11.drew w.heap.size [.int .i64 0, .int .i64 0]) := P11.out
          have Qd : Hid (Bk w11.drew (w.heap.size + 1) [.slice none 0 0, .slice none 0 0]) := Q11.out
          have Rd : Hid (RdB w11.drew r ad len cap (m + 26)) := R11.out.drew
          have Kd : Hid (Kept r w w11.drew) := K11.out.drew
          have Td : Hid (TabIn lo w11.drew (.agg #[.slice (some ⟨gS, 0, none⟩) C kS, .slice (some ⟨gA, 0, none⟩) C kA]) Tv) := T11
          have hzd1 : w11.heap.size ≤ w11.drew.heap.size := Nat.le_refl _
          have hzd2 : w11.drew.heap.size ≤ w11.heap.size := Nat.le_refl _
          refine wp_region_held_drew (S := fun w' => Bk w' w1.heap.size [.int .i64 c2, .int .i64 d2] ∧ Bk w' w3.heap.size [.slice (some ⟨gS, 0, none⟩) C kS, .slice (some ⟨gA, 0, none⟩) C kA]) (by kernel_rfl) ⟨Md.out, Vd.out⟩ ?_
          intro hHeld
          clear M11 V11 P11 Q11 R11 K11
          generalize w11.drew = xd at *
          refine wpAnyH_take (i := 0) (v := .agg #[.int .i64 c2, .int .i64 d2]) rfl (by kernel_rfl) (by kernel_rfl) (by kernel_rfl) (fun _ _ _ h => h) (Or.inl ⟨by rfl, ?_⟩) (by assumption) ?_
          · intro wx hSw; obtain ⟨⟨_, sm⟩, ⟨_, sv⟩⟩ := hSw; have m0 : wx.cell? ⟨w1.heap.size, 0, none⟩ = some (.int .i64 c2) := (sm 0 (by simp)).1; have m1 : wx.cell? ⟨w1.heap.size, 1, none⟩ = some (.int .i64 d2) := (sm 1 (by simp)).1; have v0 : wx.cell? ⟨w3.heap.size, 0, none⟩ = some (.slice (some ⟨gS, 0, none⟩) C kS) := (sv 0 (by simp)).1; have v1 : wx.cell? ⟨w3.heap.size, 1, none⟩ = some (.slice (some ⟨gA, 0, none⟩) C kA) := (sv 1 (by simp)).1; clear sm sv; go_simp
          try simp only [Act.put, List.setIfInBounds_toArray, List.set_cons_zero, List.set_cons_succ, List.getElem_toArray, List.getElem_cons_zero]
          refine wpAnyH_take (i := 1) (v := .agg #[.slice (some ⟨gS, 0, none⟩) C kS, .slice (some ⟨gA, 0, none⟩) C kA]) rfl (by kernel_rfl) (by kernel_rfl) (by kernel_rfl) (fun _ _ _ h => h) (Or.inl ⟨by rfl, ?_⟩) (by assumption) ?_
          · intro wx hSw; obtain ⟨⟨_, sm⟩, ⟨_, sv⟩⟩ := hSw; have m0 : wx.cell? ⟨w1.heap.size, 0, none⟩ = some (.int .i64 c2) := (sm 0 (by simp)).1; have m1 : wx.cell? ⟨w1.heap.size, 1, none⟩ = some (.int .i64 d2) := (sm 1 (by simp)).1; have v0 : wx.cell? ⟨w3.heap.size, 0, none⟩ = some (.slice (some ⟨gS, 0, none⟩) C kS) := (sv 0 (by simp)).1; have v1 : wx.cell? ⟨w3.heap.size, 1, none⟩ = some (.slice (some ⟨gA, 0, none⟩) C kA) := (sv 1 (by simp)).1; clear sm sv; go_simp
          try simp only [Act.put, List.setIfInBounds_toArray, List.set_cons_zero, List.set_cons_succ, List.getElem_toArray, List.getElem_cons_zero, List.getElem_cons_succ]
          refine wpAnyH_take (i := 2) (v := .int .i64 (1 + x2)) rfl (by kernel_rfl) (by kernel_rfl) (by kernel_rfl) (fun _ _ _ h => h) (Or.inl ⟨by rfl, ?_⟩) (by assumption) ?_
          · intro wx hSw; go_simp
          try simp only [Act.put, List.setIfInBounds_toArray, List.set_cons_zero, List.set_cons_succ, List.getElem_toArray, List.getElem_cons_zero, List.getElem_cons_succ]
          refine wpAnyH_ready (rs := [3]) (by kernel_rfl) (by simp) ?_
          refine AllReadyH.cons rfl (fun K hK => ?_) AllReadyH.nil
          have p0 : xd.cell? ⟨w.heap.size, 0, none⟩ = some (.int .i64 0) := (Pd.out.2 0 (by simp)).1
          have p1 : xd.cell? ⟨w.heap.size, 1, none⟩ = some (.int .i64 0) := (Pd.out.2 1 (by simp)).1
          have f0 : xd.frozen? ⟨w.heap.size, 0, none⟩ = false := (Pd.out.2 0 (by simp)).2
          have f1 : xd.frozen? ⟨w.heap.size, 1, none⟩ = false := (Pd.out.2 1 (by simp)).2
          have EP : Hid ((putL w.heap.size [.int .i64 c2, .int .i64 d2] 0 xd) = ((xd.setCell ⟨w.heap.size, 0, none⟩ (.int .i64 c2)).setCell ⟨w.heap.size, 1, none⟩ (.int .i64 d2))) := rfl
          go_simp
          rw [← EP.out]
          clear p0 p1 f0 f1 EP
          have hzs : (putL w.heap.size [.int .i64 c2, .int .i64 d2] 0 xd).heap.size = xd.heap.size := size_put _ _ _ _
          have hzs1 : xd.heap.size ≤ (putL w.heap.size [.int .i64 c2, .int .i64 d2] 0 xd).heap.size := by omega
          have Pe : Hid (Bk (putL w.heap.size [.int .i64 c2, .int .i64 d2] 0 xd) w.heap.size [.int .i64 c2, .int .i64 d2]) := bk_put Pd.out rfl
          have Me : Hid (Bk (putL w.heap.size [.int .i64 c2, .int .i64 d2] 0 xd) w1.heap.size [.int .i64 c2, .int .i64 d2]) := Md.out.sm hzs1 (sm_put (by omega) [.int .i64 c2, .int .i64 d2] 0 xd)
          have Ve : Hid (Bk (putL w.heap.size [.int .i64 c2, .int .i64 d2] 0 xd) w3.heap.size [.slice (some ⟨gS, 0, none⟩) C kS, .slice (some ⟨gA, 0, none⟩) C kA]) := Vd.out.sm hzs1 (sm_put (by omega) [.int .i64 c2, .int .i64 d2] 0 xd)
          have Qe : Hid (Bk (putL w.heap.size [.int .i64 c2, .int .i64 d2] 0 xd) (w.heap.size + 1) [.slice none 0 0, .slice none 0 0]) := Qd.out.sm hzs1 (sm_put (by omega) [.int .i64 c2, .int .i64 d2] 0 xd)
          have Re : Hid (RdB (putL w.heap.size [.int .i64 c2, .int .i64 d2] 0 xd) r ad len cap (m + 26)) := Rd.out.below (below_put (by omega) [.int .i64 c2, .int .i64 d2] 0 (Below.refl _ _))
          have Ke : Hid (Kept r w (putL w.heap.size [.int .i64 c2, .int .i64 d2] 0 xd)) := (Kd.out.setCell (q := ⟨w.heap.size, 0, none⟩) (.inl (by show w.heap.size ≤ w.heap.size; omega)) _).setCell (q := ⟨w.heap.size, 1, none⟩) (.inl (by show w.heap.size ≤ w.heap.size; omega)) _
          have Te : Hid (TabIn lo (putL w.heap.size [.int .i64 c2, .int .i64 d2] 0 xd) (.agg #[.slice (some ⟨gS, 0, none⟩) C kS, .slice (some ⟨gA, 0, none⟩) C kA]) Tv) := Td.out.sm hzs1 (fun b h1 h2 => sm_put (by omega) [.int .i64 c2, .int .i64 d2] 0 xd)
          clear hzs
          generalize (putL w.heap.size [.int .i64 c2, .int .i64 d2] 0 xd) = xe at *
          refine hK.out _ _ ⟨Me.out, Ve.out⟩ (fun hHelde => ?_)
          clear hK K Md Vd Pd Qd Rd Kd Td
          try simp only [Act.put, List.setIfInBounds_toArray, List.set_cons_zero, List.set_cons_succ, List.getElem_toArray, List.getElem_cons_zero, List.getElem_cons_succ]
          refine wpAnyH_ready (rs := [4]) (by kernel_rfl) (by simp) ?_
          refine AllReadyH.cons rfl (fun K hK => ?_) AllReadyH.nil
          have p0 : xe.cell? ⟨(w.heap.size + 1), 0, none⟩ = some (.slice none 0 0) := (Qe.out.2 0 (by simp)).1
          have p1 : xe.cell? ⟨(w.heap.size + 1), 1, none⟩ = some (.slice none 0 0) := (Qe.out.2 1 (by simp)).1
          have f0 : xe.frozen? ⟨(w.heap.size + 1), 0, none⟩ = false := (Qe.out.2 0 (by simp)).2
          have f1 : xe.frozen? ⟨(w.heap.size + 1), 1, none⟩ = false := (Qe.out.2 1 (by simp)).2
          have EP : Hid ((putL (w.heap.size + 1) [.slice (some ⟨gS, 0, none⟩) C kS, .slice (some ⟨gA, 0, none⟩) C kA] 0 xe) = ((xe.setCell ⟨(w.heap.size + 1), 0, none⟩ (.slice (some ⟨gS, 0, none⟩) C kS)).setCell ⟨(w.heap.size + 1), 1, none⟩ (.slice (some ⟨gA, 0, none⟩) C kA))) := rfl
          go_simp
          rw [← EP.out]
          clear p0 p1 f0 f1 EP
          have hzt : (putL (w.heap.size + 1) [.slice (some ⟨gS, 0, none⟩) C kS, .slice (some ⟨gA, 0, none⟩) C kA] 0 xe).heap.size = xe.heap.size := size_put _ _ _ _
          have hzt1 : xe.heap.size ≤ (putL (w.heap.size + 1) [.slice (some ⟨gS, 0, none⟩) C kS, .slice (some ⟨gA, 0, none⟩) C kA] 0 xe).heap.size := by omega
          have Qf : Hid (Bk (putL (w.heap.size + 1) [.slice (some ⟨gS, 0, none⟩) C kS, .slice (some ⟨gA, 0, none⟩) C kA] 0 xe) (w.heap.size + 1) [.slice (some ⟨gS, 0, none⟩) C kS, .slice (some ⟨gA, 0, none⟩) C kA]) := bk_put Qe.out rfl
          have Mf : Hid (Bk (putL (w.heap.size + 1) [.slice (some ⟨gS, 0, none⟩) C kS, .slice (some ⟨gA, 0, none⟩) C kA] 0 xe) w1.heap.size [.int .i64 c2, .int .i64 d2]) := Me.out.sm hzt1 (sm_put (by omega) [.slice (some ⟨gS, 0, none⟩) C kS, .slice (some ⟨gA, 0, none⟩) C kA] 0 xe)
          have Vf : Hid (Bk (putL (w.heap.size + 1) [.slice (some ⟨gS, 0, none⟩) C kS, .slice (some ⟨gA, 0, none⟩) C kA] 0 xe) w3.heap.size [.slice (some ⟨gS, 0, none⟩) C kS, .slice (some ⟨gA, 0, none⟩) C kA]) := Ve.out.sm hzt1 (sm_put (by omega) [.slice (some ⟨gS, 0, none⟩) C kS, .slice (some ⟨gA, 0, none⟩) C kA] 0 xe)
          have Pf : Hid (Bk (putL (w.heap.size + 1) [.slice (some ⟨gS, 0, none⟩) C kS, .slice (some ⟨gA, 0, none⟩) C kA] 0 xe) w.heap.size [.int .i64 c2, .int .i64 d2]) := Pe.out.sm hzt1 (sm_put (by omega) [.slice (some ⟨gS, 0, none⟩) C kS, .slice (some ⟨gA, 0, none⟩) C kA] 0 xe)
          have Rf : Hid (RdB (putL (w.heap.size + 1) [.slice (some ⟨gS, 0, none⟩) C kS, .slice (some ⟨gA, 0, none⟩) C kA] 0 xe) r ad len cap (m + 26)) := Re.out.below (below_put (by omega) [.slice (some ⟨gS, 0, none⟩) C kS, .slice (some ⟨gA, 0, none⟩) C kA] 0 (Below.refl _ _))
          have Kf : Hid (Kept r w (putL (w.heap.size + 1) [.slice (some ⟨gS, 0, none⟩) C kS, .slice (some ⟨gA, 0, none⟩) C kA] 0 xe)) := (Ke.out.setCell (q := ⟨(w.heap.size + 1), 0, none⟩) (.inl (by show w.heap.size ≤ (w.heap.size + 1); omega)) _).setCell (q := ⟨(w.heap.size + 1), 1, none⟩) (.inl (by show w.heap.size ≤ (w.heap.size + 1); omega)) _
          have Tf : Hid (TabIn lo (putL (w.heap.size + 1) [.slice (some ⟨gS, 0, none⟩) C kS, .slice (some ⟨gA, 0, none⟩) C kA] 0 xe) (.agg #[.slice (some ⟨gS, 0, none⟩) C kS, .slice (some ⟨gA, 0, none⟩) C kA]) Tv) := Te.out.sm hzt1 (fun b h1 h2 => sm_put (by omega) [.slice (some ⟨gS, 0, none⟩) C kS, .slice (some ⟨gA, 0, none⟩) C kA] 0 xe)
          clear hzt
          generalize (putL (w.heap.size + 1) [.slice (some ⟨gS, 0, none⟩) C kS, .slice (some ⟨gA, 0, none⟩) C kA] 0 xe) = xf at *
          refine hK.out _ _ ⟨Mf.out, Vf.out⟩ (fun hHeldf => ?_)
          clear hK K Me Ve Pe Qe Re Ke Te
          try simp only [Act.put, List.setIfInBounds_toArray, List.set_cons_zero, List.set_cons_succ, List.getElem_toArray, List.getElem_cons_zero, List.getElem_cons_succ]
          refine wpAnyH_take (i := 5) (v := .int .i64 (1 + x2)) rfl (by kernel_rfl) (by kernel_rfl) (by kernel_rfl) (fun _ _ _ h => h) (Or.inl ⟨by rfl, ?_⟩) (by assumption) ?_
          · intro wx hSw; go_simp
          try simp only [Act.put, List.setIfInBounds_toArray, List.set_cons_zero, List.set_cons_succ, List.getElem_toArray, List.getElem_cons_zero, List.getElem_cons_succ]
          refine wpAnyH_done (by kernel_rfl) ?_ _
          have p0 : xf.cell? ⟨w.heap.size, 0, none⟩ = some (.int .i64 c2) := (Pf.out.2 0 (by simp)).1
          have p1 : xf.cell? ⟨w.heap.size, 1, none⟩ = some (.int .i64 d2) := (Pf.out.2 1 (by simp)).1
          have q0 : xf.cell? ⟨(w.heap.size + 1), 0, none⟩ = some (.slice (some ⟨gS, 0, none⟩) C kS) := (Qf.out.2 0 (by simp)).1
          have q1 : xf.cell? ⟨(w.heap.size + 1), 1, none⟩ = some (.slice (some ⟨gA, 0, none⟩) C kA) := (Qf.out.2 1 (by simp)).1
          go_wp2
          refine bodyPost_ret (v := .tuple #[.agg #[.int .i64 c2, .int .i64 d2], .agg #[.slice (some ⟨gS, 0, none⟩) C kS, .slice (some ⟨gA, 0, none⟩) C kA], .int .i64 (1 + x2)]) (by simp [results, Try.results14, go_sem, p0, p1, q0, q1]) rfl ⟨_, _, _, Tv, _, rfl, Tf.out.mono (by omega), (by have := HTS.out; exact ⟨by omega, by omega⟩), ⟨by omega, by omega⟩, Rf.out.more (by omega), Kf.out⟩
end Go.Proofs.Ytodmfbbicdbjdaa
