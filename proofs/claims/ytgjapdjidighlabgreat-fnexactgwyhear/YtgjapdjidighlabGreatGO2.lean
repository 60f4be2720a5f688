/- What an open book tells; conditions: those typed. -/
import Derived.Test.YtgjapdjidighlabGreatTk
import Derived.Test.YtgjapdjidighlabGreatGO1
namespace Go.Proofs.YtgjapdjidighlabGreat
open Go.RowKit Go.Deep
set_option linter.unusedVariables false
set_option maxRecDepth 20000 in
set_option maxHeartbeats 4000000 in
theorem told (lo mb n : Nat) (Kf : Nat → Int) (Bs : Nat → Nat) (Z : Nat → Nat → Int) (hn : n ≤ 1048576) (hr : ∀ a b, a < b → b < n → Kf a < Kf b) (w : World) (h : Op lo w mb n Kf Bs Z) :
    Calls Tryz.prog 26 #[.map (some mb)] w fun e w' => (∃ v, e = .returned (.agg #[v]) ∧ P10.RL w.heap.size w'.heap.size w' v n Z) ∧ Below w.heap.size w w' := by
  have HO : Hid (Op lo w mb n Kf Bs Z) := h
  have HKf : Hid (∀ a b, a < b → b < n → Kf a < Kf b) := hr
  clear h hr
  go_enter Tryz.func26, Tryz.ntmps26
  go_wp2_with fail
  obtain ⟨w0, e0⟩ : ∃ y, y = (w.alloc (.cells #[.slice none 0 0] 40)).alloc (.cells #[.slice none 0 0] 40) := ⟨_, rfl⟩
  have B1 : Hid (Below w.heap.size w w0) := by rw [e0]; exact ((Below.refl _ _).alloc (by simp) _).alloc (by simp) _
  have R2 : Hid (Bk w0 w.heap.size [.slice none 0 0]) := by rw [e0]; exact (bk_new w 40 [.slice none 0 0]).below ((Below.refl _ _).alloc (Nat.le_refl _) _)
  have K3 : Hid (Bk w0 (w.heap.size + 1) [.slice none 0 0]) := by rw [e0]; have := bk_new (w.alloc (.cells #[.slice none 0 0] 40)) 40 [.slice none 0 0]; rwa [show (w.alloc (.cells #[.slice none 0 0] 40)).heap.size = w.heap.size + 1 by simp] at this
  rw [← e0]
  clear e0
  have O0 := HO.out.below B1.out
  have k0 : w.heap.size + 1 < w0.heap.size := K3.out.1
  refine (byKey mb n (mapP Kf Bs n) ((List.range n).map Kf) Bs hn ?d1 ?d2 ?d3 ?d4 _ O0.2.1).mono ?_
  case d1 =>
    rw [List.pairwise_map, List.pairwise_iff_getElem]
    intro i j hi hj hij
    simp only [List.length_range] at hi hj
    simp only [List.getElem_range]
    exact HKf.out i j hij hj
  case d2 => intro z; rw [mapP_mem]; simp
  case d3 =>
    intro k hk
    simp only [List.length_map, List.length_range] at hk
    rw [show ((List.range n).map Kf)[k]! = Kf k by simp [hk]]
    exact mapP_some n hk HKf.out
  case d4 => simp; omega
  rintro e w1 ⟨⟨vp, rfl, hvp⟩, hb1⟩
  simp only [List.length_map, List.length_range] at hvp
  have B4 := hid (bthen B1.out hb1)
  have R4 := hid (R2.out.below hb1)
  have K4 := hid (K3.out.below hb1)
  clear B1 R2 K3
  have HP : Hid (w1.ownsRow w0.heap.size 94 1 vp n ((List.range n).flatMap (rowP Bs))) := hvp
  have OP : Hid (Op lo w1 mb n Kf Bs Z) := O0.below hb1
  obtain ⟨pa, pl, pc, ep⟩ := own_shape hvp
  subst ep
  have z1 := hb1.size
  clear hvp hb1 O0
  obtain ⟨gp, hgp⟩ : ∃ gp, (n = 0 ∧ pl = 0) ∨ (pa = some ⟨gp, 0, none⟩ ∧ pl = n ∧ w0.heap.size ≤ gp ∧ gp < w1.heap.size ∧ ∀ k, k < n → w1.cell? ⟨gp, k, none⟩ = some (.pointer (some ⟨Bs k, 0, none⟩))) := by
    rcases HP.out.2 with ⟨e, h0⟩ | ⟨g, cap, cur, e, hbg, hcur, hle⟩
    · injection e with e1 e2 e3; exact ⟨0, .inl ⟨h0, e2⟩⟩
    · injection e with e1 e2 e3
      refine ⟨g, .inr ⟨e1, e2, hbg, (Array.getElem?_eq_some_iff.1 hcur).1, fun k hk => ?_⟩⟩
      have ho := HP.out
      rw [e1, e2, e3] at ho
      rw [ho.cellAt k (by omega), P10.flat_getK (m := 1) (rowP Bs) (fun _ => rfl) (by decide) n k (by omega)]
      simp [rowP, Nat.mod_one]
  clear HP
  have hpl : pl = n := by rcases hgp with h | h <;> omega
  subst hpl
  go_wp2_with fail
  go_loopw [9] (fun i wr => ∃ (k : Nat) (a : Option Addr) (l cp : Nat), k ≤ pl ∧ i = .int .i64 k ∧ Bk wr (w.heap.size + 1) [.slice a l cp] ∧ Bk wr (w.heap.size) [.slice none 0 0] ∧ wr.ownsRow (w1.heap.size) 63 10 (.slice a l cp) k ((List.range k).flatMap (P10.rowK Z)) ∧ Below w.heap.size w wr ∧ w1.heap.size ≤ wr.heap.size ∧ ∀ b, b < w1.heap.size → ¬ b = w.heap.size + 1 → Sm w1 wr b) (fun i _ => pl - (intOf i).toNat)
  case atStart => exact ⟨0, none, 0, 0, Nat.zero_le _, rfl, K4.out, R4.out, ⟨rfl, .inl ⟨rfl, rfl⟩⟩, B4.out, Nat.le_refl _, fun b _ _ => Sm.refl _ _⟩
  case round =>
    obtain ⟨k, a, l, cp, hk, rfl, hKb, hR, hO, hB, hz, hsm⟩ := hrel
    by_cases hkn : k < pl
    · have hkn' : (k : Int) < pl := by omega
      obtain ⟨rfl, _, hg1, hg2, hgc⟩ : pa = some ⟨gp, 0, none⟩ ∧ True ∧ w0.heap.size ≤ gp ∧ gp < w1.heap.size ∧ ∀ k, k < pl → w1.cell? ⟨gp, k, none⟩ = some (.pointer (some ⟨Bs k, 0, none⟩)) := by rcases hgp with h | h; omega; exact h
      have pk : wr.cell? ⟨gp, k, none⟩ = some (.pointer (some ⟨Bs k, 0, none⟩)) := (hsm gp hg2 (by omega) k).1.trans (hgc k hkn)
      have lp : gp < wr.heap.size := by omega
      clear hgp hgc
      have hrow := (OP.out.2.2.1 k hkn).2
      have hbl : Bs k < w1.heap.size := hrow.1
      have hbn : ¬ Bs k = w.heap.size + 1 := by
        intro e
        have h1 := (HO.out.2.2.1 k hkn).2.1
        omega
      have c0 : wr.cell? ⟨Bs k, 0, none⟩ = some (.int .i64 (Z k 0)) := (hsm _ hbl hbn 0).1.trans (hrow.2 0 (by simp [P10.rowK])).1
      have c1 : wr.cell? ⟨Bs k, 1, none⟩ = some (.int .i64 (Z k 1)) := (hsm _ hbl hbn 1).1.trans (hrow.2 1 (by simp [P10.rowK])).1
      have c2 : wr.cell? ⟨Bs k, 2, none⟩ = some (.bool (P10.tr (Z k 2))) := (hsm _ hbl hbn 2).1.trans (hrow.2 2 (by simp [P10.rowK])).1
      have c3 : wr.cell? ⟨Bs k, 3, none⟩ = some (.int .i64 (Z k 3)) := (hsm _ hbl hbn 3).1.trans (hrow.2 3 (by simp [P10.rowK])).1
      have c4 : wr.cell? ⟨Bs k, 4, none⟩ = some (.int .i64 (Z k 4)) := (hsm _ hbl hbn 4).1.trans (hrow.2 4 (by simp [P10.rowK])).1
      have c5 : wr.cell? ⟨Bs k, 5, none⟩ = some (.int .i64 (Z k 5)) := (hsm _ hbl hbn 5).1.trans (hrow.2 5 (by simp [P10.rowK])).1
      have c6 : wr.cell? ⟨Bs k, 6, none⟩ = some (.int .i64 (Z k 6)) := (hsm _ hbl hbn 6).1.trans (hrow.2 6 (by simp [P10.rowK])).1
      have c7 : wr.cell? ⟨Bs k, 7, none⟩ = some (.int .i64 (Z k 7)) := (hsm _ hbl hbn 7).1.trans (hrow.2 7 (by simp [P10.rowK])).1
      have c8 : wr.cell? ⟨Bs k, 8, none⟩ = some (.int .i64 (Z k 8)) := (hsm _ hbl hbn 8).1.trans (hrow.2 8 (by simp [P10.rowK])).1
      have c9 : wr.cell? ⟨Bs k, 9, none⟩ = some (.int .i64 (Z k 9)) := (hsm _ hbl hbn 9).1.trans (hrow.2 9 (by simp [P10.rowK])).1
      have lw : Bs k < wr.heap.size := by omega
      clear hrow
      have QK : Hid (Bk wr (w.heap.size + 1) [.slice a l cp]) := hKb
      have QR : Hid (Bk wr (w.heap.size) [.slice none 0 0]) := hR
      have QO : Hid (wr.ownsRow (w1.heap.size) 63 10 (.slice a l cp) k ((List.range k).flatMap (P10.rowK Z))) := hO
      have QB : Hid (Below w.heap.size w wr) := hB
      have QS : Hid (∀ b, b < w1.heap.size → ¬ b = w.heap.size + 1 → Sm w1 wr b) := hsm
      clear hKb hR hO hB hsm
      go_wp2
      have hKb := QK.out
      have hR := QR.out
      have hO := QO.out
      have hB := QB.out
      have hsm := QS.out
      clear QK QR QO QB QS
      refine wp_region_held_drew (S := Rd [((Bs k), 0, .int .i64 (Z k 0)), ((Bs k), 1, .int .i64 (Z k 1)), ((Bs k), 2, .bool (P10.tr (Z k 2))), ((Bs k), 3, .int .i64 (Z k 3)), ((Bs k), 4, .int .i64 (Z k 4)), ((Bs k), 5, .int .i64 (Z k 5)), ((Bs k), 6, .int .i64 (Z k 6)), ((Bs k), 7, .int .i64 (Z k 7)), ((Bs k), 8, .int .i64 (Z k 8)), ((Bs k), 9, .int .i64 (Z k 9))]) (by kernel_rfl) ((by intro p hp; simp only [List.mem_cons, List.not_mem_nil, or_false] at hp; rcases hp with rfl | rfl | rfl | rfl | rfl | rfl | rfl | rfl | rfl | rfl <;> first | exact ⟨c0, lw⟩ | exact ⟨c1, lw⟩ | exact ⟨c2, lw⟩ | exact ⟨c3, lw⟩ | exact ⟨c4, lw⟩ | exact ⟨c5, lw⟩ | exact ⟨c6, lw⟩ | exact ⟨c7, lw⟩ | exact ⟨c8, lw⟩ | exact ⟨c9, lw⟩)) ?_
      intro hHeld
      obtain ⟨X0, hX0⟩ : ∃ X, X = wr.drew := ⟨_, rfl⟩
      have hb0 : Below wr.heap.size wr X0 := by rw [hX0]; exact (Below.refl _ _).drew
      rw [← hX0] at hHeld ⊢
      clear hX0
      replace hO := own_keep hO hb0
      replace hB := bthen hB hb0
      replace hKb := hKb.below hb0
      replace hR := hR.below hb0
      replace hsm : ∀ b, b < w1.heap.size → ¬ b = w.heap.size + 1 → Sm w1 X0 b := fun b q1 q2 => (hsm b q1 q2).trans (sm_below hb0 (by omega))
      have hz_X0 := hb0.size
      clear hb0
      refine tkl 0 (.pointer (some ⟨w.heap.size + 1, 0, none⟩)) rfl ?_ ?_
      · intro wx hSw; have s0 := hSw ((Bs k), 0, .int .i64 (Z k 0)) (by simp); have s1 := hSw ((Bs k), 1, .int .i64 (Z k 1)) (by simp); have s2 := hSw ((Bs k), 2, .bool (P10.tr (Z k 2))) (by simp); have s3 := hSw ((Bs k), 3, .int .i64 (Z k 3)) (by simp); have s4 := hSw ((Bs k), 4, .int .i64 (Z k 4)) (by simp); have s5 := hSw ((Bs k), 5, .int .i64 (Z k 5)) (by simp); have s6 := hSw ((Bs k), 6, .int .i64 (Z k 6)) (by simp); have s7 := hSw ((Bs k), 7, .int .i64 (Z k 7)) (by simp); have s8 := hSw ((Bs k), 8, .int .i64 (Z k 8)) (by simp); have s9 := hSw ((Bs k), 9, .int .i64 (Z k 9)) (by simp); obtain ⟨s0, t0⟩ := s0; obtain ⟨s1, t1⟩ := s1; obtain ⟨s2, t2⟩ := s2; obtain ⟨s3, t3⟩ := s3; obtain ⟨s4, t4⟩ := s4; obtain ⟨s5, t5⟩ := s5; obtain ⟨s6, t6⟩ := s6; obtain ⟨s7, t7⟩ := s7; obtain ⟨s8, t8⟩ := s8; obtain ⟨s9, t9⟩ := s9; go_simp
      try simp only [Act.put, aS]
      refine tkl 2 (.pointer (some ⟨Bs k, 0, none⟩)) rfl ?_ ?_
      · intro wx hSw; have s0 := hSw ((Bs k), 0, .int .i64 (Z k 0)) (by simp); have s1 := hSw ((Bs k), 1, .int .i64 (Z k 1)) (by simp); have s2 := hSw ((Bs k), 2, .bool (P10.tr (Z k 2))) (by simp); have s3 := hSw ((Bs k), 3, .int .i64 (Z k 3)) (by simp); have s4 := hSw ((Bs k), 4, .int .i64 (Z k 4)) (by simp); have s5 := hSw ((Bs k), 5, .int .i64 (Z k 5)) (by simp); have s6 := hSw ((Bs k), 6, .int .i64 (Z k 6)) (by simp); have s7 := hSw ((Bs k), 7, .int .i64 (Z k 7)) (by simp); have s8 := hSw ((Bs k), 8, .int .i64 (Z k 8)) (by simp); have s9 := hSw ((Bs k), 9, .int .i64 (Z k 9)) (by simp); obtain ⟨s0, t0⟩ := s0; obtain ⟨s1, t1⟩ := s1; obtain ⟨s2, t2⟩ := s2; obtain ⟨s3, t3⟩ := s3; obtain ⟨s4, t4⟩ := s4; obtain ⟨s5, t5⟩ := s5; obtain ⟨s6, t6⟩ := s6; obtain ⟨s7, t7⟩ := s7; obtain ⟨s8, t8⟩ := s8; obtain ⟨s9, t9⟩ := s9; go_simp
      try simp only [Act.put, aS]
      refine tkl 3 (.pointer (some ⟨Bs k, 0, none⟩)) rfl ?_ ?_
      · intro wx hSw; have s0 := hSw ((Bs k), 0, .int .i64 (Z k 0)) (by simp); have s1 := hSw ((Bs k), 1, .int .i64 (Z k 1)) (by simp); have s2 := hSw ((Bs k), 2, .bool (P10.tr (Z k 2))) (by simp); have s3 := hSw ((Bs k), 3, .int .i64 (Z k 3)) (by simp); have s4 := hSw ((Bs k), 4, .int .i64 (Z k 4)) (by simp); have s5 := hSw ((Bs k), 5, .int .i64 (Z k 5)) (by simp); have s6 := hSw ((Bs k), 6, .int .i64 (Z k 6)) (by simp); have s7 := hSw ((Bs k), 7, .int .i64 (Z k 7)) (by simp); have s8 := hSw ((Bs k), 8, .int .i64 (Z k 8)) (by simp); have s9 := hSw ((Bs k), 9, .int .i64 (Z k 9)) (by simp); obtain ⟨s0, t0⟩ := s0; obtain ⟨s1, t1⟩ := s1; obtain ⟨s2, t2⟩ := s2; obtain ⟨s3, t3⟩ := s3; obtain ⟨s4, t4⟩ := s4; obtain ⟨s5, t5⟩ := s5; obtain ⟨s6, t6⟩ := s6; obtain ⟨s7, t7⟩ := s7; obtain ⟨s8, t8⟩ := s8; obtain ⟨s9, t9⟩ := s9; go_simp
      try simp only [Act.put, aS]
      refine tkl 4 (.agg #[.int .i64 (Z k 0), .int .i64 (Z k 1), .bool (P10.tr (Z k 2)), .int .i64 (Z k 3), .int .i64 (Z k 4), .int .i64 (Z k 5), .int .i64 (Z k 6), .int .i64 (Z k 7), .int .i64 (Z k 8), .int .i64 (Z k 9)]) rfl ?_ ?_
      · intro wx hSw; have s0 := hSw ((Bs k), 0, .int .i64 (Z k 0)) (by simp); have s1 := hSw ((Bs k), 1, .int .i64 (Z k 1)) (by simp); have s2 := hSw ((Bs k), 2, .bool (P10.tr (Z k 2))) (by simp); have s3 := hSw ((Bs k), 3, .int .i64 (Z k 3)) (by simp); have s4 := hSw ((Bs k), 4, .int .i64 (Z k 4)) (by simp); have s5 := hSw ((Bs k), 5, .int .i64 (Z k 5)) (by simp); have s6 := hSw ((Bs k), 6, .int .i64 (Z k 6)) (by simp); have s7 := hSw ((Bs k), 7, .int .i64 (Z k 7)) (by simp); have s8 := hSw ((Bs k), 8, .int .i64 (Z k 8)) (by simp); have s9 := hSw ((Bs k), 9, .int .i64 (Z k 9)) (by simp); obtain ⟨s0, t0⟩ := s0; obtain ⟨s1, t1⟩ := s1; obtain ⟨s2, t2⟩ := s2; obtain ⟨s3, t3⟩ := s3; obtain ⟨s4, t4⟩ := s4; obtain ⟨s5, t5⟩ := s5; obtain ⟨s6, t6⟩ := s6; obtain ⟨s7, t7⟩ := s7; obtain ⟨s8, t8⟩ := s8; obtain ⟨s9, t9⟩ := s9; go_simp
      try simp only [Act.put, aS]
      refine rdy [1, 5] ?_
      refine (AllReadyH.cons rfl (fun K hK => ?_) (AllReadyH.cons rfl (fun K hK => ?_) AllReadyH.nil))
      · have kc := (hKb.2 0 (by simp)).1
        have kl := hKb.1
        simp only [List.getD, List.getElem?_cons_zero, Option.getD_some] at kc
        go_simp
        clear kc kl
        refine hK.out _ _ hHeld (fun hNew => ?_)
        clear hK K hHeld
        have hHeld := hNew
        clear hNew
        try simp only [Act.put, aS]
        refine rd1 5 rfl fun K hK => ?_
        go_simp
        obtain ⟨X2, e2⟩ : ∃ X, X = X0.alloc (.cells #[.int .i64 (Z k 0), .int .i64 (Z k 1), .bool (P10.tr (Z k 2)), .int .i64 (Z k 3), .int .i64 (Z k 4), .int .i64 (Z k 5), .int .i64 (Z k 6), .int .i64 (Z k 7), .int .i64 (Z k 8), .int .i64 (Z k 9)] 63) := ⟨_, rfl⟩
        rw [← e2]
        have hx2 : Below X0.heap.size X0 X2 := by rw [e2]; exact (Below.refl _ _).alloc (Nat.le_refl _) _
        have hnn : Hid (∀ j u, (P10.rowK (Z) k)[j]? = some u → X2.cell? ((⟨X0.heap.size, 0, none⟩ : Addr).add j) = some u) := by rw [e2]; exact cells_row X0 (Z) k
        clear e2
        replace hO := own_keep hO hx2
        replace hB := bthen hB hx2
        replace hKb := hKb.below hx2
        replace hR := hR.below hx2
        replace hsm : ∀ b, b < w1.heap.size → ¬ b = w.heap.size + 1 → Sm w1 X2 b := fun b q1 q2 => (hsm b q1 q2).trans (sm_below hx2 (by omega))
        have hz_X2 := hx2.size
        refine hK.out _ _ (hHeld.below hx2) (fun hNew => ?_)
        clear hK K hHeld
        have hHeld := hNew
        clear hNew
        try simp only [Act.put, aS]
        clear hx2
        refine rd1 6 rfl fun K hK => ?_
        rw [if_pos (by rfl)]
        refine app10 _ _ rfl (w1.heap.size) k _ _ rfl hO ⟨X0.heap.size, 0, none⟩ 1 (P10.rowK (Z) k) rfl rfl hnn.out (one_row _ _) (by omega) (by omega) ?_
        intro v3 X3 hO3 hg3
        obtain ⟨a3, l3, c3, ev3⟩ := own_shape hO3
        subst ev3
        have hz_X3 := hg3.size
        replace hB := below_row hB hO hg3 (by omega) (by omega)
        replace hKb := bk_grown hKb hO hg3 (by omega)
        replace hR := bk_grown hR hO hg3 (by omega)
        replace hsm : ∀ b, b < w1.heap.size → ¬ b = w.heap.size + 1 → Sm w1 X3 b := fun b q1 q2 => (hsm b q1 q2).trans (sm_grown hg3 (by omega) (fun e => by have := (hO.lt b e.symm).1; omega))
        refine hK.out _ _ (hHeld.grown hO hg3 (by intro p hp; simp only [List.mem_cons, List.not_mem_nil, or_false] at hp; rcases hp with rfl | rfl | rfl | rfl | rfl | rfl | rfl | rfl | rfl | rfl <;> exact .inl (by show Bs k < _; omega))) (fun hNew => ?_)
        clear hK K hHeld
        have hHeld := hNew
        clear hNew
        try simp only [Act.put, aS]
        clear hO hnn hg3
        rw [← rows_succ] at hO3
        refine tkl 7 (.pointer (some ⟨w.heap.size + 1, 0, none⟩)) rfl ?_ ?_
        · intro wx hSw; have s0 := hSw ((Bs k), 0, .int .i64 (Z k 0)) (by simp); have s1 := hSw ((Bs k), 1, .int .i64 (Z k 1)) (by simp); have s2 := hSw ((Bs k), 2, .bool (P10.tr (Z k 2))) (by simp); have s3 := hSw ((Bs k), 3, .int .i64 (Z k 3)) (by simp); have s4 := hSw ((Bs k), 4, .int .i64 (Z k 4)) (by simp); have s5 := hSw ((Bs k), 5, .int .i64 (Z k 5)) (by simp); have s6 := hSw ((Bs k), 6, .int .i64 (Z k 6)) (by simp); have s7 := hSw ((Bs k), 7, .int .i64 (Z k 7)) (by simp); have s8 := hSw ((Bs k), 8, .int .i64 (Z k 8)) (by simp); have s9 := hSw ((Bs k), 9, .int .i64 (Z k 9)) (by simp); obtain ⟨s0, t0⟩ := s0; obtain ⟨s1, t1⟩ := s1; obtain ⟨s2, t2⟩ := s2; obtain ⟨s3, t3⟩ := s3; obtain ⟨s4, t4⟩ := s4; obtain ⟨s5, t5⟩ := s5; obtain ⟨s6, t6⟩ := s6; obtain ⟨s7, t7⟩ := s7; obtain ⟨s8, t8⟩ := s8; obtain ⟨s9, t9⟩ := s9; go_simp
        try simp only [Act.put, aS]
        refine rd1 8 rfl fun K hK => ?_
        have kc := (hKb.2 0 (by simp)).1
        have kf := (hKb.2 0 (by simp)).2
        simp only [List.getD, List.getElem?_cons_zero, Option.getD_some] at kc
        go_simp
        clear kc kf
        obtain ⟨X4, e4⟩ : ∃ X, X = X3.setCell ⟨w.heap.size + 1, 0, none⟩ (.slice a3 l3 c3) := ⟨_, rfl⟩
        rw [← e4]
        replace hKb : Bk X4 (w.heap.size + 1) [.slice a3 l3 c3] := by rw [e4]; exact Bk.set (j := 0) hKb (by simp)
        replace hR : Bk X4 (w.heap.size) [.slice none 0 0] := by rw [e4]; exact hR.far (by omega)
        replace hsm : ∀ b, b < w1.heap.size → ¬ b = w.heap.size + 1 → Sm w1 X4 b := by rw [e4]; exact fun b q1 q2 o => ⟨(set_out (fun e => q2 e.1.symm)).trans (hsm b q1 q2 o).1, set_frozen.trans (hsm b q1 q2 o).2⟩
        replace hB : Below w.heap.size w X4 := by rw [e4]; exact hB.setCell (by show w.heap.size ≤ w.heap.size + 1; omega) _
        have hO4 : X4.ownsRow (w1.heap.size) 63 10 (.slice a3 l3 c3) (k + 1) ((List.range (k + 1)).flatMap (P10.rowK (Z))) := by rw [e4]; exact own_far hO3 (by omega)
        refine hK.out _ _ (by rw [e4]; exact hHeld.set (by simp <;> omega)) (fun hNew => ?_)
        have hz_X4 : X3.heap.size ≤ X4.heap.size := by rw [e4]; exact Nat.le_of_eq set_size.symm
        clear hK K hHeld
        have hHeld := hNew
        clear hNew
        try simp only [Act.put, aS]
        clear e4 hO3
        refine wpAnyH_done (by kernel_rfl) ?_ _
        clear hHeld
        go_wp2
        go_roundw
        case rel => exact ⟨k + 1, a3, l3, c3, by omega, by go_num, hKb, hR, hO4, hB, by omega, hsm⟩
        case measure => simp [intOf]; omega
      · go_simp
        obtain ⟨X2, e2⟩ : ∃ X, X = X0.alloc (.cells #[.int .i64 (Z k 0), .int .i64 (Z k 1), .bool (P10.tr (Z k 2)), .int .i64 (Z k 3), .int .i64 (Z k 4), .int .i64 (Z k 5), .int .i64 (Z k 6), .int .i64 (Z k 7), .int .i64 (Z k 8), .int .i64 (Z k 9)] 63) := ⟨_, rfl⟩
        rw [← e2]
        have hx2 : Below X0.heap.size X0 X2 := by rw [e2]; exact (Below.refl _ _).alloc (Nat.le_refl _) _
        have hnn : Hid (∀ j u, (P10.rowK (Z) k)[j]? = some u → X2.cell? ((⟨X0.heap.size, 0, none⟩ : Addr).add j) = some u) := by rw [e2]; exact cells_row X0 (Z) k
        clear e2
        replace hO := own_keep hO hx2
        replace hB := bthen hB hx2
        replace hKb := hKb.below hx2
        replace hR := hR.below hx2
        replace hsm : ∀ b, b < w1.heap.size → ¬ b = w.heap.size + 1 → Sm w1 X2 b := fun b q1 q2 => (hsm b q1 q2).trans (sm_below hx2 (by omega))
        have hz_X2 := hx2.size
        refine hK.out _ _ (hHeld.below hx2) (fun hNew => ?_)
        clear hK K hHeld
        have hHeld := hNew
        clear hNew
        try simp only [Act.put, aS]
        clear hx2
        refine rd1 1 rfl fun K hK => ?_
        have kc := (hKb.2 0 (by simp)).1
        have kl := hKb.1
        simp only [List.getD, List.getElem?_cons_zero, Option.getD_some] at kc
        go_simp
        clear kc kl
        refine hK.out _ _ hHeld (fun hNew => ?_)
        clear hK K hHeld
        have hHeld := hNew
        clear hNew
        try simp only [Act.put, aS]
        refine rd1 6 rfl fun K hK => ?_
        rw [if_pos (by rfl)]
        refine app10 _ _ rfl (w1.heap.size) k _ _ rfl hO ⟨X0.heap.size, 0, none⟩ 1 (P10.rowK (Z) k) rfl rfl hnn.out (one_row _ _) (by omega) (by omega) ?_
        intro v3 X3 hO3 hg3
        obtain ⟨a3, l3, c3, ev3⟩ := own_shape hO3
        subst ev3
        have hz_X3 := hg3.size
        replace hB := below_row hB hO hg3 (by omega) (by omega)
        replace hKb := bk_grown hKb hO hg3 (by omega)
        replace hR := bk_grown hR hO hg3 (by omega)
        replace hsm : ∀ b, b < w1.heap.size → ¬ b = w.heap.size + 1 → Sm w1 X3 b := fun b q1 q2 => (hsm b q1 q2).trans (sm_grown hg3 (by omega) (fun e => by have := (hO.lt b e.symm).1; omega))
        refine hK.out _ _ (hHeld.grown hO hg3 (by intro p hp; simp only [List.mem_cons, List.not_mem_nil, or_false] at hp; rcases hp with rfl | rfl | rfl | rfl | rfl | rfl | rfl | rfl | rfl | rfl <;> exact .inl (by show Bs k < _; omega))) (fun hNew => ?_)
        clear hK K hHeld
        have hHeld := hNew
        clear hNew
        try simp only [Act.put, aS]
        clear hO hnn hg3
        rw [← rows_succ] at hO3
        refine tkl 7 (.pointer (some ⟨w.heap.size + 1, 0, none⟩)) rfl ?_ ?_
        · intro wx hSw; have s0 := hSw ((Bs k), 0, .int .i64 (Z k 0)) (by simp); have s1 := hSw ((Bs k), 1, .int .i64 (Z k 1)) (by simp); have s2 := hSw ((Bs k), 2, .bool (P10.tr (Z k 2))) (by simp); have s3 := hSw ((Bs k), 3, .int .i64 (Z k 3)) (by simp); have s4 := hSw ((Bs k), 4, .int .i64 (Z k 4)) (by simp); have s5 := hSw ((Bs k), 5, .int .i64 (Z k 5)) (by simp); have s6 := hSw ((Bs k), 6, .int .i64 (Z k 6)) (by simp); have s7 := hSw ((Bs k), 7, .int .i64 (Z k 7)) (by simp); have s8 := hSw ((Bs k), 8, .int .i64 (Z k 8)) (by simp); have s9 := hSw ((Bs k), 9, .int .i64 (Z k 9)) (by simp); obtain ⟨s0, t0⟩ := s0; obtain ⟨s1, t1⟩ := s1; obtain ⟨s2, t2⟩ := s2; obtain ⟨s3, t3⟩ := s3; obtain ⟨s4, t4⟩ := s4; obtain ⟨s5, t5⟩ := s5; obtain ⟨s6, t6⟩ := s6; obtain ⟨s7, t7⟩ := s7; obtain ⟨s8, t8⟩ := s8; obtain ⟨s9, t9⟩ := s9; go_simp
        try simp only [Act.put, aS]
        refine rd1 8 rfl fun K hK => ?_
        have kc := (hKb.2 0 (by simp)).1
        have kf := (hKb.2 0 (by simp)).2
        simp only [List.getD, List.getElem?_cons_zero, Option.getD_some] at kc
        go_simp
        clear kc kf
        obtain ⟨X4, e4⟩ : ∃ X, X = X3.setCell ⟨w.heap.size + 1, 0, none⟩ (.slice a3 l3 c3) := ⟨_, rfl⟩
        rw [← e4]
        replace hKb : Bk X4 (w.heap.size + 1) [.slice a3 l3 c3] := by rw [e4]; exact Bk.set (j := 0) hKb (by simp)
        replace hR : Bk X4 (w.heap.size) [.slice none 0 0] := by rw [e4]; exact hR.far (by omega)
        replace hsm : ∀ b, b < w1.heap.size → ¬ b = w.heap.size + 1 → Sm w1 X4 b := by rw [e4]; exact fun b q1 q2 o => ⟨(set_out (fun e => q2 e.1.symm)).trans (hsm b q1 q2 o).1, set_frozen.trans (hsm b q1 q2 o).2⟩
        replace hB : Below w.heap.size w X4 := by rw [e4]; exact hB.setCell (by show w.heap.size ≤ w.heap.size + 1; omega) _
        have hO4 : X4.ownsRow (w1.heap.size) 63 10 (.slice a3 l3 c3) (k + 1) ((List.range (k + 1)).flatMap (P10.rowK (Z))) := by rw [e4]; exact own_far hO3 (by omega)
        refine hK.out _ _ (by rw [e4]; exact hHeld.set (by simp <;> omega)) (fun hNew => ?_)
        have hz_X4 : X3.heap.size ≤ X4.heap.size := by rw [e4]; exact Nat.le_of_eq set_size.symm
        clear hK K hHeld
        have hHeld := hNew
        clear hNew
        try simp only [Act.put, aS]
        clear e4 hO3
        refine wpAnyH_done (by kernel_rfl) ?_ _
        clear hHeld
        go_wp2
        go_roundw
        case rel => exact ⟨k + 1, a3, l3, c3, by omega, by go_num, hKb, hR, hO4, hB, by omega, hsm⟩
        case measure => simp [intOf]; omega
    · have hkk : k = pl := by omega
      subst hkk
      have kc : wr.cell? ⟨w.heap.size + 1, 0, none⟩ = some (.slice a l cp) := (hKb.2 0 (by simp)).1
      have kl := hKb.1
      have rc : wr.cell? ⟨w.heap.size, 0, none⟩ = some (.slice none 0 0) := (hR.2 0 (by simp)).1
      have rf : wr.frozen? ⟨w.heap.size, 0, none⟩ = false := (hR.2 0 (by simp)).2
      have QK : Hid (Bk wr (w.heap.size + 1) [.slice a l cp]) := hKb
      have QR : Hid (Bk wr (w.heap.size) [.slice none 0 0]) := hR
      have QO : Hid (wr.ownsRow (w1.heap.size) 63 10 (.slice a l cp) k ((List.range k).flatMap (P10.rowK Z))) := hO
      have QB : Hid (Below w.heap.size w wr) := hB
      have QS : Hid (∀ b, b < w1.heap.size → ¬ b = w.heap.size + 1 → Sm w1 wr b) := hsm
      clear hKb hR hO hB hsm
      go_wp2
      refine bodyPost_ret (v := .agg #[.slice a l cp]) (by simp [results, Tryz.results26, go_sem, *]) rfl ?_
      exact ⟨⟨_, rfl, rl_mono (P10.rl_of_own (own_far QO.out (g := w.heap.size) (by omega))) (by omega)⟩, QB.out.setCell (Nat.le_refl _) _⟩
end Go.Proofs.YtgjapdjidighlabGreat
