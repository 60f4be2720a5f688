/- l5In of the model; conditions: the cell lies in memory of its own. -/
import Derived.Test.YthbkjfkkdaheoaaGreatDoorTk
import Derived.Test.YthbkjfkkdaheoaaGreatDoorDo9
import Derived.Test.YthbkjfkkdaheoaaGreatDoorAs1
import Derived.Test.YthbkjfkkdaheoaaGreatDoorMo3
namespace Go.Proofs.YthbkjfkkdaheoaaGreatDoor
open Go.RowKit Go.Deep
set_option linter.unusedVariables false
theorem zq_zq (Z : Nat → Int) (s a b : Int) : zq (zq Z s a) s b = zq Z s b := by
  funext j
  match j with
  | 0 => rfl
  | 1 => rfl
  | 2 => rfl
  | 3 => rfl
  | _ + 4 => rfl
def deeds : List Value := [.nilFunc, .func (.func 133) #[] #[], .func (.func 134) #[] #[], .func (.func 135) #[] #[], .func (.func 136) #[] #[], .func (.func 137) #[] #[], .func (.func 138) #[] #[]]
theorem store_func (W : World) (p : Addr) (g : Nat) (h1 : (W.cell? p).isSome = true) (h2 : W.frozen? p = false) : (store p (.func (.func g) #[] #[])).run Tryz.prog W = .ok () (W.setCell p (.func (.func g) #[] #[])) := by
  rw [run_store Tryz.prog W p _ _ (by rfl)]
  cases h : W.cell? p with
  | none => rw [h] at h1; cases h1
  | some v => simp [h2]
theorem store_nilf (W : World) (p : Addr) (h1 : (W.cell? p).isSome = true) (h2 : W.frozen? p = false) : (store p .nilFunc).run Tryz.prog W = .ok () (W.setCell p .nilFunc) := by
  rw [run_store Tryz.prog W p _ _ (by rfl)]
  cases h : W.cell? p with
  | none => rw [h] at h1; cases h1
  | some v => simp [h2]
set_option maxRecDepth 20000 in
set_option maxHeartbeats 4000000 in
theorem doFresh_gen (c d o sq t nn : Int) (s b lo m : Nat) (V : CV) (n : Nat) (hr : Rise V.W V.nW) (hm : m < V.nW) (hz : V.W m 0 = o) (hwf : (Lit.int .i64 o).wf = true) (kk f : Nat) (hkk : kk < 7) (hf : deeds.getD kk undef = .func (.func f) #[] #[]) (he : ∀ (args : Array Value) (w : World), (callFunc f args).run Tryz.prog w = .ok (.enter f args) w) (code : Int) (hcode : 1 ≤ code ∧ code ≤ 9) (V2 : CV) (hV2 : code ≠ 1 → V2 = V.setW m (zq (V.W m) sq 1)) (w : World)
    (HD : ∀ w', Sv w' c d s b lo (V.setW m (zq (V.W m) sq 1)) (n + 1) → Calls Tryz.prog f #[.pointer (some ⟨s, 0, none⟩), .agg #[.int .i64 o, .int .i64 sq, .int .i64 (kk : Int), .int .i64 t, .int .i64 nn]] w' fun e w'' => e = .returned (refV code) ∧ Sv w'' c d s b lo V2 (n + 1 + 3) ∧ Below lo w' w'' ∧ (code ≠ 1 → Below w'.heap.size w' w''))
    (hg0 : w.cell? ⟨0, 0, none⟩ = some (.iface 220 (.agg #[.pointer (some ⟨1, 178, none⟩)]))) (hlo : 0 < lo) (h : Sv w c d s b lo V n) :
    Calls Tryz.prog 92 #[.pointer (some ⟨s, 0, none⟩), .agg #[.int .i64 o, .int .i64 sq, .int .i64 (kk : Int), .int .i64 t, .int .i64 nn]] w fun e w' => e = .returned (.int .i64 code) ∧ Sv w' c d s b lo (if code = 1 then V2 else V.setW m (zq (V.W m) sq code)) (n + 5) ∧ Below lo w w' := by
  have HZ : Hid (V.W m 0 = o) := hz
  clear hz
  obtain ⟨_, ls, ll, lb, lbw, nsb, _⟩ := h.at
  go_enter Tryz.func92, Tryz.ntmps92
  go_upto_region 1 with fail
  obtain ⟨w0, e0⟩ : ∃ w0, w0 = w.alloc (.cells #[.int .i64 o, .int .i64 sq, .int .i64 (kk : Int), .int .i64 t, .int .i64 nn] 41) := ⟨_, rfl⟩
  have hb0 : Below w.heap.size w w0 := by rw [e0]; exact (Below.refl _ _).alloc (Nat.le_refl _) _
  have X0 : Bk w0 w.heap.size [.int .i64 o, .int .i64 sq, .int .i64 (kk : Int), .int .i64 t, .int .i64 nn] := by rw [e0]; exact bk_new w 41 [.int .i64 o, .int .i64 sq, .int .i64 (kk : Int), .int .i64 t, .int .i64 nn]
  rw [← e0]
  clear e0
  have z0 := X0.1
  have B1 : Hid (Below w.heap.size w w0) := hb0
  have P2 : Hid (Bk w0 w.heap.size [.int .i64 o, .int .i64 sq, .int .i64 (kk : Int), .int .i64 t, .int .i64 nn]) := X0
  have S3 : Hid (Sv w0 c d s b lo V n) := h.below hb0
  clear X0 hb0 h
  obtain ⟨yP0, yP1, yP2, yP3, yP4⟩ := P2.out.a5
  have hlP : w.heap.size < w0.heap.size := P2.out.1
  go_wp2_with fail
  clear yP0 yP1 yP2 yP3 yP4 hlP
  refine (note_impl c d o sq (kk : Int) t nn s b lo m V n hr hm HZ.out hwf 1 _ S3.out).mono ?_
  rintro e w1 ⟨rfl, hS1, hB1, hG1⟩
  have z1 := hB1.size
  have PL1 := hid (P2.out.sm z1 (hG1 w.heap.size (by omega) (by omega)))
  have SL1 : Hid (Sv w1 c d s b lo (V.setW m (zq (V.W m) sq 1)) (n + 1)) := hS1
  have BL1 : Hid (Below lo w w1) := (B1.out.mono (by omega)).trans hB1
  clear hS1 hB1 hG1 B1 P2 S3
  have hst := @store_func
  have hsn := @store_nilf
  go_upto_region 3 with fail
  obtain ⟨w2, e2⟩ : ∃ X, X = w1.alloc (.cells #[.nilFunc, .func (.func 133) #[] #[], .func (.func 134) #[] #[], .func (.func 135) #[] #[], .func (.func 136) #[] #[], .func (.func 137) #[] #[], .func (.func 138) #[] #[]] 176) := ⟨_, rfl⟩
  rw [← e2]
  have hb2 : Below w1.heap.size w1 w2 := by rw [e2]; exact (Below.refl _ _).alloc (Nat.le_refl _) _
  have hA : Bk w2 w1.heap.size deeds := by rw [e2]; exact bk_new w1 176 deeds
  clear e2 hst hsn
  have z2 := hb2.size
  have hP : Bk w2 w.heap.size [.int .i64 o, .int .i64 sq, .int .i64 (kk : Int), .int .i64 t, .int .i64 nn] := PL1.out.below hb2
  have hS : Sv w2 c d s b lo (V.setW m (zq (V.W m) sq 1)) (n + 1) := SL1.out.below hb2
  have B2 : Hid (Below lo w w2) := BL1.out.trans (hb2.mono (by omega))
  clear PL1 SL1 BL1 hb2
  have HF : Hid (deeds.getD kk undef = .func (.func f) #[] #[]) := hf
  have HDD : Hid _ := HD
  have HE : Hid (∀ (args : Array Value) (w : World), (callFunc f args).run Tryz.prog w = .ok (.enter f args) w) := he
  have hkk' : (kk : Int) < 7 := by omega
  clear hf HD he
  go_cut [6] (fun p wx => refV code = p ∧ Sv wx c d s b lo V2 (n + 4) ∧ Below lo w wx ∧ (code ≠ 1 → Bk wx w.heap.size [.int .i64 o, .int .i64 sq, .int .i64 (kk : Int), .int .i64 t, .int .i64 nn]))
  case first =>
    refine wp_region_held_drew (S := fun w' => Below (lo) w2 w') (by kernel_rfl) ((Below.refl _ _).drew) ?_
    intro hHeld
    obtain ⟨X0, hX0⟩ : ∃ X, X = w2.drew := ⟨_, rfl⟩
    have hz0 : w2.heap.size ≤ X0.heap.size := by rw [hX0]; exact Nat.le_refl _
    rw [← hX0] at hHeld ⊢
    replace hP := hP.below (show Below w2.heap.size w2 X0 by rw [hX0]; exact (Below.refl _ _).drew)
    replace hA := hA.below (show Below w2.heap.size w2 X0 by rw [hX0]; exact (Below.refl _ _).drew)
    replace hS := hS.below (show Below w2.heap.size w2 X0 by rw [hX0]; exact (Below.refl _ _).drew)
    clear hX0
    refine tkl 0 (.pointer (some ⟨w.heap.size, 2, none⟩)) rfl ?_ ?_
    · intro wx hSw; obtain ⟨hcS, hfS⟩ := bcellN hSw; go_simp
    try simp only [Act.put, aS]
    refine tkl 4 (.pointer (some ⟨s, 0, none⟩)) rfl ?_ ?_
    · intro wx hSw; obtain ⟨hcS, hfS⟩ := bcellN hSw; go_simp
    try simp only [Act.put, aS]
    refine rdy [1, 5] ?_
    refine (AllReadyH.cons rfl (fun K hK => ?_) (AllReadyH.cons rfl (fun K hK => ?_) AllReadyH.nil))
    · have q0 : X0.cell? ⟨w.heap.size, 0, none⟩ = some (.int .i64 o) := (hP.2 0 (by simp)).1
      have q1 : X0.cell? ⟨w.heap.size, 1, none⟩ = some (.int .i64 sq) := (hP.2 1 (by simp)).1
      have q2 : X0.cell? ⟨w.heap.size, 2, none⟩ = some (.int .i64 (kk : Int)) := (hP.2 2 (by simp)).1
      have q3 : X0.cell? ⟨w.heap.size, 3, none⟩ = some (.int .i64 t) := (hP.2 3 (by simp)).1
      have q4 : X0.cell? ⟨w.heap.size, 4, none⟩ = some (.int .i64 nn) := (hP.2 4 (by simp)).1
      have ql := hP.1
      go_simp
      clear q0 q1 q2 q3 q4 ql
      refine hK.out _ _ hHeld (fun hNew => ?_)
      clear hK K hHeld
      have hHeld := hNew
      clear hNew
      try simp only [Act.put, aS]
      refine tkl 2 (.pointer (some ⟨w1.heap.size, kk, none⟩)) rfl ?_ ?_
      · intro wx hSw; obtain ⟨hcS, hfS⟩ := bcellN hSw; go_simp
      try simp only [Act.put, aS]
      refine rdy [3, 5] ?_
      refine (AllReadyH.cons rfl (fun K hK => ?_) (AllReadyH.cons rfl (fun K hK => ?_) AllReadyH.nil))
      · have qa : X0.cell? ⟨w1.heap.size, kk, none⟩ = some (.func (.func f) #[] #[]) := by rw [(hA.2 kk hkk).1, HF.out]
        have ql := hA.1
        go_simp
        clear qa ql
        refine hK.out _ _ hHeld (fun hNew => ?_)
        clear hK K hHeld
        have hHeld := hNew
        clear hNew
        try simp only [Act.put, aS]
        refine rd1 5 rfl fun K hK => ?_
        have q0 : X0.cell? ⟨w.heap.size, 0, none⟩ = some (.int .i64 o) := (hP.2 0 (by simp)).1
        have q1 : X0.cell? ⟨w.heap.size, 1, none⟩ = some (.int .i64 sq) := (hP.2 1 (by simp)).1
        have q2 : X0.cell? ⟨w.heap.size, 2, none⟩ = some (.int .i64 (kk : Int)) := (hP.2 2 (by simp)).1
        have q3 : X0.cell? ⟨w.heap.size, 3, none⟩ = some (.int .i64 t) := (hP.2 3 (by simp)).1
        have q4 : X0.cell? ⟨w.heap.size, 4, none⟩ = some (.int .i64 nn) := (hP.2 4 (by simp)).1
        have ql := hP.1
        go_simp
        clear q0 q1 q2 q3 q4 ql
        refine hK.out _ _ hHeld (fun hNew => ?_)
        clear hK K hHeld
        have hHeld := hNew
        clear hNew
        try simp only [Act.put, aS]
        refine rd1 6 rfl fun K hK => ?_
        go_simp
        rw [HE.out, Oper.upon_enter]
        refine (HDD.out _ hS).mono ?_
        rintro e X5 ⟨rfl, hS5, hB5, hR5⟩
        refine hK.out _ _ (hHeld.trans hB5) (fun hNew => ?_)
        clear hK K hHeld
        have hHeld := hNew
        clear hNew
        try simp only [Act.put, aS]
        refine tkl 7 (refV code) rfl ?_ ?_
        · intro wx hSw; obtain ⟨hcS, hfS⟩ := bcellN hSw; go_simp
        try simp only [Act.put, aS]
        refine wpAnyH_done (by kernel_rfl) ?_ _
        go_wp2
        go_meet
        case rel => exact ⟨rfl, hS5, B2.out.trans hHeld, fun e => hP.below (hR5 e)⟩
      · have q0 : X0.cell? ⟨w.heap.size, 0, none⟩ = some (.int .i64 o) := (hP.2 0 (by simp)).1
        have q1 : X0.cell? ⟨w.heap.size, 1, none⟩ = some (.int .i64 sq) := (hP.2 1 (by simp)).1
        have q2 : X0.cell? ⟨w.heap.size, 2, none⟩ = some (.int .i64 (kk : Int)) := (hP.2 2 (by simp)).1
        have q3 : X0.cell? ⟨w.heap.size, 3, none⟩ = some (.int .i64 t) := (hP.2 3 (by simp)).1
        have q4 : X0.cell? ⟨w.heap.size, 4, none⟩ = some (.int .i64 nn) := (hP.2 4 (by simp)).1
        have ql := hP.1
        go_simp
        clear q0 q1 q2 q3 q4 ql
        refine hK.out _ _ hHeld (fun hNew => ?_)
        clear hK K hHeld
        have hHeld := hNew
        clear hNew
        try simp only [Act.put, aS]
        refine rd1 3 rfl fun K hK => ?_
        have qa : X0.cell? ⟨w1.heap.size, kk, none⟩ = some (.func (.func f) #[] #[]) := by rw [(hA.2 kk hkk).1, HF.out]
        have ql := hA.1
        go_simp
        clear qa ql
        refine hK.out _ _ hHeld (fun hNew => ?_)
        clear hK K hHeld
        have hHeld := hNew
        clear hNew
        try simp only [Act.put, aS]
        refine rd1 6 rfl fun K hK => ?_
        go_simp
        rw [HE.out, Oper.upon_enter]
        refine (HDD.out _ hS).mono ?_
        rintro e X5 ⟨rfl, hS5, hB5, hR5⟩
        refine hK.out _ _ (hHeld.trans hB5) (fun hNew => ?_)
        clear hK K hHeld
        have hHeld := hNew
        clear hNew
        try simp only [Act.put, aS]
        refine tkl 7 (refV code) rfl ?_ ?_
        · intro wx hSw; obtain ⟨hcS, hfS⟩ := bcellN hSw; go_simp
        try simp only [Act.put, aS]
        refine wpAnyH_done (by kernel_rfl) ?_ _
        go_wp2
        go_meet
        case rel => exact ⟨rfl, hS5, B2.out.trans hHeld, fun e => hP.below (hR5 e)⟩
    · have q0 : X0.cell? ⟨w.heap.size, 0, none⟩ = some (.int .i64 o) := (hP.2 0 (by simp)).1
      have q1 : X0.cell? ⟨w.heap.size, 1, none⟩ = some (.int .i64 sq) := (hP.2 1 (by simp)).1
      have q2 : X0.cell? ⟨w.heap.size, 2, none⟩ = some (.int .i64 (kk : Int)) := (hP.2 2 (by simp)).1
      have q3 : X0.cell? ⟨w.heap.size, 3, none⟩ = some (.int .i64 t) := (hP.2 3 (by simp)).1
      have q4 : X0.cell? ⟨w.heap.size, 4, none⟩ = some (.int .i64 nn) := (hP.2 4 (by simp)).1
      have ql := hP.1
      go_simp
      clear q0 q1 q2 q3 q4 ql
      refine hK.out _ _ hHeld (fun hNew => ?_)
      clear hK K hHeld
      have hHeld := hNew
      clear hNew
      try simp only [Act.put, aS]
      refine rd1 1 rfl fun K hK => ?_
      have q0 : X0.cell? ⟨w.heap.size, 0, none⟩ = some (.int .i64 o) := (hP.2 0 (by simp)).1
      have q1 : X0.cell? ⟨w.heap.size, 1, none⟩ = some (.int .i64 sq) := (hP.2 1 (by simp)).1
      have q2 : X0.cell? ⟨w.heap.size, 2, none⟩ = some (.int .i64 (kk : Int)) := (hP.2 2 (by simp)).1
      have q3 : X0.cell? ⟨w.heap.size, 3, none⟩ = some (.int .i64 t) := (hP.2 3 (by simp)).1
      have q4 : X0.cell? ⟨w.heap.size, 4, none⟩ = some (.int .i64 nn) := (hP.2 4 (by simp)).1
      have ql := hP.1
      go_simp
      clear q0 q1 q2 q3 q4 ql
      refine hK.out _ _ hHeld (fun hNew => ?_)
      clear hK K hHeld
      have hHeld := hNew
      clear hNew
      try simp only [Act.put, aS]
      refine tkl 2 (.pointer (some ⟨w1.heap.size, kk, none⟩)) rfl ?_ ?_
      · intro wx hSw; obtain ⟨hcS, hfS⟩ := bcellN hSw; go_simp
      try simp only [Act.put, aS]
      refine rd1 3 rfl fun K hK => ?_
      have qa : X0.cell? ⟨w1.heap.size, kk, none⟩ = some (.func (.func f) #[] #[]) := by rw [(hA.2 kk hkk).1, HF.out]
      have ql := hA.1
      go_simp
      clear qa ql
      refine hK.out _ _ hHeld (fun hNew => ?_)
      clear hK K hHeld
      have hHeld := hNew
      clear hNew
      try simp only [Act.put, aS]
      refine rd1 6 rfl fun K hK => ?_
      go_simp
      rw [HE.out, Oper.upon_enter]
      refine (HDD.out _ hS).mono ?_
      rintro e X5 ⟨rfl, hS5, hB5, hR5⟩
      refine hK.out _ _ (hHeld.trans hB5) (fun hNew => ?_)
      clear hK K hHeld
      have hHeld := hNew
      clear hNew
      try simp only [Act.put, aS]
      refine tkl 7 (refV code) rfl ?_ ?_
      · intro wx hSw; obtain ⟨hcS, hfS⟩ := bcellN hSw; go_simp
      try simp only [Act.put, aS]
      refine wpAnyH_done (by kernel_rfl) ?_ _
      go_wp2
      go_meet
      case rel => exact ⟨rfl, hS5, B2.out.trans hHeld, fun e => hP.below (hR5 e)⟩
  case rest =>
    obtain ⟨w3, hw3⟩ : ∃ wq, wq = wc := ⟨_, rfl⟩
    subst hw3
    obtain ⟨rfl, hS3, hB3, hP3⟩ := hcut
    clear hA hP hS HDD HF HE
    have HS3 : Hid (Sv w3 c d s b lo V2 (n + 4)) := hS3
    have HB3 : Hid (Below lo w w3) := hB3
    have HP3 : Hid (code ≠ 1 → _) := hP3
    clear hS3 hB3 hP3 B2
    by_cases hc1 : code = 1
    · subst hc1
      have er : refV 1 = .nilIface := rfl
      rw [er]
      clear er
      go_wp2_with fail
      refine (as_nil _ _).mono ?_
      rintro e w5 ⟨rfl, rfl⟩
      go_wp2
      go_ret
      refine ⟨rfl, ?_, ?_⟩
      · first | exact (HS3.out.below ((Below.refl _ _).alloc (Nat.le_refl _) _)).mono (by omega) | (rw [if_pos rfl]; exact (HS3.out.below ((Below.refl _ _).alloc (Nat.le_refl _) _)).mono (by omega))
      · exact HB3.out.trans ((Below.refl _ _).alloc (by have := HS3.out.at.2.1; omega) _)
    · have er : refV code = .iface 179 (.int .i64 code) := if_neg hc1
      rw [er]
      clear er
      obtain rfl := hV2 hc1
      have P3 := HP3.out hc1
      clear HP3
      obtain ⟨w4, e4⟩ : ∃ X, X = w3.alloc (.cells #[.int .i64 0] 179) := ⟨_, rfl⟩
      have hb4 : Below w3.heap.size w3 w4 := by rw [e4]; exact (Below.refl _ _).alloc (Nat.le_refl _) _
      have hT : Bk w4 w3.heap.size [.int .i64 0] := by rw [e4]; exact bk_new w3 179 [.int .i64 0]
      have hgl : w4.cell? ⟨0, 0, none⟩ = some (.iface 220 (.agg #[.pointer (some ⟨1, 178, none⟩)])) := (hb4.cell (p := ⟨0, 0, none⟩) (by show 0 < w3.heap.size; have := HS3.out.at.2.1; omega)).trans ((HB3.out.cell (p := ⟨0, 0, none⟩) hlo).trans hg0)
      go_wp2_with fail
      rw [← e4]
      have z4 := hb4.size
      refine (as_hit code ⟨w3.heap.size, 0, none⟩ (.int .i64 0) w4 hgl (hT.2 0 (by simp)).1 (hT.2 0 (by simp)).2).mono ?_
      rintro e w5 ⟨rfl, e5⟩
      have hb5 : Below w3.heap.size w3 w5 := by rw [e5]; exact ((((hb4.alloc (by omega) _).alloc (by simp; omega) _).alloc (by simp; omega) _).alloc (by simp; omega) _).setCell (Nat.le_refl _) _
      have hT5 : Bk w5 w3.heap.size [.int .i64 code] := by rw [e5]; exact (((((hT.below ((Below.refl _ _).alloc (Nat.le_refl _) _)).below ((Below.refl _ _).alloc (Nat.le_refl _) _)).below ((Below.refl _ _).alloc (Nat.le_refl _) _)).below ((Below.refl _ _).alloc (Nat.le_refl _) _))).set (j := 0) (v := .int .i64 code) (by simp)
      clear e4 e5 hgl hT hb4
      have z5 := hb5.size
      have S5 := HS3.out.below hb5
      have P5 := P3.below hb5
      have B5 : Below lo w w5 := HB3.out.trans (hb5.mono (by have := HS3.out.at.2.1; omega))
      have p0 : w5.cell? ⟨w.heap.size, 0, none⟩ = some (.int .i64 o) := (P5.2 0 (by simp)).1
      have p1 : w5.cell? ⟨w.heap.size, 1, none⟩ = some (.int .i64 sq) := (P5.2 1 (by simp)).1
      have p2 : w5.cell? ⟨w.heap.size, 2, none⟩ = some (.int .i64 (kk : Int)) := (P5.2 2 (by simp)).1
      have p3 : w5.cell? ⟨w.heap.size, 3, none⟩ = some (.int .i64 t) := (P5.2 3 (by simp)).1
      have p4 : w5.cell? ⟨w.heap.size, 4, none⟩ = some (.int .i64 nn) := (P5.2 4 (by simp)).1
      have lp := P5.1
      have tc : w5.cell? ⟨w3.heap.size, 0, none⟩ = some (.int .i64 code) := (hT5.2 0 (by simp)).1
      have lt := hT5.1
      have H5 : Hid (Bk w5 w3.heap.size [.int .i64 code]) := hT5
      have HS5 : Hid _ := S5
      have HB5 : Hid _ := B5
      clear hT5 S5 B5 P5 P3
      go_wp2_with fail
      clear p0 p1 p2 p3 p4 lp tc lt
      refine (note_impl c d o sq (kk : Int) t nn s b lo m (V.setW m (zq (V.W m) sq 1)) (n + 4) (hr.upd rfl) hm (by show updW V.W m _ m 0 = o; rw [upd_at]; exact HZ.out) hwf code _ HS5.out).mono ?_
      rintro e w6 ⟨rfl, hS6, hB6, hG6⟩
      have hT6 := H5.out.sm hB6.size (hG6 w3.heap.size H5.out.1 (by have := HS3.out.at.2.2.2.2.1; omega))
      have tc : w6.cell? ⟨w3.heap.size, 0, none⟩ = some (.int .i64 code) := (hT6.2 0 (by simp)).1
      have lt := hT6.1
      have eV : (V.setW m (zq (V.W m) sq 1)).setW m (zq ((V.setW m (zq (V.W m) sq 1)).W m) sq code) = V.setW m (zq (V.W m) sq code) := by rw [setW_setW]; exact (congrArg (fun Z => V.setW m (zq Z sq code)) upd_at).trans (congrArg (V.setW m) (zq_zq _ _ _ _))
      rw [eV] at hS6
      have HS6 : Hid _ := hS6
      have HB6 : Hid (Below lo w w6) := HB5.out.trans hB6
      clear hS6 hB6 hG6 hT6 eV
      go_wp2
      go_ret
      refine ⟨rfl, ?_, HB6.out⟩
      first | exact HS6.out | (rw [if_neg hc1]; exact HS6.out)
theorem fresh_of {c d : Int} {V : CV} {m : Nat} {s k t n : Int} {r : CV × Int} (h : kindV c d (V.setW m (zq (V.W m) s 1)) m k t n = r) : (freshV c d V m s k t n).2 = r.2 ∧ (freshV c d V m s k t n).1 = if r.2 = 1 then r.1 else V.setW m (zq (V.W m) s r.2) := by
  unfold freshV
  rw [h]
  by_cases e : r.2 = 1
  · rw [if_pos e, if_pos e]; exact ⟨rfl, rfl⟩
  · rw [if_neg e, if_neg e]; exact ⟨rfl, rfl⟩
theorem cllB_wk {c d : Int} {V : CV} (h : cllB c d V = true) (k : Nat) (hk : k < V.nW) : (0 ≤ V.W k 1 ∧ V.W k 1 ≤ 31) ∧ (0 ≤ V.W k 2 ∧ V.W k 2 ≤ 99) ∧ (0 ≤ V.W k 3 ∧ V.W k 3 ≤ 900) ∧ cellF c d (V.W k 1) = V.c := by
  simp only [cllB, Bool.and_eq_true] at h
  obtain ⟨h0, hA, hg, _, _, _, hK, _⟩ := h
  have h1 := allB_down V.nW (show k + 1 ≤ V.nW by omega) hA
  simp only [allB, goodB, wkB, wlkB, boundsB, Bool.and_eq_true, inB_true] at h1
  have h2 := allK_down V.nW (show k + 1 ≤ V.nW by omega) hK
  simp only [allK, Bool.and_eq_true] at h2
  have h3 : cellF c d (V.W k 1) = V.c := by simpa using h2.2
  have h4 : ¬ cellF c d (V.W k 1) = -1 := by simpa using h1.2.1.2
  refine ⟨?_, h1.2.1.1.2.1, h1.2.1.1.2.2.1, h3⟩
  unfold cellF at h4
  split at h4
  · rename_i h5
    have := mul_bounds h5.1
    have := inB_true.1 h5.2
    omega
  · exact absurd rfl h4
theorem cllB_X {c d : Int} {V : CV} (h : cllB c d V = true) (q : Nat) (hq : q < 2) : (0 ≤ V.X q ∧ V.X q ≤ 5000) ∧ V.N q ≤ 5000 := by
  simp only [cllB, sideK, P8.listP, Bool.and_eq_true, inB_true, decide_eq_true_eq] at h
  obtain ⟨_, _, _, _, _, _, _, h0, h1⟩ := h
  have : q = 0 ∨ q = 1 := by omega
  rcases this with rfl | rfl
  · obtain ⟨⟨_, h2, h3, _⟩, _⟩ := h0; omega
  · obtain ⟨⟨_, h2, h3, _⟩, _⟩ := h1; omega
theorem code_step {c d : Int} {V : CV} {m : Nat} {t : Int} : (1 ≤ (stepV c d V m t).2 ∧ (stepV c d V m t).2 ≤ 9) ∧ ((stepV c d V m t).2 ≠ 1 → (stepV c d V m t).1 = V) := by
  unfold stepV; repeat' split
  all_goals simp
theorem code_give {V : CV} {m : Nat} {t n : Int} : (1 ≤ (giveV V m t n).2 ∧ (giveV V m t n).2 ≤ 9) ∧ ((giveV V m t n).2 ≠ 1 → (giveV V m t n).1 = V) := by
  unfold giveV; repeat' split
  all_goals simp
theorem code_drop {V : CV} {m : Nat} {n : Int} : (1 ≤ (dropV V m n).2 ∧ (dropV V m n).2 ≤ 9) ∧ ((dropV V m n).2 ≠ 1 → (dropV V m n).1 = V) := by
  unfold dropV; repeat' split
  all_goals simp
theorem code_pick {V : CV} {m : Nat} {n : Int} : (1 ≤ (pickV V m n).2 ∧ (pickV V m n).2 ≤ 9) ∧ ((pickV V m n).2 ≠ 1 → (pickV V m n).1 = V) := by
  unfold pickV; repeat' split
  all_goals simp
theorem code_throw {c d : Int} {V : CV} {m : Nat} {t n : Int} : (1 ≤ (throwV c d V m t n).2 ∧ (throwV c d V m t n).2 ≤ 9) ∧ ((throwV c d V m t n).2 ≠ 1 → (throwV c d V m t n).1 = V) := by
  unfold throwV; repeat' split
  all_goals simp
theorem enter133 (args : Array Value) (w : World) : (callFunc 133 args).run Tryz.prog w = .ok (.enter 133 args) w := by kernel_rfl
theorem enter134 (args : Array Value) (w : World) : (callFunc 134 args).run Tryz.prog w = .ok (.enter 134 args) w := by kernel_rfl
theorem enter135 (args : Array Value) (w : World) : (callFunc 135 args).run Tryz.prog w = .ok (.enter 135 args) w := by kernel_rfl
theorem enter136 (args : Array Value) (w : World) : (callFunc 136 args).run Tryz.prog w = .ok (.enter 136 args) w := by kernel_rfl
theorem enter137 (args : Array Value) (w : World) : (callFunc 137 args).run Tryz.prog w = .ok (.enter 137 args) w := by kernel_rfl
theorem enter138 (args : Array Value) (w : World) : (callFunc 138 args).run Tryz.prog w = .ok (.enter 138 args) w := by kernel_rfl
theorem doFresh_impl (c d o sq k t nn : Int) (s b lo m : Nat) (V : CV) (n : Nat) (hV : cllB c d V = true) (hO : ordB o sq k t nn = true) (hm : m < V.nW) (hz : V.W m 0 = o) (hwf : (Lit.int .i64 o).wf = true) (hwt : (Lit.int .i64 t).wf = true) (w : World)
    (hg0 : w.cell? ⟨0, 0, none⟩ = some (.iface 220 (.agg #[.pointer (some ⟨1, 178, none⟩)]))) (hlo : 0 < lo) (h : Sv w c d s b lo V n) :
    Calls Tryz.prog 92 #[.pointer (some ⟨s, 0, none⟩), .agg #[.int .i64 o, .int .i64 sq, .int .i64 k, .int .i64 t, .int .i64 nn]] w fun e w' => e = .returned (.int .i64 (freshV c d V m sq k t nn).2) ∧ Sv w' c d s b lo (freshV c d V m sq k t nn).1 (n + 5) ∧ Below lo w w' := by
  have hr : Rise V.W V.nW := cllB_rise hV
  have hr1 : Rise (V.setW m (zq (V.W m) sq 1)).W (V.setW m (zq (V.W m) sq 1)).nW := hr.upd rfl
  have hz1 : (V.setW m (zq (V.W m) sq 1)).W m 0 = o := by show updW V.W m _ m 0 = o; rw [upd_at]; exact hz
  obtain ⟨n1, n2, n3⟩ := cllB_two hV
  obtain ⟨b1, b2, b3, b4⟩ := cllB_wk hV m hm
  have e1 : (V.setW m (zq (V.W m) sq 1)).W m 1 = V.W m 1 := by show updW V.W m _ m 1 = _; rw [upd_at]; rfl
  have e2 : (V.setW m (zq (V.W m) sq 1)).W m 2 = V.W m 2 := by show updW V.W m _ m 2 = _; rw [upd_at]; rfl
  have hg : 0 ≤ V.g ∧ V.g ≤ 900 := (cllB_in hV).1
  have hc1 : 0 ≤ (V.setW m (zq (V.W m) sq 1)).W m 2 ∧ (V.setW m (zq (V.W m) sq 1)).W m 2 ≤ 99 := by rw [e2]; exact b2
  have hA1 : 0 ≤ (V.setW m (zq (V.W m) sq 1)).W m 1 ∧ (V.setW m (zq (V.W m) sq 1)).W m 1 ≤ 31 := by rw [e1]; exact b1
  have hct : ∀ j, j < V.nW → (V.setW m (zq (V.W m) sq 1)).W j 0 = t → 0 ≤ (V.setW m (zq (V.W m) sq 1)).W j 2 ∧ (V.setW m (zq (V.W m) sq 1)).W j 2 ≤ 99 := fun j hj _ => by
    by_cases e : j = m
    · subst e; exact hc1
    · have : (V.setW m (zq (V.W m) sq 1)).W j = V.W j := upd_ne e
      rw [this]; exact (cllB_wk hV j hj).2.1
  have fin : ∀ (kk f : Nat) (r : CV × Int), k = (kk : Int) → kk < 7 → deeds.getD kk undef = .func (.func f) #[] #[] → (∀ (args : Array Value) (w : World), (callFunc f args).run Tryz.prog w = .ok (.enter f args) w) → kindV c d (V.setW m (zq (V.W m) sq 1)) m k t nn = r → (1 ≤ r.2 ∧ r.2 ≤ 9) → (r.2 ≠ 1 → r.1 = (V.setW m (zq (V.W m) sq 1))) →
      (∀ w', Sv w' c d s b lo (V.setW m (zq (V.W m) sq 1)) (n + 1) → Calls Tryz.prog f #[.pointer (some ⟨s, 0, none⟩), .agg #[.int .i64 o, .int .i64 sq, .int .i64 k, .int .i64 t, .int .i64 nn]] w' fun e w'' => e = .returned (refV r.2) ∧ Sv w'' c d s b lo r.1 (n + 1 + 3) ∧ Below lo w' w'' ∧ (r.2 ≠ 1 → Below w'.heap.size w' w'')) →
      Calls Tryz.prog 92 #[.pointer (some ⟨s, 0, none⟩), .agg #[.int .i64 o, .int .i64 sq, .int .i64 k, .int .i64 t, .int .i64 nn]] w fun e w' => e = .returned (.int .i64 (freshV c d V m sq k t nn).2) ∧ Sv w' c d s b lo (freshV c d V m sq k t nn).1 (n + 5) ∧ Below lo w w' := by
    intro kk f r hk hkk hf he hkind hcode hsame hD
    obtain ⟨f1, f2⟩ := fresh_of hkind
    rw [f1, f2]
    subst hk
    exact doFresh_gen c d o sq t nn s b lo m V n hr hm hz hwf kk f hkk hf he r.2 hcode r.1 hsame w hD hg0 hlo h
  have hk := hO
  simp only [ordB, kindB, Bool.and_eq_true] at hk
  obtain ⟨_, _, hk⟩ := hk
  have side : ∀ {z : Int}, sideB z = true → ∃ q : Nat, z = (q : Int) ∧ q < 2 := fun {z} hs => by
    have : z = 0 ∨ z = 1 := by simp only [sideB, inB_true] at hs; omega
    rcases this with rfl | rfl
    · exact ⟨0, rfl, by omega⟩
    · exact ⟨1, rfl, by omega⟩
  by_cases k1 : k = 1
  · rw [if_pos k1] at hk
    simp only [Bool.and_eq_true] at hk
    obtain ⟨q, hq, hq2⟩ := side hk.1
    obtain ⟨x1, x2⟩ := cllB_X hV q hq2
    exact fin 1 133 (stepV c d (V.setW m (zq (V.W m) sq 1)) m t) k1 (by omega) rfl enter133 (by simp [kindV, k1]) code_step.1 code_step.2 (fun w' hS => stepD_impl c d o sq k t nn s b lo m (V.setW m (zq (V.W m) sq 1)) (n + 1) hr1 hm hz1 hwf hA1 q hq (by show q < V.nX; omega) (by show q < V.nO; omega) (by show V.N q ≤ _; omega) (by show -1 ≤ V.X q ∧ V.X q ≤ 5000; omega) w' hS)
  rw [if_neg k1] at hk
  by_cases k2 : k = 2
  · rw [if_pos k2] at hk
    simp only [Bool.and_eq_true, inB_true, bne_iff_ne, ne_eq] at hk
    exact fin 2 134 (giveV (V.setW m (zq (V.W m) sq 1)) m t nn) k2 (by omega) rfl enter134 (by simp [kindV, k2]) code_give.1 code_give.2 (fun w' hS => give_impl c d o sq k t nn s b lo m (V.setW m (zq (V.W m) sq 1)) (n + 1) hr1 hm hz1 hwf hk.2.2 hc1 hg hwt hk.2.1 hct w' hS)
  rw [if_neg k2] at hk
  by_cases k3 : k = 3
  · rw [if_pos k3] at hk
    simp only [Bool.and_eq_true, inB_true] at hk
    exact fin 3 135 (dropV (V.setW m (zq (V.W m) sq 1)) m nn) k3 (by omega) rfl enter135 (by simp [kindV, k3]) code_drop.1 code_drop.2 (fun w' hS => drop_impl c d o sq k t nn s b lo m (V.setW m (zq (V.W m) sq 1)) (n + 1) hr1 hm hz1 hwf hk.2 hc1 hg w' hS)
  rw [if_neg k3] at hk
  by_cases k4 : k = 4
  · rw [if_pos k4] at hk
    simp only [Bool.and_eq_true, inB_true] at hk
    exact fin 4 136 (pickV (V.setW m (zq (V.W m) sq 1)) m nn) k4 (by omega) rfl enter136 (by simp [kindV, k4]) code_pick.1 code_pick.2 (fun w' hS => pick_impl c d o sq k t nn s b lo m (V.setW m (zq (V.W m) sq 1)) (n + 1) hr1 hm hz1 hwf hk.2 hc1 hg w' hS)
  rw [if_neg k4] at hk
  by_cases k5 : k = 5
  · rw [if_pos k5] at hk
    simp only [Bool.and_eq_true, inB_true] at hk
    obtain ⟨q, hq, hq2⟩ := side hk.1
    obtain ⟨x1, x2⟩ := cllB_X hV q hq2
    exact fin 5 137 (throwV c d (V.setW m (zq (V.W m) sq 1)) m t nn) k5 (by omega) rfl enter137 (by simp [kindV, k5]) code_throw.1 code_throw.2 (fun w' hS => throw_impl c d o sq k t nn s b lo m (V.setW m (zq (V.W m) sq 1)) (n + 1) hr1 hm hz1 hwf hk.2 hc1 hg q hq (by show q < V.nX; omega) (by show q < V.nO; omega) (by show V.N q ≤ _; omega) (by show -1 ≤ V.X q ∧ V.X q ≤ 5000; omega) w' hS)
  rw [if_neg k5] at hk
  have k6 : k = 6 := by
    by_cases e : k = 6
    · exact e
    · rw [if_neg e] at hk; cases hk
  exact fin 6 138 ((V.setW m (zq (V.W m) sq 1)), 1) k6 (by omega) rfl enter138 (by simp [kindV, k6]) (by simp) (fun e => absurd rfl e) (fun w' hS => rest_impl c d o sq k t nn s b lo m (V.setW m (zq (V.W m) sq 1)) (n + 1) hr1 hm hz1 hwf w' hS)
set_option maxRecDepth 20000 in
set_option maxHeartbeats 4000000 in
theorem do_impl (c d o sq k t nn : Int) (s b lo : Nat) (V : CV) (n : Nat) (hV : cllB c d V = true) (hO : ordB o sq k t nn = true) (hwf : (Lit.int .i64 o).wf = true) (hwt : (Lit.int .i64 t).wf = true) (w : World)
    (hg0 : w.cell? ⟨0, 0, none⟩ = some (.iface 220 (.agg #[.pointer (some ⟨1, 178, none⟩)]))) (hlo : 0 < lo) (h : Sv w c d s b lo V n) :
    Calls Tryz.prog 50 #[.pointer (some ⟨s, 0, none⟩), .agg #[.int .i64 o, .int .i64 sq, .int .i64 k, .int .i64 t, .int .i64 nn]] w fun e w' => e = .returned (.int .i64 (doV c d V o sq k t nn).2) ∧ Sv w' c d s b lo (doV c d V o sq k t nn).1 (n + 5) ∧ Below lo w w' := by
  obtain ⟨_, ls, ll, lb, lbw, nsb, _⟩ := h.at
  have hr : Rise V.W V.nW := cllB_rise hV
  go_enter Tryz.func50, Tryz.ntmps50
  go_upto_region 1 with fail
  obtain ⟨w0, e0⟩ : ∃ w0, w0 = w.alloc (.cells #[.int .i64 o, .int .i64 sq, .int .i64 k, .int .i64 t, .int .i64 nn] 41) := ⟨_, rfl⟩
  have hb0 : Below w.heap.size w w0 := by rw [e0]; exact (Below.refl _ _).alloc (Nat.le_refl _) _
  have X0 : Bk w0 w.heap.size [.int .i64 o, .int .i64 sq, .int .i64 k, .int .i64 t, .int .i64 nn] := by rw [e0]; exact bk_new w 41 [.int .i64 o, .int .i64 sq, .int .i64 k, .int .i64 t, .int .i64 nn]
  rw [← e0]
  clear e0
  have z0 := X0.1
  have B1 : Hid (Below w.heap.size w w0) := hb0
  have P2 : Hid (Bk w0 w.heap.size [.int .i64 o, .int .i64 sq, .int .i64 k, .int .i64 t, .int .i64 nn]) := X0
  have S3 : Hid (Sv w0 c d s b lo V n) := h.below hb0
  clear X0 hb0 h
  obtain ⟨yP0, yP1, yP2, yP3, yP4⟩ := P2.out.a5
  have hlP : w.heap.size < w0.heap.size := P2.out.1
  have c8 : w0.cell? ⟨s, 8, none⟩ = some (.map (some b)) := S3.out.at.1.2.2.2.2.2
  have lsw : s < w0.heap.size := S3.out.at.2.1
  rcases hr.get o with hex | hno
  · obtain ⟨m, hm, hz⟩ := hex
    have HZ : Hid (V.W m 0 = o) := hz
    clear hz
    have HL : Hid (∀ wx, Below w0.heap.size w0 wx → (Instr.lookup 130 (.map (some b)) (.int .i64 o) true).run Tryz.prog wx = .ok (.tuple #[.agg #[.int .i64 (V.W m 0), .int .i64 (V.W m 1), .int .i64 (V.W m 2), .int .i64 (V.W m 3), .int .i64 (V.W m 4)], .bool true]) wx) := fun wx hx => ((S3.out.below hx).lookA hr hm HZ.out hwf).2
    refine wp_region_held_drew (S := fun w' => Below (w0.heap.size) w0 w') (by kernel_rfl) ((Below.refl _ _).drew) ?_
    intro hHeld
    obtain ⟨X0, hX0⟩ : ∃ X, X = w0.drew := ⟨_, rfl⟩
    have hz0 : w0.heap.size ≤ X0.heap.size := by rw [hX0]; exact Nat.le_refl _
    rw [← hX0] at hHeld ⊢
    clear hX0
    refine tkl 0 (.pointer (some ⟨s, 0, none⟩)) rfl ?_ ?_
    · intro wx hSw; obtain ⟨hcS, hfS⟩ := bcellN hSw; go_simp
    try simp only [Act.put, aS]
    refine tkl 4 (.pointer (some ⟨w.heap.size, 0, none⟩)) rfl ?_ ?_
    · intro wx hSw; obtain ⟨hcS, hfS⟩ := bcellN hSw; go_simp
    try simp only [Act.put, aS]
    refine tkl 1 (.pointer (some ⟨s, 0, none⟩)) rfl ?_ ?_
    · intro wx hSw; obtain ⟨hcS, hfS⟩ := bcellN hSw; go_simp
    try simp only [Act.put, aS]
    refine tkl 5 (.int .i64 o) rfl ?_ ?_
    · intro wx hSw; obtain ⟨hcS, hfS⟩ := bcellN hSw; go_simp
    try simp only [Act.put, aS]
    refine tkl 2 (.pointer (some ⟨s, 8, none⟩)) rfl ?_ ?_
    · intro wx hSw; obtain ⟨hcS, hfS⟩ := bcellN hSw; go_simp
    try simp only [Act.put, aS]
    refine tkl 3 (.map (some b)) rfl ?_ ?_
    · intro wx hSw; obtain ⟨hcS, hfS⟩ := bcellN hSw; go_simp
    try simp only [Act.put, aS]
    refine tkl 6 (.tuple #[.agg #[.int .i64 (V.W m 0), .int .i64 (V.W m 1), .int .i64 (V.W m 2), .int .i64 (V.W m 3), .int .i64 (V.W m 4)], .bool true]) rfl ?_ ?_
    · intro wx hSw; obtain ⟨hcS, hfS⟩ := bcellN hSw; have hl := HL.out wx hSw; go_simp
    try simp only [Act.put, aS]
    refine tkl 7 (.tuple #[.agg #[.int .i64 (V.W m 0), .int .i64 (V.W m 1), .int .i64 (V.W m 2), .int .i64 (V.W m 3), .int .i64 (V.W m 4)], .bool true]) rfl ?_ ?_
    · intro wx hSw; obtain ⟨hcS, hfS⟩ := bcellN hSw; go_simp
    try simp only [Act.put, aS]
    refine tkl 8 (.agg #[.int .i64 (V.W m 0), .int .i64 (V.W m 1), .int .i64 (V.W m 2), .int .i64 (V.W m 3), .int .i64 (V.W m 4)]) rfl ?_ ?_
    · intro wx hSw; obtain ⟨hcS, hfS⟩ := bcellN hSw; go_simp
    try simp only [Act.put, aS]
    refine tkl 9 (.bool true) rfl ?_ ?_
    · intro wx hSw; obtain ⟨hcS, hfS⟩ := bcellN hSw; go_simp
    try simp only [Act.put, aS]
    refine rd1 10 rfl fun K hK => ?_
    go_simp
    obtain ⟨Xgk, eA⟩ : ∃ X, X = X0.alloc (.cells #[.int .i64 0, .int .i64 0, .int .i64 0, .int .i64 0, .int .i64 0] 54) := ⟨_, rfl⟩
    rw [← eA]
    have hbA : Below X0.heap.size X0 Xgk := by rw [eA]; exact (Below.refl _ _).alloc (Nat.le_refl _) _
    have hZgk : Bk Xgk X0.heap.size [.int .i64 0, .int .i64 0, .int .i64 0, .int .i64 0, .int .i64 0] := by rw [eA]; exact bk_new X0 54 [.int .i64 0, .int .i64 0, .int .i64 0, .int .i64 0, .int .i64 0]
    have hzAgk1 : Xgk.heap.size ≤ X0.heap.size + 1 := by rw [eA]; simp
    have hzAgk2 : X0.heap.size + 1 ≤ Xgk.heap.size := by rw [eA]; simp
    clear eA
    have hsz_Xgk := hbA.size
    refine hK.out _ _ (bthenN hHeld (by omega) hbA) (fun hNew => ?_)
    clear hK K hHeld
    have hHeld := hNew
    clear hNew
    try simp only [Act.put, aS]
    clear hbA
    obtain ⟨gk, egk⟩ : ∃ g, g = X0.heap.size := ⟨_, rfl⟩
    rw [← egk] at hZgk ⊢
    have egk1 : gk ≤ X0.heap.size := by omega
    have egk2 : X0.heap.size ≤ gk := by omega
    clear egk
    refine rd1 11 rfl fun K hK => ?_
    have r0 := (hZgk.2 0 (by simp)).1
    have r1 := (hZgk.2 1 (by simp)).1
    have r2 := (hZgk.2 2 (by simp)).1
    have r3 := (hZgk.2 3 (by simp)).1
    have r4 := (hZgk.2 4 (by simp)).1
    have f0 := (hZgk.2 0 (by simp)).2
    have f1 := (hZgk.2 1 (by simp)).2
    have f2 := (hZgk.2 2 (by simp)).2
    have f3 := (hZgk.2 3 (by simp)).2
    have f4 := (hZgk.2 4 (by simp)).2
    simp only [List.getD, List.getElem?_cons_zero, List.getElem?_cons_succ, Option.getD_some] at r0 r1 r2 r3 r4
    have lZgk := hZgk.1
    have hkgk : w0.heap.size ≤ gk := by omega
    go_simp
    obtain ⟨XSgk, eS⟩ : ∃ X, X = (((((Xgk.setCell ⟨gk, 0, none⟩ (.int .i64 (V.W m 0))).setCell ⟨gk, 1, none⟩ (.int .i64 (V.W m 1))).setCell ⟨gk, 2, none⟩ (.int .i64 (V.W m 2))).setCell ⟨gk, 3, none⟩ (.int .i64 (V.W m 3))).setCell ⟨gk, 4, none⟩ (.int .i64 (V.W m 4))) := ⟨_, rfl⟩
    rw [← eS]
    have hPgk : Bk XSgk gk [.int .i64 (V.W m 0), .int .i64 (V.W m 1), .int .i64 (V.W m 2), .int .i64 (V.W m 3), .int .i64 (V.W m 4)] := by rw [eS]; exact bk_put (l := [.int .i64 (V.W m 0), .int .i64 (V.W m 1), .int .i64 (V.W m 2), .int .i64 (V.W m 3), .int .i64 (V.W m 4)]) hZgk rfl
    have hzgk1 : XSgk.heap.size ≤ Xgk.heap.size := by rw [eS]; exact Nat.le_of_eq (size_put gk [.int .i64 (V.W m 0), .int .i64 (V.W m 1), .int .i64 (V.W m 2), .int .i64 (V.W m 3), .int .i64 (V.W m 4)] 0 Xgk)
    have hzgk2 : Xgk.heap.size ≤ XSgk.heap.size := by rw [eS]; exact Nat.le_of_eq (size_put gk [.int .i64 (V.W m 0), .int .i64 (V.W m 1), .int .i64 (V.W m 2), .int .i64 (V.W m 3), .int .i64 (V.W m 4)] 0 Xgk).symm
    have hmgk : ∀ b, ¬ b = gk → Sm Xgk XSgk b := by rw [eS]; exact fun b hb => sm_put hb [.int .i64 (V.W m 0), .int .i64 (V.W m 1), .int .i64 (V.W m 2), .int .i64 (V.W m 3), .int .i64 (V.W m 4)] 0 Xgk
    have hBgk : Below (w0.heap.size) w0 XSgk := by rw [eS]; exact below_put hkgk [.int .i64 (V.W m 0), .int .i64 (V.W m 1), .int .i64 (V.W m 2), .int .i64 (V.W m 3), .int .i64 (V.W m 4)] 0 hHeld
    clear eS r0 f0 r1 f1 r2 f2 r3 f3 r4 f4
    refine hK.out _ _ hBgk (fun hNew => ?_)
    clear hK K hHeld
    have hHeld := hNew
    clear hNew
    try simp only [Act.put, aS]
    refine tkl 12 (.bool true) rfl ?_ ?_
    · intro wx hSw; obtain ⟨hcS, hfS⟩ := bcellN hSw; go_simp
    try simp only [Act.put, aS]
    refine wpAnyH_done (by kernel_rfl) ?_ _
    clear yP0 yP1 yP2 yP3 yP4 hlP c8 lsw
    clear HL
    have y_XSgk : w0.heap.size ≤ XSgk.heap.size := hHeld.size
    have B4 := hid (bthen B1.out hHeld)
    have P4 := hid (P2.out.below hHeld)
    have S4 := hid (S3.out.below hHeld)
    clear B1 P2 S3
    have G5 : Hid (Bk XSgk gk [.int .i64 (V.W m 0), .int .i64 (V.W m 1), .int .i64 (V.W m 2), .int .i64 (V.W m 3), .int .i64 (V.W m 4)]) := hPgk
    have zX := hHeld.size
    clear hHeld hPgk
    obtain ⟨yP0, yP1, yP2, yP3, yP4⟩ := P4.out.a5
    have hlP : w.heap.size < XSgk.heap.size := P4.out.1
    obtain ⟨yG0, yG1, yG2, yG3, yG4⟩ := G5.out.a5
    have hlG : gk < XSgk.heap.size := G5.out.1
    by_cases hold : sq < V.W m 3
    · have ER : Hid (doV c d V o sq k t nn = (V, 8)) := by unfold Hid; simp only [doV, idx_some V.nW hr hm HZ.out]; rw [if_pos hold]
      go_wp2
      go_ret
      exact ⟨by rw [ER.out] <;> rfl, by rw [ER.out]; exact S4.out.mono (by omega), B4.out.mono (by omega)⟩
    · by_cases hsame : sq = V.W m 3
      · have hse : (sq == V.W m 3) = true := by simp [hsame]
        have ER : Hid (doV c d V o sq k t nn = (V, V.W m 4)) := by unfold Hid; simp only [doV, idx_some V.nW hr hm HZ.out]; rw [if_neg hold, if_pos hsame]
        clear hsame
        go_wp2
        go_ret
        exact ⟨by rw [ER.out] <;> rfl, by rw [ER.out]; exact S4.out.mono (by omega), B4.out.mono (by omega)⟩
      · have hse : (sq == V.W m 3) = false := by simp [hsame]
        have ER : Hid (doV c d V o sq k t nn = freshV c d V m sq k t nn) := by unfold Hid; simp only [doV, idx_some V.nW hr hm HZ.out]; rw [if_neg hold, if_neg hsame]
        clear hsame
        go_wp2_with fail
        clear yP0 yP1 yP2 yP3 yP4 hlP yG0 yG1 yG2 yG3 yG4 hlG
        refine (doFresh_impl c d o sq k t nn s b lo m V n hV hO hm HZ.out hwf hwt _ ((B4.out.cell (p := ⟨0, 0, none⟩) (by show 0 < w.heap.size; omega)).trans hg0) hlo S4.out).mono ?_
        rintro e w2 ⟨rfl, hS2, hB2⟩
        go_wp2
        go_ret
        exact ⟨by rw [ER.out] <;> rfl, by rw [ER.out]; exact hS2, (B4.out.mono (by omega)).trans hB2⟩
  · have HL : Hid (∀ wx, Below w0.heap.size w0 wx → (Instr.lookup 130 (.map (some b)) (.int .i64 o) true).run Tryz.prog wx = .ok (.tuple #[.agg #[.int .i64 0, .int .i64 0, .int .i64 0, .int .i64 0, .int .i64 0], .bool false]) wx) := fun wx hx => (S3.out.below hx).lookN hno hwf
    refine wp_region_held_drew (S := fun w' => Below (w0.heap.size) w0 w') (by kernel_rfl) ((Below.refl _ _).drew) ?_
    intro hHeld
    obtain ⟨X0, hX0⟩ : ∃ X, X = w0.drew := ⟨_, rfl⟩
    have hz0 : w0.heap.size ≤ X0.heap.size := by rw [hX0]; exact Nat.le_refl _
    rw [← hX0] at hHeld ⊢
    clear hX0
    refine tkl 0 (.pointer (some ⟨s, 0, none⟩)) rfl ?_ ?_
    · intro wx hSw; obtain ⟨hcS, hfS⟩ := bcellN hSw; go_simp
    try simp only [Act.put, aS]
    refine tkl 4 (.pointer (some ⟨w.heap.size, 0, none⟩)) rfl ?_ ?_
    · intro wx hSw; obtain ⟨hcS, hfS⟩ := bcellN hSw; go_simp
    try simp only [Act.put, aS]
    refine tkl 1 (.pointer (some ⟨s, 0, none⟩)) rfl ?_ ?_
    · intro wx hSw; obtain ⟨hcS, hfS⟩ := bcellN hSw; go_simp
    try simp only [Act.put, aS]
    refine tkl 5 (.int .i64 o) rfl ?_ ?_
    · intro wx hSw; obtain ⟨hcS, hfS⟩ := bcellN hSw; go_simp
    try simp only [Act.put, aS]
    refine tkl 2 (.pointer (some ⟨s, 8, none⟩)) rfl ?_ ?_
    · intro wx hSw; obtain ⟨hcS, hfS⟩ := bcellN hSw; go_simp
    try simp only [Act.put, aS]
    refine tkl 3 (.map (some b)) rfl ?_ ?_
    · intro wx hSw; obtain ⟨hcS, hfS⟩ := bcellN hSw; go_simp
    try simp only [Act.put, aS]
    refine tkl 6 (.tuple #[.agg #[.int .i64 0, .int .i64 0, .int .i64 0, .int .i64 0, .int .i64 0], .bool false]) rfl ?_ ?_
    · intro wx hSw; obtain ⟨hcS, hfS⟩ := bcellN hSw; have hl := HL.out wx hSw; go_simp
    try simp only [Act.put, aS]
    refine tkl 7 (.tuple #[.agg #[.int .i64 0, .int .i64 0, .int .i64 0, .int .i64 0, .int .i64 0], .bool false]) rfl ?_ ?_
    · intro wx hSw; obtain ⟨hcS, hfS⟩ := bcellN hSw; go_simp
    try simp only [Act.put, aS]
    refine tkl 8 (.agg #[.int .i64 0, .int .i64 0, .int .i64 0, .int .i64 0, .int .i64 0]) rfl ?_ ?_
    · intro wx hSw; obtain ⟨hcS, hfS⟩ := bcellN hSw; go_simp
    try simp only [Act.put, aS]
    refine tkl 9 (.bool false) rfl ?_ ?_
    · intro wx hSw; obtain ⟨hcS, hfS⟩ := bcellN hSw; go_simp
    try simp only [Act.put, aS]
    refine rd1 10 rfl fun K hK => ?_
    go_simp
    obtain ⟨Xgk, eA⟩ : ∃ X, X = X0.alloc (.cells #[.int .i64 0, .int .i64 0, .int .i64 0, .int .i64 0, .int .i64 0] 54) := ⟨_, rfl⟩
    rw [← eA]
    have hbA : Below X0.heap.size X0 Xgk := by rw [eA]; exact (Below.refl _ _).alloc (Nat.le_refl _) _
    have hZgk : Bk Xgk X0.heap.size [.int .i64 0, .int .i64 0, .int .i64 0, .int .i64 0, .int .i64 0] := by rw [eA]; exact bk_new X0 54 [.int .i64 0, .int .i64 0, .int .i64 0, .int .i64 0, .int .i64 0]
    have hzAgk1 : Xgk.heap.size ≤ X0.heap.size + 1 := by rw [eA]; simp
    have hzAgk2 : X0.heap.size + 1 ≤ Xgk.heap.size := by rw [eA]; simp
    clear eA
    have hsz_Xgk := hbA.size
    refine hK.out _ _ (bthenN hHeld (by omega) hbA) (fun hNew => ?_)
    clear hK K hHeld
    have hHeld := hNew
    clear hNew
    try simp only [Act.put, aS]
    clear hbA
    obtain ⟨gk, egk⟩ : ∃ g, g = X0.heap.size := ⟨_, rfl⟩
    rw [← egk] at hZgk ⊢
    have egk1 : gk ≤ X0.heap.size := by omega
    have egk2 : X0.heap.size ≤ gk := by omega
    clear egk
    refine rd1 11 rfl fun K hK => ?_
    have r0 := (hZgk.2 0 (by simp)).1
    have r1 := (hZgk.2 1 (by simp)).1
    have r2 := (hZgk.2 2 (by simp)).1
    have r3 := (hZgk.2 3 (by simp)).1
    have r4 := (hZgk.2 4 (by simp)).1
    have f0 := (hZgk.2 0 (by simp)).2
    have f1 := (hZgk.2 1 (by simp)).2
    have f2 := (hZgk.2 2 (by simp)).2
    have f3 := (hZgk.2 3 (by simp)).2
    have f4 := (hZgk.2 4 (by simp)).2
    simp only [List.getD, List.getElem?_cons_zero, List.getElem?_cons_succ, Option.getD_some] at r0 r1 r2 r3 r4
    have lZgk := hZgk.1
    have hkgk : w0.heap.size ≤ gk := by omega
    go_simp
    obtain ⟨XSgk, eS⟩ : ∃ X, X = (((((Xgk.setCell ⟨gk, 0, none⟩ (.int .i64 0)).setCell ⟨gk, 1, none⟩ (.int .i64 0)).setCell ⟨gk, 2, none⟩ (.int .i64 0)).setCell ⟨gk, 3, none⟩ (.int .i64 0)).setCell ⟨gk, 4, none⟩ (.int .i64 0)) := ⟨_, rfl⟩
    rw [← eS]
    have hPgk : Bk XSgk gk [.int .i64 0, .int .i64 0, .int .i64 0, .int .i64 0, .int .i64 0] := by rw [eS]; exact bk_put (l := [.int .i64 0, .int .i64 0, .int .i64 0, .int .i64 0, .int .i64 0]) hZgk rfl
    have hzgk1 : XSgk.heap.size ≤ Xgk.heap.size := by rw [eS]; exact Nat.le_of_eq (size_put gk [.int .i64 0, .int .i64 0, .int .i64 0, .int .i64 0, .int .i64 0] 0 Xgk)
    have hzgk2 : Xgk.heap.size ≤ XSgk.heap.size := by rw [eS]; exact Nat.le_of_eq (size_put gk [.int .i64 0, .int .i64 0, .int .i64 0, .int .i64 0, .int .i64 0] 0 Xgk).symm
    have hmgk : ∀ b, ¬ b = gk → Sm Xgk XSgk b := by rw [eS]; exact fun b hb => sm_put hb [.int .i64 0, .int .i64 0, .int .i64 0, .int .i64 0, .int .i64 0] 0 Xgk
    have hBgk : Below (w0.heap.size) w0 XSgk := by rw [eS]; exact below_put hkgk [.int .i64 0, .int .i64 0, .int .i64 0, .int .i64 0, .int .i64 0] 0 hHeld
    clear eS r0 f0 r1 f1 r2 f2 r3 f3 r4 f4
    refine hK.out _ _ hBgk (fun hNew => ?_)
    clear hK K hHeld
    have hHeld := hNew
    clear hNew
    try simp only [Act.put, aS]
    refine tkl 12 (.bool false) rfl ?_ ?_
    · intro wx hSw; obtain ⟨hcS, hfS⟩ := bcellN hSw; go_simp
    try simp only [Act.put, aS]
    refine wpAnyH_done (by kernel_rfl) ?_ _
    clear yP0 yP1 yP2 yP3 yP4 hlP c8 lsw
    clear HL
    have y_XSgk : w0.heap.size ≤ XSgk.heap.size := hHeld.size
    have B4 := hid (bthen B1.out hHeld)
    have P4 := hid (P2.out.below hHeld)
    have S4 := hid (S3.out.below hHeld)
    clear B1 P2 S3
    have G5 : Hid (Bk XSgk gk [.int .i64 0, .int .i64 0, .int .i64 0, .int .i64 0, .int .i64 0]) := hPgk
    have zX := hHeld.size
    clear hHeld hPgk
    have ER : Hid (doV c d V o sq k t nn = (V, 9)) := by unfold Hid; simp only [doV, idx_none V.nW hno]
    go_wp2
    go_ret
    exact ⟨by rw [ER.out] <;> rfl, by rw [ER.out]; exact S4.out.mono (by omega), B4.out.mono (by omega)⟩
theorem doR_no {c d : Int} {V : CV} {o sq k t nn : Int} (h : cllB c d V = false ∨ ordB o sq k t nn = false) : doR c d V o sq k t nn = (CV.zero, 0) := if_pos h
theorem doR_yes {c d : Int} {V : CV} {o sq k t nn : Int} (h1 : cllB c d V = true) (h2 : ordB o sq k t nn = true) : doR c d V o sq k t nn = doV c d V o sq k t nn := if_neg (fun h => by rcases h with h | h; rw [h1] at h; cases h; rw [h2] at h; cases h)
def Rs (V U : CV) : Prop := Rise U.W U.nW ∧ U.nW ≤ V.nW
theorem Rs.set {V U : CV} {m : Nat} {Z : Nat → Int} (h : Rs V U) (hz : Z 0 = U.W m 0) : Rs V (U.setW m Z) := ⟨h.1.upd hz, h.2⟩
theorem rise_kind {c d : Int} {V U : CV} {m : Nat} {k t n : Int} (h : Rs V U) : Rs V (kindV c d U m k t n).1 := by
  have a1 : ∀ (Z : Nat → Int) (a : Int), za Z a 0 = Z 0 := fun _ _ => rfl
  have a2 : ∀ (Z : Nat → Int) (a : Int), zc Z a 0 = Z 0 := fun _ _ => rfl
  unfold kindV stepV giveV dropV pickV throwV
  repeat' split
  all_goals first
    | exact h
    | exact h.set rfl
    | exact ⟨h.1.del, Nat.le_trans (Nat.sub_le _ _) h.2⟩
    | exact (h.set (m := m) (Z := zc (U.W m) (-n)) rfl).set (Eq.symm (upd_id (W := U.W) (m := m) (Z := zc (U.W m) (-n)) rfl _))
theorem rise_do {c d : Int} {V : CV} {o s k t n : Int} (h : Rise V.W V.nW) : Rise (doV c d V o s k t n).1.W (doV c d V o s k t n).1.nW ∧ (doV c d V o s k t n).1.nW ≤ V.nW := by
  have h0 : Rs V V := ⟨h, Nat.le_refl _⟩
  show Rs V (doV c d V o s k t n).1
  unfold doV freshV
  repeat' split
  all_goals first
    | exact h0
    | exact rise_kind (h0.set rfl)
    | exact h0.set rfl
theorem told_sv (c d : Int) (s b lo : Nat) (U : CV) (n : Nat) (hr : Rise U.W U.nW) (hn : n ≤ 1048576) (hN : U.nW ≤ 1048576) (w : World) (h : Sv w c d s b lo U n) :
    Calls Tryz.prog 51 #[.pointer (some ⟨s, 0, none⟩)] w fun e w' => (∃ v, e = .returned v ∧ OwnC lo w'.heap.size w' v U) ∧ Below lo w w' := by
  obtain ⟨n0, W0, h⟩ := h
  have hl : (ids U).length = U.nW := ids_len
  have hr2 := told_impl c d s b lo (U.with n0 W0) n (mapW U.W U.nW) (ids U) U.W hn (List.pairwise_map.2 ((List.pairwise_lt_range (n := U.nW)).imp_of_mem (fun hi hj hij => hr _ _ hij (List.mem_range.1 hj))))
    (fun z => ⟨fun hz => by obtain ⟨k, hk, rfl⟩ := List.mem_map.1 hz; rw [hr.map (List.mem_range.1 hk) rfl]; rfl, fun hz => by obtain ⟨m, h1, rfl⟩ := mapW_in U.nW hz; exact List.mem_map.2 ⟨m, List.mem_range.2 h1, rfl⟩⟩)
    (fun k hk => by
      rw [hl] at hk
      have e : (ids U)[k]! = U.W k 0 := by simp [ids, hk]
      rw [e, hr.map hk rfl]; rfl) (by omega) w h
  rw [hl] at hr2
  exact hr2
set_option maxRecDepth 20000 in
set_option maxHeartbeats 8000000 in
theorem cllDo_impl (c d : Int) (v : Value) (V : CV) (lo : Nat) (o sq k t nn : Int) (hs0 : V.short 1048576) (hwf0 : ∀ k, k < V.nW → (Lit.int .i64 (V.W k 0)).wf = true) (hwo0 : (Lit.int .i64 o).wf = true) (hwt0 : (Lit.int .i64 t).wf = true) (w : World)
    (hg00 : w.cell? ⟨0, 0, none⟩ = some (.iface 220 (.agg #[.pointer (some ⟨1, 178, none⟩)]))) (h : CopyAt lo w v V) :
    Calls Tryz.prog 14 #[.agg #[.int .i64 c, .int .i64 d], v, .agg #[.int .i64 o, .int .i64 sq, .int .i64 k, .int .i64 t, .int .i64 nn]] w fun e w' => (∃ u z, e = .returned (.tuple #[u, .int .i64 z]) ∧ z = (doR c d V o sq k t nn).2 ∧ OwnC w.heap.size w'.heap.size w' u (doR c d V o sq k t nn).1) ∧ Below w.heap.size w w' := by
  obtain ⟨bW, bO, bX, bI, q0, q1, q2, q3, q4, rfl, g1, g2, g3, g4⟩ := h
  have CP : Hid (CopyAt lo w (.agg #[.int .i64 V.c, .slice (some ⟨bW, 0, none⟩) V.nW V.nW, .int .i64 V.g, .slice (some ⟨bO, 0, none⟩) V.nO V.nO, .slice (some ⟨bX, 0, none⟩) V.nX V.nX, .slice (some ⟨bI, 0, none⟩) V.nI V.nI]) V) := ⟨bW, bO, bX, bI, q0, q1, q2, q3, q4, rfl, g1, g2, g3, g4⟩
  have hs : Hid (V.short 1048576) := hs0
  have hwf : Hid (∀ k, k < V.nW → (Lit.int .i64 (V.W k 0)).wf = true) := hwf0
  have hwo : Hid ((Lit.int .i64 o).wf = true) := hwo0
  have hwt : Hid ((Lit.int .i64 t).wf = true) := hwt0
  have hg0 : Hid (w.cell? ⟨0, 0, none⟩ = some (.iface 220 (.agg #[.pointer (some ⟨1, 178, none⟩)]))) := hg00
  have hpos : 0 < w.heap.size := World.block_lt_of_cell? w ⟨0, 0, none⟩ hg00
  clear g1 g2 g3 g4 hs0 hwf0 hwo0 hwt0 hg00 q0 q1 q2 q3 q4
  cases h1 : cllB c d V
  · skip
    go_enter Tryz.func14, Tryz.ntmps14
    go_wp2_with fail
    obtain ⟨w0, e0⟩ : ∃ w0, w0 = ((((w.alloc (.cells #[.int .i64 c, .int .i64 d] 38)).alloc (.cells #[.int .i64 V.c, .slice (some ⟨bW, 0, none⟩) V.nW V.nW, .int .i64 V.g, .slice (some ⟨bO, 0, none⟩) V.nO V.nO, .slice (some ⟨bX, 0, none⟩) V.nX V.nX, .slice (some ⟨bI, 0, none⟩) V.nI V.nI] 35)).alloc (.cells #[.int .i64 o, .int .i64 sq, .int .i64 k, .int .i64 t, .int .i64 nn] 41)).alloc (.cells #[.int .i64 0, .slice none 0 0, .int .i64 0, .slice none 0 0, .slice none 0 0, .slice none 0 0] 35)) := ⟨_, rfl⟩
    have z0 : w.heap.size + 4 ≤ w0.heap.size := by rw [e0]; simp
    have B0 : Hid (Below w.heap.size w w0) := by rw [e0]; exact ((((Below.refl _ _).alloc (by simp) _).alloc (by simp) _).alloc (by simp; omega) _).alloc (by simp; omega) _
    have A0 : Hid (Six w0 (w.heap.size + 1) [.int .i64 V.c, .slice (some ⟨bW, 0, none⟩) V.nW V.nW, .int .i64 V.g, .slice (some ⟨bO, 0, none⟩) V.nO V.nO, .slice (some ⟨bX, 0, none⟩) V.nX V.nX, .slice (some ⟨bI, 0, none⟩) V.nI V.nI]) := by rw [e0]; exact (six_box2 w _ 38 35 _ _ _ _ _ _ ).below (by simp) (((Below.refl _ _).alloc (Nat.le_refl _) _).alloc (by simp) _)
    have P0 : Hid (Bk w0 (w.heap.size + 1 + 1) [.int .i64 o, .int .i64 sq, .int .i64 k, .int .i64 t, .int .i64 nn]) := by rw [e0]; have h := bk_new ((w.alloc (.cells #[.int .i64 c, .int .i64 d] 38)).alloc (.cells #[.int .i64 V.c, .slice (some ⟨bW, 0, none⟩) V.nW V.nW, .int .i64 V.g, .slice (some ⟨bO, 0, none⟩) V.nO V.nO, .slice (some ⟨bX, 0, none⟩) V.nX V.nX, .slice (some ⟨bI, 0, none⟩) V.nI V.nI] 35)) 41 [.int .i64 o, .int .i64 sq, .int .i64 k, .int .i64 t, .int .i64 nn]; rw [World.size_alloc, World.size_alloc] at h; exact h.below ((Below.refl _ _).alloc (Nat.le_refl _) _)
    have R0 : Hid (Six w0 (w.heap.size + 1 + 1 + 1) [.int .i64 0, .slice none 0 0, .int .i64 0, .slice none 0 0, .slice none 0 0, .slice none 0 0]) := by rw [e0]; have h := six_new (((w.alloc (.cells #[.int .i64 c, .int .i64 d] 38)).alloc (.cells #[.int .i64 V.c, .slice (some ⟨bW, 0, none⟩) V.nW V.nW, .int .i64 V.g, .slice (some ⟨bO, 0, none⟩) V.nO V.nO, .slice (some ⟨bX, 0, none⟩) V.nX V.nX, .slice (some ⟨bI, 0, none⟩) V.nI V.nI] 35)).alloc (.cells #[.int .i64 o, .int .i64 sq, .int .i64 k, .int .i64 t, .int .i64 nn] 41)) 35 (.int .i64 0) (.slice none 0 0) (.int .i64 0) (.slice none 0 0) (.slice none 0 0) (.slice none 0 0); rw [World.size_alloc, World.size_alloc, World.size_alloc] at h; exact h
    have m00 : Hid (w0.cell? ⟨w.heap.size, 0, none⟩ = some (.int .i64 c)) := by rw [e0]; exact (((((Below.refl _ (w.alloc (.cells #[.int .i64 c, .int .i64 d] 38))).alloc (Nat.le_refl _) _).alloc (by simp) _).alloc (by simp) _).cell (p := ⟨w.heap.size, 0, none⟩) (by simp)).trans (by simp)
    have m10 : Hid (w0.cell? ⟨w.heap.size, 1, none⟩ = some (.int .i64 d)) := by rw [e0]; exact (((((Below.refl _ (w.alloc (.cells #[.int .i64 c, .int .i64 d] 38))).alloc (Nat.le_refl _) _).alloc (by simp) _).alloc (by simp) _).cell (p := ⟨w.heap.size, 1, none⟩) (by simp)).trans (by simp)
    rw [← e0]
    clear e0
    refine (cllOk_impl c d _ V lo hs.out _ (CP.out.below B0.out)).mono ?_
    rintro e w1 ⟨rfl, hb1⟩
    rw [h1]
    have B1 := hid (bthen B0.out hb1)
    have A1 := hid (A0.out.below (by omega) hb1)
    have P1 := hid (P0.out.below hb1)
    have R1 := hid (R0.out.below (by omega) hb1)
    have m01 := hid (one_bl (by omega) hb1 m00.out)
    have m11 := hid (one_bl (by omega) hb1 m10.out)
    have z1 : w.heap.size + 4 ≤ w1.heap.size := Nat.le_trans z0 hb1.size
    clear A0 B0 P0 R0 m00 m10
    clear hb1
    have m0 := m01.out
    have m1 := m11.out
    obtain ⟨a0, a1, a2, a3, a4, a5⟩ := A1.out.a6
    have lA : w.heap.size + 1 < w1.heap.size := by omega
    have lM : w.heap.size < w1.heap.size := by omega
    obtain ⟨p0, p1, p2, p3, p4⟩ := P1.out.a5
    have lP : w.heap.size + 1 + 1 < w1.heap.size := by omega
    obtain ⟨r0, r1, r2, r3, r4, r5⟩ := R1.out.a6
    obtain ⟨q0, q1, q2, q3, q4, q5⟩ := R1.out.f6
    have lR : w.heap.size + 1 + 1 + 1 < w1.heap.size := by omega
    go_wp2
    refine bodyPost_ret (v := .tuple #[.agg #[.int .i64 0, .slice none 0 0, .int .i64 0, .slice none 0 0, .slice none 0 0, .slice none 0 0], .int .i64 0]) (by simp [results, Tryz.results14, go_sem, r0, r1, r2, r3, r4, r5]) rfl ?_
    exact ⟨⟨_, _, rfl, by rw [doR_no (.inl h1)], by rw [doR_no (.inl h1)]; exact nothing_own _ _ _⟩, below_put6 B1.out (by omega) _ _ _ _ _ _⟩
  cases h3 : ordB o sq k t nn
  · skip
    go_enter Tryz.func14, Tryz.ntmps14
    go_wp2_with fail
    obtain ⟨w0, e0⟩ : ∃ w0, w0 = ((((w.alloc (.cells #[.int .i64 c, .int .i64 d] 38)).alloc (.cells #[.int .i64 V.c, .slice (some ⟨bW, 0, none⟩) V.nW V.nW, .int .i64 V.g, .slice (some ⟨bO, 0, none⟩) V.nO V.nO, .slice (some ⟨bX, 0, none⟩) V.nX V.nX, .slice (some ⟨bI, 0, none⟩) V.nI V.nI] 35)).alloc (.cells #[.int .i64 o, .int .i64 sq, .int .i64 k, .int .i64 t, .int .i64 nn] 41)).alloc (.cells #[.int .i64 0, .slice none 0 0, .int .i64 0, .slice none 0 0, .slice none 0 0, .slice none 0 0] 35)) := ⟨_, rfl⟩
    have z0 : w.heap.size + 4 ≤ w0.heap.size := by rw [e0]; simp
    have B0 : Hid (Below w.heap.size w w0) := by rw [e0]; exact ((((Below.refl _ _).alloc (by simp) _).alloc (by simp) _).alloc (by simp; omega) _).alloc (by simp; omega) _
    have A0 : Hid (Six w0 (w.heap.size + 1) [.int .i64 V.c, .slice (some ⟨bW, 0, none⟩) V.nW V.nW, .int .i64 V.g, .slice (some ⟨bO, 0, none⟩) V.nO V.nO, .slice (some ⟨bX, 0, none⟩) V.nX V.nX, .slice (some ⟨bI, 0, none⟩) V.nI V.nI]) := by rw [e0]; exact (six_box2 w _ 38 35 _ _ _ _ _ _ ).below (by simp) (((Below.refl _ _).alloc (Nat.le_refl _) _).alloc (by simp) _)
    have P0 : Hid (Bk w0 (w.heap.size + 1 + 1) [.int .i64 o, .int .i64 sq, .int .i64 k, .int .i64 t, .int .i64 nn]) := by rw [e0]; have h := bk_new ((w.alloc (.cells #[.int .i64 c, .int .i64 d] 38)).alloc (.cells #[.int .i64 V.c, .slice (some ⟨bW, 0, none⟩) V.nW V.nW, .int .i64 V.g, .slice (some ⟨bO, 0, none⟩) V.nO V.nO, .slice (some ⟨bX, 0, none⟩) V.nX V.nX, .slice (some ⟨bI, 0, none⟩) V.nI V.nI] 35)) 41 [.int .i64 o, .int .i64 sq, .int .i64 k, .int .i64 t, .int .i64 nn]; rw [World.size_alloc, World.size_alloc] at h; exact h.below ((Below.refl _ _).alloc (Nat.le_refl _) _)
    have R0 : Hid (Six w0 (w.heap.size + 1 + 1 + 1) [.int .i64 0, .slice none 0 0, .int .i64 0, .slice none 0 0, .slice none 0 0, .slice none 0 0]) := by rw [e0]; have h := six_new (((w.alloc (.cells #[.int .i64 c, .int .i64 d] 38)).alloc (.cells #[.int .i64 V.c, .slice (some ⟨bW, 0, none⟩) V.nW V.nW, .int .i64 V.g, .slice (some ⟨bO, 0, none⟩) V.nO V.nO, .slice (some ⟨bX, 0, none⟩) V.nX V.nX, .slice (some ⟨bI, 0, none⟩) V.nI V.nI] 35)).alloc (.cells #[.int .i64 o, .int .i64 sq, .int .i64 k, .int .i64 t, .int .i64 nn] 41)) 35 (.int .i64 0) (.slice none 0 0) (.int .i64 0) (.slice none 0 0) (.slice none 0 0) (.slice none 0 0); rw [World.size_alloc, World.size_alloc, World.size_alloc] at h; exact h
    have m00 : Hid (w0.cell? ⟨w.heap.size, 0, none⟩ = some (.int .i64 c)) := by rw [e0]; exact (((((Below.refl _ (w.alloc (.cells #[.int .i64 c, .int .i64 d] 38))).alloc (Nat.le_refl _) _).alloc (by simp) _).alloc (by simp) _).cell (p := ⟨w.heap.size, 0, none⟩) (by simp)).trans (by simp)
    have m10 : Hid (w0.cell? ⟨w.heap.size, 1, none⟩ = some (.int .i64 d)) := by rw [e0]; exact (((((Below.refl _ (w.alloc (.cells #[.int .i64 c, .int .i64 d] 38))).alloc (Nat.le_refl _) _).alloc (by simp) _).alloc (by simp) _).cell (p := ⟨w.heap.size, 1, none⟩) (by simp)).trans (by simp)
    rw [← e0]
    clear e0
    refine (cllOk_impl c d _ V lo hs.out _ (CP.out.below B0.out)).mono ?_
    rintro e w1 ⟨rfl, hb1⟩
    rw [h1]
    have B1 := hid (bthen B0.out hb1)
    have A1 := hid (A0.out.below (by omega) hb1)
    have P1 := hid (P0.out.below hb1)
    have R1 := hid (R0.out.below (by omega) hb1)
    have m01 := hid (one_bl (by omega) hb1 m00.out)
    have m11 := hid (one_bl (by omega) hb1 m10.out)
    have z1 : w.heap.size + 4 ≤ w1.heap.size := Nat.le_trans z0 hb1.size
    clear A0 B0 P0 R0 m00 m10
    clear hb1
    have m0 := m01.out
    have m1 := m11.out
    obtain ⟨a0, a1, a2, a3, a4, a5⟩ := A1.out.a6
    have lA : w.heap.size + 1 < w1.heap.size := by omega
    have lM : w.heap.size < w1.heap.size := by omega
    obtain ⟨p0, p1, p2, p3, p4⟩ := P1.out.a5
    have lP : w.heap.size + 1 + 1 < w1.heap.size := by omega
    go_wp2_with fail
    clear m0 m1 a0 a1 a2 a3 a4 a5 lA lM p0 p1 p2 p3 p4 lP
    refine (ordOk_impl o sq k t nn _).mono ?_
    rintro e w2 ⟨rfl, hb2⟩
    rw [h3]
    have B2 := hid (bthen B1.out hb2)
    have A2 := hid (A1.out.below (by omega) hb2)
    have P2 := hid (P1.out.below hb2)
    have R2 := hid (R1.out.below (by omega) hb2)
    have m02 := hid (one_bl (by omega) hb2 m01.out)
    have m12 := hid (one_bl (by omega) hb2 m11.out)
    have z2 : w.heap.size + 4 ≤ w2.heap.size := Nat.le_trans z1 hb2.size
    clear A1 B1 P1 R1 m01 m11
    clear hb2
    have m0 := m02.out
    have m1 := m12.out
    obtain ⟨a0, a1, a2, a3, a4, a5⟩ := A2.out.a6
    have lA : w.heap.size + 1 < w2.heap.size := by omega
    have lM : w.heap.size < w2.heap.size := by omega
    obtain ⟨p0, p1, p2, p3, p4⟩ := P2.out.a5
    have lP : w.heap.size + 1 + 1 < w2.heap.size := by omega
    obtain ⟨r0, r1, r2, r3, r4, r5⟩ := R2.out.a6
    obtain ⟨q0, q1, q2, q3, q4, q5⟩ := R2.out.f6
    have lR : w.heap.size + 1 + 1 + 1 < w2.heap.size := by omega
    go_wp2
    refine bodyPost_ret (v := .tuple #[.agg #[.int .i64 0, .slice none 0 0, .int .i64 0, .slice none 0 0, .slice none 0 0, .slice none 0 0], .int .i64 0]) (by simp [results, Tryz.results14, go_sem, r0, r1, r2, r3, r4, r5]) rfl ?_
    exact ⟨⟨_, _, rfl, by rw [doR_no (.inr h3)], by rw [doR_no (.inr h3)]; exact nothing_own _ _ _⟩, below_put6 B2.out (by omega) _ _ _ _ _ _⟩
  have hnO : V.nO ≠ 0 := by have := cllB_two h1; omega
  have hnW : Hid (V.nW ≤ 9) := cllB_nine h1
  go_enter Tryz.func14, Tryz.ntmps14
  go_wp2_with fail
  obtain ⟨w0, e0⟩ : ∃ w0, w0 = ((((w.alloc (.cells #[.int .i64 c, .int .i64 d] 38)).alloc (.cells #[.int .i64 V.c, .slice (some ⟨bW, 0, none⟩) V.nW V.nW, .int .i64 V.g, .slice (some ⟨bO, 0, none⟩) V.nO V.nO, .slice (some ⟨bX, 0, none⟩) V.nX V.nX, .slice (some ⟨bI, 0, none⟩) V.nI V.nI] 35)).alloc (.cells #[.int .i64 o, .int .i64 sq, .int .i64 k, .int .i64 t, .int .i64 nn] 41)).alloc (.cells #[.int .i64 0, .slice none 0 0, .int .i64 0, .slice none 0 0, .slice none 0 0, .slice none 0 0] 35)) := ⟨_, rfl⟩
  have z0 : w.heap.size + 4 ≤ w0.heap.size := by rw [e0]; simp
  have B0 : Hid (Below w.heap.size w w0) := by rw [e0]; exact ((((Below.refl _ _).alloc (by simp) _).alloc (by simp) _).alloc (by simp; omega) _).alloc (by simp; omega) _
  have A0 : Hid (Six w0 (w.heap.size + 1) [.int .i64 V.c, .slice (some ⟨bW, 0, none⟩) V.nW V.nW, .int .i64 V.g, .slice (some ⟨bO, 0, none⟩) V.nO V.nO, .slice (some ⟨bX, 0, none⟩) V.nX V.nX, .slice (some ⟨bI, 0, none⟩) V.nI V.nI]) := by rw [e0]; exact (six_box2 w _ 38 35 _ _ _ _ _ _ ).below (by simp) (((Below.refl _ _).alloc (Nat.le_refl _) _).alloc (by simp) _)
  have P0 : Hid (Bk w0 (w.heap.size + 1 + 1) [.int .i64 o, .int .i64 sq, .int .i64 k, .int .i64 t, .int .i64 nn]) := by rw [e0]; have h := bk_new ((w.alloc (.cells #[.int .i64 c, .int .i64 d] 38)).alloc (.cells #[.int .i64 V.c, .slice (some ⟨bW, 0, none⟩) V.nW V.nW, .int .i64 V.g, .slice (some ⟨bO, 0, none⟩) V.nO V.nO, .slice (some ⟨bX, 0, none⟩) V.nX V.nX, .slice (some ⟨bI, 0, none⟩) V.nI V.nI] 35)) 41 [.int .i64 o, .int .i64 sq, .int .i64 k, .int .i64 t, .int .i64 nn]; rw [World.size_alloc, World.size_alloc] at h; exact h.below ((Below.refl _ _).alloc (Nat.le_refl _) _)
  have R0 : Hid (Six w0 (w.heap.size + 1 + 1 + 1) [.int .i64 0, .slice none 0 0, .int .i64 0, .slice none 0 0, .slice none 0 0, .slice none 0 0]) := by rw [e0]; have h := six_new (((w.alloc (.cells #[.int .i64 c, .int .i64 d] 38)).alloc (.cells #[.int .i64 V.c, .slice (some ⟨bW, 0, none⟩) V.nW V.nW, .int .i64 V.g, .slice (some ⟨bO, 0, none⟩) V.nO V.nO, .slice (some ⟨bX, 0, none⟩) V.nX V.nX, .slice (some ⟨bI, 0, none⟩) V.nI V.nI] 35)).alloc (.cells #[.int .i64 o, .int .i64 sq, .int .i64 k, .int .i64 t, .int .i64 nn] 41)) 35 (.int .i64 0) (.slice none 0 0) (.int .i64 0) (.slice none 0 0) (.slice none 0 0) (.slice none 0 0); rw [World.size_alloc, World.size_alloc, World.size_alloc] at h; exact h
  have m00 : Hid (w0.cell? ⟨w.heap.size, 0, none⟩ = some (.int .i64 c)) := by rw [e0]; exact (((((Below.refl _ (w.alloc (.cells #[.int .i64 c, .int .i64 d] 38))).alloc (Nat.le_refl _) _).alloc (by simp) _).alloc (by simp) _).cell (p := ⟨w.heap.size, 0, none⟩) (by simp)).trans (by simp)
  have m10 : Hid (w0.cell? ⟨w.heap.size, 1, none⟩ = some (.int .i64 d)) := by rw [e0]; exact (((((Below.refl _ (w.alloc (.cells #[.int .i64 c, .int .i64 d] 38))).alloc (Nat.le_refl _) _).alloc (by simp) _).alloc (by simp) _).cell (p := ⟨w.heap.size, 1, none⟩) (by simp)).trans (by simp)
  rw [← e0]
  clear e0
  refine (cllOk_impl c d _ V lo hs.out _ (CP.out.below B0.out)).mono ?_
  rintro e w1 ⟨rfl, hb1⟩
  rw [h1]
  have B1 := hid (bthen B0.out hb1)
  have A1 := hid (A0.out.below (by omega) hb1)
  have P1 := hid (P0.out.below hb1)
  have R1 := hid (R0.out.below (by omega) hb1)
  have m01 := hid (one_bl (by omega) hb1 m00.out)
  have m11 := hid (one_bl (by omega) hb1 m10.out)
  have z1 : w.heap.size + 4 ≤ w1.heap.size := Nat.le_trans z0 hb1.size
  clear A0 B0 P0 R0 m00 m10
  clear hb1
  have m0 := m01.out
  have m1 := m11.out
  obtain ⟨a0, a1, a2, a3, a4, a5⟩ := A1.out.a6
  have lA : w.heap.size + 1 < w1.heap.size := by omega
  have lM : w.heap.size < w1.heap.size := by omega
  obtain ⟨p0, p1, p2, p3, p4⟩ := P1.out.a5
  have lP : w.heap.size + 1 + 1 < w1.heap.size := by omega
  go_wp2_with fail
  clear m0 m1 a0 a1 a2 a3 a4 a5 lA lM p0 p1 p2 p3 p4 lP
  refine (ordOk_impl o sq k t nn _).mono ?_
  rintro e w2 ⟨rfl, hb2⟩
  rw [h3]
  have B2 := hid (bthen B1.out hb2)
  have A2 := hid (A1.out.below (by omega) hb2)
  have P2 := hid (P1.out.below hb2)
  have R2 := hid (R1.out.below (by omega) hb2)
  have m02 := hid (one_bl (by omega) hb2 m01.out)
  have m12 := hid (one_bl (by omega) hb2 m11.out)
  have z2 : w.heap.size + 4 ≤ w2.heap.size := Nat.le_trans z1 hb2.size
  clear A1 B1 P1 R1 m01 m11
  clear hb2
  have m0 := m02.out
  have m1 := m12.out
  obtain ⟨a0, a1, a2, a3, a4, a5⟩ := A2.out.a6
  have lA : w.heap.size + 1 < w2.heap.size := by omega
  have lM : w.heap.size < w2.heap.size := by omega
  obtain ⟨p0, p1, p2, p3, p4⟩ := P2.out.a5
  have lP : w.heap.size + 1 + 1 < w2.heap.size := by omega
  go_wp2_with fail
  clear m0 m1 a0 a1 a2 a3 a4 a5 lA lM p0 p1 p2 p3 p4 lP
  refine (sceneOf c d _ V lo hs.out hwf.out _ (CP.out.below B2.out)).mono ?_
  rintro e w4 ⟨s, b, lc, hc, rfl, hSc, g1, g2, g3, hb4⟩
  have B4 := hid (bthen B2.out hb4)
  have A4 := hid (A2.out.below (by omega) hb4)
  have P4 := hid (P2.out.below hb4)
  have R4 := hid (R2.out.below (by omega) hb4)
  have m04 := hid (one_bl (by omega) hb4 m02.out)
  have m14 := hid (one_bl (by omega) hb4 m12.out)
  have z4 : w.heap.size + 4 ≤ w4.heap.size := Nat.le_trans z2 hb4.size
  clear A2 B2 P2 R2 m02 m12
  have S4 : Hid (Sv w4 c d s b w2.heap.size V V.nW) := ⟨V.nW, V.W, hSc.sc hnO g3 g1 g2⟩
  have lo2 : w2.heap.size ≤ w4.heap.size := hb4.size
  clear hb4 hSc g1 g2 g3
  obtain ⟨l2, el2⟩ : ∃ l2, l2 = w2.heap.size := ⟨_, rfl⟩
  rw [← el2] at S4 lo2 z2
  clear el2
  obtain ⟨p0, p1, p2, p3, p4⟩ := P4.out.a5
  have lP : w.heap.size + 1 + 1 < w4.heap.size := by omega
  go_wp2_with fail
  clear p0 p1 p2 p3 p4 lP
  refine (do_impl c d o sq k t nn s b l2 V V.nW h1 h3 hwo.out hwt.out _ ((B4.out.cell (p := ⟨0, 0, none⟩) hpos).trans hg0.out) (by omega) S4.out).mono ?_
  rintro e w5 ⟨rfl, hS5, hb5⟩
  have S5 : Hid (Sv w5 c d s b l2 (doV c d V o sq k t nn).1 (V.nW + 5)) := hS5
  have z5 : w4.heap.size ≤ w5.heap.size := hb5.size
  have B5 : Hid (Below w.heap.size w w5) := B4.out.trans (hb5.mono (by omega))
  have R5 : Hid (Six w5 (w.heap.size + 1 + 1 + 1) [.int .i64 0, .slice none 0 0, .int .i64 0, .slice none 0 0, .slice none 0 0, .slice none 0 0]) := fun i hi => by have h := sm_below hb5 (b := w.heap.size + 1 + 1 + 1) (by omega) i; rw [h.1, h.2]; exact R4.out i hi
  clear hS5 hb5 S4 B4 R4 A4 P4 m04 m14
  obtain ⟨tb, etb⟩ : ∃ tb, tb = (doV c d V o sq k t nn).2 := ⟨_, rfl⟩
  have ETB : Hid (tb = (doV c d V o sq k t nn).2) := etb
  rw [← etb]
  clear etb
  go_wp2_with fail
  refine (told_sv c d s b l2 _ (V.nW + 5) (rise_do (cllB_rise h1)).1 (by have := hnW.out; omega) (Nat.le_trans (rise_do (cllB_rise h1)).2 (by have := hnW.out; omega)) _ S5.out).mono ?_
  rintro e w6 ⟨⟨u, rfl, hO⟩, hb6⟩
  obtain ⟨U, eU⟩ : ∃ U, U = (doV c d V o sq k t nn).1 := ⟨_, rfl⟩
  rw [← eU] at hO
  have EU : Hid (U = (doV c d V o sq k t nn).1) := eU
  obtain ⟨aW, kW, aO, kO, aX, kX, aI, kI, rfl, _, _, _, _⟩ := hO.at
  have O6 : Hid (OwnC l2 w6.heap.size w6 (.agg #[.int .i64 U.c, .slice aW U.nW kW, .int .i64 U.g, .slice aO U.nO kO, .slice aX U.nX kX, .slice aI U.nI kI]) U) := hO
  have B6 : Hid (Below w.heap.size w w6) := B5.out.trans (hb6.mono (by omega))
  have R6 : Hid (Six w6 (w.heap.size + 1 + 1 + 1) [.int .i64 0, .slice none 0 0, .int .i64 0, .slice none 0 0, .slice none 0 0, .slice none 0 0]) := fun i hi => by have h := sm_below hb6 (b := w.heap.size + 1 + 1 + 1) (by omega) i; rw [h.1, h.2]; exact R5.out i hi
  have z6 : w5.heap.size ≤ w6.heap.size := hb6.size
  clear hO hb6 S5 B5 R5 eU
  obtain ⟨r0, r1, r2, r3, r4, r5⟩ := R6.out.a6
  obtain ⟨q0, q1, q2, q3, q4, q5⟩ := R6.out.f6
  have lR : w.heap.size + 1 + 1 + 1 < w6.heap.size := by omega
  go_wp2
  refine bodyPost_ret (v := .tuple #[.agg #[.int .i64 U.c, .slice aW U.nW kW, .int .i64 U.g, .slice aO U.nO kO, .slice aX U.nX kX, .slice aI U.nI kI], .int .i64 tb]) (by simp [results, Tryz.results14, go_sem, r0, r1, r2, r3, r4, r5]) rfl ?_
  have hzz := size_put6 w6 (w.heap.size + 1 + 1 + 1) (.int .i64 U.c) (.slice aW U.nW kW) (.int .i64 U.g) (.slice aO U.nO kO) (.slice aX U.nX kX) (.slice aI U.nI kI)
  refine ⟨⟨_, _, rfl, by rw [doR_yes h1 h3, ETB.out], ?_⟩, below_put6 B6.out (by omega) _ _ _ _ _ _⟩
  rw [doR_yes h1 h3]
  show OwnC w.heap.size (put6 w6 (w.heap.size + 1 + 1 + 1) (.int .i64 U.c) (.slice aW U.nW kW) (.int .i64 U.g) (.slice aO U.nO kO) (.slice aX U.nX kX) (.slice aI U.nI kI)).heap.size (put6 w6 (w.heap.size + 1 + 1 + 1) (.int .i64 U.c) (.slice aW U.nW kW) (.int .i64 U.g) (.slice aO U.nO kO) (.slice aX U.nX kX) (.slice aI U.nI kI)) _ _
  rw [hzz]
  rw [← EU.out]
  exact (O6.out.sm (Nat.le_of_eq hzz.symm) (fun x g1 g2 => sm_put6 (by omega) (.int .i64 U.c) (.slice aW U.nW kW) (.int .i64 U.g) (.slice aO U.nO kO) (.slice aX U.nX kX) (.slice aI U.nI kI))).low (by omega) (Nat.le_of_eq hzz.symm)
theorem OwnC.drew {lo hi : Nat} {w : World} {v : Value} {V : CV} (h : OwnC lo hi w v V) : OwnC lo hi w.drew v V := h
end Go.Proofs.YthbkjfkkdaheoaaGreatDoor
