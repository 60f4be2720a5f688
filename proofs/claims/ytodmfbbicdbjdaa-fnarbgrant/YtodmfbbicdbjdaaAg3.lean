/- The walk of DrawArbGrant: a map, a table, how many servers, a cell and a server are drawn; conditions: the code is a slice of bytes. -/
import Derived.Test.YtodmfbbicdbjdaaAg2
namespace Go.Proofs.Ytodmfbbicdbjdaa
open Go.RowKit Go.Deep
set_option linter.unusedVariables false

theorem rowAlloc {w : World} {a : Option Addr} {len cap : Nat} {zs : List Int} (h : IsRow w a len cap zs) (o : Obj) : IsRow (w.alloc o) a len cap zs := by
  rcases h with h | ⟨x, rfl, hl, hm, hz, hc, hw⟩
  · exact .inl h
  · refine .inr ⟨x, rfl, hl, hm, hz, fun i hi => ?_, hw⟩
    have hlt : (x.add i).block < w.heap.size := by
      by_cases g : (x.add i).block < w.heap.size
      · exact g
      · exfalso
        have : w.heap[(x.add i).block]? = none := by simp; omega
        have c := hc i hi
        simp [World.cell?, this] at c
    rw [(bcell' ((Below.refl _ _).alloc (by simp) _) hlt)]; exact hc i hi

theorem IsRow.below {w w' : World} {a : Option Addr} {len cap : Nat} {zs : List Int} (h : IsRow w a len cap zs) (hb : Below w.heap.size w w') : IsRow w' a len cap zs := by
  rcases h with h | ⟨x, rfl, hl, hm, hz, hc, hw⟩
  · exact .inl h
  · refine .inr ⟨x, rfl, hl, hm, hz, fun i hi => ?_, hw⟩
    have hlt : (x.add i).block < w.heap.size := by
      by_cases g : (x.add i).block < w.heap.size
      · exact g
      · exfalso
        have : w.heap[(x.add i).block]? = none := by simp; omega
        have c := hc i hi
        simp [World.cell?, this] at c
    rw [bcell' hb hlt]; exact hc i hi


set_option maxRecDepth 20000 in
set_option maxHeartbeats 4000000 in
theorem draw_grant (a : Option Addr) (len cap : Nat) (zs : List Int) (w : World) (h : IsRow w a len cap zs) :
    Calls Try.prog 4 #[.slice a len cap] w fun e w' => ∃ c d v T n ce sv, e = .returned (.tuple #[.agg #[.int .i64 c, .int .i64 d], v, .int .i64 n, .int .i64 ce, .int .i64 sv]) ∧ TabAt w' v T ∧ T.short 1000 ∧ (-10 ≤ n ∧ n ≤ 10) ∧ (-1 ≤ ce ∧ ce ≤ 5) ∧ (-1 ≤ sv ∧ sv ≤ 5) ∧ Below w.heap.size w w' := by
  have H : Hid (IsRow w a len cap zs) := h
  clear h
  go_enter Try.func4, Try.ntmps4
  obtain ⟨wa, ea⟩ : ∃ wa, wa = (w.alloc (.cells #[.int .i64 0, .int .i64 0] 24)).alloc (.cells #[.slice none 0 0, .slice none 0 0] 27) := ⟨_, rfl⟩
  have Pa : Hid (Bk wa w.heap.size [.int .i64 0, .int .i64 0]) := by rw [ea]; exact (bk_new w 24 [.int .i64 0, .int .i64 0]).below ((Below.refl _ _).alloc (Nat.le_refl _) _)
  have Qa : Hid (Bk wa (w.heap.size + 1) [.slice none 0 0, .slice none 0 0]) := by rw [ea]; have h := bk_new (w.alloc (.cells #[.int .i64 0, .int .i64 0] 24)) 27 [.slice none 0 0, .slice none 0 0]; rw [World.size_alloc] at h; exact h
  have Ia : Hid (IsRow wa a len cap zs) := by rw [ea]; exact rowAlloc (rowAlloc H.out _) _
  have Ba : Hid (Below w.heap.size w wa) := by rw [ea]; exact ((Below.refl _ _).alloc (Nat.le_refl _) _).alloc (by simp) _
  have hza : wa.heap.size = w.heap.size + 2 := by rw [ea]; simp
  go_wp2_with fail
  rw [← ea]
  clear ea H
  refine (open_any a len cap zs _ Ia.out).mono ?_
  rintro e w1 ⟨rfl, R1, hb1, hs1⟩
  have hs1a : w.heap.size + 3 ≤ w1.heap.size := by omega
  rw [hza] at R1 ⊢
  have RB : Hid (RdB w1 (w.heap.size + 2) a (min len 2000) cap 0) := ⟨0, Int.le_refl _, Int.le_refl _, R1⟩
  have P1 : Hid (Bk w1 w.heap.size [.int .i64 0, .int .i64 0]) := Pa.out.below hb1
  have Q1 : Hid (Bk w1 (w.heap.size + 1) [.slice none 0 0, .slice none 0 0]) := Qa.out.below hb1
  have B1 : Hid (Below w.heap.size w w1) := bthen Ba.out hb1
  clear Pa Qa Ia Ba hza R1 hb1 hs1
  go_wp2_with fail
  refine (table_B (nn := 10) RB.out (by omega)).mono ?_
  rintro e w2 ⟨c, d, v, T, n, rfl, hT, hsh, hn, hR2, hK2⟩
  have P2 : Hid (Bk w2 w.heap.size [.int .i64 0, .int .i64 0]) := P1.out.kp hK2 (by omega)
  have Q2 : Hid (Bk w2 (w.heap.size + 1) [.slice none 0 0, .slice none 0 0]) := Q1.out.kp hK2 (by omega)
  have B2 : Hid (Below w.heap.size w w2) := B1.out.trans (hK2.below (by omega) (by omega))
  have hz2 : w.heap.size + 3 ≤ w2.heap.size := by have := hK2.size; omega
  have T2 : Hid (TabIn (w.heap.size + 3) w2 v T) := hT.mono hs1a
  have HSH : Hid (T.short 1000) := hsh
  have HN : Hid (-10 ≤ n ∧ n ≤ 10) := hn
  have R2 : Hid (RdB w2 (w.heap.size + 2) a (min len 2000) cap 40) := hR2.more (by omega)
  clear P1 Q1 B1 RB hT hsh hn hR2 hK2
  obtain ⟨aS, kS, aA, kA, rfl, hrS, hrA⟩ := T2.out
  clear hrS hrA
  obtain ⟨w3, e3⟩ : ∃ w3, w3 = (w2.alloc (.cells #[.int .i64 c, .int .i64 d] 24)).alloc (.cells #[.slice aS T.nS kS, .slice aA T.nA kA] 27) := ⟨_, rfl⟩
  have hb3 : Below w2.heap.size w2 w3 := by rw [e3]; exact ((Below.refl _ _).alloc (Nat.le_refl _) _).alloc (by simp) _
  have M3 : Hid (Bk w3 w2.heap.size [.int .i64 c, .int .i64 d]) := by rw [e3]; exact (bk_new w2 24 [.int .i64 c, .int .i64 d]).below ((Below.refl _ _).alloc (Nat.le_refl _) _)
  have V3 : Hid (Bk w3 (w2.heap.size + 1) [.slice aS T.nS kS, .slice aA T.nA kA]) := by rw [e3]; have h := bk_new (w2.alloc (.cells #[.int .i64 c, .int .i64 d] 24)) 27 [.slice aS T.nS kS, .slice aA T.nA kA]; rw [World.size_alloc] at h; exact h
  have P3 : Hid (Bk w3 w.heap.size [.int .i64 0, .int .i64 0]) := P2.out.below hb3
  have Q3 : Hid (Bk w3 (w.heap.size + 1) [.slice none 0 0, .slice none 0 0]) := Q2.out.below hb3
  have B3 : Hid (Below w.heap.size w w3) := bthen B2.out hb3
  have T3 : Hid (TabIn (w.heap.size + 3) w3 (.agg #[.slice aS T.nS kS, .slice aA T.nA kA]) T) := T2.out.sm hb3.size (fun b h1 h2 => sm_below hb3 h2)
  have R3 : Hid (RdB w3 (w.heap.size + 2) a (min len 2000) cap 40) := R2.out.on hb3
  have hz3 := hb3.size
  clear P2 Q2 B2 T2 R2
  go_upto_region 3 with fail
  rw [← e3]
  clear e3 hb3
  have Mxd : Hid (Bk w3.drew w2.heap.size [.int .i64 c, .int .i64 d]) := M3.out
  have Vxd : Hid (Bk w3.drew (w2.heap.size + 1) [.slice aS T.nS kS, .slice aA T.nA kA]) := V3.out
  have Pxd : Hid (Bk w3.drew w.heap.size [.int .i64 0, .int .i64 0]) := P3.out
  have Qxd : Hid (Bk w3.drew (w.heap.size + 1) [.slice none 0 0, .slice none 0 0]) := Q3.out
  have Txd : Hid (TabIn (w.heap.size + 3) w3.drew (.agg #[.slice aS T.nS kS, .slice aA T.nA kA]) T) := T3.out
  have Bxd : Hid (Below w.heap.size w w3.drew) := B3.out.drew
  have Rxd : Hid (RdB w3.drew (w.heap.size + 2) a (min len 2000) cap 40) := R3.out.drew
  have hzd1 : w3.heap.size ≤ w3.drew.heap.size := Nat.le_refl _
  refine wp_region_held_drew (S := fun w' => Bk w' w2.heap.size [.int .i64 c, .int .i64 d] ∧ Bk w' (w2.heap.size + 1) [.slice aS T.nS kS, .slice aA T.nA kA]) (by kernel_rfl) ⟨Mxd.out, Vxd.out⟩ ?_
  intro hHeld
  clear M3 V3 P3 Q3 T3 B3 R3
  generalize w3.drew = xd at *
  refine wpAnyH_take (i := 0) (v := .agg #[.int .i64 c, .int .i64 d]) rfl (by kernel_rfl) (by kernel_rfl) (by kernel_rfl) (fun _ _ _ h => h) (Or.inl ⟨by rfl, ?_⟩) (by assumption) ?_
  · intro wx hSw; obtain ⟨⟨_, sm⟩, ⟨_, sv⟩⟩ := hSw; have m0 : wx.cell? ⟨w2.heap.size, 0, none⟩ = some (.int .i64 c) := (sm 0 (by simp)).1; have m1 : wx.cell? ⟨w2.heap.size, 1, none⟩ = some (.int .i64 d) := (sm 1 (by simp)).1; have v0 : wx.cell? ⟨w2.heap.size + 1, 0, none⟩ = some (.slice aS T.nS kS) := (sv 0 (by simp)).1; have v1 : wx.cell? ⟨w2.heap.size + 1, 1, none⟩ = some (.slice aA T.nA kA) := (sv 1 (by simp)).1; clear sm sv; go_simp
  try simp only [Act.put, List.setIfInBounds_toArray, List.set_cons_zero, List.set_cons_succ, List.getElem_toArray, List.getElem_cons_zero]
  refine wpAnyH_take (i := 1) (v := .agg #[.slice aS T.nS kS, .slice aA T.nA kA]) rfl (by kernel_rfl) (by kernel_rfl) (by kernel_rfl) (fun _ _ _ h => h) (Or.inl ⟨by rfl, ?_⟩) (by assumption) ?_
  · intro wx hSw; obtain ⟨⟨_, sm⟩, ⟨_, sv⟩⟩ := hSw; have m0 : wx.cell? ⟨w2.heap.size, 0, none⟩ = some (.int .i64 c) := (sm 0 (by simp)).1; have m1 : wx.cell? ⟨w2.heap.size, 1, none⟩ = some (.int .i64 d) := (sm 1 (by simp)).1; have v0 : wx.cell? ⟨w2.heap.size + 1, 0, none⟩ = some (.slice aS T.nS kS) := (sv 0 (by simp)).1; have v1 : wx.cell? ⟨w2.heap.size + 1, 1, none⟩ = some (.slice aA T.nA kA) := (sv 1 (by simp)).1; clear sm sv; go_simp
  try simp only [Act.put, List.setIfInBounds_toArray, List.set_cons_zero, List.set_cons_succ, List.getElem_toArray, List.getElem_cons_zero, List.getElem_cons_succ]
  refine wpAnyH_take (i := 2) (v := .int .i64 n) rfl (by kernel_rfl) (by kernel_rfl) (by kernel_rfl) (fun _ _ _ h => h) (Or.inl ⟨by rfl, ?_⟩) (by assumption) ?_
  · intro wx hSw; go_simp
  try simp only [Act.put, List.setIfInBounds_toArray, List.set_cons_zero, List.set_cons_succ, List.getElem_toArray, List.getElem_cons_zero, List.getElem_cons_succ]
  refine wpAnyH_take (i := 3) (v := .pointer (some ⟨w.heap.size + 2, 0, none⟩)) rfl (by kernel_rfl) (by kernel_rfl) (by kernel_rfl) (fun _ _ _ h => h) (Or.inl ⟨by rfl, ?_⟩) (by assumption) ?_
  · intro wx hSw; go_simp
  try simp only [Act.put, List.setIfInBounds_toArray, List.set_cons_zero, List.set_cons_succ, List.getElem_toArray, List.getElem_cons_zero, List.getElem_cons_succ]
  refine wpAnyH_take (i := 6) (v := .pointer (some ⟨w.heap.size + 2, 0, none⟩)) rfl (by kernel_rfl) (by kernel_rfl) (by kernel_rfl) (fun _ _ _ h => h) (Or.inl ⟨by rfl, ?_⟩) (by assumption) ?_
  · intro wx hSw; go_simp
  try simp only [Act.put, List.setIfInBounds_toArray, List.set_cons_zero, List.set_cons_succ, List.getElem_toArray, List.getElem_cons_zero, List.getElem_cons_succ]
  refine wpAnyH_ready (rs := [4]) (by kernel_rfl) (by simp) ?_
  refine AllReadyH.cons rfl (fun K hK => ?_) AllReadyH.nil
  go_simp
  go_wp2_with (go_at_call 15; refine (pick_B (n := 6) Rxd.out (by omega)).mono ?_; rintro e xe ⟨q1, rfl, hq1, hRp, hKp⟩)
  have Mxe : Hid (Bk xe w2.heap.size [.int .i64 c, .int .i64 d]) := Mxd.out.kp hKp (by omega)
  have Vxe : Hid (Bk xe (w2.heap.size + 1) [.slice aS T.nS kS, .slice aA T.nA kA]) := Vxd.out.kp hKp (by omega)
  have Pxe : Hid (Bk xe w.heap.size [.int .i64 0, .int .i64 0]) := Pxd.out.kp hKp (by omega)
  have Qxe : Hid (Bk xe (w.heap.size + 1) [.slice none 0 0, .slice none 0 0]) := Qxd.out.kp hKp (by omega)
  have Txe : Hid (TabIn (w.heap.size + 3) xe (.agg #[.slice aS T.nS kS, .slice aA T.nA kA]) T) := Txd.out.kp hKp (by omega)
  have Bxe : Hid (Below w.heap.size w xe) := Bxd.out.trans (hKp.below (by omega) (by omega))
  have hzxe := hKp.size
  have Rxe : Hid (RdB xe (w.heap.size + 2) a (min len 2000) cap 41) := hRp.more (by omega)
  have q1l := hq1.1
  have q1h := hq1.2.1 (by decide)
  have wq1 : IntKind.i64.wrap (q1 - 1) = q1 - 1 := by rw [IntKind.wrap_i64]; omega
  refine hK.out _ _ ⟨Mxe.out, Vxe.out⟩ (fun hHeldxe => ?_)
  clear hK K hRp hKp hq1 Mxd Vxd Pxd Qxd Txd Bxd Rxd
  try simp only [Act.put, List.setIfInBounds_toArray, List.set_cons_zero, List.set_cons_succ, List.getElem_toArray, List.getElem_cons_zero, List.getElem_cons_succ]
  refine wpAnyH_take (i := 5) (v := .int .i64 (q1 - 1)) rfl (by kernel_rfl) (by kernel_rfl) (by kernel_rfl) (fun _ _ _ h => h) (Or.inl ⟨by rfl, ?_⟩) (by assumption) ?_
  · intro wx hSw; go_simp
  try simp only [Act.put, List.setIfInBounds_toArray, List.set_cons_zero, List.set_cons_succ, List.getElem_toArray, List.getElem_cons_zero, List.getElem_cons_succ]
  refine wpAnyH_ready (rs := [7]) (by kernel_rfl) (by simp) ?_
  refine AllReadyH.cons rfl (fun K hK => ?_) AllReadyH.nil
  go_simp
  go_wp2_with (go_at_call 15; refine (pick_B (n := 5) Rxe.out (by omega)).mono ?_; rintro e xf ⟨q2, rfl, hq2, hRp, hKp⟩)
  have Mxf : Hid (Bk xf w2.heap.size [.int .i64 c, .int .i64 d]) := Mxe.out.kp hKp (by omega)
  have Vxf : Hid (Bk xf (w2.heap.size + 1) [.slice aS T.nS kS, .slice aA T.nA kA]) := Vxe.out.kp hKp (by omega)
  have Pxf : Hid (Bk xf w.heap.size [.int .i64 0, .int .i64 0]) := Pxe.out.kp hKp (by omega)
  have Qxf : Hid (Bk xf (w.heap.size + 1) [.slice none 0 0, .slice none 0 0]) := Qxe.out.kp hKp (by omega)
  have Txf : Hid (TabIn (w.heap.size + 3) xf (.agg #[.slice aS T.nS kS, .slice aA T.nA kA]) T) := Txe.out.kp hKp (by omega)
  have Bxf : Hid (Below w.heap.size w xf) := Bxe.out.trans (hKp.below (by omega) (by omega))
  have hzxf := hKp.size
  have Rxf : Hid (RdB xf (w.heap.size + 2) a (min len 2000) cap 42) := hRp.more (by omega)
  have q2l := hq2.1
  have q2h := hq2.2.1 (by decide)
  have wq2 : IntKind.i64.wrap (q2 - 1) = q2 - 1 := by rw [IntKind.wrap_i64]; omega
  refine hK.out _ _ ⟨Mxf.out, Vxf.out⟩ (fun hHeldxf => ?_)
  clear hK K hRp hKp hq2 Mxe Vxe Pxe Qxe Txe Bxe Rxe
  try simp only [Act.put, List.setIfInBounds_toArray, List.set_cons_zero, List.set_cons_succ, List.getElem_toArray, List.getElem_cons_zero, List.getElem_cons_succ]
  refine wpAnyH_take (i := 8) (v := .int .i64 (q2 - 1)) rfl (by kernel_rfl) (by kernel_rfl) (by kernel_rfl) (fun _ _ _ h => h) (Or.inl ⟨by rfl, ?_⟩) (by assumption) ?_
  · intro wx hSw; go_simp
  try simp only [Act.put, List.setIfInBounds_toArray, List.set_cons_zero, List.set_cons_succ, List.getElem_toArray, List.getElem_cons_zero, List.getElem_cons_succ]
  refine wpAnyH_ready (rs := [9]) (by kernel_rfl) (by simp) ?_
  refine AllReadyH.cons rfl (fun K hK => ?_) AllReadyH.nil
  have p0 : xf.cell? ⟨w.heap.size, 0, none⟩ = some (.int .i64 0) := (Pxf.out.2 0 (by simp)).1
  have p1 : xf.cell? ⟨w.heap.size, 1, none⟩ = some (.int .i64 0) := (Pxf.out.2 1 (by simp)).1
  have f0 : xf.frozen? ⟨w.heap.size, 0, none⟩ = false := (Pxf.out.2 0 (by simp)).2
  have f1 : xf.frozen? ⟨w.heap.size, 1, none⟩ = false := (Pxf.out.2 1 (by simp)).2
  have EP : Hid ((putL w.heap.size [.int .i64 c, .int .i64 d] 0 xf) = ((xf.setCell ⟨w.heap.size, 0, none⟩ (.int .i64 c)).setCell ⟨w.heap.size, 1, none⟩ (.int .i64 d))) := rfl
  go_simp
  rw [← EP.out]
  clear p0 p1 f0 f1 EP
  have hzs : xf.heap.size ≤ (putL w.heap.size [.int .i64 c, .int .i64 d] 0 xf).heap.size := Nat.le_of_eq (size_put _ _ _ _).symm
  have Mxg : Hid (Bk (putL w.heap.size [.int .i64 c, .int .i64 d] 0 xf) w2.heap.size [.int .i64 c, .int .i64 d]) := Mxf.out.sm hzs (sm_put (by omega) [.int .i64 c, .int .i64 d] 0 xf)
  have Vxg : Hid (Bk (putL w.heap.size [.int .i64 c, .int .i64 d] 0 xf) (w2.heap.size + 1) [.slice aS T.nS kS, .slice aA T.nA kA]) := Vxf.out.sm hzs (sm_put (by omega) [.int .i64 c, .int .i64 d] 0 xf)
  have Pxg : Hid (Bk (putL w.heap.size [.int .i64 c, .int .i64 d] 0 xf) w.heap.size [.int .i64 c, .int .i64 d]) := bk_put Pxf.out rfl
  have Qxg : Hid (Bk (putL w.heap.size [.int .i64 c, .int .i64 d] 0 xf) (w.heap.size + 1) [.slice none 0 0, .slice none 0 0]) := Qxf.out.sm hzs (sm_put (by omega) [.int .i64 c, .int .i64 d] 0 xf)
  have Txg : Hid (TabIn (w.heap.size + 3) (putL w.heap.size [.int .i64 c, .int .i64 d] 0 xf) (.agg #[.slice aS T.nS kS, .slice aA T.nA kA]) T) := Txf.out.sm hzs (fun b h1 h2 => sm_put (by omega) [.int .i64 c, .int .i64 d] 0 xf)
  have Bxg : Hid (Below w.heap.size w (putL w.heap.size [.int .i64 c, .int .i64 d] 0 xf)) := below_put (by omega) [.int .i64 c, .int .i64 d] 0 Bxf.out
  generalize (putL w.heap.size [.int .i64 c, .int .i64 d] 0 xf) = xg at *
  refine hK.out _ _ ⟨Mxg.out, Vxg.out⟩ (fun hHeldxg => ?_)
  clear hK K Mxf Vxf Pxf Qxf Txf Bxf
  try simp only [Act.put, List.setIfInBounds_toArray, List.set_cons_zero, List.set_cons_succ, List.getElem_toArray, List.getElem_cons_zero, List.getElem_cons_succ]
  refine wpAnyH_ready (rs := [10]) (by kernel_rfl) (by simp) ?_
  refine AllReadyH.cons rfl (fun K hK => ?_) AllReadyH.nil
  have p0 : xg.cell? ⟨(w.heap.size + 1), 0, none⟩ = some (.slice none 0 0) := (Qxg.out.2 0 (by simp)).1
  have p1 : xg.cell? ⟨(w.heap.size + 1), 1, none⟩ = some (.slice none 0 0) := (Qxg.out.2 1 (by simp)).1
  have f0 : xg.frozen? ⟨(w.heap.size + 1), 0, none⟩ = false := (Qxg.out.2 0 (by simp)).2
  have f1 : xg.frozen? ⟨(w.heap.size + 1), 1, none⟩ = false := (Qxg.out.2 1 (by simp)).2
  have EP : Hid ((putL (w.heap.size + 1) [.slice aS T.nS kS, .slice aA T.nA kA] 0 xg) = ((xg.setCell ⟨(w.heap.size + 1), 0, none⟩ (.slice aS T.nS kS)).setCell ⟨(w.heap.size + 1), 1, none⟩ (.slice aA T.nA kA))) := rfl
  go_simp
  rw [← EP.out]
  clear p0 p1 f0 f1 EP
  have hzs : xg.heap.size ≤ (putL (w.heap.size + 1) [.slice aS T.nS kS, .slice aA T.nA kA] 0 xg).heap.size := Nat.le_of_eq (size_put _ _ _ _).symm
  have Mxh : Hid (Bk (putL (w.heap.size + 1) [.slice aS T.nS kS, .slice aA T.nA kA] 0 xg) w2.heap.size [.int .i64 c, .int .i64 d]) := Mxg.out.sm hzs (sm_put (by omega) [.slice aS T.nS kS, .slice aA T.nA kA] 0 xg)
  have Vxh : Hid (Bk (putL (w.heap.size + 1) [.slice aS T.nS kS, .slice aA T.nA kA] 0 xg) (w2.heap.size + 1) [.slice aS T.nS kS, .slice aA T.nA kA]) := Vxg.out.sm hzs (sm_put (by omega) [.slice aS T.nS kS, .slice aA T.nA kA] 0 xg)
  have Pxh : Hid (Bk (putL (w.heap.size + 1) [.slice aS T.nS kS, .slice aA T.nA kA] 0 xg) w.heap.size [.int .i64 c, .int .i64 d]) := Pxg.out.sm hzs (sm_put (by omega) [.slice aS T.nS kS, .slice aA T.nA kA] 0 xg)
  have Qxh : Hid (Bk (putL (w.heap.size + 1) [.slice aS T.nS kS, .slice aA T.nA kA] 0 xg) (w.heap.size + 1) [.slice aS T.nS kS, .slice aA T.nA kA]) := bk_put Qxg.out rfl
  have Txh : Hid (TabIn (w.heap.size + 3) (putL (w.heap.size + 1) [.slice aS T.nS kS, .slice aA T.nA kA] 0 xg) (.agg #[.slice aS T.nS kS, .slice aA T.nA kA]) T) := Txg.out.sm hzs (fun b h1 h2 => sm_put (by omega) [.slice aS T.nS kS, .slice aA T.nA kA] 0 xg)
  have Bxh : Hid (Below w.heap.size w (putL (w.heap.size + 1) [.slice aS T.nS kS, .slice aA T.nA kA] 0 xg)) := below_put (by omega) [.slice aS T.nS kS, .slice aA T.nA kA] 0 Bxg.out
  generalize (putL (w.heap.size + 1) [.slice aS T.nS kS, .slice aA T.nA kA] 0 xg) = xh at *
  refine hK.out _ _ ⟨Mxh.out, Vxh.out⟩ (fun hHeldxh => ?_)
  clear hK K Mxg Vxg Pxg Qxg Txg Bxg
  try simp only [Act.put, List.setIfInBounds_toArray, List.set_cons_zero, List.set_cons_succ, List.getElem_toArray, List.getElem_cons_zero, List.getElem_cons_succ]
  refine wpAnyH_take (i := 11) (v := .int .i64 n) rfl (by kernel_rfl) (by kernel_rfl) (by kernel_rfl) (fun _ _ _ h => h) (Or.inl ⟨by rfl, ?_⟩) (by assumption) ?_
  · intro wx hSw; go_simp
  try simp only [Act.put, List.setIfInBounds_toArray, List.set_cons_zero, List.set_cons_succ, List.getElem_toArray, List.getElem_cons_zero, List.getElem_cons_succ]
  refine wpAnyH_take (i := 12) (v := .int .i64 (q1 - 1)) rfl (by kernel_rfl) (by kernel_rfl) (by kernel_rfl) (fun _ _ _ h => h) (Or.inl ⟨by rfl, ?_⟩) (by assumption) ?_
  · intro wx hSw; go_simp
  try simp only [Act.put, List.setIfInBounds_toArray, List.set_cons_zero, List.set_cons_succ, List.getElem_toArray, List.getElem_cons_zero, List.getElem_cons_succ]
  refine wpAnyH_take (i := 13) (v := .int .i64 (q2 - 1)) rfl (by kernel_rfl) (by kernel_rfl) (by kernel_rfl) (fun _ _ _ h => h) (Or.inl ⟨by rfl, ?_⟩) (by assumption) ?_
  · intro wx hSw; go_simp
  try simp only [Act.put, List.setIfInBounds_toArray, List.set_cons_zero, List.set_cons_succ, List.getElem_toArray, List.getElem_cons_zero, List.getElem_cons_succ]
  refine wpAnyH_done (by kernel_rfl) ?_ _
  have p0 : xh.cell? ⟨w.heap.size, 0, none⟩ = some (.int .i64 c) := (Pxh.out.2 0 (by simp)).1
  have p1 : xh.cell? ⟨w.heap.size, 1, none⟩ = some (.int .i64 d) := (Pxh.out.2 1 (by simp)).1
  have q0v : xh.cell? ⟨(w.heap.size + 1), 0, none⟩ = some (.slice aS T.nS kS) := (Qxh.out.2 0 (by simp)).1
  have q1v : xh.cell? ⟨(w.heap.size + 1), 1, none⟩ = some (.slice aA T.nA kA) := (Qxh.out.2 1 (by simp)).1
  go_wp2
  refine bodyPost_ret (v := .tuple #[.agg #[.int .i64 c, .int .i64 d], .agg #[.slice aS T.nS kS, .slice aA T.nA kA], .int .i64 n, .int .i64 (q1 - 1), .int .i64 (q2 - 1)]) (by simp [results, Try.results4, go_sem, p0, p1, q0v, q1v]) rfl ⟨c, d, _, T, n, q1 - 1, q2 - 1, rfl, Txh.out.at, HSH.out, HN.out, ⟨by omega, by omega⟩, ⟨by omega, by omega⟩, Bxh.out⟩
end Go.Proofs.Ytodmfbbicdbjdaa
