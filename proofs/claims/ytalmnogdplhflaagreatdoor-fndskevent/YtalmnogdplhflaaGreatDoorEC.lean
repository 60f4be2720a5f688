/- The law FnDskEvent; conditions: those typed. -/
import Derived.Test.YtalmnogdplhflaaGreatDoorEB
import Derived.Test.YtalmnogdplhflaaGreatDoorDP
import Derived.Deep.DeepCutAuto
namespace Go.Proofs.YtalmnogdplhflaaGreatDoor
open Go.RowKit Go.Deep
set_option linter.unusedVariables false
set_option maxRecDepth 20000
set_option maxHeartbeats 2000000 in
theorem law_dskLine (a : Option Addr) (len cap : Nat) (zs : List Int) (w : World) (h : IsRow w a len cap zs) (hE : Env w) :
    Calls Tryz.prog 3 #[.slice a len cap] w fun e w' => e = .returned (.bool true) ∧ Below w.heap.size w w' := by
  have HE := hid hE
  have H := hid h
  clear hE h
  by_cases hbig : (1048576 : Int) < (len : Int)
  · go_enter Tryz.func3, Tryz.ntmps3
    go_wp2
    go_ret
    exact ⟨rfl, by repeat (first | exact Below.refl _ _ | refine Below.alloc ?_ (by simp <;> omega) _)⟩
  have hbig' : (len : Int) ≤ 1048576 := by omega
  clear hbig
  go_enter Tryz.func3, Tryz.ntmps3
  go_wp2_with fail
  refine (draw_line a len cap zs _ H.out).mono ?_
  rintro e w1 ⟨t, rfl, zt, hb⟩
  have B1 : Hid (Below w.heap.size w w1) := hb
  clear hb
  obtain ⟨v0, v1, v2, v3, v4, b, hsp, him⟩ := same_all t
  have HS := hid hsp
  have HI := hid him
  clear hsp him
  have ct := cat t ⟨#[32, 49, 32, 49, 32, 49]⟩ (by omega) (by decide +kernel)
  have hag : (t ++ ⟨#[32, 49, 32, 49, 32, 49]⟩).data.toList = t.data.toList ++ 32 :: [49, 32, 49, 32, 49] := by simp [ByteArray.data_append]
  obtain ⟨tt, ett⟩ : ∃ q, q = t ++ ⟨#[32, 49, 32, 49, 32, 49]⟩ := ⟨_, rfl⟩
  rw [← ett] at ct hag
  have HA := hid hag
  clear hag ett
  go_wp2_with fail
  refine (HI.out _ (HE.out.on B1.out)).mono ?_
  rintro e w2 ⟨rfl, hb⟩
  have B2 : Hid (Below w.heap.size w w2) := bthen B1.out hb
  clear B1
  clear hb
  go_upto_region 5 with fail
  obtain ⟨w3, e3⟩ : ∃ wq, wq = w2.alloc (.cells #[.int .i64 v0, .int .i64 v1, .int .i64 v2, .int .i64 v3, .int .i64 v4] 25) := ⟨_, rfl⟩
  have hb3 : Below w2.heap.size w2 w3 := by rw [e3]; exact (Below.refl _ _).alloc (Nat.le_refl _) _
  have hG : Bk w3 w2.heap.size [.int .i64 v0, .int .i64 v1, .int .i64 v2, .int .i64 v3, .int .i64 v4] := by rw [e3]; exact bk_new w2 25 [.int .i64 v0, .int .i64 v1, .int .i64 v2, .int .i64 v3, .int .i64 v4]
  rw [← e3]
  clear e3
  have B3 : Hid (Below w.heap.size w w3) := bthen B2.out hb3
  clear B2
  obtain ⟨oa, eo⟩ : ∃ g, g = w2.heap.size := ⟨_, rfl⟩
  rw [← eo] at hG ⊢
  clear eo hb3
  have OA4 : Hid (Bk w3 oa [.int .i64 v0, .int .i64 v1, .int .i64 v2, .int .i64 v3, .int .i64 v4]) := hG
  clear hG
  go_wp2_with fail
  refine (HS.out _).mono ?_
  rintro e w4 ⟨rfl, hb⟩
  have B5 : Hid (Below w.heap.size w w4) := bthen B3.out hb
  have OA5 : Hid (Bk w4 oa [.int .i64 v0, .int .i64 v1, .int .i64 v2, .int .i64 v3, .int .i64 v4]) := OA4.out.below hb
  clear B3 OA4
  clear hb
  go_upto_region 6 with fail
  obtain ⟨w5, e3⟩ : ∃ wq, wq = w4.alloc (.cells #[.int .i64 v0, .int .i64 v1, .int .i64 v2, .int .i64 v3, .int .i64 v4] 25) := ⟨_, rfl⟩
  have hb3 : Below w4.heap.size w4 w5 := by rw [e3]; exact (Below.refl _ _).alloc (Nat.le_refl _) _
  have hG : Bk w5 w4.heap.size [.int .i64 v0, .int .i64 v1, .int .i64 v2, .int .i64 v3, .int .i64 v4] := by rw [e3]; exact bk_new w4 25 [.int .i64 v0, .int .i64 v1, .int .i64 v2, .int .i64 v3, .int .i64 v4]
  rw [← e3]
  clear e3
  have B6 : Hid (Below w.heap.size w w5) := bthen B5.out hb3
  have OA6 : Hid (Bk w5 oa [.int .i64 v0, .int .i64 v1, .int .i64 v2, .int .i64 v3, .int .i64 v4]) := OA5.out.below hb3
  clear B5 OA5
  obtain ⟨ob, eo⟩ : ∃ g, g = w4.heap.size := ⟨_, rfl⟩
  rw [← eo] at hG ⊢
  clear eo hb3
  have OB7 : Hid (Bk w5 ob [.int .i64 v0, .int .i64 v1, .int .i64 v2, .int .i64 v3, .int .i64 v4]) := hG
  clear hG
  go_wp2_with fail
  refine (im_again t tt HA.out _ (HE.out.on B6.out)).mono ?_
  rintro e w6 ⟨rfl, hb⟩
  have B8 : Hid (Below w.heap.size w w6) := bthen B6.out hb
  have OA8 : Hid (Bk w6 oa [.int .i64 v0, .int .i64 v1, .int .i64 v2, .int .i64 v3, .int .i64 v4]) := OA6.out.below hb
  have OB8 : Hid (Bk w6 ob [.int .i64 v0, .int .i64 v1, .int .i64 v2, .int .i64 v3, .int .i64 v4]) := OB7.out.below hb
  clear B6 OA6 OB7
  clear hb ct
  go_upto_region 7 with fail
  obtain ⟨w7, e3⟩ : ∃ wq, wq = w6.alloc (.cells #[.int .i64 0, .int .i64 0, .int .i64 0, .int .i64 0, .int .i64 0] 25) := ⟨_, rfl⟩
  have hb3 : Below w6.heap.size w6 w7 := by rw [e3]; exact (Below.refl _ _).alloc (Nat.le_refl _) _
  have hG : Bk w7 w6.heap.size [.int .i64 0, .int .i64 0, .int .i64 0, .int .i64 0, .int .i64 0] := by rw [e3]; exact bk_new w6 25 [.int .i64 0, .int .i64 0, .int .i64 0, .int .i64 0, .int .i64 0]
  rw [← e3]
  clear e3
  have B9 : Hid (Below w.heap.size w w7) := bthen B8.out hb3
  have OA9 : Hid (Bk w7 oa [.int .i64 v0, .int .i64 v1, .int .i64 v2, .int .i64 v3, .int .i64 v4]) := OA8.out.below hb3
  have OB9 : Hid (Bk w7 ob [.int .i64 v0, .int .i64 v1, .int .i64 v2, .int .i64 v3, .int .i64 v4]) := OB8.out.below hb3
  clear B8 OA8 OB8
  obtain ⟨oc, eo⟩ : ∃ g, g = w6.heap.size := ⟨_, rfl⟩
  rw [← eo] at hG ⊢
  clear eo hb3
  have OC10 : Hid (Bk w7 oc [.int .i64 0, .int .i64 0, .int .i64 0, .int .i64 0, .int .i64 0]) := hG
  clear hG
  go_wp2_with fail
  refine (im_fall _ (HE.out.on B9.out)).mono ?_
  rintro e w8 ⟨rfl, hb⟩
  have B11 : Hid (Below w.heap.size w w8) := bthen B9.out hb
  have OA11 : Hid (Bk w8 oa [.int .i64 v0, .int .i64 v1, .int .i64 v2, .int .i64 v3, .int .i64 v4]) := OA9.out.below hb
  have OB11 : Hid (Bk w8 ob [.int .i64 v0, .int .i64 v1, .int .i64 v2, .int .i64 v3, .int .i64 v4]) := OB9.out.below hb
  have OC11 : Hid (Bk w8 oc [.int .i64 0, .int .i64 0, .int .i64 0, .int .i64 0, .int .i64 0]) := OC10.out.below hb
  clear B9 OA9 OB9 OC10
  clear hb
  go_upto_region 8 with fail
  obtain ⟨w9, e3⟩ : ∃ wq, wq = w8.alloc (.cells #[.int .i64 8, .int .i64 2, .int .i64 0, .int .i64 0, .int .i64 0] 25) := ⟨_, rfl⟩
  have hb3 : Below w8.heap.size w8 w9 := by rw [e3]; exact (Below.refl _ _).alloc (Nat.le_refl _) _
  have hG : Bk w9 w8.heap.size [.int .i64 8, .int .i64 2, .int .i64 0, .int .i64 0, .int .i64 0] := by rw [e3]; exact bk_new w8 25 [.int .i64 8, .int .i64 2, .int .i64 0, .int .i64 0, .int .i64 0]
  rw [← e3]
  clear e3
  have B12 : Hid (Below w.heap.size w w9) := bthen B11.out hb3
  have OA12 : Hid (Bk w9 oa [.int .i64 v0, .int .i64 v1, .int .i64 v2, .int .i64 v3, .int .i64 v4]) := OA11.out.below hb3
  have OB12 : Hid (Bk w9 ob [.int .i64 v0, .int .i64 v1, .int .i64 v2, .int .i64 v3, .int .i64 v4]) := OB11.out.below hb3
  have OC12 : Hid (Bk w9 oc [.int .i64 0, .int .i64 0, .int .i64 0, .int .i64 0, .int .i64 0]) := OC11.out.below hb3
  clear B11 OA11 OB11 OC11
  obtain ⟨od, eo⟩ : ∃ g, g = w8.heap.size := ⟨_, rfl⟩
  rw [← eo] at hG ⊢
  clear eo hb3
  have OD13 : Hid (Bk w9 od [.int .i64 8, .int .i64 2, .int .i64 0, .int .i64 0, .int .i64 0]) := hG
  clear hG
  have yOA0 : w9.cell? ⟨oa, 0, none⟩ = some (.int .i64 v0) := (OA12.out.2 0 (by simp)).1
  have yOA1 : w9.cell? ⟨oa, 1, none⟩ = some (.int .i64 v1) := (OA12.out.2 1 (by simp)).1
  have yOA2 : w9.cell? ⟨oa, 2, none⟩ = some (.int .i64 v2) := (OA12.out.2 2 (by simp)).1
  have yOA3 : w9.cell? ⟨oa, 3, none⟩ = some (.int .i64 v3) := (OA12.out.2 3 (by simp)).1
  have yOA4 : w9.cell? ⟨oa, 4, none⟩ = some (.int .i64 v4) := (OA12.out.2 4 (by simp)).1
  have hlOA : oa < w9.heap.size := OA12.out.1
  have yOB0 : w9.cell? ⟨ob, 0, none⟩ = some (.int .i64 v0) := (OB12.out.2 0 (by simp)).1
  have yOB1 : w9.cell? ⟨ob, 1, none⟩ = some (.int .i64 v1) := (OB12.out.2 1 (by simp)).1
  have yOB2 : w9.cell? ⟨ob, 2, none⟩ = some (.int .i64 v2) := (OB12.out.2 2 (by simp)).1
  have yOB3 : w9.cell? ⟨ob, 3, none⟩ = some (.int .i64 v3) := (OB12.out.2 3 (by simp)).1
  have yOB4 : w9.cell? ⟨ob, 4, none⟩ = some (.int .i64 v4) := (OB12.out.2 4 (by simp)).1
  have hlOB : ob < w9.heap.size := OB12.out.1
  have yOD0 : w9.cell? ⟨od, 0, none⟩ = some (.int .i64 8) := (OD13.out.2 0 (by simp)).1
  have yOD1 : w9.cell? ⟨od, 1, none⟩ = some (.int .i64 2) := (OD13.out.2 1 (by simp)).1
  have yOD2 : w9.cell? ⟨od, 2, none⟩ = some (.int .i64 0) := (OD13.out.2 2 (by simp)).1
  have yOD3 : w9.cell? ⟨od, 3, none⟩ = some (.int .i64 0) := (OD13.out.2 3 (by simp)).1
  have yOD4 : w9.cell? ⟨od, 4, none⟩ = some (.int .i64 0) := (OD13.out.2 4 (by simp)).1
  have hlOD : od < w9.heap.size := OD13.out.1
  cases b
  all_goals
    go_wp2
    go_ret
    exact ⟨by simp, B12.out⟩
end Go.Proofs.YtalmnogdplhflaaGreatDoor
