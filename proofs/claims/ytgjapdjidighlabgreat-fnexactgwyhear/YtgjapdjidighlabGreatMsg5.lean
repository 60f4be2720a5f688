/- Which contents are ok, and where they go, of the program; conditions: none. -/
import Derived.Test.YtgjapdjidighlabGreatTk
import Derived.Test.YtgjapdjidighlabGreatMsg4
namespace Go.Proofs.YtgjapdjidighlabGreat
open Go.RowKit Go.Deep
set_option linter.unusedVariables false
theorem least_one (p : String → Bool) (f : String → String) (s : String) : ∃ m, (Instr.least ([s].partition p).snd <|> Instr.least (List.map f ([s].partition p).fst)) = some m := by
  cases h : p s
  · exact ⟨s, by simp [List.partition, List.partition.loop, h, Instr.least]⟩
  · exact ⟨f s, by simp [List.partition, List.partition.loop, h, Instr.least]⟩
theorem missing_one {want : Array (String × TypeId)} {got : Array Method} {s : String}
    (h : ((want.toList.filter fun (name, sig) => !got.any fun m => m.name == name && m.sig == sig).map (·.1)) = [s]) : ∃ m, Instr.missingMethod want got = some m := by
  unfold Instr.missingMethod
  simp only [h]
  exact least_one _ _ _
theorem beside76 (c d e s : Int) (w : World) : Calls Tryz.prog 103 #[.agg #[.int .i64 s], .agg #[.int .i64 c, .int .i64 d], .int .i64 e] w fun r w' => r = .returned (.int .i64 (sideF c d e s)) ∧ Below w.heap.size w w' := by
  go_enter Tryz.func103, Tryz.ntmps103
  go_wp2_with fail
  refine (beside_impl _ _ _ _ _).mono ?_
  rintro r w1 ⟨rfl, hb1⟩
  go_wp2
  go_ret
  exact ⟨rfl, by repeat (first | exact Below.refl _ _ | refine bthen ?_ (by assumption) | refine below_put (by simp <;> omega) _ _ ?_ | refine Below.setCell ?_ (by simp <;> omega) _ | refine Below.alloc ?_ (by simp <;> omega) _)⟩
theorem server40 (a sv : Int) (h1 : 1 ≤ sv) (h2 : sv ≤ 3) (w : World) : Calls Tryz.prog 54 #[.int .i64 a, .int .i64 sv] w fun r w' => r = .returned (.bool (inB a 0 (sv - 1))) ∧ w' = w := by
  go_enter Tryz.func54, Tryz.ntmps54
  go_wp2_with fail
  refine (in_impl _ _ _ _).mono ?_
  rintro r w1 ⟨rfl, rfl⟩
  go_wp2
  go_ret
  exact ⟨rfl, rfl⟩
theorem age80 (a : Int) (w : World) : Calls Tryz.prog 107 #[.int .i64 a] w fun r w' => r = .returned (.bool (inB a 0 900)) ∧ w' = w := by
  go_enter Tryz.func107, Tryz.ntmps107
  go_wp2_with fail
  refine (in_impl _ _ _ _).mono ?_
  rintro r w1 ⟨rfl, rfl⟩
  go_wp2
  go_ret
  exact ⟨rfl, rfl⟩
theorem age79 (a : Int) (w : World) : Calls Tryz.prog 106 #[.int .i64 a] w fun r w' => r = .returned (.bool (inB a 1 900)) ∧ w' = w := by
  by_cases h : 0 < a
  · go_enter Tryz.func106, Tryz.ntmps106
    go_wp2_with fail
    refine (age80 _ _).mono ?_
    rintro r w1 ⟨rfl, rfl⟩
    go_wp2
    go_ret
    exact ⟨by rw [show inB a 0 900 = inB a 1 900 from by simp only [inB, decide_eq_decide]; omega]; rfl, rfl⟩
  · go_enter Tryz.func106, Tryz.ntmps106
    go_wp2
    go_ret
    exact ⟨by simp [inB] <;> omega, rfl⟩
set_option maxRecDepth 100000 in
set_option maxHeartbeats 2000000 in
theorem isOk1 (c d e : Int) (x : Nat → Int) (w : World) : Calls Tryz.prog 104 #[.agg #[.int .i64 (x 4)], .agg #[.int .i64 c, .int .i64 d], .int .i64 e] w fun r w' => r = .returned (.bool (inB (x 4) 1 900)) ∧ Below w.heap.size w w' := by
  go_enter Tryz.func104, Tryz.ntmps104
  go_wp2_with fail
  obtain ⟨w0, e0⟩ : ∃ w0, w0 = (w.alloc (.cells #[.int .i64 (x 4)] 112)).alloc (.cells #[.int .i64 c, .int .i64 d] 43) := ⟨_, rfl⟩
  have B1 : Hid (Below w.heap.size w w0) := by rw [e0]; exact ((Below.refl _ _).alloc (by simp) _).alloc (by simp) _
  have V2 : Hid (Bk w0 w.heap.size [.int .i64 (x 4)]) := by rw [e0]; exact (bk_new w 112 [.int .i64 (x 4)]).below ((Below.refl _ _).alloc (Nat.le_refl _) _)
  have M3 : Hid (Bk w0 (w.heap.size + 1) [.int .i64 c, .int .i64 d]) := by rw [e0]; have := bk_new (w.alloc (.cells #[.int .i64 (x 4)] 112)) 43 [.int .i64 c, .int .i64 d]; rwa [show (w.alloc (.cells #[.int .i64 (x 4)] 112)).heap.size = w.heap.size + 1 by simp] at this
  rw [← e0]
  clear e0
  refine (age79 _ _).mono ?_
  rintro r w1 ⟨rfl, rfl⟩
  go_wp2
  go_ret
  exact ⟨rfl, B1.out⟩
set_option maxRecDepth 100000 in
set_option maxHeartbeats 2000000 in
theorem isOk2 (c d e : Int) (x : Nat → Int) (w : World) : Calls Tryz.prog 108 #[.agg #[.int .i64 (x 5), .int .i64 (x 6), .int .i64 (x 7), .int .i64 (x 8), .int .i64 (x 9)], .agg #[.int .i64 c, .int .i64 d], .int .i64 e] w fun r w' => r = .returned (.bool (ordB (x 5) (x 6) (x 7) (x 8) (x 9))) ∧ Below w.heap.size w w' := by
  go_enter Tryz.func108, Tryz.ntmps108
  go_wp2_with fail
  obtain ⟨w0, e0⟩ : ∃ w0, w0 = (w.alloc (.cells #[.int .i64 (x 5), .int .i64 (x 6), .int .i64 (x 7), .int .i64 (x 8), .int .i64 (x 9)] 114)).alloc (.cells #[.int .i64 c, .int .i64 d] 43) := ⟨_, rfl⟩
  have B1 : Hid (Below w.heap.size w w0) := by rw [e0]; exact ((Below.refl _ _).alloc (by simp) _).alloc (by simp) _
  have V2 : Hid (Bk w0 w.heap.size [.int .i64 (x 5), .int .i64 (x 6), .int .i64 (x 7), .int .i64 (x 8), .int .i64 (x 9)]) := by rw [e0]; exact (bk_new w 114 [.int .i64 (x 5), .int .i64 (x 6), .int .i64 (x 7), .int .i64 (x 8), .int .i64 (x 9)]).below ((Below.refl _ _).alloc (Nat.le_refl _) _)
  have M3 : Hid (Bk w0 (w.heap.size + 1) [.int .i64 c, .int .i64 d]) := by rw [e0]; have := bk_new (w.alloc (.cells #[.int .i64 (x 5), .int .i64 (x 6), .int .i64 (x 7), .int .i64 (x 8), .int .i64 (x 9)] 114)) 43 [.int .i64 c, .int .i64 d]; rwa [show (w.alloc (.cells #[.int .i64 (x 5), .int .i64 (x 6), .int .i64 (x 7), .int .i64 (x 8), .int .i64 (x 9)] 114)).heap.size = w.heap.size + 1 by simp] at this
  rw [← e0]
  clear e0
  refine (ordOk_impl _ _ _ _ _ _).mono ?_
  rintro r w1 ⟨rfl, hb1⟩
  have B4 := hid (bthen B1.out hb1)
  have V4 := hid (V2.out.below hb1)
  have M4 := hid (M3.out.below hb1)
  clear B1 V2 M3
  clear hb1
  go_wp2
  go_ret
  exact ⟨rfl, by repeat (first | exact B4.out | apply Below.drew)⟩
set_option maxRecDepth 100000 in
set_option maxHeartbeats 2000000 in
theorem isOk4 (c d e : Int) (x : Nat → Int) (w : World) : Calls Tryz.prog 116 #[.agg #[.int .i64 (x 5), .int .i64 (x 6), .int .i64 (x 7), .int .i64 (x 8), .int .i64 (x 9)], .agg #[.int .i64 c, .int .i64 d], .int .i64 e] w fun r w' => r = .returned (.bool (ordB (x 5) (x 6) (x 7) (x 8) (x 9))) ∧ Below w.heap.size w w' := by
  go_enter Tryz.func116, Tryz.ntmps116
  go_wp2_with fail
  obtain ⟨w0, e0⟩ : ∃ w0, w0 = (w.alloc (.cells #[.int .i64 (x 5), .int .i64 (x 6), .int .i64 (x 7), .int .i64 (x 8), .int .i64 (x 9)] 117)).alloc (.cells #[.int .i64 c, .int .i64 d] 43) := ⟨_, rfl⟩
  have B1 : Hid (Below w.heap.size w w0) := by rw [e0]; exact ((Below.refl _ _).alloc (by simp) _).alloc (by simp) _
  have V2 : Hid (Bk w0 w.heap.size [.int .i64 (x 5), .int .i64 (x 6), .int .i64 (x 7), .int .i64 (x 8), .int .i64 (x 9)]) := by rw [e0]; exact (bk_new w 117 [.int .i64 (x 5), .int .i64 (x 6), .int .i64 (x 7), .int .i64 (x 8), .int .i64 (x 9)]).below ((Below.refl _ _).alloc (Nat.le_refl _) _)
  have M3 : Hid (Bk w0 (w.heap.size + 1) [.int .i64 c, .int .i64 d]) := by rw [e0]; have := bk_new (w.alloc (.cells #[.int .i64 (x 5), .int .i64 (x 6), .int .i64 (x 7), .int .i64 (x 8), .int .i64 (x 9)] 117)) 43 [.int .i64 c, .int .i64 d]; rwa [show (w.alloc (.cells #[.int .i64 (x 5), .int .i64 (x 6), .int .i64 (x 7), .int .i64 (x 8), .int .i64 (x 9)] 117)).heap.size = w.heap.size + 1 by simp] at this
  rw [← e0]
  clear e0
  refine (ordOk_impl _ _ _ _ _ _).mono ?_
  rintro r w1 ⟨rfl, hb1⟩
  have B4 := hid (bthen B1.out hb1)
  have V4 := hid (V2.out.below hb1)
  have M4 := hid (M3.out.below hb1)
  clear B1 V2 M3
  clear hb1
  go_wp2
  go_ret
  exact ⟨rfl, by repeat (first | exact B4.out | apply Below.drew)⟩
set_option maxRecDepth 100000 in
set_option maxHeartbeats 2000000 in
theorem isOk3False (c d e : Int) (x : Nat → Int) (h1 : ordB (x 5) (x 6) (x 7) (x 8) (x 9) = false) (w : World) : Calls Tryz.prog 112 #[.agg #[.int .i64 (x 5), .int .i64 (x 6), .int .i64 (x 7), .int .i64 (x 8), .int .i64 (x 9), .int .i64 (x 4)], .agg #[.int .i64 c, .int .i64 d], .int .i64 e] w fun r w' => r = .returned (.bool (ordB (x 5) (x 6) (x 7) (x 8) (x 9) && inB (x 4) 1 9)) ∧ Below w.heap.size w w' := by
  go_enter Tryz.func112, Tryz.ntmps112
  go_wp2_with fail
  obtain ⟨w0, e0⟩ : ∃ w0, w0 = (w.alloc (.cells #[.int .i64 (x 5), .int .i64 (x 6), .int .i64 (x 7), .int .i64 (x 8), .int .i64 (x 9), .int .i64 (x 4)] 116)).alloc (.cells #[.int .i64 c, .int .i64 d] 43) := ⟨_, rfl⟩
  have B1 : Hid (Below w.heap.size w w0) := by rw [e0]; exact ((Below.refl _ _).alloc (by simp) _).alloc (by simp) _
  have V2 : Hid (Bk w0 w.heap.size [.int .i64 (x 5), .int .i64 (x 6), .int .i64 (x 7), .int .i64 (x 8), .int .i64 (x 9), .int .i64 (x 4)]) := by rw [e0]; exact (bk_new w 116 [.int .i64 (x 5), .int .i64 (x 6), .int .i64 (x 7), .int .i64 (x 8), .int .i64 (x 9), .int .i64 (x 4)]).below ((Below.refl _ _).alloc (Nat.le_refl _) _)
  have M3 : Hid (Bk w0 (w.heap.size + 1) [.int .i64 c, .int .i64 d]) := by rw [e0]; have := bk_new (w.alloc (.cells #[.int .i64 (x 5), .int .i64 (x 6), .int .i64 (x 7), .int .i64 (x 8), .int .i64 (x 9), .int .i64 (x 4)] 116)) 43 [.int .i64 c, .int .i64 d]; rwa [show (w.alloc (.cells #[.int .i64 (x 5), .int .i64 (x 6), .int .i64 (x 7), .int .i64 (x 8), .int .i64 (x 9), .int .i64 (x 4)] 116)).heap.size = w.heap.size + 1 by simp] at this
  rw [← e0]
  clear e0
  refine (ordOk_impl _ _ _ _ _ _).mono ?_
  rintro r w1 ⟨rfl, hb1⟩
  have B4 := hid (bthen B1.out hb1)
  have V4 := hid (V2.out.below hb1)
  have M4 := hid (M3.out.below hb1)
  clear B1 V2 M3
  clear hb1
  obtain ⟨yV0, yV1, yV2, yV3, yV4, yV5⟩ := V4.out.a6
  have hlV : w.heap.size < w1.heap.size := V4.out.1
  obtain ⟨yM0, yM1⟩ := M4.out.a2
  have hlM : (w.heap.size + 1) < w1.heap.size := M4.out.1
  go_wp2
  go_ret
  exact ⟨by rw [h1]; rfl, by repeat (first | exact B4.out | apply Below.drew)⟩
set_option maxRecDepth 100000 in
set_option maxHeartbeats 2000000 in
theorem isOk5False (c d e : Int) (x : Nat → Int) (h1 : (sideF c d e (x 3) != -1) = false) (w : World) : Calls Tryz.prog 118 #[.agg #[.int .i64 (x 3), .int .i64 (x 10), .int .i64 (x 11), .int .i64 (x 12), .int .i64 (x 13), .int .i64 (x 14), .int .i64 (x 15), .int .i64 (x 16), .int .i64 (x 17)], .agg #[.int .i64 c, .int .i64 d], .int .i64 e] w fun r w' => r = .returned (.bool ((sideF c d e (x 3) != -1) && pclB c d (x 10) (x 11) (x 12) (x 13) (x 14) (x 15) (x 16) (x 17))) ∧ Below w.heap.size w w' := by
  go_enter Tryz.func118, Tryz.ntmps118
  go_wp2_with fail
  obtain ⟨w0, e0⟩ : ∃ w0, w0 = (w.alloc (.cells #[.int .i64 (x 3), .int .i64 (x 10), .int .i64 (x 11), .int .i64 (x 12), .int .i64 (x 13), .int .i64 (x 14), .int .i64 (x 15), .int .i64 (x 16), .int .i64 (x 17)] 119)).alloc (.cells #[.int .i64 c, .int .i64 d] 43) := ⟨_, rfl⟩
  have B1 : Hid (Below w.heap.size w w0) := by rw [e0]; exact ((Below.refl _ _).alloc (by simp) _).alloc (by simp) _
  have V2 : Hid (Bk w0 w.heap.size [.int .i64 (x 3), .int .i64 (x 10), .int .i64 (x 11), .int .i64 (x 12), .int .i64 (x 13), .int .i64 (x 14), .int .i64 (x 15), .int .i64 (x 16), .int .i64 (x 17)]) := by rw [e0]; exact (bk_new w 119 [.int .i64 (x 3), .int .i64 (x 10), .int .i64 (x 11), .int .i64 (x 12), .int .i64 (x 13), .int .i64 (x 14), .int .i64 (x 15), .int .i64 (x 16), .int .i64 (x 17)]).below ((Below.refl _ _).alloc (Nat.le_refl _) _)
  have M3 : Hid (Bk w0 (w.heap.size + 1) [.int .i64 c, .int .i64 d]) := by rw [e0]; have := bk_new (w.alloc (.cells #[.int .i64 (x 3), .int .i64 (x 10), .int .i64 (x 11), .int .i64 (x 12), .int .i64 (x 13), .int .i64 (x 14), .int .i64 (x 15), .int .i64 (x 16), .int .i64 (x 17)] 119)) 43 [.int .i64 c, .int .i64 d]; rwa [show (w.alloc (.cells #[.int .i64 (x 3), .int .i64 (x 10), .int .i64 (x 11), .int .i64 (x 12), .int .i64 (x 13), .int .i64 (x 14), .int .i64 (x 15), .int .i64 (x 16), .int .i64 (x 17)] 119)).heap.size = w.heap.size + 1 by simp] at this
  rw [← e0]
  clear e0
  refine (beside76 _ _ _ _ _).mono ?_
  rintro r w1 ⟨rfl, hb1⟩
  have B4 := hid (bthen B1.out hb1)
  have V4 := hid (V2.out.below hb1)
  have M4 := hid (M3.out.below hb1)
  clear B1 V2 M3
  clear hb1
  obtain ⟨yV0, yV1, yV2, yV3, yV4, yV5, yV6, yV7, yV8⟩ := V4.out.a9
  have hlV : w.heap.size < w1.heap.size := V4.out.1
  obtain ⟨yM0, yM1⟩ := M4.out.a2
  have hlM : (w.heap.size + 1) < w1.heap.size := M4.out.1
  go_wp2
  go_ret
  exact ⟨by rw [h1]; rfl, by repeat (first | exact B4.out | apply Below.drew)⟩
set_option maxRecDepth 100000 in
set_option maxHeartbeats 2000000 in
theorem isOk6False (c d e : Int) (x : Nat → Int) (h1 : (sideF c d e (x 3) != -1) = false) (w : World) : Calls Tryz.prog 123 #[.agg #[.int .i64 (x 3), .int .i64 (x 4)], .agg #[.int .i64 c, .int .i64 d], .int .i64 e] w fun r w' => r = .returned (.bool ((sideF c d e (x 3) != -1) && inB (x 4) 1 5000)) ∧ Below w.heap.size w w' := by
  go_enter Tryz.func123, Tryz.ntmps123
  go_wp2_with fail
  obtain ⟨w0, e0⟩ : ∃ w0, w0 = (w.alloc (.cells #[.int .i64 (x 3), .int .i64 (x 4)] 121)).alloc (.cells #[.int .i64 c, .int .i64 d] 43) := ⟨_, rfl⟩
  have B1 : Hid (Below w.heap.size w w0) := by rw [e0]; exact ((Below.refl _ _).alloc (by simp) _).alloc (by simp) _
  have V2 : Hid (Bk w0 w.heap.size [.int .i64 (x 3), .int .i64 (x 4)]) := by rw [e0]; exact (bk_new w 121 [.int .i64 (x 3), .int .i64 (x 4)]).below ((Below.refl _ _).alloc (Nat.le_refl _) _)
  have M3 : Hid (Bk w0 (w.heap.size + 1) [.int .i64 c, .int .i64 d]) := by rw [e0]; have := bk_new (w.alloc (.cells #[.int .i64 (x 3), .int .i64 (x 4)] 121)) 43 [.int .i64 c, .int .i64 d]; rwa [show (w.alloc (.cells #[.int .i64 (x 3), .int .i64 (x 4)] 121)).heap.size = w.heap.size + 1 by simp] at this
  rw [← e0]
  clear e0
  refine (beside76 _ _ _ _ _).mono ?_
  rintro r w1 ⟨rfl, hb1⟩
  have B4 := hid (bthen B1.out hb1)
  have V4 := hid (V2.out.below hb1)
  have M4 := hid (M3.out.below hb1)
  clear B1 V2 M3
  clear hb1
  obtain ⟨yV0, yV1⟩ := V4.out.a2
  have hlV : w.heap.size < w1.heap.size := V4.out.1
  obtain ⟨yM0, yM1⟩ := M4.out.a2
  have hlM : (w.heap.size + 1) < w1.heap.size := M4.out.1
  go_wp2
  go_ret
  exact ⟨by rw [h1]; rfl, by repeat (first | exact B4.out | apply Below.drew)⟩
set_option maxRecDepth 100000 in
set_option maxHeartbeats 2000000 in
theorem isOk7False (c d e : Int) (x : Nat → Int) (h1 : gstB c d (x 18) (x 19) (x 20) (x 21) (x 22) (x 23) (x 24) = false) (w : World) : Calls Tryz.prog 125 #[.agg #[.int .i64 (x 3), .int .i64 (x 18), .int .i64 (x 19), .int .i64 (x 20), .int .i64 (x 21), .int .i64 (x 22), .int .i64 (x 23), .int .i64 (x 24)], .agg #[.int .i64 c, .int .i64 d], .int .i64 e] w fun r w' => r = .returned (.bool (gstB c d (x 18) (x 19) (x 20) (x 21) (x 22) (x 23) (x 24) && (x 18 == sideF c d e (x 3)))) ∧ Below w.heap.size w w' := by
  go_enter Tryz.func125, Tryz.ntmps125
  go_wp2_with fail
  obtain ⟨w0, e0⟩ : ∃ w0, w0 = (w.alloc (.cells #[.int .i64 (x 3), .int .i64 (x 18), .int .i64 (x 19), .int .i64 (x 20), .int .i64 (x 21), .int .i64 (x 22), .int .i64 (x 23), .int .i64 (x 24)] 123)).alloc (.cells #[.int .i64 c, .int .i64 d] 43) := ⟨_, rfl⟩
  have B1 : Hid (Below w.heap.size w w0) := by rw [e0]; exact ((Below.refl _ _).alloc (by simp) _).alloc (by simp) _
  have V2 : Hid (Bk w0 w.heap.size [.int .i64 (x 3), .int .i64 (x 18), .int .i64 (x 19), .int .i64 (x 20), .int .i64 (x 21), .int .i64 (x 22), .int .i64 (x 23), .int .i64 (x 24)]) := by rw [e0]; exact (bk_new w 123 [.int .i64 (x 3), .int .i64 (x 18), .int .i64 (x 19), .int .i64 (x 20), .int .i64 (x 21), .int .i64 (x 22), .int .i64 (x 23), .int .i64 (x 24)]).below ((Below.refl _ _).alloc (Nat.le_refl _) _)
  have M3 : Hid (Bk w0 (w.heap.size + 1) [.int .i64 c, .int .i64 d]) := by rw [e0]; have := bk_new (w.alloc (.cells #[.int .i64 (x 3), .int .i64 (x 18), .int .i64 (x 19), .int .i64 (x 20), .int .i64 (x 21), .int .i64 (x 22), .int .i64 (x 23), .int .i64 (x 24)] 123)) 43 [.int .i64 c, .int .i64 d]; rwa [show (w.alloc (.cells #[.int .i64 (x 3), .int .i64 (x 18), .int .i64 (x 19), .int .i64 (x 20), .int .i64 (x 21), .int .i64 (x 22), .int .i64 (x 23), .int .i64 (x 24)] 123)).heap.size = w.heap.size + 1 by simp] at this
  rw [← e0]
  clear e0
  obtain ⟨yV0, yV1, yV2, yV3, yV4, yV5, yV6, yV7⟩ := V2.out.a8
  have hlV : w.heap.size < w0.heap.size := V2.out.1
  obtain ⟨yM0, yM1⟩ := M3.out.a2
  have hlM : (w.heap.size + 1) < w0.heap.size := M3.out.1
  refine wp_region_held_drew (S := fun w' => (∀ b o, b < w0.heap.size → w'.cell? ⟨b, o, none⟩ = w0.cell? ⟨b, o, none⟩) ∧ w0.heap.size ≤ w'.heap.size) (by kernel_rfl) ⟨fun _ _ _ => rfl, Nat.le_refl _⟩ ?_
  intro hHeld
  refine tkl 0 (.agg #[.int .i64 c, .int .i64 d]) rfl ?_ ?_
  · intro wx hSw; go_simp
  try simp only [Act.put, aS]
  refine tkl 1 (.pointer (some ⟨w.heap.size, 1, none⟩)) rfl ?_ ?_
  · intro wx hSw; go_simp
  try simp only [Act.put, aS]
  refine tkl 2 (.agg #[.int .i64 (x 18), .int .i64 (x 19), .int .i64 (x 20), .int .i64 (x 21), .int .i64 (x 22), .int .i64 (x 23), .int .i64 (x 24)]) rfl ?_ ?_
  · intro wx hSw; go_simp
  try simp only [Act.put, aS]
  refine rd1 3 rfl fun K hK => ?_
  go_simp
  go_wp2_with fail
  refine (gstOk_impl _ _ _ _ _ _ _ _ _ _).mono ?_
  rintro r y1 ⟨rfl, hy1⟩
  rw [h1]
  refine hK.out _ _ (keepS (by assumption) hy1) (fun hNew => ?_)
  clear hK K hHeld
  have hHeld := hNew
  clear hNew
  try simp only [Act.put, aS]
  refine tkl 4 (.bool false) rfl ?_ ?_
  · intro wx hSw; go_simp
  try simp only [Act.put, aS]
  refine tkr 5 rfl ?_
  try simp only [Act.put, aS]
  refine tkr 6 rfl ?_
  try simp only [Act.put, aS]
  refine tkr 7 rfl ?_
  try simp only [Act.put, aS]
  refine tkr 8 rfl ?_
  try simp only [Act.put, aS]
  refine tkr 9 rfl ?_
  try simp only [Act.put, aS]
  refine tkr 10 rfl ?_
  try simp only [Act.put, aS]
  refine tkr 11 rfl ?_
  try simp only [Act.put, aS]
  refine tkr 12 rfl ?_
  try simp only [Act.put, aS]
  refine tkr 13 rfl ?_
  try simp only [Act.put, aS]
  refine tkl 14 (.bool false) rfl ?_ ?_
  · intro wx hSw; go_simp
  try simp only [Act.put, aS]
  refine tkl 15 (.bool false) rfl ?_ ?_
  · intro wx hSw; go_simp
  try simp only [Act.put, aS]
  refine wpAnyH_done (by kernel_rfl) ?_ _
  clear hHeld
  have hbz : Below w0.heap.size w0 y1 := by repeat (first | exact Below.refl _ _ | refine bthen ?_ (by assumption) | apply Below.drew)
  clear yV0 yV1 yV2 yV3 yV4 yV5 yV6 yV7 hlV yM0 yM1 hlM
  have B4 := hid (bthen B1.out hbz)
  have V4 := hid (V2.out.below hbz)
  have M4 := hid (M3.out.below hbz)
  clear B1 V2 M3
  go_wp2
  go_ret
  exact ⟨by rw [h1]; rfl, by repeat (first | exact B4.out | apply Below.drew)⟩
set_option maxRecDepth 100000 in
set_option maxHeartbeats 2000000 in
theorem isOk3True (c d e : Int) (x : Nat → Int) (h1 : ordB (x 5) (x 6) (x 7) (x 8) (x 9) = true) (w : World) : Calls Tryz.prog 112 #[.agg #[.int .i64 (x 5), .int .i64 (x 6), .int .i64 (x 7), .int .i64 (x 8), .int .i64 (x 9), .int .i64 (x 4)], .agg #[.int .i64 c, .int .i64 d], .int .i64 e] w fun r w' => r = .returned (.bool (ordB (x 5) (x 6) (x 7) (x 8) (x 9) && inB (x 4) 1 9)) ∧ Below w.heap.size w w' := by
  go_enter Tryz.func112, Tryz.ntmps112
  go_wp2_with fail
  obtain ⟨w0, e0⟩ : ∃ w0, w0 = (w.alloc (.cells #[.int .i64 (x 5), .int .i64 (x 6), .int .i64 (x 7), .int .i64 (x 8), .int .i64 (x 9), .int .i64 (x 4)] 116)).alloc (.cells #[.int .i64 c, .int .i64 d] 43) := ⟨_, rfl⟩
  have B1 : Hid (Below w.heap.size w w0) := by rw [e0]; exact ((Below.refl _ _).alloc (by simp) _).alloc (by simp) _
  have V2 : Hid (Bk w0 w.heap.size [.int .i64 (x 5), .int .i64 (x 6), .int .i64 (x 7), .int .i64 (x 8), .int .i64 (x 9), .int .i64 (x 4)]) := by rw [e0]; exact (bk_new w 116 [.int .i64 (x 5), .int .i64 (x 6), .int .i64 (x 7), .int .i64 (x 8), .int .i64 (x 9), .int .i64 (x 4)]).below ((Below.refl _ _).alloc (Nat.le_refl _) _)
  have M3 : Hid (Bk w0 (w.heap.size + 1) [.int .i64 c, .int .i64 d]) := by rw [e0]; have := bk_new (w.alloc (.cells #[.int .i64 (x 5), .int .i64 (x 6), .int .i64 (x 7), .int .i64 (x 8), .int .i64 (x 9), .int .i64 (x 4)] 116)) 43 [.int .i64 c, .int .i64 d]; rwa [show (w.alloc (.cells #[.int .i64 (x 5), .int .i64 (x 6), .int .i64 (x 7), .int .i64 (x 8), .int .i64 (x 9), .int .i64 (x 4)] 116)).heap.size = w.heap.size + 1 by simp] at this
  rw [← e0]
  clear e0
  refine (ordOk_impl _ _ _ _ _ _).mono ?_
  rintro r w1 ⟨rfl, hb1⟩
  have B4 := hid (bthen B1.out hb1)
  have V4 := hid (V2.out.below hb1)
  have M4 := hid (M3.out.below hb1)
  clear B1 V2 M3
  clear hb1
  obtain ⟨yV0, yV1, yV2, yV3, yV4, yV5⟩ := V4.out.a6
  have hlV : w.heap.size < w1.heap.size := V4.out.1
  obtain ⟨yM0, yM1⟩ := M4.out.a2
  have hlM : (w.heap.size + 1) < w1.heap.size := M4.out.1
  go_wp2_with fail
  refine (in_impl _ _ _ _).mono ?_
  rintro r w2 ⟨rfl, rfl⟩
  go_wp2
  go_ret
  exact ⟨by rw [h1]; rfl, by repeat (first | exact B4.out | apply Below.drew)⟩
set_option maxRecDepth 100000 in
set_option maxHeartbeats 2000000 in
theorem isOk5True (c d e : Int) (x : Nat → Int) (h1 : (sideF c d e (x 3) != -1) = true) (w : World) : Calls Tryz.prog 118 #[.agg #[.int .i64 (x 3), .int .i64 (x 10), .int .i64 (x 11), .int .i64 (x 12), .int .i64 (x 13), .int .i64 (x 14), .int .i64 (x 15), .int .i64 (x 16), .int .i64 (x 17)], .agg #[.int .i64 c, .int .i64 d], .int .i64 e] w fun r w' => r = .returned (.bool ((sideF c d e (x 3) != -1) && pclB c d (x 10) (x 11) (x 12) (x 13) (x 14) (x 15) (x 16) (x 17))) ∧ Below w.heap.size w w' := by
  go_enter Tryz.func118, Tryz.ntmps118
  go_wp2_with fail
  obtain ⟨w0, e0⟩ : ∃ w0, w0 = (w.alloc (.cells #[.int .i64 (x 3), .int .i64 (x 10), .int .i64 (x 11), .int .i64 (x 12), .int .i64 (x 13), .int .i64 (x 14), .int .i64 (x 15), .int .i64 (x 16), .int .i64 (x 17)] 119)).alloc (.cells #[.int .i64 c, .int .i64 d] 43) := ⟨_, rfl⟩
  have B1 : Hid (Below w.heap.size w w0) := by rw [e0]; exact ((Below.refl _ _).alloc (by simp) _).alloc (by simp) _
  have V2 : Hid (Bk w0 w.heap.size [.int .i64 (x 3), .int .i64 (x 10), .int .i64 (x 11), .int .i64 (x 12), .int .i64 (x 13), .int .i64 (x 14), .int .i64 (x 15), .int .i64 (x 16), .int .i64 (x 17)]) := by rw [e0]; exact (bk_new w 119 [.int .i64 (x 3), .int .i64 (x 10), .int .i64 (x 11), .int .i64 (x 12), .int .i64 (x 13), .int .i64 (x 14), .int .i64 (x 15), .int .i64 (x 16), .int .i64 (x 17)]).below ((Below.refl _ _).alloc (Nat.le_refl _) _)
  have M3 : Hid (Bk w0 (w.heap.size + 1) [.int .i64 c, .int .i64 d]) := by rw [e0]; have := bk_new (w.alloc (.cells #[.int .i64 (x 3), .int .i64 (x 10), .int .i64 (x 11), .int .i64 (x 12), .int .i64 (x 13), .int .i64 (x 14), .int .i64 (x 15), .int .i64 (x 16), .int .i64 (x 17)] 119)) 43 [.int .i64 c, .int .i64 d]; rwa [show (w.alloc (.cells #[.int .i64 (x 3), .int .i64 (x 10), .int .i64 (x 11), .int .i64 (x 12), .int .i64 (x 13), .int .i64 (x 14), .int .i64 (x 15), .int .i64 (x 16), .int .i64 (x 17)] 119)).heap.size = w.heap.size + 1 by simp] at this
  rw [← e0]
  clear e0
  refine (beside76 _ _ _ _ _).mono ?_
  rintro r w1 ⟨rfl, hb1⟩
  have B4 := hid (bthen B1.out hb1)
  have V4 := hid (V2.out.below hb1)
  have M4 := hid (M3.out.below hb1)
  clear B1 V2 M3
  clear hb1
  obtain ⟨yV0, yV1, yV2, yV3, yV4, yV5, yV6, yV7, yV8⟩ := V4.out.a9
  have hlV : w.heap.size < w1.heap.size := V4.out.1
  obtain ⟨yM0, yM1⟩ := M4.out.a2
  have hlM : (w.heap.size + 1) < w1.heap.size := M4.out.1
  go_wp2_with fail
  refine (pclOk_impl _ _ _ _ _ _ _ _ _ _ _).mono ?_
  rintro r w2 ⟨rfl, hb2⟩
  clear yV0 yV1 yV2 yV3 yV4 yV5 yV6 yV7 yV8 hlV yM0 yM1 hlM
  have B5 := hid (bthen B4.out hb2)
  have V5 := hid (V4.out.below hb2)
  have M5 := hid (M4.out.below hb2)
  clear B4 V4 M4
  clear hb2
  go_wp2
  go_ret
  exact ⟨by rw [h1]; rfl, by repeat (first | exact B5.out | apply Below.drew)⟩
set_option maxRecDepth 100000 in
set_option maxHeartbeats 2000000 in
theorem isOk6True (c d e : Int) (x : Nat → Int) (h1 : (sideF c d e (x 3) != -1) = true) (w : World) : Calls Tryz.prog 123 #[.agg #[.int .i64 (x 3), .int .i64 (x 4)], .agg #[.int .i64 c, .int .i64 d], .int .i64 e] w fun r w' => r = .returned (.bool ((sideF c d e (x 3) != -1) && inB (x 4) 1 5000)) ∧ Below w.heap.size w w' := by
  go_enter Tryz.func123, Tryz.ntmps123
  go_wp2_with fail
  obtain ⟨w0, e0⟩ : ∃ w0, w0 = (w.alloc (.cells #[.int .i64 (x 3), .int .i64 (x 4)] 121)).alloc (.cells #[.int .i64 c, .int .i64 d] 43) := ⟨_, rfl⟩
  have B1 : Hid (Below w.heap.size w w0) := by rw [e0]; exact ((Below.refl _ _).alloc (by simp) _).alloc (by simp) _
  have V2 : Hid (Bk w0 w.heap.size [.int .i64 (x 3), .int .i64 (x 4)]) := by rw [e0]; exact (bk_new w 121 [.int .i64 (x 3), .int .i64 (x 4)]).below ((Below.refl _ _).alloc (Nat.le_refl _) _)
  have M3 : Hid (Bk w0 (w.heap.size + 1) [.int .i64 c, .int .i64 d]) := by rw [e0]; have := bk_new (w.alloc (.cells #[.int .i64 (x 3), .int .i64 (x 4)] 121)) 43 [.int .i64 c, .int .i64 d]; rwa [show (w.alloc (.cells #[.int .i64 (x 3), .int .i64 (x 4)] 121)).heap.size = w.heap.size + 1 by simp] at this
  rw [← e0]
  clear e0
  refine (beside76 _ _ _ _ _).mono ?_
  rintro r w1 ⟨rfl, hb1⟩
  have B4 := hid (bthen B1.out hb1)
  have V4 := hid (V2.out.below hb1)
  have M4 := hid (M3.out.below hb1)
  clear B1 V2 M3
  clear hb1
  obtain ⟨yV0, yV1⟩ := V4.out.a2
  have hlV : w.heap.size < w1.heap.size := V4.out.1
  obtain ⟨yM0, yM1⟩ := M4.out.a2
  have hlM : (w.heap.size + 1) < w1.heap.size := M4.out.1
  go_wp2_with fail
  refine (in_impl _ _ _ _).mono ?_
  rintro r w2 ⟨rfl, rfl⟩
  go_wp2
  go_ret
  exact ⟨by rw [h1]; rfl, by repeat (first | exact B4.out | apply Below.drew)⟩
set_option maxRecDepth 100000 in
set_option maxHeartbeats 2000000 in
theorem isOk7True (c d e : Int) (x : Nat → Int) (h1 : gstB c d (x 18) (x 19) (x 20) (x 21) (x 22) (x 23) (x 24) = true) (w : World) : Calls Tryz.prog 125 #[.agg #[.int .i64 (x 3), .int .i64 (x 18), .int .i64 (x 19), .int .i64 (x 20), .int .i64 (x 21), .int .i64 (x 22), .int .i64 (x 23), .int .i64 (x 24)], .agg #[.int .i64 c, .int .i64 d], .int .i64 e] w fun r w' => r = .returned (.bool (gstB c d (x 18) (x 19) (x 20) (x 21) (x 22) (x 23) (x 24) && (x 18 == sideF c d e (x 3)))) ∧ Below w.heap.size w w' := by
  go_enter Tryz.func125, Tryz.ntmps125
  go_wp2_with fail
  obtain ⟨w0, e0⟩ : ∃ w0, w0 = (w.alloc (.cells #[.int .i64 (x 3), .int .i64 (x 18), .int .i64 (x 19), .int .i64 (x 20), .int .i64 (x 21), .int .i64 (x 22), .int .i64 (x 23), .int .i64 (x 24)] 123)).alloc (.cells #[.int .i64 c, .int .i64 d] 43) := ⟨_, rfl⟩
  have B1 : Hid (Below w.heap.size w w0) := by rw [e0]; exact ((Below.refl _ _).alloc (by simp) _).alloc (by simp) _
  have V2 : Hid (Bk w0 w.heap.size [.int .i64 (x 3), .int .i64 (x 18), .int .i64 (x 19), .int .i64 (x 20), .int .i64 (x 21), .int .i64 (x 22), .int .i64 (x 23), .int .i64 (x 24)]) := by rw [e0]; exact (bk_new w 123 [.int .i64 (x 3), .int .i64 (x 18), .int .i64 (x 19), .int .i64 (x 20), .int .i64 (x 21), .int .i64 (x 22), .int .i64 (x 23), .int .i64 (x 24)]).below ((Below.refl _ _).alloc (Nat.le_refl _) _)
  have M3 : Hid (Bk w0 (w.heap.size + 1) [.int .i64 c, .int .i64 d]) := by rw [e0]; have := bk_new (w.alloc (.cells #[.int .i64 (x 3), .int .i64 (x 18), .int .i64 (x 19), .int .i64 (x 20), .int .i64 (x 21), .int .i64 (x 22), .int .i64 (x 23), .int .i64 (x 24)] 123)) 43 [.int .i64 c, .int .i64 d]; rwa [show (w.alloc (.cells #[.int .i64 (x 3), .int .i64 (x 18), .int .i64 (x 19), .int .i64 (x 20), .int .i64 (x 21), .int .i64 (x 22), .int .i64 (x 23), .int .i64 (x 24)] 123)).heap.size = w.heap.size + 1 by simp] at this
  rw [← e0]
  clear e0
  obtain ⟨yV0, yV1, yV2, yV3, yV4, yV5, yV6, yV7⟩ := V2.out.a8
  have hlV : w.heap.size < w0.heap.size := V2.out.1
  obtain ⟨yM0, yM1⟩ := M3.out.a2
  have hlM : (w.heap.size + 1) < w0.heap.size := M3.out.1
  refine wp_region_held_drew (S := fun w' => (∀ b o, b < w0.heap.size → w'.cell? ⟨b, o, none⟩ = w0.cell? ⟨b, o, none⟩) ∧ w0.heap.size ≤ w'.heap.size) (by kernel_rfl) ⟨fun _ _ _ => rfl, Nat.le_refl _⟩ ?_
  intro hHeld
  refine tkl 0 (.agg #[.int .i64 c, .int .i64 d]) rfl ?_ ?_
  · intro wx hSw; go_simp
  try simp only [Act.put, aS]
  refine tkl 1 (.pointer (some ⟨w.heap.size, 1, none⟩)) rfl ?_ ?_
  · intro wx hSw; go_simp
  try simp only [Act.put, aS]
  refine tkl 2 (.agg #[.int .i64 (x 18), .int .i64 (x 19), .int .i64 (x 20), .int .i64 (x 21), .int .i64 (x 22), .int .i64 (x 23), .int .i64 (x 24)]) rfl ?_ ?_
  · intro wx hSw; go_simp
  try simp only [Act.put, aS]
  refine rd1 3 rfl fun K hK => ?_
  go_simp
  go_wp2_with fail
  refine (gstOk_impl _ _ _ _ _ _ _ _ _ _).mono ?_
  rintro r y1 ⟨rfl, hy1⟩
  rw [h1]
  refine hK.out _ _ (keepS (by assumption) hy1) (fun hNew => ?_)
  clear hK K hHeld
  have hHeld := hNew
  clear hNew
  try simp only [Act.put, aS]
  refine tkl 4 (.bool true) rfl ?_ ?_
  · intro wx hSw; go_simp
  try simp only [Act.put, aS]
  refine tkl 5 (.pointer (some ⟨w.heap.size, 1, none⟩)) rfl ?_ ?_
  · intro wx hSw; go_simp
  try simp only [Act.put, aS]
  refine tkl 6 (.pointer (some ⟨w.heap.size, 1, none⟩)) rfl ?_ ?_
  · intro wx hSw; go_simp
  try simp only [Act.put, aS]
  refine tkl 7 (.int .i64 (x 18)) rfl ?_ ?_
  · intro wx hSw; go_simp
  try simp only [Act.put, aS]
  refine tkl 8 (.pointer (some ⟨w.heap.size, 0, none⟩)) rfl ?_ ?_
  · intro wx hSw; go_simp
  try simp only [Act.put, aS]
  refine tkl 9 (.agg #[.int .i64 (x 3)]) rfl ?_ ?_
  · intro wx hSw; go_simp
  try simp only [Act.put, aS]
  refine tkl 10 (.agg #[.int .i64 c, .int .i64 d]) rfl ?_ ?_
  · intro wx hSw; go_simp
  try simp only [Act.put, aS]
  refine tkl 11 (.int .i64 e) rfl ?_ ?_
  · intro wx hSw; go_simp
  try simp only [Act.put, aS]
  refine rd1 12 rfl fun K hK => ?_
  go_simp
  go_wp2_with fail
  refine (beside76 _ _ _ _ _).mono ?_
  rintro r y2 ⟨rfl, hy2⟩
  refine hK.out _ _ (keepS (by assumption) hy2) (fun hNew => ?_)
  clear hK K hHeld
  have hHeld := hNew
  clear hNew
  try simp only [Act.put, aS]
  refine tkl 13 (.bool (x 18 == sideF c d e (x 3))) rfl ?_ ?_
  · intro wx hSw; go_simp <;> first | omega | (exact IntWalk.i64_in _ (by omega)) | go_num
  try simp only [Act.put, aS]
  refine tkl 14 (.bool (x 18 == sideF c d e (x 3))) rfl ?_ ?_
  · intro wx hSw; go_simp
  try simp only [Act.put, aS]
  refine tkl 15 (.bool (x 18 == sideF c d e (x 3))) rfl ?_ ?_
  · intro wx hSw; go_simp
  try simp only [Act.put, aS]
  refine wpAnyH_done (by kernel_rfl) ?_ _
  clear hHeld
  have hbz : Below w0.heap.size w0 y2 := by repeat (first | exact Below.refl _ _ | refine bthen ?_ (by assumption) | apply Below.drew)
  clear yV0 yV1 yV2 yV3 yV4 yV5 yV6 yV7 hlV yM0 yM1 hlM
  have B4 := hid (bthen B1.out hbz)
  have V4 := hid (V2.out.below hbz)
  have M4 := hid (M3.out.below hbz)
  clear B1 V2 M3
  go_wp2
  go_ret
  exact ⟨by rw [h1]; rfl, by repeat (first | exact B4.out | apply Below.drew)⟩
theorem isOk3 (c d e : Int) (x : Nat → Int) (w : World) : Calls Tryz.prog 112 #[.agg #[.int .i64 (x 5), .int .i64 (x 6), .int .i64 (x 7), .int .i64 (x 8), .int .i64 (x 9), .int .i64 (x 4)], .agg #[.int .i64 c, .int .i64 d], .int .i64 e] w fun r w' => r = .returned (.bool (ordB (x 5) (x 6) (x 7) (x 8) (x 9) && inB (x 4) 1 9)) ∧ Below w.heap.size w w' := by
  cases h1 : ordB (x 5) (x 6) (x 7) (x 8) (x 9)
  · have := isOk3False c d e x h1 w; rwa [h1] at this
  · have := isOk3True c d e x h1 w; rwa [h1] at this
theorem isOk5 (c d e : Int) (x : Nat → Int) (w : World) : Calls Tryz.prog 118 #[.agg #[.int .i64 (x 3), .int .i64 (x 10), .int .i64 (x 11), .int .i64 (x 12), .int .i64 (x 13), .int .i64 (x 14), .int .i64 (x 15), .int .i64 (x 16), .int .i64 (x 17)], .agg #[.int .i64 c, .int .i64 d], .int .i64 e] w fun r w' => r = .returned (.bool ((sideF c d e (x 3) != -1) && pclB c d (x 10) (x 11) (x 12) (x 13) (x 14) (x 15) (x 16) (x 17))) ∧ Below w.heap.size w w' := by
  cases h1 : (sideF c d e (x 3) != -1)
  · have := isOk5False c d e x h1 w; rwa [h1] at this
  · have := isOk5True c d e x h1 w; rwa [h1] at this
theorem isOk6 (c d e : Int) (x : Nat → Int) (w : World) : Calls Tryz.prog 123 #[.agg #[.int .i64 (x 3), .int .i64 (x 4)], .agg #[.int .i64 c, .int .i64 d], .int .i64 e] w fun r w' => r = .returned (.bool ((sideF c d e (x 3) != -1) && inB (x 4) 1 5000)) ∧ Below w.heap.size w w' := by
  cases h1 : (sideF c d e (x 3) != -1)
  · have := isOk6False c d e x h1 w; rwa [h1] at this
  · have := isOk6True c d e x h1 w; rwa [h1] at this
theorem isOk7 (c d e : Int) (x : Nat → Int) (w : World) : Calls Tryz.prog 125 #[.agg #[.int .i64 (x 3), .int .i64 (x 18), .int .i64 (x 19), .int .i64 (x 20), .int .i64 (x 21), .int .i64 (x 22), .int .i64 (x 23), .int .i64 (x 24)], .agg #[.int .i64 c, .int .i64 d], .int .i64 e] w fun r w' => r = .returned (.bool (gstB c d (x 18) (x 19) (x 20) (x 21) (x 22) (x 23) (x 24) && (x 18 == sideF c d e (x 3)))) ∧ Below w.heap.size w w' := by
  cases h1 : gstB c d (x 18) (x 19) (x 20) (x 21) (x 22) (x 23) (x 24)
  · have := isOk7False c d e x h1 w; rwa [h1] at this
  · have := isOk7True c d e x h1 w; rwa [h1] at this
theorem not84 (V : Value) (w : World) : (Instr.typeAssert (.iface 112 V) 88 125 true).run Tryz.prog w = .ok (.tuple #[.nilIface, .bool false]) w := by
  obtain ⟨m, hm⟩ : ∃ m, Instr.missingMethod _ Tryz.t112.methods = some m := missing_one (want := #[("loop.example/landmarch/impl.answered", 99), ("loop.example/landmarch/impl.isOk", 92), ("loop.example/landmarch/impl.message", 128)]) (s := "loop.example/landmarch/impl.answered") (by kernel_rfl)
  simp [Instr.typeAssert, Sem.run_bind, Tryz.runUnderlying125, Tryz.typeInfo112, hm, Tryz.zeroValue125]
theorem not86 (V : Value) (w : World) : (Instr.typeAssert (.iface 114 V) 88 125 true).run Tryz.prog w = .ok (.tuple #[.nilIface, .bool false]) w := by
  obtain ⟨m, hm⟩ : ∃ m, Instr.missingMethod _ Tryz.t114.methods = some m := missing_one (want := #[("loop.example/landmarch/impl.answered", 99), ("loop.example/landmarch/impl.isOk", 92), ("loop.example/landmarch/impl.message", 128)]) (s := "loop.example/landmarch/impl.answered") (by kernel_rfl)
  simp [Instr.typeAssert, Sem.run_bind, Tryz.runUnderlying125, Tryz.typeInfo114, hm, Tryz.zeroValue125]
theorem not91 (V : Value) (w : World) : (Instr.typeAssert (.iface 119 V) 88 125 true).run Tryz.prog w = .ok (.tuple #[.nilIface, .bool false]) w := by
  obtain ⟨m, hm⟩ : ∃ m, Instr.missingMethod _ Tryz.t119.methods = some m := missing_one (want := #[("loop.example/landmarch/impl.answered", 99), ("loop.example/landmarch/impl.isOk", 92), ("loop.example/landmarch/impl.message", 128)]) (s := "loop.example/landmarch/impl.answered") (by kernel_rfl)
  simp [Instr.typeAssert, Sem.run_bind, Tryz.runUnderlying125, Tryz.typeInfo119, hm, Tryz.zeroValue125]
theorem not93 (V : Value) (w : World) : (Instr.typeAssert (.iface 121 V) 88 125 true).run Tryz.prog w = .ok (.tuple #[.nilIface, .bool false]) w := by
  obtain ⟨m, hm⟩ : ∃ m, Instr.missingMethod _ Tryz.t121.methods = some m := missing_one (want := #[("loop.example/landmarch/impl.answered", 99), ("loop.example/landmarch/impl.isOk", 92), ("loop.example/landmarch/impl.message", 128)]) (s := "loop.example/landmarch/impl.answered") (by kernel_rfl)
  simp [Instr.typeAssert, Sem.run_bind, Tryz.runUnderlying125, Tryz.typeInfo121, hm, Tryz.zeroValue125]
theorem not95 (V : Value) (w : World) : (Instr.typeAssert (.iface 123 V) 88 125 true).run Tryz.prog w = .ok (.tuple #[.nilIface, .bool false]) w := by
  obtain ⟨m, hm⟩ : ∃ m, Instr.missingMethod _ Tryz.t123.methods = some m := missing_one (want := #[("loop.example/landmarch/impl.answered", 99), ("loop.example/landmarch/impl.isOk", 92), ("loop.example/landmarch/impl.message", 128)]) (s := "loop.example/landmarch/impl.answered") (by kernel_rfl)
  simp [Instr.typeAssert, Sem.run_bind, Tryz.runUnderlying125, Tryz.typeInfo123, hm, Tryz.zeroValue125]
set_option maxRecDepth 100000 in
theorem goes1 (a sv : Int) (x : Nat → Int) (h1 : 1 ≤ sv) (h2 : sv ≤ 3) (w : World) : Calls Tryz.prog 45 #[.iface 112 (.agg #[.int .i64 (x 4)]), .int .i64 a, .int .i64 sv] w fun r w' => r = .returned (.bool (inB a 0 (sv - 1))) ∧ Below w.heap.size w w' := by
  have TA : ∀ w, (Instr.typeAssert (.iface 112 (.agg #[.int .i64 (x 4)])) 88 125 true).run Tryz.prog w = .ok (.tuple #[.nilIface, .bool false]) w := fun _ => not84 _ _
  go_enter Tryz.func45, Tryz.ntmps45
  go_wp2_with fail
  refine (server40 _ _ h1 h2 _).mono ?_
  rintro r w1 ⟨rfl, rfl⟩
  go_wp2
  go_ret
  exact ⟨rfl, Below.refl _ _⟩
set_option maxRecDepth 100000 in
theorem goes2 (a sv : Int) (x : Nat → Int) (h1 : 1 ≤ sv) (h2 : sv ≤ 3) (w : World) : Calls Tryz.prog 45 #[.iface 114 (.agg #[.int .i64 (x 5), .int .i64 (x 6), .int .i64 (x 7), .int .i64 (x 8), .int .i64 (x 9)]), .int .i64 a, .int .i64 sv] w fun r w' => r = .returned (.bool (inB a 0 (sv - 1))) ∧ Below w.heap.size w w' := by
  have TA : ∀ w, (Instr.typeAssert (.iface 114 (.agg #[.int .i64 (x 5), .int .i64 (x 6), .int .i64 (x 7), .int .i64 (x 8), .int .i64 (x 9)])) 88 125 true).run Tryz.prog w = .ok (.tuple #[.nilIface, .bool false]) w := fun _ => not86 _ _
  go_enter Tryz.func45, Tryz.ntmps45
  go_wp2_with fail
  refine (server40 _ _ h1 h2 _).mono ?_
  rintro r w1 ⟨rfl, rfl⟩
  go_wp2
  go_ret
  exact ⟨rfl, Below.refl _ _⟩
set_option maxRecDepth 100000 in
theorem goes3 (a sv : Int) (x : Nat → Int) (h1 : 1 ≤ sv) (h2 : sv ≤ 3) (w : World) : Calls Tryz.prog 45 #[.iface 116 (.agg #[.int .i64 (x 5), .int .i64 (x 6), .int .i64 (x 7), .int .i64 (x 8), .int .i64 (x 9), .int .i64 (x 4)]), .int .i64 a, .int .i64 sv] w fun r w' => r = .returned (.bool (a == -1)) ∧ Below w.heap.size w w' := by
  have TA : ∀ w, (Instr.typeAssert (.iface 116 (.agg #[.int .i64 (x 5), .int .i64 (x 6), .int .i64 (x 7), .int .i64 (x 8), .int .i64 (x 9), .int .i64 (x 4)])) 88 125 true).run Tryz.prog w = .ok (.tuple #[.iface 116 (.agg #[.int .i64 (x 5), .int .i64 (x 6), .int .i64 (x 7), .int .i64 (x 8), .int .i64 (x 9), .int .i64 (x 4)]), .bool true]) w := fun _ => by kernel_rfl
  go_enter Tryz.func45, Tryz.ntmps45
  go_wp2_with fail
  go_ret
  exact ⟨rfl, Below.refl _ _⟩
set_option maxRecDepth 100000 in
theorem goes4 (a sv : Int) (x : Nat → Int) (h1 : 1 ≤ sv) (h2 : sv ≤ 3) (w : World) : Calls Tryz.prog 45 #[.iface 117 (.agg #[.int .i64 (x 5), .int .i64 (x 6), .int .i64 (x 7), .int .i64 (x 8), .int .i64 (x 9)]), .int .i64 a, .int .i64 sv] w fun r w' => r = .returned (.bool (a == -1)) ∧ Below w.heap.size w w' := by
  have TA : ∀ w, (Instr.typeAssert (.iface 117 (.agg #[.int .i64 (x 5), .int .i64 (x 6), .int .i64 (x 7), .int .i64 (x 8), .int .i64 (x 9)])) 88 125 true).run Tryz.prog w = .ok (.tuple #[.iface 117 (.agg #[.int .i64 (x 5), .int .i64 (x 6), .int .i64 (x 7), .int .i64 (x 8), .int .i64 (x 9)]), .bool true]) w := fun _ => by kernel_rfl
  go_enter Tryz.func45, Tryz.ntmps45
  go_wp2_with fail
  go_ret
  exact ⟨rfl, Below.refl _ _⟩
set_option maxRecDepth 100000 in
theorem goes5 (a sv : Int) (x : Nat → Int) (h1 : 1 ≤ sv) (h2 : sv ≤ 3) (w : World) : Calls Tryz.prog 45 #[.iface 119 (.agg #[.int .i64 (x 3), .int .i64 (x 10), .int .i64 (x 11), .int .i64 (x 12), .int .i64 (x 13), .int .i64 (x 14), .int .i64 (x 15), .int .i64 (x 16), .int .i64 (x 17)]), .int .i64 a, .int .i64 sv] w fun r w' => r = .returned (.bool (inB a 0 (sv - 1))) ∧ Below w.heap.size w w' := by
  have TA : ∀ w, (Instr.typeAssert (.iface 119 (.agg #[.int .i64 (x 3), .int .i64 (x 10), .int .i64 (x 11), .int .i64 (x 12), .int .i64 (x 13), .int .i64 (x 14), .int .i64 (x 15), .int .i64 (x 16), .int .i64 (x 17)])) 88 125 true).run Tryz.prog w = .ok (.tuple #[.nilIface, .bool false]) w := fun _ => not91 _ _
  go_enter Tryz.func45, Tryz.ntmps45
  go_wp2_with fail
  refine (server40 _ _ h1 h2 _).mono ?_
  rintro r w1 ⟨rfl, rfl⟩
  go_wp2
  go_ret
  exact ⟨rfl, Below.refl _ _⟩
set_option maxRecDepth 100000 in
theorem goes6 (a sv : Int) (x : Nat → Int) (h1 : 1 ≤ sv) (h2 : sv ≤ 3) (w : World) : Calls Tryz.prog 45 #[.iface 121 (.agg #[.int .i64 (x 3), .int .i64 (x 4)]), .int .i64 a, .int .i64 sv] w fun r w' => r = .returned (.bool (inB a 0 (sv - 1))) ∧ Below w.heap.size w w' := by
  have TA : ∀ w, (Instr.typeAssert (.iface 121 (.agg #[.int .i64 (x 3), .int .i64 (x 4)])) 88 125 true).run Tryz.prog w = .ok (.tuple #[.nilIface, .bool false]) w := fun _ => not93 _ _
  go_enter Tryz.func45, Tryz.ntmps45
  go_wp2_with fail
  refine (server40 _ _ h1 h2 _).mono ?_
  rintro r w1 ⟨rfl, rfl⟩
  go_wp2
  go_ret
  exact ⟨rfl, Below.refl _ _⟩
set_option maxRecDepth 100000 in
theorem goes7 (a sv : Int) (x : Nat → Int) (h1 : 1 ≤ sv) (h2 : sv ≤ 3) (w : World) : Calls Tryz.prog 45 #[.iface 123 (.agg #[.int .i64 (x 3), .int .i64 (x 18), .int .i64 (x 19), .int .i64 (x 20), .int .i64 (x 21), .int .i64 (x 22), .int .i64 (x 23), .int .i64 (x 24)]), .int .i64 a, .int .i64 sv] w fun r w' => r = .returned (.bool (inB a 0 (sv - 1))) ∧ Below w.heap.size w w' := by
  have TA : ∀ w, (Instr.typeAssert (.iface 123 (.agg #[.int .i64 (x 3), .int .i64 (x 18), .int .i64 (x 19), .int .i64 (x 20), .int .i64 (x 21), .int .i64 (x 22), .int .i64 (x 23), .int .i64 (x 24)])) 88 125 true).run Tryz.prog w = .ok (.tuple #[.nilIface, .bool false]) w := fun _ => not95 _ _
  go_enter Tryz.func45, Tryz.ntmps45
  go_wp2_with fail
  refine (server40 _ _ h1 h2 _).mono ?_
  rintro r w1 ⟨rfl, rfl⟩
  go_wp2
  go_ret
  exact ⟨rfl, Below.refl _ _⟩
end Go.Proofs.YtgjapdjidighlabGreat
