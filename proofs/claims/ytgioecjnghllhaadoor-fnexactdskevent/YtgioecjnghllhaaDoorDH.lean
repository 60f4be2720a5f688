/- DskEvent: the law; conditions: those typed. -/
import Derived.Test.YtgioecjnghllhaaDoorDG
import Derived.Deep.DeepCutAuto
namespace Go.Proofs.YtgioecjnghllhaaDoor
open Go.RowKit Go.Deep
set_option linter.unusedVariables false
set_option maxRecDepth 20000
theorem eqEvent (v0 v1 v2 v3 v4 : Int) (w : World) :
    Calls Tryd.prog 6 #[.agg #[.int .i64 v0, .int .i64 v1, .int .i64 v2, .int .i64 v3, .int .i64 v4], .agg #[.int .i64 v0, .int .i64 v1, .int .i64 v2, .int .i64 v3, .int .i64 v4]] w fun e w' => e = .returned (.bool true) ∧ Below w.heap.size w w' := by
  go_enter Tryd.func6, Tryd.ntmps6
  go_wp2
  go_ret
  exact ⟨rfl, by repeat (first | exact Below.refl _ _ | refine bthen ?_ (by assumption) | apply Below.drew | apply bdrewN | refine Below.alloc ?_ (by simp) _)⟩
set_option maxHeartbeats 1000000 in
theorem law_dskEvent (s : ByteArray) (w : World) (hE : Env w) :
    Calls Tryd.prog 3 #[.string s] w fun e w' => e = .returned (.bool true) ∧ Below w.heap.size w w' := by
  have HE := hid hE
  clear hE
  by_cases hbig : (1048576 : Int) < (s.size : Int)
  · go_enter Tryd.func3, Tryd.ntmps3
    go_wp2
    go_ret
    exact ⟨rfl, by repeat (first | exact Below.refl _ _ | refine Below.alloc ?_ (by simp <;> omega) _)⟩
  obtain ⟨v0, v1, v2, v3, v4, b, hsp, him⟩ := same_all s
  have HS := hid hsp
  have HI := hid him
  have HQ : Hid (∀ w : World, Calls Tryd.prog 6 #[.agg #[.int .i64 v0, .int .i64 v1, .int .i64 v2, .int .i64 v3, .int .i64 v4], .agg #[.int .i64 v0, .int .i64 v1, .int .i64 v2, .int .i64 v3, .int .i64 v4]] w fun e w' => e = .returned (.bool true) ∧ Below w.heap.size w w') := fun w => eqEvent _ _ _ _ _ w
  clear hsp him
  have hbig' : (s.size : Int) ≤ 1048576 := by omega
  clear hbig
  go_enter Tryd.func3, Tryd.ntmps3
  go_wp2_with fail
  refine (HS.out _).mono ?_
  rintro e w1 ⟨rfl, hb1⟩
  have BA : Below w.heap.size w (w1.alloc (.cells #[.int .i64 v0, .int .i64 v1, .int .i64 v2, .int .i64 v3, .int .i64 v4] 23)) := hb1.alloc hb1.size _
  go_wp2_with fail
  refine (HI.out _ (HE.out.on BA)).mono ?_
  rintro e w2 ⟨rfl, hb2⟩
  obtain ⟨hc2, hf2⟩ := bcell hb2
  have q0 : w2.cell? ⟨w1.heap.size, 0, none⟩ = some (.int .i64 v0) := (hc2 _ 0 (by simp)).trans (by simp)
  have q1 : w2.cell? ⟨w1.heap.size, 1, none⟩ = some (.int .i64 v1) := (hc2 _ 1 (by simp)).trans (by simp)
  have q2 : w2.cell? ⟨w1.heap.size, 2, none⟩ = some (.int .i64 v2) := (hc2 _ 2 (by simp)).trans (by simp)
  have q3 : w2.cell? ⟨w1.heap.size, 3, none⟩ = some (.int .i64 v3) := (hc2 _ 3 (by simp)).trans (by simp)
  have q4 : w2.cell? ⟨w1.heap.size, 4, none⟩ = some (.int .i64 v4) := (hc2 _ 4 (by simp)).trans (by simp)
  have hlt : w1.heap.size < w2.heap.size := Nat.lt_of_lt_of_le (by simp) hb2.size
  have hne : w1.heap.size ≠ w2.heap.size := by omega
  have hne' : w2.heap.size ≠ w1.heap.size := by omega
  have cz : ∀ (X : World) (ob : Obj) (o : Nat), X.heap.size = w2.heap.size → (X.alloc ob).cell? ⟨w1.heap.size, o, none⟩ = X.cell? ⟨w1.heap.size, o, none⟩ := fun X ob o hX => ((Below.refl _ _).alloc (Nat.le_refl _) _ : Below X.heap.size X (X.alloc ob)).cell (p := ⟨w1.heap.size, o, none⟩) (by rw [hX]; exact hlt)
  have B2 : Hid (Below w.heap.size w (w2.alloc (.cells #[.int .i64 v0, .int .i64 v1, .int .i64 v2, .int .i64 v3, .int .i64 v4] 23))) := (bthen BA hb2).alloc (bthen BA hb2).size _
  clear hc2 hf2 hb2 BA hb1
  go_wp2_with fail
  refine (HQ.out _).mono ?_
  rintro e w3 ⟨rfl, hb3⟩
  cases b
  all_goals
    go_wp2
    go_ret
    exact ⟨rfl, bthen B2.out hb3⟩
end Go.Proofs.YtgioecjnghllhaaDoor
