/- The walks of one parcel: its copy, its cargo, PclOk of both sides; conditions: none. -/
import Derived.Test.YtgjapdjidighlabGreatWalksD
import Derived.Test.YtgjapdjidighlabGreatOrd1
namespace Go.Proofs.YtgjapdjidighlabGreat
open Go.RowKit
set_option linter.unusedVariables false
def noWalker (i a n s l : Int) : Bool := (i == 0 && (a == 0 && (n == 0 && (s == 0 && l == 0))))
def cargoV (pn pk i a n s l pc : Int) : Value :=
  if pk = 1 ∧ pc = 0 then .iface 197 (.agg #[.int .i64 pn, .int .i64 i, .int .i64 a, .int .i64 n, .int .i64 s, .int .i64 l]) else if pk = 2 ∧ noWalker i a n s l = true then .iface 199 (.agg #[.int .i64 pn, .int .i64 pc]) else .nilIface
theorem toParcel (pn pk i a n s l pc : Int) (w : World) :
    Calls Tryz.prog 20 #[.agg #[.int .i64 pn, .int .i64 pk, .int .i64 i, .int .i64 a, .int .i64 n, .int .i64 s, .int .i64 l, .int .i64 pc]] w fun e w' => e = .returned (.agg #[.int .i64 pn, .int .i64 pk, .int .i64 i, .int .i64 a, .int .i64 n, .int .i64 s, .int .i64 l, .int .i64 pc]) ∧ Below w.heap.size w w' := by
  go_enter Tryz.func20, Tryz.ntmps20
  go_wp2_with (go_at_call 39; refine (toWalker _ _ _ _ _ _).mono ?_; rintro e w1 ⟨rfl, hb⟩; obtain ⟨hc, hf⟩ := bcell hb)
  exact bodyPost_ret (v := .agg #[.int .i64 pn, .int .i64 pk, .int .i64 i, .int .i64 a, .int .i64 n, .int .i64 s, .int .i64 l, .int .i64 pc]) (by simp [results, Tryz.results20, go_sem, hc]) rfl ⟨rfl, by (iterate 14 (refine Below.setCell ?_ (by simp <;> omega) _)); exact bthen (Below.alloc (Below.alloc (Below.alloc (Below.refl _ _) (by simp) _) (by simp) _) (by simp <;> omega) _) hb⟩
theorem cargoOf (pn pk i a n s l pc : Int) (w : World) :
    Calls Tryz.prog 122 #[.agg #[.int .i64 pn, .int .i64 pk, .int .i64 i, .int .i64 a, .int .i64 n, .int .i64 s, .int .i64 l, .int .i64 pc]] w fun e w' => e = .returned (cargoV pn pk i a n s l pc) ∧ Below w.heap.size w w' := by
  go_enter Tryz.func122, Tryz.ntmps122
  go_wp2
  all_goals (go_ret; exact ⟨by simp_all [cargoV, noWalker], by repeat (first | exact Below.refl _ _ | refine Below.alloc ?_ (by simp <;> omega) _)⟩)
theorem number_impl (n : Int) (w : World) :
    Calls Tryz.prog 149 #[.agg #[.int .i64 n]] w fun e w' => e = .returned (.bool (inB n 0 4999)) ∧ Below w.heap.size w w' := by
  go_enter Tryz.func149, Tryz.ntmps149
  go_wp2_with (go_at_call 44; refine (in_impl _ _ _ _).mono ?_; rintro e w' ⟨rfl, rfl⟩)
  go_ret
  exact ⟨rfl, by repeat (first | exact Below.refl _ _ | refine Below.alloc ?_ (by simp <;> omega) _)⟩
theorem okOn_walker (c d pn i a n s l : Int) (w : World) :
    Calls Tryz.prog 150 #[.agg #[.int .i64 pn, .int .i64 i, .int .i64 a, .int .i64 n, .int .i64 s, .int .i64 l], .agg #[.int .i64 c, .int .i64 d]] w fun e w' => e = .returned (.bool (wlkB c d i a n s l)) ∧ Below w.heap.size w w' := by
  go_enter Tryz.func150, Tryz.ntmps150
  go_wp2_with (go_at_call 128; refine (wlkOk_impl _ _ _ _ _ _ _ _).mono ?_; rintro e w' ⟨rfl, hb⟩; obtain ⟨hc, hf⟩ := bcell hb)
  go_ret
  exact ⟨rfl, by repeat (first | exact Below.refl _ _ | refine bthen ?_ (by assumption) | refine Below.alloc ?_ (by simp <;> omega) _)⟩
theorem okOn_coins (c d pn pc : Int) (w : World) :
    Calls Tryz.prog 152 #[.agg #[.int .i64 pn, .int .i64 pc], .agg #[.int .i64 c, .int .i64 d]] w fun e w' => e = .returned (.bool (okB c d && inB pc 1 9)) ∧ Below w.heap.size w w' := by
  cases h1 : okB c d
  all_goals
    go_enter Tryz.func152, Tryz.ntmps152
    go_wp2_with (first | (go_at_call 40; refine (ok_impl _ _ _).mono ?_; rintro e w' ⟨rfl, hb⟩; obtain ⟨hc, hf⟩ := bcell hb) | (go_at_call 139; refine (amount_impl _ _).mono ?_; rintro e w' ⟨rfl, rfl⟩))
    go_ret
    exact ⟨by simp, by repeat (first | exact Below.refl _ _ | refine bthen ?_ (by assumption) | refine Below.alloc ?_ (by simp <;> omega) _)⟩
def pclB (c d pn pk i a n s l pc : Int) : Bool := okB c d && (inB pn 0 4999 && (if pk = 1 then wlkB c d i a n s l && pc == 0 else pk == 2 && (noWalker i a n s l && inB pc 1 9)))
theorem wlkB_map {c d i a n s l : Int} (h : okB c d = false) : wlkB c d i a n s l = false := by
  simp [wlkB, cellF, h]
theorem pclOk_spec (c d pn pk i a n s l pc : Int) (w : World) :
    Calls Tryz.prog 36 #[.agg #[.int .i64 c, .int .i64 d], .agg #[.int .i64 pn, .int .i64 pk, .int .i64 i, .int .i64 a, .int .i64 n, .int .i64 s, .int .i64 l, .int .i64 pc]] w fun e w' => e = .returned (.bool (pclB c d pn pk i a n s l pc)) ∧ Below w.heap.size w w' := by
  go_enter Tryz.func36, Tryz.ntmps36
  go_wp2_with (first
    | (go_at_call 30; refine (ok_spec _ _ _).mono ?_; rintro e w' ⟨rfl, hb⟩; (first | (replace B0 := bthen B0 hb) | (have B0 := hb)); obtain ⟨hc, hf⟩ := bcell B0)
    | (go_at_call 32; refine (in_spec _ _ _ _).mono ?_; rintro e w' ⟨rfl, rfl⟩)
    | (go_at_call 50; refine (wlkOk_spec _ _ _ _ _ _ _ _).mono ?_; rintro e w' ⟨rfl, hb⟩; (first | (replace B0 := bthen B0 hb) | (have B0 := hb)); obtain ⟨hc, hf⟩ := bcell B0))
  all_goals (go_ret; exact ⟨by simp_all [pclB, noWalker], by repeat (first | exact Below.refl _ _ | refine bthen ?_ (by assumption) | refine Below.alloc ?_ (by simp <;> omega) _)⟩)
set_option maxRecDepth 100000 in
set_option maxHeartbeats 2000000 in
theorem pclOk_gen (c d pn pk i a n s l pc : Int) (t : TypeId) (V : Value) (ff : Nat) (ob : Bool) (hd : cargoV pn pk i a n s l pc = .iface t V)
    (hm1 : ∀ (w : World), (method 307 t V "loop.example/landmarch/impl.hasNumber").run Tryz.prog w = .ok (149, .agg #[.int .i64 pn]) w)
    (hm2 : ∀ (w : World), (method 307 t V "loop.example/landmarch/impl.okOn").run Tryz.prog w = .ok (ff, V) w)
    (hcf : ∀ (a : Array Value) (w : World), (callFunc ff a).run Tryz.prog w = .ok (.enter ff a) w)
    (hok : ∀ w : World, Calls Tryz.prog ff #[V, .agg #[.int .i64 c, .int .i64 d]] w fun e w' => e = .returned (.bool ob) ∧ Below w.heap.size w w') (w : World) :
    Calls Tryz.prog 120 #[.agg #[.int .i64 c, .int .i64 d], .agg #[.int .i64 pn, .int .i64 pk, .int .i64 i, .int .i64 a, .int .i64 n, .int .i64 s, .int .i64 l, .int .i64 pc]] w fun e w' => e = .returned (.bool (inB pn 0 4999 && ob)) ∧ Below w.heap.size w w' := by
  cases h1 : inB pn 0 4999
  all_goals
    go_enter Tryz.func120, Tryz.ntmps120
    go_wp2_with (first
      | (go_at_call 122; refine (cargoOf _ _ _ _ _ _ _ _ _).mono ?_; rintro e w1 ⟨rfl, hb1⟩; rw [hd])
      | (go_at_call 149; refine (number_impl _ _).mono ?_; rintro e w2 ⟨rfl, hb2⟩; have B2 := bthen hb1 hb2; obtain ⟨hc2, hf2⟩ := bcell B2; rw [h1]))
    try (refine (hok _).mono ?_; rintro e w3 ⟨rfl, hb3⟩; go_wp2)
    go_ret
    exact ⟨by simp, by repeat (first | exact Below.refl _ _ | refine bthen ?_ (by assumption) | refine Below.alloc ?_ (by simp <;> omega) _)⟩
theorem pclOk_none (c d pn pk i a n s l pc : Int) (hd : cargoV pn pk i a n s l pc = .nilIface) (w : World) :
    Calls Tryz.prog 120 #[.agg #[.int .i64 c, .int .i64 d], .agg #[.int .i64 pn, .int .i64 pk, .int .i64 i, .int .i64 a, .int .i64 n, .int .i64 s, .int .i64 l, .int .i64 pc]] w fun e w' => e = .returned (.bool false) ∧ Below w.heap.size w w' := by
  go_enter Tryz.func120, Tryz.ntmps120
  go_wp2_with (go_at_call 122; refine (cargoOf _ _ _ _ _ _ _ _ _).mono ?_; rintro e w1 ⟨rfl, hb1⟩; rw [hd])
  go_ret
  exact ⟨rfl, by repeat (first | exact Below.refl _ _ | refine bthen ?_ (by assumption) | refine Below.alloc ?_ (by simp <;> omega) _)⟩
theorem pclOk_impl (c d pn pk i a n s l pc : Int) (w : World) :
    Calls Tryz.prog 120 #[.agg #[.int .i64 c, .int .i64 d], .agg #[.int .i64 pn, .int .i64 pk, .int .i64 i, .int .i64 a, .int .i64 n, .int .i64 s, .int .i64 l, .int .i64 pc]] w fun e w' => e = .returned (.bool (pclB c d pn pk i a n s l pc)) ∧ Below w.heap.size w w' := by
  by_cases h1 : pk = 1 ∧ pc = 0
  · obtain ⟨rfl, rfl⟩ := h1
    refine (pclOk_gen c d pn 1 i a n s l 0 197 (.agg #[.int .i64 pn, .int .i64 i, .int .i64 a, .int .i64 n, .int .i64 s, .int .i64 l]) 150 (wlkB c d i a n s l) rfl (fun _ => by kernel_rfl) (fun _ => by kernel_rfl) (fun _ _ => by kernel_rfl) (okOn_walker c d pn i a n s l) w).mono ?_
    rintro e w' ⟨rfl, hb⟩
    refine ⟨?_, hb⟩
    cases h : okB c d
    · simp [pclB, h, wlkB_map h]
    · simp [pclB, h]
  · by_cases h2 : pk = 2 ∧ noWalker i a n s l = true
    · have hd : cargoV pn pk i a n s l pc = .iface 199 (.agg #[.int .i64 pn, .int .i64 pc]) := by simp [cargoV, h2]
      obtain ⟨rfl, h3⟩ := h2
      refine (pclOk_gen c d pn 2 i a n s l pc 199 (.agg #[.int .i64 pn, .int .i64 pc]) 152 (okB c d && inB pc 1 9) hd (fun _ => by kernel_rfl) (fun _ => by kernel_rfl) (fun _ _ => by kernel_rfl) (okOn_coins c d pn pc) w).mono ?_
      rintro e w' ⟨rfl, hb⟩
      refine ⟨?_, hb⟩
      cases h : okB c d <;> simp [pclB, h, h3]
    · refine (pclOk_none c d pn pk i a n s l pc (by simp [cargoV, h1, h2]) w).mono ?_
      rintro e w' ⟨rfl, hb⟩
      refine ⟨?_, hb⟩
      by_cases h3 : pk = 1
      · subst h3
        have : pc ≠ 0 := fun h => h1 ⟨rfl, h⟩
        simp [pclB, this]
      · by_cases h4 : pk = 2
        · subst h4
          have : noWalker i a n s l = false := by simpa using h2
          simp [pclB, this]
        · simp [pclB, h3, h4]
theorem toMap (c d : Int) (w : World) :
    Calls Tryz.prog 6 #[.agg #[.int .i64 c, .int .i64 d]] w fun e w' => e = .returned (.agg #[.int .i64 c, .int .i64 d]) ∧ Below w.heap.size w w' := by
  go_enter Tryz.func6, Tryz.ntmps6
  go_wp2
  exact bodyPost_ret (v := .agg #[.int .i64 c, .int .i64 d]) (by simp [results, Tryz.results6, go_sem]) rfl ⟨rfl, (((Below.refl _ _).alloc (by simp) _).alloc (by simp) _).alloc (by simp; omega) _⟩
end Go.Proofs.YtgjapdjidighlabGreat
