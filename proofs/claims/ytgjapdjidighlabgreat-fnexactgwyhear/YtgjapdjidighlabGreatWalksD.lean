/- The walks of WlkOk and what it calls; conditions: none. -/
import Derived.Test.YtgjapdjidighlabGreatWalksC
namespace Go.Proofs.YtgjapdjidighlabGreat
open Go.RowKit
set_option linter.unusedVariables false
def boundsB (i n s l : Int) : Bool := inB i 1 9 && (inB n 0 99 && (inB s 0 900 && inB l 0 9))
def wlkB (c d i a n s l : Int) : Bool := boundsB i n s l && (cellF c d a != -1)
theorem bounds_impl (i a n s l : Int) (w : World) :
    Calls Tryz.prog 100 #[.agg #[.int .i64 i, .int .i64 a, .int .i64 n, .int .i64 s, .int .i64 l]] w fun e w' => e = .returned (.bool (boundsB i n s l)) ∧ Below w.heap.size w w' := by
  cases h1 : inB i 1 9
  · go_enter Tryz.func100, Tryz.ntmps100
    go_wp2_with (go_at_call 44; refine (in_impl _ _ _ _).mono ?_; rintro e w' ⟨rfl, rfl⟩)
    go_ret
    exact ⟨by simp [boundsB, *], by repeat (first | exact Below.refl _ _ | refine bthen ?_ (by assumption) | apply Below.drew | apply bdrewN | refine Below.alloc ?_ (by simp) _)⟩
  ·
    cases h2 : inB n 0 99
    · go_enter Tryz.func100, Tryz.ntmps100
      go_wp2_with (go_at_call 44; refine (in_impl _ _ _ _).mono ?_; rintro e w' ⟨rfl, rfl⟩)
      go_ret
      exact ⟨by simp [boundsB, *], by repeat (first | exact Below.refl _ _ | refine bthen ?_ (by assumption) | apply Below.drew | apply bdrewN | refine Below.alloc ?_ (by simp) _)⟩
    ·
      cases h3 : inB s 0 900
      · go_enter Tryz.func100, Tryz.ntmps100
        go_wp2_with (go_at_call 44; refine (in_impl _ _ _ _).mono ?_; rintro e w' ⟨rfl, rfl⟩)
        go_ret
        exact ⟨by simp [boundsB, *], by repeat (first | exact Below.refl _ _ | refine bthen ?_ (by assumption) | apply Below.drew | apply bdrewN | refine Below.alloc ?_ (by simp) _)⟩
      · go_enter Tryz.func100, Tryz.ntmps100
        go_wp2_with (go_at_call 44; refine (in_impl _ _ _ _).mono ?_; rintro e w' ⟨rfl, rfl⟩)
        go_ret
        exact ⟨by simp [boundsB, *], by repeat (first | exact Below.refl _ _ | refine bthen ?_ (by assumption) | apply Below.drew | apply bdrewN | refine Below.alloc ?_ (by simp) _)⟩
theorem wlkOk_impl (c d i a n s l : Int) (w : World) :
    Calls Tryz.prog 128 #[.agg #[.int .i64 c, .int .i64 d], .agg #[.int .i64 i, .int .i64 a, .int .i64 n, .int .i64 s, .int .i64 l]] w fun e w' => e = .returned (.bool (wlkB c d i a n s l)) ∧ Below w.heap.size w w' := by
  cases h1 : boundsB i n s l
  · go_enter Tryz.func128, Tryz.ntmps128
    go_wp2_with (first | (go_at_call 100; refine (bounds_impl _ _ _ _ _ _).mono ?_; rintro e w' ⟨rfl, hb⟩; obtain ⟨hc, hf⟩ := bcell hb) | (go_at_call 129; refine (plcCell_impl _ _ _ _).mono ?_; rintro e w' ⟨rfl, hb⟩; obtain ⟨hc, hf⟩ := bcell hb))
    go_ret
    exact ⟨by simp [wlkB, *], by repeat (first | exact Below.refl _ _ | refine bthen ?_ (by assumption) | apply Below.drew | apply bdrewN | refine Below.alloc ?_ (by simp) _)⟩
  · go_enter Tryz.func128, Tryz.ntmps128
    go_wp2_with (first | (go_at_call 100; refine (bounds_impl _ _ _ _ _ _).mono ?_; rintro e w' ⟨rfl, hb⟩; obtain ⟨hc, hf⟩ := bcell hb) | (go_at_call 129; refine (plcCell_impl _ _ _ _).mono ?_; rintro e w' ⟨rfl, hb⟩; obtain ⟨hc, hf⟩ := bcell hb))
    go_ret
    exact ⟨by simp [wlkB, *], by repeat (first | exact Below.refl _ _ | refine bthen ?_ (by assumption) | apply Below.drew | apply bdrewN | refine Below.alloc ?_ (by simp) _)⟩
set_option maxHeartbeats 400000 in
theorem wlkOk_spec (c d i a n s l : Int) (w : World) :
    Calls Tryz.prog 50 #[.agg #[.int .i64 c, .int .i64 d], .agg #[.int .i64 i, .int .i64 a, .int .i64 n, .int .i64 s, .int .i64 l]] w fun e w' => e = .returned (.bool (wlkB c d i a n s l)) ∧ Below w.heap.size w w' := by
  cases h1 : inB i 1 9
  · go_enter Tryz.func50, Tryz.ntmps50
    go_wp2_with (first | (go_at_call 32; refine (in_spec _ _ _ _).mono ?_; rintro e w' ⟨rfl, rfl⟩) | (go_at_call 51; refine (cell_spec _ _ _ _).mono ?_; rintro e w' ⟨rfl, hb⟩; obtain ⟨hc, hf⟩ := bcell hb))
    go_ret
    exact ⟨by simp [wlkB, boundsB, *], by repeat (first | exact Below.refl _ _ | refine bthen ?_ (by assumption) | apply Below.drew | apply bdrewN | refine Below.alloc ?_ (by simp) _)⟩
  ·
    cases h0 : (cellF c d a != -1)
    · go_enter Tryz.func50, Tryz.ntmps50
      go_wp2_with (first | (go_at_call 32; refine (in_spec _ _ _ _).mono ?_; rintro e w' ⟨rfl, rfl⟩) | (go_at_call 51; refine (cell_spec _ _ _ _).mono ?_; rintro e w' ⟨rfl, hb⟩; obtain ⟨hc, hf⟩ := bcell hb))
      go_ret
      exact ⟨by simp [wlkB, boundsB, *], by repeat (first | exact Below.refl _ _ | refine bthen ?_ (by assumption) | apply Below.drew | apply bdrewN | refine Below.alloc ?_ (by simp) _)⟩
    ·
      cases h2 : inB n 0 99
      · go_enter Tryz.func50, Tryz.ntmps50
        go_wp2_with (first | (go_at_call 32; refine (in_spec _ _ _ _).mono ?_; rintro e w' ⟨rfl, rfl⟩) | (go_at_call 51; refine (cell_spec _ _ _ _).mono ?_; rintro e w' ⟨rfl, hb⟩; obtain ⟨hc, hf⟩ := bcell hb))
        go_ret
        exact ⟨by simp [wlkB, boundsB, *], by repeat (first | exact Below.refl _ _ | refine bthen ?_ (by assumption) | apply Below.drew | apply bdrewN | refine Below.alloc ?_ (by simp) _)⟩
      ·
        cases h3 : inB s 0 900
        · go_enter Tryz.func50, Tryz.ntmps50
          go_wp2_with (first | (go_at_call 32; refine (in_spec _ _ _ _).mono ?_; rintro e w' ⟨rfl, rfl⟩) | (go_at_call 51; refine (cell_spec _ _ _ _).mono ?_; rintro e w' ⟨rfl, hb⟩; obtain ⟨hc, hf⟩ := bcell hb))
          go_ret
          exact ⟨by simp [wlkB, boundsB, *], by repeat (first | exact Below.refl _ _ | refine bthen ?_ (by assumption) | apply Below.drew | apply bdrewN | refine Below.alloc ?_ (by simp) _)⟩
        · go_enter Tryz.func50, Tryz.ntmps50
          go_wp2_with (first | (go_at_call 32; refine (in_spec _ _ _ _).mono ?_; rintro e w' ⟨rfl, rfl⟩) | (go_at_call 51; refine (cell_spec _ _ _ _).mono ?_; rintro e w' ⟨rfl, hb⟩; obtain ⟨hc, hf⟩ := bcell hb))
          go_ret
          exact ⟨by simp [wlkB, boundsB, *], by repeat (first | exact Below.refl _ _ | refine bthen ?_ (by assumption) | apply Below.drew | apply bdrewN | refine Below.alloc ?_ (by simp) _)⟩
end Go.Proofs.YtgjapdjidighlabGreat
