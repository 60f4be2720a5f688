/- The walks of WlkOk and what it calls; conditions: none. -/
import Derived.Test.YthoeecgcmoibdaaWalks2
namespace Go.Proofs.Ythoeecgcmoibdaa
open Go.RowKit
set_option linter.unusedVariables false

def boundsB (i n s l : Int) : Bool := inB i 1 9 && (inB n 0 99 && (inB s 0 900 && inB l 0 9))
def wlkB (c d i a n s l : Int) : Bool := boundsB i n s l && (cellF c d a != -1)

theorem toWalker (i a n s l : Int) (w : World) :
    Calls Try.prog 11 #[.agg #[.int .i64 i, .int .i64 a, .int .i64 n, .int .i64 s, .int .i64 l]] w fun e w' => e = .returned (.agg #[.int .i64 i, .int .i64 a, .int .i64 n, .int .i64 s, .int .i64 l]) ∧ Below w.heap.size w w' := by
  go_enter Try.func11, Try.ntmps11
  go_wp2
  exact bodyPost_ret (v := .agg #[.int .i64 i, .int .i64 a, .int .i64 n, .int .i64 s, .int .i64 l]) (by simp [results, Try.results11, go_sem]) rfl ⟨rfl, (((Below.refl _ _).alloc (by simp) _).alloc (by simp) _).alloc (by simp; omega) _⟩

theorem bounds_impl (i a n s l : Int) (w : World) :
    Calls Try.prog 16 #[.agg #[.int .i64 i, .int .i64 a, .int .i64 n, .int .i64 s, .int .i64 l]] w fun e w' => e = .returned (.bool (boundsB i n s l)) ∧ Below w.heap.size w w' := by
  cases h1 : inB i 1 9
  · go_enter Try.func16, Try.ntmps16
    go_wp2_with (go_at_call 19; refine (in_impl _ _ _ _).mono ?_; rintro e w' ⟨rfl, rfl⟩)
    go_ret
    exact ⟨by simp [boundsB, *], by repeat (first | exact Below.refl _ _ | refine bthen ?_ (by assumption) | apply Below.drew | apply bdrewN | refine Below.alloc ?_ (by simp) _)⟩
  ·
    cases h2 : inB n 0 99
    · go_enter Try.func16, Try.ntmps16
      go_wp2_with (go_at_call 19; refine (in_impl _ _ _ _).mono ?_; rintro e w' ⟨rfl, rfl⟩)
      go_ret
      exact ⟨by simp [boundsB, *], by repeat (first | exact Below.refl _ _ | refine bthen ?_ (by assumption) | apply Below.drew | apply bdrewN | refine Below.alloc ?_ (by simp) _)⟩
    ·
      cases h3 : inB s 0 900
      · go_enter Try.func16, Try.ntmps16
        go_wp2_with (go_at_call 19; refine (in_impl _ _ _ _).mono ?_; rintro e w' ⟨rfl, rfl⟩)
        go_ret
        exact ⟨by simp [boundsB, *], by repeat (first | exact Below.refl _ _ | refine bthen ?_ (by assumption) | apply Below.drew | apply bdrewN | refine Below.alloc ?_ (by simp) _)⟩
      · go_enter Try.func16, Try.ntmps16
        go_wp2_with (go_at_call 19; refine (in_impl _ _ _ _).mono ?_; rintro e w' ⟨rfl, rfl⟩)
        go_ret
        exact ⟨by simp [boundsB, *], by repeat (first | exact Below.refl _ _ | refine bthen ?_ (by assumption) | apply Below.drew | apply bdrewN | refine Below.alloc ?_ (by simp) _)⟩

theorem wlkOk_impl (c d i a n s l : Int) (w : World) :
    Calls Try.prog 12 #[.agg #[.int .i64 c, .int .i64 d], .agg #[.int .i64 i, .int .i64 a, .int .i64 n, .int .i64 s, .int .i64 l]] w fun e w' => e = .returned (.bool (wlkB c d i a n s l)) ∧ Below w.heap.size w w' := by
  cases h1 : boundsB i n s l
  · go_enter Try.func12, Try.ntmps12
    go_wp2_with (first | (go_at_call 16; refine (bounds_impl _ _ _ _ _ _).mono ?_; rintro e w' ⟨rfl, hb⟩; obtain ⟨hc, hf⟩ := bcell hb) | (go_at_call 17; refine (plcCell_impl _ _ _ _).mono ?_; rintro e w' ⟨rfl, hb⟩; obtain ⟨hc, hf⟩ := bcell hb))
    go_ret
    exact ⟨by simp [wlkB, *], by repeat (first | exact Below.refl _ _ | refine bthen ?_ (by assumption) | apply Below.drew | apply bdrewN | refine Below.alloc ?_ (by simp) _)⟩
  · go_enter Try.func12, Try.ntmps12
    go_wp2_with (first | (go_at_call 16; refine (bounds_impl _ _ _ _ _ _).mono ?_; rintro e w' ⟨rfl, hb⟩; obtain ⟨hc, hf⟩ := bcell hb) | (go_at_call 17; refine (plcCell_impl _ _ _ _).mono ?_; rintro e w' ⟨rfl, hb⟩; obtain ⟨hc, hf⟩ := bcell hb))
    go_ret
    exact ⟨by simp [wlkB, *], by repeat (first | exact Below.refl _ _ | refine bthen ?_ (by assumption) | apply Below.drew | apply bdrewN | refine Below.alloc ?_ (by simp) _)⟩

set_option maxHeartbeats 400000 in
theorem wlkOk_spec (c d i a n s l : Int) (w : World) :
    Calls Try.prog 10 #[.agg #[.int .i64 c, .int .i64 d], .agg #[.int .i64 i, .int .i64 a, .int .i64 n, .int .i64 s, .int .i64 l]] w fun e w' => e = .returned (.bool (wlkB c d i a n s l)) ∧ Below w.heap.size w w' := by
  cases h1 : inB i 1 9
  · go_enter Try.func10, Try.ntmps10
    go_wp2_with (first | (go_at_call 14; refine (in_spec _ _ _ _).mono ?_; rintro e w' ⟨rfl, rfl⟩) | (go_at_call 15; refine (cell_spec _ _ _ _).mono ?_; rintro e w' ⟨rfl, hb⟩; obtain ⟨hc, hf⟩ := bcell hb))
    go_ret
    exact ⟨by simp [wlkB, boundsB, *], by repeat (first | exact Below.refl _ _ | refine bthen ?_ (by assumption) | apply Below.drew | apply bdrewN | refine Below.alloc ?_ (by simp) _)⟩
  ·
    cases h0 : (cellF c d a != -1)
    · go_enter Try.func10, Try.ntmps10
      go_wp2_with (first | (go_at_call 14; refine (in_spec _ _ _ _).mono ?_; rintro e w' ⟨rfl, rfl⟩) | (go_at_call 15; refine (cell_spec _ _ _ _).mono ?_; rintro e w' ⟨rfl, hb⟩; obtain ⟨hc, hf⟩ := bcell hb))
      go_ret
      exact ⟨by simp [wlkB, boundsB, *], by repeat (first | exact Below.refl _ _ | refine bthen ?_ (by assumption) | apply Below.drew | apply bdrewN | refine Below.alloc ?_ (by simp) _)⟩
    ·
      cases h2 : inB n 0 99
      · go_enter Try.func10, Try.ntmps10
        go_wp2_with (first | (go_at_call 14; refine (in_spec _ _ _ _).mono ?_; rintro e w' ⟨rfl, rfl⟩) | (go_at_call 15; refine (cell_spec _ _ _ _).mono ?_; rintro e w' ⟨rfl, hb⟩; obtain ⟨hc, hf⟩ := bcell hb))
        go_ret
        exact ⟨by simp [wlkB, boundsB, *], by repeat (first | exact Below.refl _ _ | refine bthen ?_ (by assumption) | apply Below.drew | apply bdrewN | refine Below.alloc ?_ (by simp) _)⟩
      ·
        cases h3 : inB s 0 900
        · go_enter Try.func10, Try.ntmps10
          go_wp2_with (first | (go_at_call 14; refine (in_spec _ _ _ _).mono ?_; rintro e w' ⟨rfl, rfl⟩) | (go_at_call 15; refine (cell_spec _ _ _ _).mono ?_; rintro e w' ⟨rfl, hb⟩; obtain ⟨hc, hf⟩ := bcell hb))
          go_ret
          exact ⟨by simp [wlkB, boundsB, *], by repeat (first | exact Below.refl _ _ | refine bthen ?_ (by assumption) | apply Below.drew | apply bdrewN | refine Below.alloc ?_ (by simp) _)⟩
        · go_enter Try.func10, Try.ntmps10
          go_wp2_with (first | (go_at_call 14; refine (in_spec _ _ _ _).mono ?_; rintro e w' ⟨rfl, rfl⟩) | (go_at_call 15; refine (cell_spec _ _ _ _).mono ?_; rintro e w' ⟨rfl, hb⟩; obtain ⟨hc, hf⟩ := bcell hb))
          go_ret
          exact ⟨by simp [wlkB, boundsB, *], by repeat (first | exact Below.refl _ _ | refine bthen ?_ (by assumption) | apply Below.drew | apply bdrewN | refine Below.alloc ?_ (by simp) _)⟩

theorem keepS {W w1 w2 : World} {m : Nat} (h : (∀ b o, b < m → w1.cell? ⟨b, o, none⟩ = W.cell? ⟨b, o, none⟩) ∧ m ≤ w1.heap.size) (hb : Below w1.heap.size w1 w2) :
    (∀ b o, b < m → w2.cell? ⟨b, o, none⟩ = W.cell? ⟨b, o, none⟩) ∧ m ≤ w2.heap.size :=
  ⟨fun b o hlt => (hb.cell (p := ⟨b, o, none⟩) (Nat.lt_of_lt_of_le hlt h.2)).trans (h.1 b o hlt), Nat.le_trans h.2 hb.size⟩

end Go.Proofs.Ythoeecgcmoibdaa
