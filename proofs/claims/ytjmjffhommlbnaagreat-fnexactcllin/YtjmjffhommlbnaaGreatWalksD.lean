/- The walks of WlkOk and what it calls; conditions: none. -/
import Derived.Test.YtjmjffhommlbnaaGreatList
import Derived.Test.YtjmjffhommlbnaaGreatCell0
import Derived.Test.YtjmjffhommlbnaaGreatRows
import Derived.WalkKit
import Derived.WalkSpells
import Derived.Below
import Derived.Test.YtjmjffhommlbnaaGreatKit
import Derived.Test.YtjmjffhommlbnaaGreatWalks4
import Derived.Deep.RegionHeld3
import Derived.Deep.QuietTactic
import Derived.BigQuiet
namespace Go.Proofs.YtjmjffhommlbnaaGreat
open Go.RowKit Go.Deep
set_option linter.unusedVariables false

set_option maxHeartbeats 8000000 in
theorem eqList (b1 o1 cap1 b2 o2 cap2 n : Nat) (Z : Nat → Nat → Int) (hn : n ≤ 2000000) (w : World) (hb1 : b1 < w.heap.size) (hb2 : b2 < w.heap.size)
    (h1 : ∀ k j, k < n → j < 5 → w.cell? ⟨b1, o1 + k * 5 + j, none⟩ = some (.int .i64 (Z k j))) (h2 : ∀ k j, k < n → j < 5 → w.cell? ⟨b2, o2 + k * 5 + j, none⟩ = some (.int .i64 (Z k j))) :
    Calls Tryz.prog 30 #[.slice (some ⟨b1, o1, none⟩) n cap1, .slice (some ⟨b2, o2, none⟩) n cap2] w fun e w' => e = .returned (.bool true) ∧ Below w.heap.size w w' := by
  have H1 : Hid (∀ k j, k < n → j < 5 → w.cell? ⟨b1, o1 + k * 5 + j, none⟩ = some (.int .i64 (Z k j))) := h1
  have H2 : Hid (∀ k j, k < n → j < 5 → w.cell? ⟨b2, o2 + k * 5 + j, none⟩ = some (.int .i64 (Z k j))) := h2
  clear h1 h2
  go_enter Tryz.func30, Tryz.ntmps30
  go_wp2
  go_loopw [5] (fun i wr => ∃ k : Nat, k ≤ n ∧ i = .int .i64 k ∧ ((∀ b o, b < w.heap.size → wr.cell? ⟨b, o, none⟩ = w.cell? ⟨b, o, none⟩) ∧ w.heap.size ≤ wr.heap.size) ∧ Below w.heap.size w wr) (fun i _ => n - (intOf i).toNat)
  case atStart => exact ⟨0, Nat.zero_le _, rfl, ⟨fun _ _ _ => rfl, Nat.le_refl _⟩, Below.refl _ _⟩
  case round =>
    obtain ⟨k, hk, rfl, HS, BR⟩ := hrel
    by_cases hkn : k < n
    · have c10 : w.cell? ⟨b1, o1 + k * 5, none⟩ = some (.int .i64 (Z k 0)) := H1.out k 0 hkn (by omega)
      have c11 : w.cell? ⟨b1, o1 + k * 5 + 1, none⟩ = some (.int .i64 (Z k 1)) := H1.out k 1 hkn (by omega)
      have c12 : w.cell? ⟨b1, o1 + k * 5 + 2, none⟩ = some (.int .i64 (Z k 2)) := H1.out k 2 hkn (by omega)
      have c13 : w.cell? ⟨b1, o1 + k * 5 + 3, none⟩ = some (.int .i64 (Z k 3)) := H1.out k 3 hkn (by omega)
      have c14 : w.cell? ⟨b1, o1 + k * 5 + 4, none⟩ = some (.int .i64 (Z k 4)) := H1.out k 4 hkn (by omega)
      have c20 : w.cell? ⟨b2, o2 + k * 5, none⟩ = some (.int .i64 (Z k 0)) := H2.out k 0 hkn (by omega)
      have c21 : w.cell? ⟨b2, o2 + k * 5 + 1, none⟩ = some (.int .i64 (Z k 1)) := H2.out k 1 hkn (by omega)
      have c22 : w.cell? ⟨b2, o2 + k * 5 + 2, none⟩ = some (.int .i64 (Z k 2)) := H2.out k 2 hkn (by omega)
      have c23 : w.cell? ⟨b2, o2 + k * 5 + 3, none⟩ = some (.int .i64 (Z k 3)) := H2.out k 3 hkn (by omega)
      have c24 : w.cell? ⟨b2, o2 + k * 5 + 4, none⟩ = some (.int .i64 (Z k 4)) := H2.out k 4 hkn (by omega)
      go_wp2
      refine wp_region_held_drew (S := fun w' => (∀ b o, b < w.heap.size → w'.cell? ⟨b, o, none⟩ = w.cell? ⟨b, o, none⟩) ∧ w.heap.size ≤ w'.heap.size) (by kernel_rfl) HS ?_
      intro hHeld
      refine wpAnyH_take (i := 0) (v := .slice (some ⟨b1, o1, none⟩) n cap1) rfl (by kernel_rfl) (by kernel_rfl) (by kernel_rfl) (fun _ _ _ h => h) (Or.inl ⟨by rfl, ?_⟩) (by assumption) ?_
      · intro wx hSw; go_simp
      try simp only [Act.put, List.setIfInBounds_toArray, List.set_cons_zero, List.set_cons_succ, List.getElem_toArray, List.getElem_cons_zero]
      refine wpAnyH_take (i := 1) (v := .int .i64 (k : Int)) rfl (by kernel_rfl) (by kernel_rfl) (by kernel_rfl) (fun _ _ _ h => h) (Or.inl ⟨by rfl, ?_⟩) (by assumption) ?_
      · intro wx hSw; go_simp
      try simp only [Act.put, List.setIfInBounds_toArray, List.set_cons_zero, List.set_cons_succ, List.getElem_toArray, List.getElem_cons_zero, List.getElem_cons_succ]
      refine wpAnyH_take (i := 2) (v := .pointer (some ⟨b1, o1 + k * 5, none⟩)) rfl (by kernel_rfl) (by kernel_rfl) (by kernel_rfl) (fun _ _ _ h => h) (Or.inl ⟨by rfl, ?_⟩) (by assumption) ?_
      · intro wx hSw; go_simp
      try simp only [Act.put, List.setIfInBounds_toArray, List.set_cons_zero, List.set_cons_succ, List.getElem_toArray, List.getElem_cons_zero, List.getElem_cons_succ]
      refine wpAnyH_take (i := 3) (v := .agg #[.int .i64 (Z k 0), .int .i64 (Z k 1), .int .i64 (Z k 2), .int .i64 (Z k 3), .int .i64 (Z k 4)]) rfl (by kernel_rfl) (by kernel_rfl) (by kernel_rfl) (fun _ _ _ h => h) (Or.inl ⟨by rfl, ?_⟩) (by assumption) ?_
      · intro wx hSw; go_simp
      try simp only [Act.put, List.setIfInBounds_toArray, List.set_cons_zero, List.set_cons_succ, List.getElem_toArray, List.getElem_cons_zero, List.getElem_cons_succ]
      refine wpAnyH_take (i := 4) (v := .slice (some ⟨b2, o2, none⟩) n cap2) rfl (by kernel_rfl) (by kernel_rfl) (by kernel_rfl) (fun _ _ _ h => h) (Or.inl ⟨by rfl, ?_⟩) (by assumption) ?_
      · intro wx hSw; go_simp
      try simp only [Act.put, List.setIfInBounds_toArray, List.set_cons_zero, List.set_cons_succ, List.getElem_toArray, List.getElem_cons_zero, List.getElem_cons_succ]
      refine wpAnyH_take (i := 5) (v := .int .i64 (k : Int)) rfl (by kernel_rfl) (by kernel_rfl) (by kernel_rfl) (fun _ _ _ h => h) (Or.inl ⟨by rfl, ?_⟩) (by assumption) ?_
      · intro wx hSw; go_simp
      try simp only [Act.put, List.setIfInBounds_toArray, List.set_cons_zero, List.set_cons_succ, List.getElem_toArray, List.getElem_cons_zero, List.getElem_cons_succ]
      refine wpAnyH_take (i := 6) (v := .pointer (some ⟨b2, o2 + k * 5, none⟩)) rfl (by kernel_rfl) (by kernel_rfl) (by kernel_rfl) (fun _ _ _ h => h) (Or.inl ⟨by rfl, ?_⟩) (by assumption) ?_
      · intro wx hSw; go_simp
      try simp only [Act.put, List.setIfInBounds_toArray, List.set_cons_zero, List.set_cons_succ, List.getElem_toArray, List.getElem_cons_zero, List.getElem_cons_succ]
      refine wpAnyH_take (i := 7) (v := .agg #[.int .i64 (Z k 0), .int .i64 (Z k 1), .int .i64 (Z k 2), .int .i64 (Z k 3), .int .i64 (Z k 4)]) rfl (by kernel_rfl) (by kernel_rfl) (by kernel_rfl) (fun _ _ _ h => h) (Or.inl ⟨by rfl, ?_⟩) (by assumption) ?_
      · intro wx hSw; go_simp
      try simp only [Act.put, List.setIfInBounds_toArray, List.set_cons_zero, List.set_cons_succ, List.getElem_toArray, List.getElem_cons_zero, List.getElem_cons_succ]
      refine wpAnyH_ready (rs := [8]) (by kernel_rfl) (by simp) ?_
      refine AllReadyH.cons rfl (fun K hK => ?_) AllReadyH.nil
      go_simp
      go_wp2_with (go_at_call 59; refine (eqWalker _ _ _ _ _ _).mono ?_; rintro e w2 ⟨rfl, hbw2⟩)
      refine hK.out _ _ (keepS (by assumption) hbw2) (fun hHeld => ?_)
      clear hK K
      try simp only [Act.put, List.setIfInBounds_toArray, List.set_cons_zero, List.set_cons_succ, List.getElem_toArray, List.getElem_cons_zero, List.getElem_cons_succ]
      refine wpAnyH_take (i := 9) (v := .bool false) rfl (by kernel_rfl) (by kernel_rfl) (by kernel_rfl) (fun _ _ _ h => h) (Or.inl ⟨by rfl, ?_⟩) (by assumption) ?_
      · intro wx hSw; go_simp
      try simp only [Act.put, List.setIfInBounds_toArray, List.set_cons_zero, List.set_cons_succ, List.getElem_toArray, List.getElem_cons_zero, List.getElem_cons_succ]
      refine wpAnyH_done (by kernel_rfl) ?_ _
      go_wp2
      go_roundw
      case rel => exact ⟨k + 1, by omega, by go_num, by assumption, by repeat (first | exact BR | refine bthen ?_ (by assumption) | apply Below.drew)⟩
      case measure => simp [intOf]; omega
    · have : k = n := by omega
      subst this
      go_wp2
      go_ret
      exact ⟨rfl, by repeat (first | exact BR | refine bthen ?_ (by assumption) | apply Below.drew)⟩

theorem own_row {w : World} {B n : Nat} {Z : Nat → Nat → Int} (h : Own5 w B n Z n) : ∀ k j, k < n → j < 5 → w.cell? ⟨B, 0 + k * 5 + j, none⟩ = some (.int .i64 (Z k j)) := fun k j hk hj => by
  rw [Nat.zero_add]; exact h.2 k j hk hj

theorem toList_any (a : Option Addr) (n cap : Nat) (Z : Nat → Nat → Int) (hn : n ≤ 1048576) (w : World) (h : Row5 w a n Z) :
    Calls Tryz.prog 20 #[.slice a n cap] w fun e w' => e = .returned (.slice (some ⟨w.heap.size, 0, none⟩) n n) ∧ (∀ k j, k < n → j < 5 → w'.cell? ⟨w.heap.size, 0 + k * 5 + j, none⟩ = some (.int .i64 (Z k j))) ∧ w.heap.size < w'.heap.size ∧ Below w.heap.size w w' := by
  rcases h with rfl | ⟨b, o, rfl, hb, hr⟩
  · refine (toList0 a cap Z w).mono ?_
    rintro e w' ⟨he, ho, hs, hb⟩
    exact ⟨he, own_row ho, hs, hb⟩
  · refine (toList b o n cap Z hn w hb hr).mono ?_
    rintro e w' ⟨he, ho, hs, hb⟩
    exact ⟨he, own_row ho, hs, hb⟩

theorem row_below {w w' : World} {B : Nat} {a : Option Addr} {n : Nat} {Z : Nat → Nat → Int} (h : Row5 w a n Z) (hb : Below w.heap.size w w') : Row5 w' a n Z := by
  rcases h with rfl | ⟨b, o, rfl, hlt, hr⟩
  · exact .inl rfl
  · exact .inr ⟨b, o, rfl, Nat.lt_of_lt_of_le hlt hb.size, fun k j hk hj => (hb.cell (p := ⟨b, _, none⟩) hlt).trans (hr k j hk hj)⟩

theorem cells_below {w w' : World} {b o n : Nat} {Z : Nat → Nat → Int} (h : ∀ k j, k < n → j < 5 → w.cell? ⟨b, o + k * 5 + j, none⟩ = some (.int .i64 (Z k j))) (hlt : b < w.heap.size) (hb : Below w.heap.size w w') :
    ∀ k j, k < n → j < 5 → w'.cell? ⟨b, o + k * 5 + j, none⟩ = some (.int .i64 (Z k j)) := fun k j hk hj => (hb.cell (p := ⟨b, _, none⟩) hlt).trans (h k j hk hj)

end Go.Proofs.YtjmjffhommlbnaaGreat
namespace Go.Proofs.YtjmjffhommlbnaaGreat
open Go.RowKit
set_option linter.unusedVariables false

def inB (n lo hi : Int) : Bool := decide (lo ≤ n ∧ n ≤ hi)
def okB (c d : Int) : Bool := inB c 2 4 && inB d 2 8

theorem in_spec (n lo hi : Int) (w : World) :
    Calls Tryz.prog 41 #[.int .i64 n, .int .i64 lo, .int .i64 hi] w fun e w' => e = .returned (.bool (inB n lo hi)) ∧ w' = w := by
  go_enter Tryz.func41, Tryz.ntmps41
  go_wp2
  all_goals (go_ret; exact ⟨by simp [inB, *] <;> omega, rfl⟩)

theorem in_impl (n lo hi : Int) (w : World) :
    Calls Tryz.prog 52 #[.int .i64 n, .int .i64 lo, .int .i64 hi] w fun e w' => e = .returned (.bool (inB n lo hi)) ∧ w' = w := by
  go_enter Tryz.func52, Tryz.ntmps52
  go_wp2
  all_goals (go_ret; exact ⟨by simp [inB, *] <;> omega, rfl⟩)

theorem ok_spec (c d : Int) (w : World) :
    Calls Tryz.prog 40 #[.agg #[.int .i64 c, .int .i64 d]] w fun e w' => e = .returned (.bool (okB c d)) ∧ Below w.heap.size w w' := by
  cases h : inB c 2 4
  all_goals
    go_enter Tryz.func40, Tryz.ntmps40
    go_wp2_with (go_at_call 41; refine (in_spec _ _ _ _).mono ?_; rintro e w' ⟨rfl, rfl⟩)
    go_ret
    exact ⟨by simp [okB, h], (Below.refl _ _).alloc (by simp) _⟩

theorem ok_impl (c d : Int) (w : World) :
    Calls Tryz.prog 66 #[.agg #[.int .i64 c, .int .i64 d]] w fun e w' => e = .returned (.bool (okB c d)) ∧ Below w.heap.size w w' := by
  cases h : inB c 2 4
  all_goals
    go_enter Tryz.func66, Tryz.ntmps66
    go_wp2_with (go_at_call 52; refine (in_impl _ _ _ _).mono ?_; rintro e w' ⟨rfl, rfl⟩)
    go_ret
    exact ⟨by simp [okB, h], (Below.refl _ _).alloc (by simp) _⟩

end Go.Proofs.YtjmjffhommlbnaaGreat
namespace Go.Proofs.YtjmjffhommlbnaaGreat
open Go.RowKit
set_option linter.unusedVariables false

def cellF (c d a : Int) : Int := if okB c d = true ∧ inB a 0 (c * d - 1) = true then a / d else -1

theorem inB_true {n lo hi : Int} : inB n lo hi = true ↔ lo ≤ n ∧ n ≤ hi := by simp [inB]
theorem inB_false {n lo hi : Int} : inB n lo hi = false ↔ (n < lo ∨ hi < n) := by simp [inB]; omega
theorem okB_bounds {c d : Int} (h : okB c d = true) : 2 ≤ c ∧ c ≤ 4 ∧ 2 ≤ d ∧ d ≤ 8 := by
  simp only [okB, Bool.and_eq_true, inB_true] at h; omega
theorem mul_bounds {c d : Int} (h : okB c d = true) : 4 ≤ c * d ∧ c * d ≤ 32 := by
  obtain ⟨a, b, e, f⟩ := okB_bounds h
  have : c = 2 ∨ c = 3 ∨ c = 4 := by omega
  rcases this with rfl | rfl | rfl <;> omega

theorem cell_spec (c d a : Int) (w : World) :
    Calls Tryz.prog 43 #[.agg #[.int .i64 c, .int .i64 d], .int .i64 a] w fun e w' => e = .returned (.int .i64 (cellF c d a)) ∧ Below w.heap.size w w' := by
  cases h : okB c d
  · go_enter Tryz.func43, Tryz.ntmps43
    go_wp2_with fail
    refine (ok_spec _ _ _).mono ?_
    rintro e w1 ⟨rfl, hb1⟩
    go_wp2
    go_ret
    exact ⟨by simp [cellF, h], bthen ((Below.refl _ _).alloc (by simp) _) hb1⟩
  · obtain ⟨a1, a2, a3, a4⟩ := okB_bounds h
    obtain ⟨m1, m2⟩ := mul_bounds h
    cases hin : inB a 0 (c * d - 1)
    · go_enter Tryz.func43, Tryz.ntmps43
      go_wp2_with fail
      refine (ok_spec _ _ _).mono ?_
      rintro e w1 ⟨rfl, hb1⟩
      obtain ⟨hc1, hf1⟩ := bcell hb1
      go_wp2_with (go_at_call 41; refine (in_spec _ _ _ _).mono ?_; rintro e w' ⟨rfl, rfl⟩)
      go_ret
      exact ⟨by simp [cellF, h, hin], bthen ((Below.refl _ _).alloc (by simp) _) hb1⟩
    · obtain ⟨i1, i2⟩ := inB_true.1 hin
      go_enter Tryz.func43, Tryz.ntmps43
      go_wp2_with fail
      refine (ok_spec _ _ _).mono ?_
      rintro e w1 ⟨rfl, hb1⟩
      obtain ⟨hc1, hf1⟩ := bcell hb1
      go_wp2_with (go_at_call 41; refine (in_spec _ _ _ _).mono ?_; rintro e w' ⟨rfl, rfl⟩)
      go_ret
      exact ⟨by simp [cellF, h, hin], bthen ((Below.refl _ _).alloc (by simp) _) hb1⟩

theorem cell_impl (c d a : Int) (w : World) :
    Calls Tryz.prog 77 #[.int .i64 a, .agg #[.int .i64 c, .int .i64 d]] w fun e w' => e = .returned (.int .i64 (cellF c d a)) ∧ Below w.heap.size w w' := by
  cases h : okB c d
  · go_enter Tryz.func77, Tryz.ntmps77
    go_wp2_with fail
    refine (ok_impl _ _ _).mono ?_
    rintro e w1 ⟨rfl, hb1⟩
    go_wp2
    go_ret
    exact ⟨by simp [cellF, h], bthen ((Below.refl _ _).alloc (by simp) _) hb1⟩
  · obtain ⟨a1, a2, a3, a4⟩ := okB_bounds h
    obtain ⟨m1, m2⟩ := mul_bounds h
    cases hin : inB a 0 (c * d - 1)
    · go_enter Tryz.func77, Tryz.ntmps77
      go_wp2_with fail
      refine (ok_impl _ _ _).mono ?_
      rintro e w1 ⟨rfl, hb1⟩
      obtain ⟨hc1, hf1⟩ := bcell hb1
      go_wp2_with (go_at_call 52; refine (in_impl _ _ _ _).mono ?_; rintro e w' ⟨rfl, rfl⟩)
      go_ret
      exact ⟨by simp [cellF, h, hin], bthen ((Below.refl _ _).alloc (by simp) _) hb1⟩
    · obtain ⟨i1, i2⟩ := inB_true.1 hin
      go_enter Tryz.func77, Tryz.ntmps77
      go_wp2_with fail
      refine (ok_impl _ _ _).mono ?_
      rintro e w1 ⟨rfl, hb1⟩
      obtain ⟨hc1, hf1⟩ := bcell hb1
      go_wp2_with (go_at_call 52; refine (in_impl _ _ _ _).mono ?_; rintro e w' ⟨rfl, rfl⟩)
      go_ret
      exact ⟨by simp [cellF, h, hin], bthen ((Below.refl _ _).alloc (by simp) _) hb1⟩

theorem plcCell_impl (c d a : Int) (w : World) :
    Calls Tryz.prog 67 #[.agg #[.int .i64 c, .int .i64 d], .int .i64 a] w fun e w' => e = .returned (.int .i64 (cellF c d a)) ∧ Below w.heap.size w w' := by
  go_enter Tryz.func67, Tryz.ntmps67
  go_wp2_with fail
  refine (cell_impl _ _ _ _).mono ?_
  rintro e w1 ⟨rfl, hb1⟩
  go_wp2
  go_ret
  exact ⟨rfl, bthen ((Below.refl _ _).alloc (by simp) _) hb1⟩

end Go.Proofs.YtjmjffhommlbnaaGreat
namespace Go.Proofs.YtjmjffhommlbnaaGreat
open Go.RowKit
set_option linter.unusedVariables false

def boundsB (i n s l : Int) : Bool := inB i 1 9 && (inB n 0 99 && (inB s 0 900 && inB l 0 9))
def wlkB (c d i a n s l : Int) : Bool := boundsB i n s l && (cellF c d a != -1)

theorem bounds_impl (i a n s l : Int) (w : World) :
    Calls Tryz.prog 82 #[.agg #[.int .i64 i, .int .i64 a, .int .i64 n, .int .i64 s, .int .i64 l]] w fun e w' => e = .returned (.bool (boundsB i n s l)) ∧ Below w.heap.size w w' := by
  cases h1 : inB i 1 9
  · go_enter Tryz.func82, Tryz.ntmps82
    go_wp2_with (go_at_call 52; refine (in_impl _ _ _ _).mono ?_; rintro e w' ⟨rfl, rfl⟩)
    go_ret
    exact ⟨by simp [boundsB, *], by repeat (first | exact Below.refl _ _ | refine bthen ?_ (by assumption) | apply Below.drew | apply bdrewN | refine Below.alloc ?_ (by simp) _)⟩
  ·
    cases h2 : inB n 0 99
    · go_enter Tryz.func82, Tryz.ntmps82
      go_wp2_with (go_at_call 52; refine (in_impl _ _ _ _).mono ?_; rintro e w' ⟨rfl, rfl⟩)
      go_ret
      exact ⟨by simp [boundsB, *], by repeat (first | exact Below.refl _ _ | refine bthen ?_ (by assumption) | apply Below.drew | apply bdrewN | refine Below.alloc ?_ (by simp) _)⟩
    ·
      cases h3 : inB s 0 900
      · go_enter Tryz.func82, Tryz.ntmps82
        go_wp2_with (go_at_call 52; refine (in_impl _ _ _ _).mono ?_; rintro e w' ⟨rfl, rfl⟩)
        go_ret
        exact ⟨by simp [boundsB, *], by repeat (first | exact Below.refl _ _ | refine bthen ?_ (by assumption) | apply Below.drew | apply bdrewN | refine Below.alloc ?_ (by simp) _)⟩
      · go_enter Tryz.func82, Tryz.ntmps82
        go_wp2_with (go_at_call 52; refine (in_impl _ _ _ _).mono ?_; rintro e w' ⟨rfl, rfl⟩)
        go_ret
        exact ⟨by simp [boundsB, *], by repeat (first | exact Below.refl _ _ | refine bthen ?_ (by assumption) | apply Below.drew | apply bdrewN | refine Below.alloc ?_ (by simp) _)⟩

theorem wlkOk_impl (c d i a n s l : Int) (w : World) :
    Calls Tryz.prog 78 #[.agg #[.int .i64 c, .int .i64 d], .agg #[.int .i64 i, .int .i64 a, .int .i64 n, .int .i64 s, .int .i64 l]] w fun e w' => e = .returned (.bool (wlkB c d i a n s l)) ∧ Below w.heap.size w w' := by
  cases h1 : boundsB i n s l
  · go_enter Tryz.func78, Tryz.ntmps78
    go_wp2_with (first | (go_at_call 82; refine (bounds_impl _ _ _ _ _ _).mono ?_; rintro e w' ⟨rfl, hb⟩; obtain ⟨hc, hf⟩ := bcell hb) | (go_at_call 67; refine (plcCell_impl _ _ _ _).mono ?_; rintro e w' ⟨rfl, hb⟩; obtain ⟨hc, hf⟩ := bcell hb))
    go_ret
    exact ⟨by simp [wlkB, *], by repeat (first | exact Below.refl _ _ | refine bthen ?_ (by assumption) | apply Below.drew | apply bdrewN | refine Below.alloc ?_ (by simp) _)⟩
  · go_enter Tryz.func78, Tryz.ntmps78
    go_wp2_with (first | (go_at_call 82; refine (bounds_impl _ _ _ _ _ _).mono ?_; rintro e w' ⟨rfl, hb⟩; obtain ⟨hc, hf⟩ := bcell hb) | (go_at_call 67; refine (plcCell_impl _ _ _ _).mono ?_; rintro e w' ⟨rfl, hb⟩; obtain ⟨hc, hf⟩ := bcell hb))
    go_ret
    exact ⟨by simp [wlkB, *], by repeat (first | exact Below.refl _ _ | refine bthen ?_ (by assumption) | apply Below.drew | apply bdrewN | refine Below.alloc ?_ (by simp) _)⟩

set_option maxHeartbeats 400000 in
theorem wlkOk_spec (c d i a n s l : Int) (w : World) :
    Calls Tryz.prog 45 #[.agg #[.int .i64 c, .int .i64 d], .agg #[.int .i64 i, .int .i64 a, .int .i64 n, .int .i64 s, .int .i64 l]] w fun e w' => e = .returned (.bool (wlkB c d i a n s l)) ∧ Below w.heap.size w w' := by
  cases h1 : inB i 1 9
  · go_enter Tryz.func45, Tryz.ntmps45
    go_wp2_with (first | (go_at_call 41; refine (in_spec _ _ _ _).mono ?_; rintro e w' ⟨rfl, rfl⟩) | (go_at_call 43; refine (cell_spec _ _ _ _).mono ?_; rintro e w' ⟨rfl, hb⟩; obtain ⟨hc, hf⟩ := bcell hb))
    go_ret
    exact ⟨by simp [wlkB, boundsB, *], by repeat (first | exact Below.refl _ _ | refine bthen ?_ (by assumption) | apply Below.drew | apply bdrewN | refine Below.alloc ?_ (by simp) _)⟩
  ·
    cases h0 : (cellF c d a != -1)
    · go_enter Tryz.func45, Tryz.ntmps45
      go_wp2_with (first | (go_at_call 41; refine (in_spec _ _ _ _).mono ?_; rintro e w' ⟨rfl, rfl⟩) | (go_at_call 43; refine (cell_spec _ _ _ _).mono ?_; rintro e w' ⟨rfl, hb⟩; obtain ⟨hc, hf⟩ := bcell hb))
      go_ret
      exact ⟨by simp [wlkB, boundsB, *], by repeat (first | exact Below.refl _ _ | refine bthen ?_ (by assumption) | apply Below.drew | apply bdrewN | refine Below.alloc ?_ (by simp) _)⟩
    ·
      cases h2 : inB n 0 99
      · go_enter Tryz.func45, Tryz.ntmps45
        go_wp2_with (first | (go_at_call 41; refine (in_spec _ _ _ _).mono ?_; rintro e w' ⟨rfl, rfl⟩) | (go_at_call 43; refine (cell_spec _ _ _ _).mono ?_; rintro e w' ⟨rfl, hb⟩; obtain ⟨hc, hf⟩ := bcell hb))
        go_ret
        exact ⟨by simp [wlkB, boundsB, *], by repeat (first | exact Below.refl _ _ | refine bthen ?_ (by assumption) | apply Below.drew | apply bdrewN | refine Below.alloc ?_ (by simp) _)⟩
      ·
        cases h3 : inB s 0 900
        · go_enter Tryz.func45, Tryz.ntmps45
          go_wp2_with (first | (go_at_call 41; refine (in_spec _ _ _ _).mono ?_; rintro e w' ⟨rfl, rfl⟩) | (go_at_call 43; refine (cell_spec _ _ _ _).mono ?_; rintro e w' ⟨rfl, hb⟩; obtain ⟨hc, hf⟩ := bcell hb))
          go_ret
          exact ⟨by simp [wlkB, boundsB, *], by repeat (first | exact Below.refl _ _ | refine bthen ?_ (by assumption) | apply Below.drew | apply bdrewN | refine Below.alloc ?_ (by simp) _)⟩
        · go_enter Tryz.func45, Tryz.ntmps45
          go_wp2_with (first | (go_at_call 41; refine (in_spec _ _ _ _).mono ?_; rintro e w' ⟨rfl, rfl⟩) | (go_at_call 43; refine (cell_spec _ _ _ _).mono ?_; rintro e w' ⟨rfl, hb⟩; obtain ⟨hc, hf⟩ := bcell hb))
          go_ret
          exact ⟨by simp [wlkB, boundsB, *], by repeat (first | exact Below.refl _ _ | refine bthen ?_ (by assumption) | apply Below.drew | apply bdrewN | refine Below.alloc ?_ (by simp) _)⟩

end Go.Proofs.YtjmjffhommlbnaaGreat
