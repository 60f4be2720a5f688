/- The walks of CllOk's parts, the program's: the walkers; conditions: the walkers lie in memory. -/
import Derived.Test.YtjmjffhommlbnaaGreatCTo
import Derived.Test.YtjmjffhommlbnaaGreatListOk2
import Derived.Test.YtjmjffhommlbnaaGreatWalksS
namespace Go.Proofs.YtjmjffhommlbnaaGreat
open Go.RowKit Go.Deep
set_option linter.unusedVariables false

/-- All of the first k. -/
def allK (p : Nat → Bool) : Nat → Bool
  | 0 => true
  | k + 1 => allK p k && p k
theorem allK_step {p : Nat → Bool} {k : Nat} (h : allK p k = true) (g : p k = true) : allK p (k + 1) = true := by simp [allK, h, g]
theorem allK_down {p : Nat → Bool} {k : Nat} : ∀ n, k ≤ n → allK p n = true → allK p k = true
  | 0, h, e => by have : k = 0 := by omega
                  subst this; exact e
  | n + 1, h, e => by
    by_cases hk : k = n + 1
    · subst hk; exact e
    · simp only [allK, Bool.and_eq_true] at e
      exact allK_down n (by omega) e.1
theorem allK_stop {p : Nat → Bool} {k n : Nat} (hk : k < n) (g : p k = false) : allK p n = false := by
  match e : allK p n with
  | false => rfl
  | true =>
    have := allK_down n (show k + 1 ≤ n by omega) e
    simp [allK, g] at this

set_option maxHeartbeats 8000000 in
theorem walkersOk_impl (c d VC VG : Int) (b o n cap : Nat) (W : Nat → Nat → Int) (x3 x4 x5 : Value) (hn : n ≤ 1048576) (w : World) (hb : b < w.heap.size)
    (hr : ∀ k j, k < n → j < 5 → w.cell? ⟨b, o + k * 5 + j, none⟩ = some (.int .i64 (W k j))) :
    Calls Tryz.prog 51 #[.agg #[.int .i64 VC, .slice (some ⟨b, o, none⟩) n cap, .int .i64 VG, x3, x4, x5], .agg #[.int .i64 c, .int .i64 d]] w fun e w' => e = .returned (.bool (allK (fun k => !(cellF c d (W k 1) != VC)) n && allB c d W n)) ∧ Below w.heap.size w w' := by
  have HR : Hid (∀ k j, k < n → j < 5 → w.cell? ⟨b, o + k * 5 + j, none⟩ = some (.int .i64 (W k j))) := hr
  clear hr
  go_enter Tryz.func51, Tryz.ntmps51
  go_wp2
  go_loopw [10] (fun i wr => ∃ k : Nat, k ≤ n ∧ i = .int .i64 k ∧ allK (fun k => !(cellF c d (W k 1) != VC)) k = true ∧ ((∀ g i, g < w.heap.size + 1 + 1 → wr.cell? ⟨g, i, none⟩ = ((w.alloc (.cells #[.int .i64 VC, .slice (some ⟨b, o, none⟩) n cap, .int .i64 VG, x3, x4, x5] 37)).alloc (.cells #[.int .i64 c, .int .i64 d] 40)).cell? ⟨g, i, none⟩) ∧ w.heap.size + 1 + 1 ≤ wr.heap.size) ∧ Below w.heap.size w wr) (fun i _ => n - (intOf i).toNat)
  case atStart => exact ⟨0, Nat.zero_le _, rfl, rfl, ⟨fun _ _ _ => rfl, by simp⟩, ((Below.refl _ _).alloc (by simp) _).alloc (by simp) _⟩
  case round =>
    obtain ⟨k, hk, rfl, hall, HS, BR⟩ := hrel
    have HALL : Hid (allK (fun k => !(cellF c d (W k 1) != VC)) k = true) := hall
    clear hall
    have hmw : w.heap.size + 1 < wr.heap.size := HS.2
    have hmw0 : w.heap.size < wr.heap.size := by omega
    have m0 : wr.cell? ⟨w.heap.size + 1, 0, none⟩ = some (.int .i64 c) := (HS.1 (w.heap.size + 1) 0 (by omega)).trans (by simp)
    have m1 : wr.cell? ⟨w.heap.size + 1, 1, none⟩ = some (.int .i64 d) := (HS.1 (w.heap.size + 1) 1 (by omega)).trans (by simp)
    have v0 : wr.cell? ⟨w.heap.size, 0, none⟩ = some (.int .i64 VC) := (HS.1 w.heap.size 0 (by omega)).trans (by simp)
    have v1 : wr.cell? ⟨w.heap.size, 1, none⟩ = some (.slice (some ⟨b, o, none⟩) n cap) := (HS.1 w.heap.size 1 (by omega)).trans (by simp)
    have HSH : Hid ((∀ g i, g < w.heap.size + 1 + 1 → wr.cell? ⟨g, i, none⟩ = ((w.alloc (.cells #[.int .i64 VC, .slice (some ⟨b, o, none⟩) n cap, .int .i64 VG, x3, x4, x5] 37)).alloc (.cells #[.int .i64 c, .int .i64 d] 40)).cell? ⟨g, i, none⟩) ∧ w.heap.size + 1 + 1 ≤ wr.heap.size) := HS
    clear HS
    by_cases hkn : k < n
    · have hkn' : (k : Int) < n := by omega
      have hbwr : b < wr.heap.size := by omega
      have c0 : wr.cell? ⟨b, o + k * 5, none⟩ = some (.int .i64 (W k 0)) := (BR.cell (p := ⟨b, _, none⟩) hb).trans (HR.out k 0 hkn (by omega))
      have c1 : wr.cell? ⟨b, o + k * 5 + 1, none⟩ = some (.int .i64 (W k 1)) := (BR.cell (p := ⟨b, _, none⟩) hb).trans (HR.out k 1 hkn (by omega))
      have c2 : wr.cell? ⟨b, o + k * 5 + 2, none⟩ = some (.int .i64 (W k 2)) := (BR.cell (p := ⟨b, _, none⟩) hb).trans (HR.out k 2 hkn (by omega))
      have c3 : wr.cell? ⟨b, o + k * 5 + 3, none⟩ = some (.int .i64 (W k 3)) := (BR.cell (p := ⟨b, _, none⟩) hb).trans (HR.out k 3 hkn (by omega))
      have c4 : wr.cell? ⟨b, o + k * 5 + 4, none⟩ = some (.int .i64 (W k 4)) := (BR.cell (p := ⟨b, _, none⟩) hb).trans (HR.out k 4 hkn (by omega))
      have BR1 : Below w.heap.size w (wr.alloc (.cells #[.int .i64 (W k 0), .int .i64 (W k 1), .int .i64 (W k 2), .int .i64 (W k 3), .int .i64 (W k 4)] 43)) := BR.alloc (by omega) _
      clear BR
      cases hp : (cellF c d (W k 1) != VC)
      · go_wp2
        refine wp_region_held_drew (S := fun w' => (∀ b o, b < wr.heap.size + 1 → w'.cell? ⟨b, o, none⟩ = (wr.alloc (.cells #[.int .i64 (W k 0), .int .i64 (W k 1), .int .i64 (W k 2), .int .i64 (W k 3), .int .i64 (W k 4)] 43)).cell? ⟨b, o, none⟩) ∧ wr.heap.size + 1 ≤ w'.heap.size) (by kernel_rfl) ⟨fun _ _ _ => rfl, by simp⟩ ?_
        intro hHeld
        refine wpAnyH_take (i := 0) (v := .agg #[.int .i64 c, .int .i64 d]) rfl (by kernel_rfl) (by kernel_rfl) (by kernel_rfl) (fun _ _ _ h => h) (Or.inl ⟨by rfl, ?_⟩) (by assumption) ?_
        · intro wx hSw; go_simp
        try simp only [Act.put, List.setIfInBounds_toArray, List.set_cons_zero, List.set_cons_succ, List.getElem_toArray, List.getElem_cons_zero]
        refine wpAnyH_take (i := 1) (v := .pointer (some ⟨wr.heap.size, 1, none⟩)) rfl (by kernel_rfl) (by kernel_rfl) (by kernel_rfl) (fun _ _ _ h => h) (Or.inl ⟨by rfl, ?_⟩) (by assumption) ?_
        · intro wx hSw; go_simp
        try simp only [Act.put, List.setIfInBounds_toArray, List.set_cons_zero, List.set_cons_succ, List.getElem_toArray, List.getElem_cons_zero, List.getElem_cons_succ]
        refine wpAnyH_take (i := 2) (v := .int .i64 (W k 1)) rfl (by kernel_rfl) (by kernel_rfl) (by kernel_rfl) (fun _ _ _ h => h) (Or.inl ⟨by rfl, ?_⟩) (by assumption) ?_
        · intro wx hSw; go_simp
        try simp only [Act.put, List.setIfInBounds_toArray, List.set_cons_zero, List.set_cons_succ, List.getElem_toArray, List.getElem_cons_zero, List.getElem_cons_succ]
        refine wpAnyH_take (i := 4) (v := .pointer (some ⟨w.heap.size, 0, none⟩)) rfl (by kernel_rfl) (by kernel_rfl) (by kernel_rfl) (fun _ _ _ h => h) (Or.inl ⟨by rfl, ?_⟩) (by assumption) ?_
        · intro wx hSw; go_simp
        try simp only [Act.put, List.setIfInBounds_toArray, List.set_cons_zero, List.set_cons_succ, List.getElem_toArray, List.getElem_cons_zero, List.getElem_cons_succ]
        refine wpAnyH_take (i := 5) (v := .int .i64 VC) rfl (by kernel_rfl) (by kernel_rfl) (by kernel_rfl) (fun _ _ _ h => h) (Or.inl ⟨by rfl, ?_⟩) (by assumption) ?_
        · intro wx hSw; go_simp
        try simp only [Act.put, List.setIfInBounds_toArray, List.set_cons_zero, List.set_cons_succ, List.getElem_toArray, List.getElem_cons_zero, List.getElem_cons_succ]
        refine wpAnyH_ready (rs := [3]) (by kernel_rfl) (by simp) ?_
        refine AllReadyH.cons rfl (fun K hK => ?_) AllReadyH.nil
        go_simp
        go_wp2_with (go_at_call 67; refine (plcCell_impl _ _ _ _).mono ?_; rintro e w2 ⟨rfl, hbw2⟩)
        refine hK.out _ _ (keepS (by assumption) hbw2) (fun hHeld => ?_)
        clear hK K
        try simp only [Act.put, List.setIfInBounds_toArray, List.set_cons_zero, List.set_cons_succ, List.getElem_toArray, List.getElem_cons_zero, List.getElem_cons_succ]
        refine wpAnyH_take (i := 6) (v := .bool false) rfl (by kernel_rfl) (by kernel_rfl) (by kernel_rfl) (fun _ _ _ h => h) (Or.inl ⟨by rfl, ?_⟩) (by assumption) ?_
        · intro wx hSw; go_simp
        try simp only [Act.put, List.setIfInBounds_toArray, List.set_cons_zero, List.set_cons_succ, List.getElem_toArray, List.getElem_cons_zero, List.getElem_cons_succ]
        refine wpAnyH_done (by kernel_rfl) ?_ _
        go_wp2
        go_roundw
        case rel => exact ⟨k + 1, by omega, by go_num, allK_step HALL.out (by simp [hp]), keep_down HSH.out (by assumption), by repeat (first | exact BR1 | refine bthen ?_ (by assumption) | apply Below.drew)⟩
        case measure => simp [intOf]; omega
      · go_wp2
        refine wp_region_held_drew (S := fun w' => (∀ b o, b < wr.heap.size + 1 → w'.cell? ⟨b, o, none⟩ = (wr.alloc (.cells #[.int .i64 (W k 0), .int .i64 (W k 1), .int .i64 (W k 2), .int .i64 (W k 3), .int .i64 (W k 4)] 43)).cell? ⟨b, o, none⟩) ∧ wr.heap.size + 1 ≤ w'.heap.size) (by kernel_rfl) ⟨fun _ _ _ => rfl, by simp⟩ ?_
        intro hHeld
        refine wpAnyH_take (i := 0) (v := .agg #[.int .i64 c, .int .i64 d]) rfl (by kernel_rfl) (by kernel_rfl) (by kernel_rfl) (fun _ _ _ h => h) (Or.inl ⟨by rfl, ?_⟩) (by assumption) ?_
        · intro wx hSw; go_simp
        try simp only [Act.put, List.setIfInBounds_toArray, List.set_cons_zero, List.set_cons_succ, List.getElem_toArray, List.getElem_cons_zero]
        refine wpAnyH_take (i := 1) (v := .pointer (some ⟨wr.heap.size, 1, none⟩)) rfl (by kernel_rfl) (by kernel_rfl) (by kernel_rfl) (fun _ _ _ h => h) (Or.inl ⟨by rfl, ?_⟩) (by assumption) ?_
        · intro wx hSw; go_simp
        try simp only [Act.put, List.setIfInBounds_toArray, List.set_cons_zero, List.set_cons_succ, List.getElem_toArray, List.getElem_cons_zero, List.getElem_cons_succ]
        refine wpAnyH_take (i := 2) (v := .int .i64 (W k 1)) rfl (by kernel_rfl) (by kernel_rfl) (by kernel_rfl) (fun _ _ _ h => h) (Or.inl ⟨by rfl, ?_⟩) (by assumption) ?_
        · intro wx hSw; go_simp
        try simp only [Act.put, List.setIfInBounds_toArray, List.set_cons_zero, List.set_cons_succ, List.getElem_toArray, List.getElem_cons_zero, List.getElem_cons_succ]
        refine wpAnyH_take (i := 4) (v := .pointer (some ⟨w.heap.size, 0, none⟩)) rfl (by kernel_rfl) (by kernel_rfl) (by kernel_rfl) (fun _ _ _ h => h) (Or.inl ⟨by rfl, ?_⟩) (by assumption) ?_
        · intro wx hSw; go_simp
        try simp only [Act.put, List.setIfInBounds_toArray, List.set_cons_zero, List.set_cons_succ, List.getElem_toArray, List.getElem_cons_zero, List.getElem_cons_succ]
        refine wpAnyH_take (i := 5) (v := .int .i64 VC) rfl (by kernel_rfl) (by kernel_rfl) (by kernel_rfl) (fun _ _ _ h => h) (Or.inl ⟨by rfl, ?_⟩) (by assumption) ?_
        · intro wx hSw; go_simp
        try simp only [Act.put, List.setIfInBounds_toArray, List.set_cons_zero, List.set_cons_succ, List.getElem_toArray, List.getElem_cons_zero, List.getElem_cons_succ]
        refine wpAnyH_ready (rs := [3]) (by kernel_rfl) (by simp) ?_
        refine AllReadyH.cons rfl (fun K hK => ?_) AllReadyH.nil
        go_simp
        go_wp2_with (go_at_call 67; refine (plcCell_impl _ _ _ _).mono ?_; rintro e w2 ⟨rfl, hbw2⟩)
        refine hK.out _ _ (keepS (by assumption) hbw2) (fun hHeld => ?_)
        clear hK K
        try simp only [Act.put, List.setIfInBounds_toArray, List.set_cons_zero, List.set_cons_succ, List.getElem_toArray, List.getElem_cons_zero, List.getElem_cons_succ]
        refine wpAnyH_take (i := 6) (v := .bool true) rfl (by kernel_rfl) (by kernel_rfl) (by kernel_rfl) (fun _ _ _ h => h) (Or.inl ⟨by rfl, ?_⟩) (by assumption) ?_
        · intro wx hSw; go_simp
        try simp only [Act.put, List.setIfInBounds_toArray, List.set_cons_zero, List.set_cons_succ, List.getElem_toArray, List.getElem_cons_zero, List.getElem_cons_succ]
        refine wpAnyH_done (by kernel_rfl) ?_ _
        go_wp2
        go_ret
        exact ⟨by rw [allK_stop hkn (by simp [hp])]; rfl, by repeat (first | exact BR1 | refine bthen ?_ (by assumption) | apply Below.drew)⟩
    · have : k = n := by omega
      subst this
      go_wp2_with fail
      refine (listOk_impl c d b o k cap W hn _ (by omega) (fun k' j h1 h2 => (BR.cell (p := ⟨b, _, none⟩) hb).trans (HR.out k' j h1 h2))).mono ?_
      rintro e w2 ⟨rfl, hb2⟩
      go_wp2
      go_ret
      exact ⟨by rw [HALL.out, Bool.true_and]; rfl, bthen BR hb2⟩
end Go.Proofs.YtjmjffhommlbnaaGreat
