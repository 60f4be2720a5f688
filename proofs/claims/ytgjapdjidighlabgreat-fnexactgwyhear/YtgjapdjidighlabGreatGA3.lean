/- Copies of books, and the place of a walker, in the model; conditions: those typed. -/
import Derived.Test.YtgjapdjidighlabGreatGA2
import Derived.Test.YtgjapdjidighlabGreatGB2
namespace Go.Proofs.YtgjapdjidighlabGreat
open Go.RowKit Go.Deep
set_option linter.unusedVariables false
theorem rows_len (n : Nat) (Z : Nat → Nat → Int) : ((List.range n).flatMap (P10.rowK Z)).length = n * 10 := by
  induction n with
  | zero => rfl
  | succ n ih => rw [rows_succ, List.length_append, ih]; simp [P10.rowK]; omega
theorem rows_one (n : Nat) (Z : Nat → Nat → Int) : ∀ u ∈ (List.range n).flatMap (P10.rowK Z), u.oneCell' = true := by
  intro u hu
  obtain ⟨k, _, hk⟩ := List.mem_flatMap.1 hu
  exact one_row Z k u hk
theorem rows_cells {w : World} {b o n : Nat} {Z : Nat → Nat → Int} (hr : ∀ k j, k < n → j < 10 → w.cell? ⟨b, o + k * 10 + j, none⟩ = some (P10.cv j (Z k j))) :
    ∀ j u, ((List.range n).flatMap (P10.rowK Z))[j]? = some u → w.cell? ((⟨b, o, none⟩ : Addr).add j) = some u := by
  intro j u hj
  have hlt : j < n * 10 := by
    have := (List.getElem?_eq_some_iff.1 hj).1
    rwa [rows_len] at this
  rw [P10.flat_getK (m := 10) (P10.rowK Z) (fun _ => rfl) (by decide) n j hlt] at hj
  rw [add_none]
  have h1 := hr (j / 10) (j % 10) (by omega) (by omega)
  rw [show o + j / 10 * 10 + j % 10 = o + j by omega] at h1
  rw [h1]
  have hm : j % 10 < 10 := by omega
  generalize j % 10 = q at *
  generalize j / 10 = k at *
  match q, hm with
  | 0, _ => exact hj
  | 1, _ => exact hj
  | 2, _ => exact hj
  | 3, _ => exact hj
  | 4, _ => exact hj
  | 5, _ => exact hj
  | 6, _ => exact hj
  | 7, _ => exact hj
  | 8, _ => exact hj
  | 9, _ => exact hj
  | q + 10, hm => omega
set_option maxHeartbeats 2000000 in
theorem copy_spec (b o n cap : Nat) (Z : Nat → Nat → Int) (hn : n ≤ 1048576) (w : World) (hb : b < w.heap.size) (hr : ∀ k j, k < n → j < 10 → w.cell? ⟨b, o + k * 10 + j, none⟩ = some (P10.cv j (Z k j))) :
    Calls Tryz.prog 16 #[.agg #[.slice (some ⟨b, o, none⟩) n cap]] w fun e w' => (∃ v, e = .returned (.agg #[v]) ∧ P10.RL w.heap.size w'.heap.size w' v n Z) ∧ Below w.heap.size w w' := by
  have HR : Hid (∀ k j, k < n → j < 10 → w.cell? ⟨b, o + k * 10 + j, none⟩ = some (P10.cv j (Z k j))) := hr
  clear hr
  obtain ⟨i5, hi5, hzz⟩ := Option.map_eq_some_iff.1 P10.infoE
  simp only [Prod.mk.injEq] at hzz
  obtain ⟨hz0, hz1, hz2⟩ := hzz
  go_enter Tryz.func16, Tryz.ntmps16
  obtain ⟨W3, e3⟩ : ∃ y, y = (((w.alloc (.cells #[.slice (some ⟨b, o, none⟩) n cap] 40)).alloc (.cells #[.slice none 0 0] 40)).alloc (.cells #[] 63)) := ⟨_, rfl⟩
  have b3 : Below w.heap.size w W3 := by rw [e3]; exact (((Below.refl _ _).alloc (by simp) _).alloc (by simp) _).alloc (by simp; omega) _
  have R3 : Bk W3 (w.heap.size + 1) [.slice none 0 0] := by rw [e3]; have := (bk_new (w.alloc (.cells #[.slice (some ⟨b, o, none⟩) n cap] 40)) 40 [.slice none 0 0]).below ((Below.refl _ _).alloc (Nat.le_refl _) (.cells #[] 63)); rwa [show (w.alloc (.cells #[.slice (some ⟨b, o, none⟩) n cap] 40)).heap.size = w.heap.size + 1 by simp] at this
  have OW : Hid (W3.ownsRow (w.heap.size + 2) 63 10 (.slice (some ⟨w.heap.size + 1 + 1, 0, none⟩) 0 0) 0 []) := by unfold Hid; rw [e3]; have := World.ownsRow_lit (base := w.heap.size + 2) (e := 63) (size := 10) ((w.alloc (.cells #[.slice (some ⟨b, o, none⟩) n cap] 40)).alloc (.cells #[.slice none 0 0] 40)) #[] 0 (by simp) (by simp) (by simp); rwa [show ((w.alloc (.cells #[.slice (some ⟨b, o, none⟩) n cap] 40)).alloc (.cells #[.slice none 0 0] 40)).heap.size = w.heap.size + 1 + 1 by simp] at this
  have HC : Hid (∀ j u, ((List.range n).flatMap (P10.rowK Z))[j]? = some u → W3.cell? ((⟨b, o, none⟩ : Addr).add j) = some u) := rows_cells (fun k j h1 h2 => (b3.cell (p := ⟨b, _, none⟩) hb).trans (HR.out k j h1 h2))
  have hz3 : w.heap.size + 1 + 1 < W3.heap.size := by rw [e3]; simp <;> omega
  go_wp2_with (at_builtin; rw [← e3]; refine wpList_append_own _ rfl _ _ 38 rfl (w.heap.size + 2) 63 i5 (.agg #[.int .i64 0, .int .i64 0, .bool false, .int .i64 0, .int .i64 0, .int .i64 0, .int .i64 0, .int .i64 0, .int .i64 0, .int .i64 0]) 10 80 Tryz.underlying38 hi5 hz0 hz1 hz2 rfl (by decide) _ _ _ rfl OW.out ⟨b, o, none⟩ n cap ((List.range n).flatMap (P10.rowK Z)) rfl (rows_len n Z) HC.out (rows_one n Z) (by unfold maxLen; omega) (by omega) (by omega) ?_)
  intro v5 w5 hown5 hg5 _
  rw [← e3] at hg5
  obtain ⟨a5, l5, c5, ev5⟩ := own_shape hown5
  subst ev5
  have R5 : Bk w5 (w.heap.size + 1) [.slice none 0 0] := bk_grown R3 OW.out hg5 (by omega)
  have B5 : Hid (Below w.heap.size w w5) := below_row b3 OW.out hg5 (by omega) (by omega)
  have O5 : Hid (w5.ownsRow (w.heap.size + 2) 63 10 (.slice a5 l5 c5) n ((List.range n).flatMap (P10.rowK Z))) := hown5
  clear hown5 hg5 OW HC b3 R3 e3
  have rc : w5.cell? ⟨w.heap.size + 1, 0, none⟩ = some (.slice none 0 0) := (R5.2 0 (by simp)).1
  have rf : w5.frozen? ⟨w.heap.size + 1, 0, none⟩ = false := (R5.2 0 (by simp)).2
  clear R5
  go_wp2
  refine bodyPost_ret (v := .agg #[.slice a5 l5 c5]) (by simp [results, Tryz.results16, go_sem, *]) rfl ?_
  exact ⟨⟨_, rfl, rl_mono (P10.rl_of_own (own_far O5.out (g := w.heap.size + 1) (by omega))) (by omega)⟩, B5.out.setCell (by show w.heap.size ≤ w.heap.size + 1; omega) _⟩
def atI : Option Nat → Int
  | none => -1
  | some i => (i : Int)
set_option maxHeartbeats 1000000 in
theorem at_spec (a : Option Addr) (n cap : Nat) (Z : Nat → Nat → Int) (who : Int) (hn : n ≤ 1048576) (w : World) (h : P10.RowK w a n Z) :
    Calls Tryz.prog 17 #[.agg #[.slice a n cap], .int .i64 who] w fun e w' => e = .returned (.int .i64 (atI (seek n Z who))) ∧ Below w.heap.size w w' := by
  have HR : Hid (P10.RowK w a n Z) := h
  clear h
  go_enter Tryz.func17, Tryz.ntmps17
  go_wp2_with fail
  obtain ⟨w0, e0⟩ : ∃ y, y = w.alloc (.cells #[.slice a n cap] 40) := ⟨_, rfl⟩
  have B0 : Hid (Below w.heap.size w w0) := by rw [e0]; exact (Below.refl _ _).alloc (by simp) _
  have K0 : Hid (Bk w0 w.heap.size [.slice a n cap]) := by rw [e0]; exact bk_new w 40 [.slice a n cap]
  rw [← e0]
  clear e0
  have kc := K0.out.a1
  have kl : w.heap.size < w0.heap.size := K0.out.1
  go_loopw [5] (fun i wr => ∃ k : Nat, k ≤ n ∧ i = .int .i64 k ∧ (∀ j, j < k → ¬ Z j 0 = who) ∧ wr = w0) (fun i _ => n - (intOf i).toNat)
  case atStart => exact ⟨0, Nat.zero_le _, rfl, fun _ h => absurd h (by omega), rfl⟩
  case round =>
    obtain ⟨k, hk, rfl, hno, rfl⟩ := hrel
    have HN : Hid (∀ j, j < k → ¬ Z j 0 = who) := hno
    clear hno
    by_cases hkn : k < n
    · have hkn' : (k : Int) < n := by omega
      obtain ⟨b, o, rfl, hb, hrow⟩ : ∃ b o, a = some ⟨b, o, none⟩ ∧ b < w.heap.size ∧ ∀ k j, k < n → j < 10 → w.cell? ⟨b, o + k * 10 + j, none⟩ = some (P10.cv j (Z k j)) := by
        rcases HR.out with h | h
        · omega
        · exact h
      have c0 : wr.cell? ⟨b, o + k * 10, none⟩ = some (.int .i64 (Z k 0)) := (B0.out.cell (p := ⟨b, _, none⟩) hb).trans (hrow k 0 hkn (by omega))
      clear hrow
      by_cases he : Z k 0 = who
      · have hs : Hid (seek n Z who = some k) := seek_at hkn he HN.out
        go_wp2
        go_ret
        exact ⟨by rw [hs.out] <;> rfl, B0.out⟩
      · go_wp2
        go_roundw
        case rel => exact ⟨k + 1, by omega, by go_num, fun j hj => by
          by_cases e : j = k
          · subst e; exact he
          · exact HN.out j (by omega), by trivial⟩
        case measure => simp [intOf]; omega
    · have hkk : k = n := by omega
      subst hkk
      have hs : Hid (seek k Z who = none) := seek_no HN.out
      go_wp2
      go_ret
      exact ⟨by rw [hs.out] <;> rfl, B0.out⟩
end Go.Proofs.YtgjapdjidighlabGreat
