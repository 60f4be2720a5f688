/- The walks of byNumber, and of WlkFind, the program's and the model's; conditions: the list lies in memory as a row of structs of five integers. -/
import Derived.Test.YtnplclfoeedpjaaLaw
import Derived.Test.YtnplclfoeedpjaaGrp
namespace Go.Proofs.Ytnplclfoeedpjaa
open Go.RowKit Go.Deep Go.Maps
set_option linter.unusedVariables false

theorem numberOf (i a n s l : Int) (w : World) :
    Calls Try.prog 18 #[.agg #[.int .i64 i, .int .i64 a, .int .i64 n, .int .i64 s, .int .i64 l]] w fun e w' => e = .returned (.int .i64 i) ∧ Below w.heap.size w w' := by
  go_enter Try.func18, Try.ntmps18
  go_wp2
  go_ret
  exact ⟨rfl, (Below.refl _ _).alloc (by simp) _⟩

/-- The cells of the k-th walker with its place. -/
def six (Z : Nat → Nat → Int) (k : Nat) : List Value := [.int .i64 (Z k 0), .int .i64 (Z k 1), .int .i64 (Z k 2), .int .i64 (Z k 3), .int .i64 (Z k 4), .int .i64 (k : Int)]
/-- The cells of those among the first k whose number is z. -/
def grp (Z : Nat → Nat → Int) : Nat → Int → List Value
  | 0, _ => []
  | k + 1, z => grp Z k z ++ (if Z k 0 = z then six Z k else [])
theorem grp_len (Z : Nat → Nat → Int) (z : Int) : ∀ k, (grp Z k z).length ≤ k * 6
  | 0 => by simp [grp]
  | k + 1 => by
    have := grp_len Z z k
    simp only [grp, List.length_append]
    split
    · simp [six]; omega
    · simp; omega
theorem grp_next (Z : Nat → Nat → Int) (k : Nat) : (fun y => if y = Z k 0 then grp Z k (Z k 0) ++ six Z k else grp Z k y) = grp Z (k + 1) := by
  funext y
  by_cases h : y = Z k 0
  · subst h; simp [grp]
  · have h' : ¬ Z k 0 = y := fun e => h e.symm
    simp [grp, h, h']

theorem Try.info49 : (Try.prog.info? 49).map (fun i => (i.zero, i.size, i.bytes)) = some (some (.agg #[.int .i64 0, .int .i64 0, .int .i64 0, .int .i64 0, .int .i64 0, .int .i64 0]), 6, 48) := by kernel_rfl

set_option maxHeartbeats 1000000 in
theorem byNumber (f : Value) (b o n cap : Nat) (Z : Nat → Nat → Int) (hn : n ≤ 1048576) (w : World) (hb : b < w.heap.size)
    (hr : ∀ k j, k < n → j < 5 → w.cell? ⟨b, o + k * 5 + j, none⟩ = some (.int .i64 (Z k j))) (hwf : ∀ k j, k < n → j < 5 → (Lit.int .i64 (Z k j)).wf = true) :
    Calls Try.prog 17 #[.slice (some ⟨b, o, none⟩) n cap, .func (.func 18) #[] #[]] w fun e w' => e = .returned (.map (some w.heap.size)) ∧ Gr w' w.heap.size (grp Z n) ∧ w.heap.size < w'.heap.size ∧ Below w.heap.size w w' := by
  have hmm := @run_makeMap Try.prog
  have HR : Hid (∀ k j, k < n → j < 5 → w.cell? ⟨b, o + k * 5 + j, none⟩ = some (.int .i64 (Z k j))) := hr
  have HW : Hid (∀ k j, k < n → j < 5 → (Lit.int .i64 (Z k j)).wf = true) := hwf
  clear hr hwf
  obtain ⟨i0, hi, hz0, hz1, hz2⟩ := info_parts Try.info49
  go_enter Try.func17, Try.ntmps17
  go_wp2
  go_loopw [12] (fun i wr => ∃ k : Nat, k ≤ n ∧ i = .int .i64 k ∧ Gr wr w.heap.size (grp Z k) ∧ w.heap.size < wr.heap.size ∧ Below w.heap.size w wr) (fun i _ => n - (intOf i).toNat)
  case atStart => exact ⟨0, Nat.zero_le _, rfl, Gr.new w, by simp, (Below.refl _ _).alloc (by simp) _⟩
  case round =>
    obtain ⟨k, hk, rfl, hG, hsz, hbel⟩ := hrel
    have HG : Hid (Gr wr w.heap.size (grp Z k)) := hG
    clear hG hmm
    by_cases hkn : k < n
    · have hkn' : (k : Int) < (n : Int) := by omega
      have c0 : wr.cell? ⟨b, o + k * 5, none⟩ = some (.int .i64 (Z k 0)) := (hbel.cell (by exact hb)).trans (HR.out k 0 hkn (by omega))
      have c1 : wr.cell? ⟨b, o + k * 5 + 1, none⟩ = some (.int .i64 (Z k 1)) := (hbel.cell (by exact hb)).trans (HR.out k 1 hkn (by omega))
      have c2 : wr.cell? ⟨b, o + k * 5 + 2, none⟩ = some (.int .i64 (Z k 2)) := (hbel.cell (by exact hb)).trans (HR.out k 2 hkn (by omega))
      have c3 : wr.cell? ⟨b, o + k * 5 + 3, none⟩ = some (.int .i64 (Z k 3)) := (hbel.cell (by exact hb)).trans (HR.out k 3 hkn (by omega))
      have c4 : wr.cell? ⟨b, o + k * 5 + 4, none⟩ = some (.int .i64 (Z k 4)) := (hbel.cell (by exact hb)).trans (HR.out k 4 hkn (by omega))
      go_wp2_with fail
      refine (numberOf _ _ _ _ _ _).mono ?_
      rintro e w1 ⟨rfl, hb1⟩
      have d0 : w1.cell? ⟨wr.heap.size, 0, none⟩ = some (.int .i64 (Z k 0)) := (hb1.cell (p := ⟨wr.heap.size, 0, none⟩) (by simp)).trans (by simp)
      have d1 : w1.cell? ⟨wr.heap.size, 1, none⟩ = some (.int .i64 (Z k 1)) := (hb1.cell (p := ⟨wr.heap.size, 1, none⟩) (by simp)).trans (by simp)
      have d2 : w1.cell? ⟨wr.heap.size, 2, none⟩ = some (.int .i64 (Z k 2)) := (hb1.cell (p := ⟨wr.heap.size, 2, none⟩) (by simp)).trans (by simp)
      have d3 : w1.cell? ⟨wr.heap.size, 3, none⟩ = some (.int .i64 (Z k 3)) := (hb1.cell (p := ⟨wr.heap.size, 3, none⟩) (by simp)).trans (by simp)
      have d4 : w1.cell? ⟨wr.heap.size, 4, none⟩ = some (.int .i64 (Z k 4)) := (hb1.cell (p := ⟨wr.heap.size, 4, none⟩) (by simp)).trans (by simp)
      have hbb : Below wr.heap.size wr w1 := bthen ((Below.refl _ _).alloc (by simp) _) hb1
      have hs1 : wr.heap.size < w1.heap.size := by have := hb1.size; simp at this; omega
      obtain ⟨v, m, hlook, hown, hback⟩ := (HG.out.kept (grown_of_below hbb)).look (Z k 0) (HW.out k 0 hkn (by omega))
      have hm : m ≤ k := by
        have h1 := hown.1
        have h2 := grp_len Z (Z k 0) k
        omega
      have HBk : Hid (Back w1 w.heap.size (grp Z k) (Z k 0) v) := hback
      have hbel1 : Below w.heap.size w w1 := hbel.trans (hbb.mono (Nat.le_of_lt hsz))
      clear hback hb1 c0 c1 c2 c3 c4 HG hbb hbel
      go_wp2_with (at_builtin; refine wpList_append_own_at _ rfl _ _ 43 rfl (w.heap.size + 1) 49 i0 (.agg #[.int .i64 0, .int .i64 0, .int .i64 0, .int .i64 0, .int .i64 0, .int .i64 0]) 6 48 Try.underlying43 hi hz0 hz1 hz2 rfl (by decide) _ _ _ rfl (hown.alloc _) ⟨w1.heap.size, 0, none⟩ 1 1 (six Z k) rfl rfl ?c1 ?c2 ?c3 ?c4 ?c5 ?_)
      case c1 =>
        intro j u hj
        match j, hj with
        | 0, hj => simp [six] at hj; subst hj; simp [Addr.add]
        | 1, hj => simp [six] at hj; subst hj; simp [Addr.add]
        | 2, hj => simp [six] at hj; subst hj; simp [Addr.add]
        | 3, hj => simp [six] at hj; subst hj; simp [Addr.add]
        | 4, hj => simp [six] at hj; subst hj; simp [Addr.add]
        | 5, hj => simp [six] at hj; subst hj; simp [Addr.add]
        | j + 6, hj => simp [six] at hj
      case c2 => intro u hu; simp [six] at hu; rcases hu with rfl | rfl | rfl | rfl | rfl | rfl <;> rfl
      case c3 => unfold maxLen; omega
      case c4 => omega
      case c5 => simp; omega
      · intro v' w2 hown' hgrow hnil hloc
        have hall := (World.grownBy_alloc w1 _ _).trans hgrow
        obtain ⟨w3, hupd, hG3, hgrow3⟩ := HBk.out w2 v' _ _ hall hown' (hloc.imp id (fun h => ⟨_, h, by simp⟩))
        have hbel2 : Below w.heap.size w w2 := hbel1.grown hall (by omega) (fun kk e => by have := (hown.lt kk e).1; omega)
        have hbel3 : Below w.heap.size w w3 := hbel2.grown hgrow3 (by have := hall.size; omega) (fun kk e => by cases e; exact Nat.le_refl _)
        have hs3 : w.heap.size < w3.heap.size := by have := hall.size; have := hgrow3.size; omega
        have HG3 : Hid (Gr w3 w.heap.size (grp Z (k + 1))) := by rw [← grp_next]; exact hG3
        clear hG3 hgrow hall hloc hnil hown' hown HBk hlook hbel1 hbel2 hgrow3
        go_wp2
        go_roundw
        case rel => exact ⟨k + 1, by omega, by go_num, HG3.out, hs3, hbel3⟩
        case measure => simp [intOf]; omega
    · have : k = n := by omega
      subst this
      go_wp2
      go_ret
      exact ⟨rfl, HG.out, hsz, hbel⟩
end Go.Proofs.Ytnplclfoeedpjaa
