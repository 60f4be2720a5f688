/- The program's sort of walkers with their places: by the library's contract; conditions: the row is the call's own. -/
import Derived.Test.YtnplclfoeedpjaaShelf
import Derived.Test.YtnplclfoeedpjaaLst
import Derived.Shelf.SlSortCmp.NoneTotal
namespace Go.Proofs.Ytnplclfoeedpjaa
open Go.RowKit Go.Deep Go.Maps Go.Sort Go.Shelf Go.Lib
set_option linter.unusedVariables false

def cf (x y : Nat) : Int := Lib.compareInt (x : Int) (y : Int)

theorem ltcf (x y : Nat) : ltOf cf x y = decide (x < y) := by
  unfold ltOf cf Lib.compareInt
  by_cases h1 : x < y
  · simp [h1]
  · by_cases h2 : y < x
    · simp [h2]; omega
    · simp [h1, h2]

theorem swocf : SWO (ltOf cf) where
  irrefl x := by rw [ltcf]; simp
  trans x y z h1 h2 := by rw [ltcf] at *; simp at *; omega
  ntrans x y z h1 h2 := by rw [ltcf] at *; simp at *; omega

set_option maxHeartbeats 1000000 in
theorem closure45 (a0 a1 a2 a3 a4 x b0 b1 b2 b3 b4 y : Int) (W : World) : Calls Try.prog 26 #[.agg #[.int .i64 a0, .int .i64 a1, .int .i64 a2, .int .i64 a3, .int .i64 a4, .int .i64 x], .agg #[.int .i64 b0, .int .i64 b1, .int .i64 b2, .int .i64 b3, .int .i64 b4, .int .i64 y]] W
    fun e w' => e = .returned (.int .i64 (Lib.compareInt x y)) ∧ ∃ q os', w' = grow (W.drewN q) os' := by
  have hcon := fun W' => AnyG.cmp_Compare_int Try.cmpInt x y W'
  change ∀ W', Calls Try.prog 27 _ _ _ at hcon
  generalize Lib.compareInt x y = r at hcon ⊢
  go_enter Try.func26, Try.ntmps26
  go_wp2_with (go_at_call 27; refine (hcon _).mono ?_; rintro e w' ⟨rfl, rfl⟩)
  go_ret
  exact ⟨rfl, 0, _, by rw [alloc_eq_grow, alloc_eq_grow, grow_grow]; rfl⟩

theorem cmpLays45 (Z : Nat → Nat → Int) (blk off size : Nat) (w : World) : CmpLays Try.prog 26 #[] (six Z) 6 cf blk off size w :=
  fun _ _ _ _ x y => closure45 (Z x 0) (Z x 1) (Z x 2) (Z x 3) (Z x 4) x (Z y 0) (Z y 1) (Z y 2) (Z y 3) (Z y 4) y _

theorem isAgg49 (w : World) : (isAgg 49).run Try.prog w = .ok true w := by kernel_rfl
theorem sizeOf49 (w : World) : (Go.sizeOf 49).run Try.prog w = .ok 6 w := by kernel_rfl

theorem sortRow (Z : Nat → Nat → Int) (L : List Nat) (base m : Nat) (v : Value) (w : World) (hown : w.ownsRow base 49 6 v m (L.flatMap (six Z))) (hm : m ≤ 1048576) :
    Calls Try.prog 25 #[v, .func (.func 26) #[] #[]] w fun e w' => e = .returned (.tuple #[]) ∧ ∃ L' : List Nat, L'.Perm L ∧ L'.Pairwise (· ≤ ·) ∧ w'.ownsRow base 49 6 v m (L'.flatMap (six Z)) ∧ w.grownBy w' v.ownBlock := by
  have h6 : ∀ x, (six Z x).length = 6 := fun _ => rfl
  have hl : L.length = m := by have := hown.1; rw [len_flat (six Z) h6] at this; omega
  rcases hown.2 with ⟨rfl, rfl⟩ | ⟨g, cap, cur, rfl, hbg, hg, hnc, hcm, hcs, htake⟩
  · have hcon := AnyF.slices_SortFunc_none Try.sortPl none 0 (.func (.func 26) #[] #[]) w
    change Calls Try.prog 25 _ _ _ at hcon
    refine hcon.mono ?_
    rintro e w' ⟨rfl, rfl⟩
    have : L = [] := List.eq_nil_of_length_eq_zero hl
    subst this
    exact ⟨rfl, [], .refl _, .nil, hown, World.grownBy.refl _ _⟩
  · have eg : ∀ args w, (callFunc 26 args).run Try.prog w = .ok (.enter 26 args) w := enters_of Try.func26 (by kernel_rfl) rfl
    have hH : HoldsK (six Z) 6 w g 0 L.toArray := holdsK_of_row (by decide) (six Z) h6 hg (by rw [hl]; exact htake)
    have hcon := AnyQ.slices_SortFunc Try.sortPl 6 isAgg49 sizeOf49 (six Z) h6 (fun x v hv => by simp [six] at hv; rcases hv with rfl | rfl | rfl | rfl | rfl | rfl <;> rfl) cf swocf 26 #[] g 0 cap L.toArray w eg (cmpLays45 Z g 0 _ w) hH (Array.getElem?_eq_some_iff.1 hg).1 (by simp [hl]; omega)
    change Calls Try.prog 25 _ _ _ at hcon
    simp only [List.size_toArray, hl] at hcon
    refine hcon.mono ?_
    rintro e w' ⟨rfl, d', n, os, hp, hs, rfl⟩
    have hds : d'.size = m := by have := hp.1; simpa [hl] using this
    have hperm : d'.toList.Perm L := by
      have := hp.2.2
      rw [show d'.extract 0 m = d' by rw [← hds]; exact Array.extract_size, show L.toArray.extract 0 m = L.toArray by rw [← hl, ← List.size_toArray]; exact Array.extract_size] at this
      simpa using this
    have hsorted : d'.toList.Pairwise (· ≤ ·) := by
      refine List.pairwise_iff_getElem.2 (fun i j hi hj hij => ?_)
      have h := hs i j (Nat.zero_le _) hij (by simp at hj; omega)
      rw [ltcf] at h
      have h1 : i < d'.size := by simpa using hi
      have h2 : j < d'.size := by simpa using hj
      rw [getElem!_pos d' i h1, getElem!_pos d' j h2] at h
      simp at h
      simpa using h
    obtain ⟨ho, hgr⟩ := ownsRow_sortedK (base := base) (n := n) (os := os) (by decide) (six Z) h6 hds hbg hg hnc hcm hcs
    exact ⟨rfl, d'.toList, hperm, hsorted, ho, hgr⟩
end Go.Proofs.Ytnplclfoeedpjaa
