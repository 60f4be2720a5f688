/- takeServers of the program; conditions: those typed. -/
import Derived.Test.YtlmoeacpkkkkcaaGreatDoorTE
import Derived.Test.YtlmoeacpkkkkcaaGreatDoorTC
namespace Go.Proofs.YtlmoeacpkkkkcaaGreatDoor
open Go.RowKit Go.Deep
set_option linter.unusedVariables false
set_option maxRecDepth 20000
theorem int_cell {w : World} {base g n cap : Nat} {ns : List Int} (ho : w.ownsRow base 3 1 (.slice (some ⟨g, 0, none⟩) n cap) n (ints ns)) (k : Nat) (z : Int) (h : ns[k]? = some z) : w.cell? ⟨g, k, none⟩ = some (.int .i64 z) := by
  have hc := ho.cells (g := g) rfl k (.int .i64 z) (by simp [ints, h])
  rwa [show (⟨g, 0, none⟩ : Addr).add k = ⟨g, k, none⟩ by unfold Addr.add; split <;> simp_all] at hc
theorem behind1 (line word : ByteArray) (hl : line.size ≤ 1048576) (w : World) (hE : Env w) :
    Calls Tryz.prog 40 #[.string line, .string word, .int .i64 1] w fun e w' => ((behindOf line word 1 = [] ∧ e = .returned (.slice none 0 0)) ∨ ∃ g cap z, behindOf line word 1 = [z] ∧ e = .returned (.slice (some ⟨g, 0, none⟩) 1 cap) ∧ w.heap.size ≤ g ∧ w'.cell? ⟨g, 0, none⟩ = some (.int .i64 z)) ∧ Below w.heap.size w w' := by
  refine (behind line word 1 hl (by omega) (by omega) w hE).mono ?_
  rintro e w' ⟨h | ⟨g, cap, h1, rfl, ho⟩, hb⟩
  · exact ⟨.inl h, hb⟩
  · obtain ⟨z, ez⟩ := List.length_eq_one_iff.1 h1
    refine ⟨.inr ⟨g, cap, z, ez, rfl, ?_, int_cell ho 0 z (by rw [ez]; rfl)⟩, hb⟩
    rcases ho.2 with ⟨h, _⟩ | ⟨g', cap', cur, e, hg, _⟩
    · cases h
    · injection e with e1; injection e1 with e1; injection e1 with e1; omega
theorem grown_below {w w' : World} {r : Option Nat} (hb : Below w.heap.size w w') : w.grownBy w' r := ⟨hb.os, hb.tape, hb.output, hb.size, fun k hk _ => hb.block k hk⟩
set_option maxHeartbeats 1000000 in
theorem takeServers (o : Nat) (c d s0 : Int) (sl : Value) (line : ByteArray) (hl : line.size ≤ 1048576) (w : World) (hE : Env w) (hO : Bk w o [.int .i64 c, .int .i64 d, .int .i64 s0, sl]) :
    Calls Tryz.prog 35 #[.pointer (some ⟨o, 0, none⟩), .string line] w fun e w' => ((behindOf line ⟨#[115, 101, 114, 118, 101, 114, 115]⟩ 1 = [] ∧ e = .returned (.bool false) ∧ Bk w' o [.int .i64 c, .int .i64 d, .int .i64 s0, sl]) ∨ ∃ z, behindOf line ⟨#[115, 101, 114, 118, 101, 114, 115]⟩ 1 = [z] ∧ e = .returned (.bool (inB z 1 3)) ∧ Bk w' o [.int .i64 c, .int .i64 d, .int .i64 z, sl]) ∧ w.grownBy w' (some o) := by
  have HE := hid hE
  have HO := hid hO
  clear hE hO
  go_enter Tryz.func35, Tryz.ntmps35
  go_wp2_with fail
  refine (behind1 line ⟨#[115, 101, 114, 118, 101, 114, 115]⟩ hl _ HE.out).mono ?_
  rintro e w1 ⟨h, hb⟩
  have HO1 := hid (HO.out.below hb)
  have HG := hid (grown_below (r := some o) hb)
  have hol : o < w.heap.size := HO.out.1
  rcases h with ⟨h, rfl⟩ | ⟨g, cap, z, h, rfl, hg, hc⟩
  · have b0 : ∀ w : World, (binOp BinOp.eql 90 (.slice none 0 0) (.slice none 0 0)).run Tryz.prog w = .ok (.bool true) w := fun _ => by kernel_rfl
    clear hb
    go_wp2
    go_ret
    exact ⟨.inl ⟨h, rfl, HO1.out⟩, HG.out⟩
  · have r2 := (HO1.out.2 2 (by simp)).1
    have f2 := (HO1.out.2 2 (by simp)).2
    simp only [List.getD, List.getElem?_cons_zero, List.getElem?_cons_succ, Option.getD_some] at r2
    have hne : ¬ g = o := by omega
    have b1 : ∀ w : World, (binOp BinOp.eql 90 (.slice (some ⟨g, 0, none⟩) 1 cap) (.slice none 0 0)).run Tryz.prog w = .ok (.bool false) w := fun _ => by kernel_rfl
    have H := hid h
    clear hb h
    go_upto_region 5 with fail
    obtain ⟨w2, e2⟩ : ∃ y, y = w1.setCell ⟨o, 2, none⟩ (.int .i64 z) := ⟨_, rfl⟩
    have HO2 : Bk w2 o [.int .i64 c, .int .i64 d, .int .i64 z, sl] := by rw [e2]; exact Bk.set (j := 2) HO1.out (by simp)
    have HG2 := hid (HG.out.trans (by rw [e2]; exact (set_grown w1 o 2 (.int .i64 z)).1 : w1.grownBy w2 (some o)))
    rw [← e2]
    clear e2 r2 f2 hc
    have q2 := (HO2.2 2 (by simp)).1
    simp only [List.getD, List.getElem?_cons_zero, List.getElem?_cons_succ, Option.getD_some] at q2
    have H2 := hid HO2
    clear HO2
    go_wp2_with fail
    refine (in_impl z 1 3 _).mono ?_
    rintro e w3 ⟨rfl, e3⟩
    subst e3
    go_wp2
    go_ret
    exact ⟨.inr ⟨z, H.out, rfl, H2.out⟩, HG2.out⟩
end Go.Proofs.YtlmoeacpkkkkcaaGreatDoor
