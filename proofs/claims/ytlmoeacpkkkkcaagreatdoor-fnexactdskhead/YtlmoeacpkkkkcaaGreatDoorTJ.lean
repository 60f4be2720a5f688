/- take of the program: the line at a place; what a head says; conditions: those typed. -/
import Derived.Test.YtlmoeacpkkkkcaaGreatDoorTI
namespace Go.Proofs.YtlmoeacpkkkkcaaGreatDoor
open Go.RowKit Go.Deep
set_option linter.unusedVariables false
set_option maxRecDepth 100000
def wMap : ByteArray := ⟨#[109, 97, 112]⟩
def wSrv : ByteArray := ⟨#[115, 101, 114, 118, 101, 114, 115]⟩
/-- What a head's lines say: cells, width, servers, the walkers' numbers. -/
def hA (X : Nat → ByteArray) : Int := (behindOf (X 0) ⟨#[109, 97, 112]⟩ 2).getD 0 0
def hB (X : Nat → ByteArray) : Int := (behindOf (X 0) ⟨#[109, 97, 112]⟩ 2).getD 1 0
def hS (X : Nat → ByteArray) : Int := (behindOf (X 1) ⟨#[115, 101, 114, 118, 101, 114, 115]⟩ 1).getD 0 0
def hZ (X : Nat → ByteArray) (k j : Nat) : Int := vF (X (k + 2)) (2 * j + 1)
/-- Whether a line is what has to stand there, if those ahead of it are. -/
def good (X : Nat → ByteArray) : Nat → Prop
  | 0 => (behindOf (X 0) ⟨#[109, 97, 112]⟩ 2).length = 2 ∧ okB (hA X) (hB X) = true
  | 1 => (behindOf (X 1) ⟨#[115, 101, 114, 118, 101, 114, 115]⟩ 1).length = 1 ∧ inB (hS X) 1 3 = true
  | k + 2 => vOk (X (k + 2)) ∧ allB (hA X) (hB X) (hZ X) (k + 1) = true
/-- How an opening lies in its box behind k lines: what is read is there. -/
def Opn (X : Nat → ByteArray) (w : World) (o base k : Nat) : Prop :=
  ∃ c d s sl, Bk w o [.int .i64 c, .int .i64 d, .int .i64 s, sl] ∧ WkR w base sl (k - 2) (hZ X) ∧ (1 ≤ k → c = hA X ∧ d = hB X) ∧ (2 ≤ k → s = hS X)
theorem below_of_grown {w w' : World} {o : Nat} (h : w.grownBy w' (some o)) (ho : o ≤ w.heap.size) : Below o w w' := ⟨h.os, h.tape, h.output, h.size, fun k hk => h.block k (Nat.lt_of_lt_of_le hk ho) (by simp; omega)⟩
theorem WkR.grown {w w' : World} {base n o : Nat} {v : Value} {Z : Nat → Nat → Int} (h : WkR w base v n Z) (hg : w.grownBy w' (some o)) (ho : o < base) : WkR w' base v n Z :=
  World.ownsRow.kept h hg (.inr (fun e => by have := (h.lt o e).1; omega))
set_option maxHeartbeats 1000000 in
theorem take0 (X : Nat → ByteArray) (o base : Nat) (hl : (X 0).size ≤ 1048576) (w : World) (hE : Env w) (hO : Opn X w o base 0) (hob : o < base) :
    Calls Tryz.prog 27 #[.pointer (some ⟨o, 0, none⟩), .int .i64 0, .string (X 0)] w fun e w' => ((good X 0 ∧ e = .returned (.bool true) ∧ Opn X w' o base 1) ∨ (¬ good X 0 ∧ e = .returned (.bool false))) ∧ Below o w w' := by
  obtain ⟨c, d, s, sl, hO, hW, -, -⟩ := hO
  have HC := hid (takeMap o c d s sl (X 0) hl w hE hO)
  have HW := hid hW
  have hol := hO.1
  clear hE hO hW
  go_enter Tryz.func27, Tryz.ntmps27
  go_wp2_with fail
  refine HC.out.mono ?_
  rintro e w1 ⟨h, hg⟩
  have hb := below_of_grown hg (Nat.le_of_lt hol)
  have HN := hid (WkR.grown HW.out hg hob)
  clear hg
  rcases h with ⟨h, rfl, -⟩ | ⟨a, b, h, rfl, hBx⟩
  · have HH := hid h
    clear h
    go_wp2
    go_ret
    exact ⟨.inr ⟨fun q => (by have := q.1; rw [HH.out] at this; cases this), rfl⟩, hb⟩
  · have ea : hA X = a := by unfold hA; rw [h]; rfl
    have eb : hB X = b := by unfold hB; rw [h]; rfl
    have el : (behindOf (X 0) ⟨#[109, 97, 112]⟩ 2).length = 2 := by rw [h]; rfl
    have HX := hid (And.intro ea (And.intro eb el))
    have HBk := hid hBx
    obtain ⟨q, hq⟩ : ∃ q, q = okB a b := ⟨_, rfl⟩
    rw [← hq]
    have HQ := hid hq
    clear h ea eb el hBx hq
    go_wp2
    go_ret
    refine ⟨?_, hb⟩
    cases q
    · exact .inr ⟨fun g => (by have := g.2; rw [HX.out.1, HX.out.2.1, ← HQ.out] at this; cases this), rfl⟩
    · exact .inl ⟨⟨HX.out.2.2, by rw [HX.out.1, HX.out.2.1]; exact HQ.out.symm⟩, rfl, a, b, s, sl, HBk.out, HN.out, fun _ => ⟨HX.out.1.symm, HX.out.2.1.symm⟩, fun h => absurd h (by omega)⟩
set_option maxHeartbeats 1000000 in
theorem take1 (X : Nat → ByteArray) (o base : Nat) (hl : (X 1).size ≤ 1048576) (w : World) (hE : Env w) (hO : Opn X w o base 1) (hob : o < base) :
    Calls Tryz.prog 27 #[.pointer (some ⟨o, 0, none⟩), .int .i64 1, .string (X 1)] w fun e w' => ((good X 1 ∧ e = .returned (.bool true) ∧ Opn X w' o base 2) ∨ (¬ good X 1 ∧ e = .returned (.bool false))) ∧ Below o w w' := by
  obtain ⟨c, d, s, sl, hO, hW, hcd, -⟩ := hO
  have HC := hid (takeServers o c d s sl (X 1) hl w hE hO)
  have HW := hid hW
  have HD := hid (hcd (Nat.le_refl _))
  have hol := hO.1
  clear hE hO hW hcd
  go_enter Tryz.func27, Tryz.ntmps27
  go_wp2_with fail
  refine HC.out.mono ?_
  rintro e w1 ⟨h, hg⟩
  have hb := below_of_grown hg (Nat.le_of_lt hol)
  have HN := hid (WkR.grown HW.out hg hob)
  clear hg
  rcases h with ⟨h, rfl, -⟩ | ⟨a, h, rfl, hBx⟩
  · have HH := hid h
    clear h
    go_wp2
    go_ret
    exact ⟨.inr ⟨fun q => (by have := q.1; rw [HH.out] at this; cases this), rfl⟩, hb⟩
  · have ea : hS X = a := by unfold hS; rw [h]; rfl
    have el : (behindOf (X 1) ⟨#[115, 101, 114, 118, 101, 114, 115]⟩ 1).length = 1 := by rw [h]; rfl
    have HX := hid (And.intro ea el)
    have HBk := hid hBx
    obtain ⟨q, hq⟩ : ∃ q, q = inB a 1 3 := ⟨_, rfl⟩
    rw [← hq]
    have HQ := hid hq
    clear h ea el hBx hq
    go_wp2
    go_ret
    refine ⟨?_, hb⟩
    cases q
    · exact .inr ⟨fun g => (by have := g.2; rw [HX.out.1, ← HQ.out] at this; cases this), rfl⟩
    · exact .inl ⟨⟨HX.out.2, by rw [HX.out.1]; exact HQ.out.symm⟩, rfl, c, d, a, sl, HBk.out, HN.out, fun _ => HD.out, fun _ => HX.out.1.symm⟩
set_option maxHeartbeats 1000000 in
theorem takeN (X : Nat → ByteArray) (k o base : Nat) (hk : k ≤ 1000) (w : World) (hE : Env w) (hO : Opn X w o base (k + 2)) (hob : o < base) (hbw : base ≤ w.heap.size) :
    Calls Tryz.prog 27 #[.pointer (some ⟨o, 0, none⟩), .int .i64 ((k + 2 : Nat) : Int), .string (X (k + 2))] w fun e w' => ((good X (k + 2) ∧ e = .returned (.bool true) ∧ Opn X w' o base (k + 3)) ∨ (¬ good X (k + 2) ∧ e = .returned (.bool false))) ∧ Below o w w' := by
  obtain ⟨c, d, s, sl, hO, hW, hcd, hs⟩ := hO
  obtain ⟨rfl, rfl⟩ := hcd (by omega)
  have HS := hid (hs (by omega))
  have HW := hid hW
  have HO := hid hO
  have HE := hid hE
  have hol := hO.1
  clear hE hO hW hcd hs
  have h0 : ¬ ((k + 2 : Nat) : Int) = 0 := by omega
  have h1 : ¬ ((k + 2 : Nat) : Int) = 1 := by omega
  by_cases hv : vOk (X (k + 2))
  · have HC := hid (takeWalkerYes o base (hA X) (hB X) s sl k (hZ X) (X (k + 2)) w HE.out HO.out HW.out hob hbw hk hv (fun j _ => rfl))
    have HV := hid hv
    clear hv
    go_enter Tryz.func27, Tryz.ntmps27
    go_wp2_with fail
    refine HC.out.mono ?_
    rintro e w1 ⟨rfl, h, hb⟩
    obtain ⟨q, hq⟩ : ∃ q, q = allB (hA X) (hB X) (hZ X) (k + 1) := ⟨_, rfl⟩
    rw [← hq]
    have HQ := hid hq
    have HH := hid h
    clear h hq
    go_wp2
    go_ret
    refine ⟨?_, hb⟩
    cases q
    · exact .inr ⟨fun g => (by have := g.2; rw [← HQ.out] at this; cases this), rfl⟩
    · obtain ⟨sl', h1, h2⟩ := HH.out
      exact .inl ⟨⟨HV.out, HQ.out.symm⟩, rfl, _, _, s, sl', h1, h2, fun _ => ⟨rfl, rfl⟩, fun _ => HS.out⟩
  · have HC := hid (takeWalkerNo o base (hA X) (hB X) s sl k (hZ X) (X (k + 2)) w HE.out HO.out HW.out hob hbw hk hv)
    have HV := hid hv
    clear hv
    go_enter Tryz.func27, Tryz.ntmps27
    go_wp2_with fail
    refine HC.out.mono ?_
    rintro e w1 ⟨rfl, hb⟩
    go_wp2
    go_ret
    exact ⟨.inr ⟨fun g => HV.out g.1, rfl⟩, hb⟩
end Go.Proofs.YtlmoeacpkkkkcaaGreatDoor
