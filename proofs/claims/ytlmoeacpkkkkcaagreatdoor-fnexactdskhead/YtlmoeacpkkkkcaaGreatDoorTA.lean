/- What is carried: lemmas on lists, cells and draws; conditions: those typed. -/
import Derived.Test.YtlmoeacpkkkkcaaGreatDoorProg
import Derived.WalkKit
import Derived.ProofKit
import Derived.OpenShut
import Derived.Below
import Derived.BigQuiet
import Derived.Test.YtlmoeacpkkkkcaaGreatDoorRows
import Derived.WalkSpells
import Derived.Lib.ItoaNum
import Derived.Lib.AppendIntMem
import Derived.Deep.RegionHeld3
import Derived.Deep.QuietTactic
namespace Go.Proofs
end Go.Proofs
namespace Go.Proofs.YtlmoeacpkkkkcaaGreatDoor
open Go.RowKit Go.ChangeShapes Go.WideShapes Go.ChangeAt
theorem bcell {W w1 : World} (hb : Below W.heap.size W w1) : (∀ b o, b < W.heap.size → w1.cell? ⟨b, o, none⟩ = W.cell? ⟨b, o, none⟩) ∧ (∀ b o, b < W.heap.size → w1.frozen? ⟨b, o, none⟩ = W.frozen? ⟨b, o, none⟩) :=
  ⟨fun b o h => hb.cell (p := ⟨b, o, none⟩) h, fun b o h => hb.frozen (p := ⟨b, o, none⟩) h⟩
theorem bdrewN {a b : World} (h : Below a.heap.size a b) (n : Nat) : Below a.heap.size a (b.drewN n) := h.trans ⟨rfl, rfl, rfl, Nat.le_refl _, fun _ _ => rfl⟩
theorem bthen {a b c : World} (h : Below a.heap.size a b) (k : Below b.heap.size b c) : Below a.heap.size a c := h.trans (k.mono h.size)
end Go.Proofs.YtlmoeacpkkkkcaaGreatDoor
namespace Go.Proofs.YtlmoeacpkkkkcaaGreatDoor
open Go.RowKit
set_option linter.unusedVariables false
end Go.Proofs.YtlmoeacpkkkkcaaGreatDoor
namespace Go.Proofs.YtlmoeacpkkkkcaaGreatDoor
open Go.RowKit
set_option linter.unusedVariables false
end Go.Proofs.YtlmoeacpkkkkcaaGreatDoor
namespace Go.Proofs.YtlmoeacpkkkkcaaGreatDoor
open Go.RowKit
set_option linter.unusedVariables false
theorem dec_step (m : Nat) (h : 0 < m) : Lib.decDigits m = (if m / 10 = 0 then [] else Lib.decDigits (m / 10)) ++ [UInt8.ofNat (48 + m % 10)] := by
  rw [Lib.decDigits]
  by_cases g : m < 10
  · have e : m / 10 = 0 := by omega
    have e2 : m % 10 = m := by omega
    simp [g, e, e2]
  · have e : ¬ m / 10 = 0 := by omega
    simp [g, e]
theorem dec_len (N : Nat) (h : N ≤ 100000) : (Lib.decDigits N).length ≤ 6 := by
  have l1 : ∀ u, u < 10 → (Lib.decDigits u).length = 1 := fun u h => by rw [Lib.decDigits]; simp [h]
  have st : ∀ u, ¬ u < 10 → (Lib.decDigits u).length = (Lib.decDigits (u / 10)).length + 1 := fun u h => by
    conv => lhs; rw [Lib.decDigits]
    simp [h]
  by_cases a : N < 10
  · have := l1 N a; omega
  · rw [st N a]
    by_cases b : N / 10 < 10
    · have := l1 _ b; omega
    · rw [st _ b]
      by_cases c : N / 10 / 10 < 10
      · have := l1 _ c; omega
      · rw [st _ c]
        by_cases d : N / 10 / 10 / 10 < 10
        · have := l1 _ d; omega
        · rw [st _ d]
          by_cases e : N / 10 / 10 / 10 / 10 < 10
          · have := l1 _ e; omega
          · rw [st _ e]
            have := l1 (N / 10 / 10 / 10 / 10 / 10) (by omega); omega
theorem rel_step (N m : Nat) (l : List UInt8) (h : 0 < m) (hdec : Lib.decDigits N = (if m = 0 then [] else Lib.decDigits m) ++ l) :
    Lib.decDigits N = (if m / 10 = 0 then [] else Lib.decDigits (m / 10)) ++ ((48 + UInt8.ofNat (m % 10)) :: l) := by
  have hm : ¬ m = 0 := by omega
  rw [if_neg hm, dec_step m h] at hdec
  rw [hdec, UInt8.ofNat_add]
  simp
theorem rel_len (N m : Nat) (l : List UInt8) (hdec : Lib.decDigits N = (if m = 0 then [] else Lib.decDigits m) ++ l) :
    l.length + (if m = 0 then 0 else (Lib.decDigits m).length) = (Lib.decDigits N).length := by
  rw [hdec, List.length_append]
  by_cases h : m = 0 <;> simp [h] <;> omega
theorem int_eq {k : IntKind} {a b : Int} (h : a = b) : Value.int k a = .int k b := by rw [h]
theorem conv1 (wr : World) (n : Int) : (convert 55 9 (.slice (some ⟨wr.heap.size, 0, none⟩) 1 1)).run Tryz.prog (wr.alloc (.cells #[.int .u8 n] 5)) =
    .ok (.string ⟨[UInt8.ofNat n.toNat].toArray⟩) (wr.alloc (.cells #[.int .u8 n] 5)) := by
  rw [run_convert_bytes_string _ 55 9 5 _ 1 1 Tryz.underlying55 Tryz.underlying5 Tryz.underlying9]
  rw [run_bytesToString _ _ 1 1 [n] (by simp [loadCells, go_sem])]
  rfl
set_option maxHeartbeats 400000 in
set_option maxRecDepth 20000 in
theorem digits_spec (N : Nat) (hN : N ≤ 100000) (w : World) :
    Calls Tryz.prog 32 #[.int .i64 N] w fun e w' => e = .returned (.string ⟨(Lib.decDigits N).toArray⟩) ∧ Below w.heap.size w w' := by
  by_cases h0 : N = 0
  · subst h0
    go_enter Tryz.func32, Tryz.ntmps32
    go_wp2
    go_ret
    exact ⟨by rw [Lib.decDigits]; rfl, Below.refl _ _⟩
  · have hN1 : ¬ (N : Int) < 1 := by omega
    have hdl : (Lib.decDigits N).length ≤ 6 := dec_len N hN
    go_enter Tryz.func32, Tryz.ntmps32
    go_wp2
    go_loopw [0, 3] (fun n out wr => ∃ (m : Nat) (l : List UInt8), m ≤ N ∧ n = .int .i64 m ∧ out = .string ⟨l.toArray⟩ ∧ l.length + (if m = 0 then 0 else (Lib.decDigits m).length) = (Lib.decDigits N).length ∧ Lib.decDigits N = (if m = 0 then [] else Lib.decDigits m) ++ l ∧ Below w.heap.size w wr)
      (fun n _ _ => (intOf n).toNat)
    case atStart => exact ⟨N, [], Nat.le_refl _, rfl, rfl, by simp [h0], by simp [h0], Below.refl _ _⟩
    case round =>
      obtain ⟨m, l, hm, rfl, rfl, hlen, hdec, hb⟩ := hrel
      by_cases g : (0 : Int) < (m : Int)
      · have HD : Hid (Lib.decDigits N = (if m = 0 then [] else Lib.decDigits m) ++ l) := hdec
        have HL : Hid (l.length + (if m = 0 then 0 else (Lib.decDigits m).length) = (Lib.decDigits N).length) := hlen
        clear hdec hlen
        have cv := conv1 wr (48 + (m : Int) % 10)
        have ll : (l.length : Int) ≤ 8388607 := by have := HL.out; have := hdl; omega
        go_wp2
        all_goals
          go_roundw
          case rel => exact ⟨m / 10, (48 + UInt8.ofNat (m % 10)) :: l, by omega, int_eq (by omega), congrArg Value.string (ByteArray.mk_append_mk [48 + UInt8.ofNat (m % 10)] l), rel_len _ _ _ (rel_step N m l (by omega) HD.out), rel_step N m l (by omega) HD.out, hb.alloc hb.size _⟩
          case measure => simp [intOf]; omega
      · have hm0 : m = 0 := by omega
        subst hm0
        have HD : Hid (Lib.decDigits N = l) := (by simpa using hdec : Lib.decDigits N = l)
        clear hdec hlen
        go_wp2
        go_ret
        exact ⟨by rw [HD.out]; rfl, hb⟩
end Go.Proofs.YtlmoeacpkkkkcaaGreatDoor
namespace Go.Proofs.YtlmoeacpkkkkcaaGreatDoor
open Go.RowKit
set_option linter.unusedVariables false
end Go.Proofs.YtlmoeacpkkkkcaaGreatDoor
namespace Go.Proofs.YtlmoeacpkkkkcaaGreatDoor
open Go.RowKit
set_option linter.unusedVariables false
end Go.Proofs.YtlmoeacpkkkkcaaGreatDoor
namespace Go.Proofs.YtlmoeacpkkkkcaaGreatDoor
open Go.RowKit
set_option linter.unusedVariables false
end Go.Proofs.YtlmoeacpkkkkcaaGreatDoor
namespace Go.Proofs.YtlmoeacpkkkkcaaGreatDoor
open Go.RowKit
set_option linter.unusedVariables false
end Go.Proofs.YtlmoeacpkkkkcaaGreatDoor
namespace Go.Proofs.YtlmoeacpkkkkcaaGreatDoor
open Go.RowKit
set_option linter.unusedVariables false
end Go.Proofs.YtlmoeacpkkkkcaaGreatDoor
namespace Go.Proofs.YtlmoeacpkkkkcaaGreatDoor
open Go.RowKit
set_option linter.unusedVariables false
end Go.Proofs.YtlmoeacpkkkkcaaGreatDoor
