/- The walk of the model's l4Rest; conditions: those typed. -/
import Derived.Test.YtpfemjenhnnfmaaDoorRead5
namespace Go.Proofs.YtpfemjenhnnfmaaDoor
open Go.RowKit
set_option linter.unusedVariables false

/-- What stands behind the first blank. -/
def restF : List UInt8 → List UInt8
  | [] => []
  | b :: r => if b = 32 then r else restF r

theorem rest_blank {l : List UInt8} {k : Nat} (hk : k < l.length) (h : l[k] = 32) : restF (l.drop k) = l.drop (k + 1) := by
  rw [List.drop_eq_getElem_cons hk, restF, if_pos h]
theorem rest_else {l : List UInt8} {k : Nat} (hk : k < l.length) (h : ¬ l[k] = 32) : restF (l.drop k) = restF (l.drop (k + 1)) := by
  rw [List.drop_eq_getElem_cons hk, restF, if_neg h]

theorem ext_drop (s : ByteArray) (k : Nat) : s.extract k s.size = ⟨(s.data.toList.drop k).toArray⟩ := by
  apply ByteArray.ext
  rw [ByteArray.data_extract]
  apply Array.ext'
  rw [Array.toList_extract, List.extract_eq_take_drop]
  rw [List.take_of_length_le]
  rw [List.length_drop, size_len]
  exact Nat.le_refl _

theorem rest_spec (s : ByteArray) (hs : (s.size : Int) ≤ 1000) (w : World) :
    Calls Tryd.prog 22 #[.string s] w fun e w' => e = .returned (.string ⟨(restF s.data.toList).toArray⟩) ∧ w' = w := by
  have hsl := size_len s
  go_enter Tryd.func22, Tryd.ntmps22
  go_wp2
  go_loopw [3] (fun i wr => ∃ k : Nat, k ≤ s.size ∧ .int .i64 k = i ∧ restF s.data.toList = restF (s.data.toList.drop k) ∧ w = wr) (fun i _ => s.size - (intOf i).toNat)
  case atStart => exact ⟨0, Nat.zero_le _, rfl, rfl, rfl⟩
  case round =>
    obtain ⟨k, hk, rfl, hr, rfl⟩ := hrel
    by_cases hkn : k < s.size
    · have hkn' : (k : Int) < (s.size : Int) := by omega
      have HR : Hid (restF s.data.toList = restF (s.data.toList.drop k)) := hr
      clear hr
      have hlt : k < s.data.toList.length := by rw [hsl]; exact hkn
      by_cases h32 : s.data.toList[k] = 32
      · have e32 : ((s[k]'hkn).toNat : Int) = 32 := by have : s[k]'hkn = 32 := h32; rw [this]; rfl
        have HQ : Hid (s.extract (k + 1) s.size = ⟨(restF s.data.toList).toArray⟩) := by
          unfold Hid
          rw [HR.out, rest_blank hlt h32, ext_drop]
        have e33 : (((s[k]'hkn).toNat : Int) == 32) = true := by rw [e32]; rfl
        clear h32 hlt e32 hsl
        go_wp2
        go_ret
        exact ⟨by rw [← HQ.out]; rfl, rfl⟩
      · have HN : Hid (restF s.data.toList = restF (s.data.toList.drop (k + 1))) := by
          unfold Hid
          rw [HR.out, rest_else hlt h32]
        have e33 : (((s[k]'hkn).toNat : Int) == 32) = false := by
          have : s[k]'hkn ≠ 32 := h32
          have h2 : (s[k]'hkn).toNat ≠ 32 := fun e => this (UInt8.toNat_inj.1 (by rw [e]; rfl))
          simp
          omega
        clear h32 hlt hsl
        go_wp2
        go_roundw
        case rel => exact ⟨k + 1, by omega, by go_num, HN.out, by trivial⟩
        case measure => simp [intOf]; omega
    · have : k = s.size := by omega
      have HQ : Hid (restF s.data.toList = []) := by
        unfold Hid
        rw [hr, this, ← hsl, List.drop_length]
        rfl
      subst this
      clear hr hsl
      go_wp2
      go_ret
      exact ⟨by rw [HQ.out]; rfl, rfl⟩
end Go.Proofs.YtpfemjenhnnfmaaDoor
