/- WlkFind, WlkOut and WlkPut of the model, where no walker has the number; conditions: the list lies in memory. -/
import Derived.Test.YtjmjffhommlbnaaGreatIn5
import Derived.Test.YtjmjffhommlbnaaGreatCCopyS
import Derived.BigQuiet
namespace Go.Proofs.YtjmjffhommlbnaaGreat
open Go.RowKit Go.Deep Go.Maps
set_option linter.unusedVariables false

/-- m is the first whose number is z. -/
def First (Z : Nat → Nat → Int) (n : Nat) (z : Int) (m : Nat) : Prop := m < n ∧ Z m 0 = z ∧ ∀ j, j < m → ¬ Z j 0 = z
def Noone (Z : Nat → Nat → Int) (n : Nat) (z : Int) : Prop := ∀ j, j < n → ¬ Z j 0 = z
theorem first_or (Z : Nat → Nat → Int) (z : Int) : ∀ n, Noone Z n z ∨ ∃ m, First Z n z m
  | 0 => .inl (fun j h => absurd h (by omega))
  | n + 1 => by
    rcases first_or Z z n with h | ⟨m, h1, h2, h3⟩
    · by_cases e : Z n 0 = z
      · exact .inr ⟨n, by omega, e, h⟩
      · refine .inl (fun j hj => ?_)
        by_cases hjn : j = n
        · subst hjn; exact e
        · exact h j (by omega)
    · exact .inr ⟨m, by omega, h2, h3⟩
theorem info5 : ∃ i, Tryz.prog.info? 43 = some i ∧ i.zero = some (.agg #[.int .i64 0, .int .i64 0, .int .i64 0, .int .i64 0, .int .i64 0]) ∧ i.size = 5 ∧ i.bytes = 40 := info_parts Tryz.info43
theorem five5_box (w : World) (Z : Nat → Nat → Int) (k : Nat) (t : TypeId) : ∀ j u, (five5 Z k)[j]? = some u → (w.alloc (.cells #[.int .i64 (Z k 0), .int .i64 (Z k 1), .int .i64 (Z k 2), .int .i64 (Z k 3), .int .i64 (Z k 4)] t)).cell? ((⟨w.heap.size, 0, none⟩ : Addr).add j) = some u := by
  intro j u hj
  match j, hj with
  | 0, hj => simp [five5] at hj; subst hj; simp [Addr.add]
  | 1, hj => simp [five5] at hj; subst hj; simp [Addr.add]
  | 2, hj => simp [five5] at hj; subst hj; simp [Addr.add]
  | 3, hj => simp [five5] at hj; subst hj; simp [Addr.add]
  | 4, hj => simp [five5] at hj; subst hj; simp [Addr.add]
  | j + 5, hj => simp [five5] at hj
theorem five5_one1 (Z : Nat → Nat → Int) (k : Nat) : ∀ u ∈ five5 Z k, u.oneCell' = true := by
  intro u hu; simp [five5] at hu; rcases hu with rfl | rfl | rfl | rfl | rfl <;> rfl

set_option maxHeartbeats 1000000 in
theorem find_yes (z : Int) (a : Option Addr) (b n cap m : Nat) (Z : Nat → Nat → Int) (hn : n ≤ 1048576) (w : World) (hb : n ≠ 0 → b < w.heap.size) (ha : n ≠ 0 → a = some ⟨b, 0, none⟩) (hF : First Z n z m) (hr : ∀ k j, k < n → j < 5 → w.cell? ⟨b, k * 5 + j, none⟩ = some (.int .i64 (Z k j))) :
    Calls Tryz.prog 47 #[.slice a n cap, .int .i64 z] w fun e w' => e = .returned (.tuple #[.agg #[.int .i64 (Z m 0), .int .i64 (Z m 1), .int .i64 (Z m 2), .int .i64 (Z m 3), .int .i64 (Z m 4)], .bool true]) ∧ Below w.heap.size w w' := by
  have HR : Hid (∀ k j, k < n → j < 5 → w.cell? ⟨b, k * 5 + j, none⟩ = some (.int .i64 (Z k j))) := hr
  obtain ⟨hm, hmz, hlt⟩ := hF
  obtain rfl := ha (by omega)
  replace hb := hb (by omega)
  have HM : Hid (Z m 0 = z ∧ ∀ j, j < m → ¬ Z j 0 = z) := ⟨hmz, hlt⟩
  clear hr hmz hlt ha
  go_enter Tryz.func47, Tryz.ntmps47
  go_wp2
  go_loopw [6] (fun i wr => ∃ k : Nat, k ≤ m ∧ i = .int .i64 k ∧ wr = w.alloc (.cells #[.int .i64 0, .int .i64 0, .int .i64 0, .int .i64 0, .int .i64 0] 43)) (fun i _ => n - (intOf i).toNat)
  case atStart => exact ⟨0, Nat.zero_le _, rfl, rfl⟩
  case round =>
    obtain ⟨k, hk, rfl, rfl⟩ := hrel
    have hkn : k < n := by omega
    have c0 : w.cell? ⟨b, k * 5, none⟩ = some (.int .i64 (Z k 0)) := HR.out k 0 hkn (by omega)
    have c1 : w.cell? ⟨b, k * 5 + 1, none⟩ = some (.int .i64 (Z k 1)) := HR.out k 1 hkn (by omega)
    have c2 : w.cell? ⟨b, k * 5 + 2, none⟩ = some (.int .i64 (Z k 2)) := HR.out k 2 hkn (by omega)
    have c3 : w.cell? ⟨b, k * 5 + 3, none⟩ = some (.int .i64 (Z k 3)) := HR.out k 3 hkn (by omega)
    have c4 : w.cell? ⟨b, k * 5 + 4, none⟩ = some (.int .i64 (Z k 4)) := HR.out k 4 hkn (by omega)
    by_cases hkm : k = m
    · have ez : (Z k 0 == z) = true := by rw [hkm]; simp [HM.out.1]
      have HK : Hid (k = m) := hkm
      clear hkm
      go_wp2
      exact bodyPost_ret (v := .tuple #[.agg #[.int .i64 (Z k 0), .int .i64 (Z k 1), .int .i64 (Z k 2), .int .i64 (Z k 3), .int .i64 (Z k 4)], .bool true]) (by simp [results, Tryz.results47, go_sem]) rfl ⟨by rw [HK.out], (Below.refl _ _).alloc (by simp) _⟩
    · have ez : (Z k 0 == z) = false := by simpa using HM.out.2 k (by omega)
      go_wp2
      go_roundw
      case rel => exact ⟨k + 1, by omega, by go_num, by trivial⟩
      case measure => simp [intOf]; omega

set_option maxHeartbeats 1000000 in
theorem find_no (z : Int) (a : Option Addr) (b n cap : Nat) (Z : Nat → Nat → Int) (hn : n ≤ 1048576) (w : World) (hb : n ≠ 0 → b < w.heap.size) (ha : n ≠ 0 → a = some ⟨b, 0, none⟩) (hF : Noone Z n z) (hr : ∀ k j, k < n → j < 5 → w.cell? ⟨b, k * 5 + j, none⟩ = some (.int .i64 (Z k j))) :
    Calls Tryz.prog 47 #[.slice a n cap, .int .i64 z] w fun e w' => e = .returned (.tuple #[.agg #[.int .i64 0, .int .i64 0, .int .i64 0, .int .i64 0, .int .i64 0], .bool false]) ∧ Below w.heap.size w w' := by
  have HR : Hid (∀ k j, k < n → j < 5 → w.cell? ⟨b, k * 5 + j, none⟩ = some (.int .i64 (Z k j))) := hr
  have HA : Hid (n ≠ 0 → a = some ⟨b, 0, none⟩) := ha
  have HB : Hid (n ≠ 0 → b < w.heap.size) := hb
  have HM : Hid (∀ j, j < n → ¬ Z j 0 = z) := hF
  clear hr hF ha hb
  go_enter Tryz.func47, Tryz.ntmps47
  go_wp2
  go_loopw [6] (fun i wr => ∃ k : Nat, k ≤ n ∧ i = .int .i64 k ∧ wr = w.alloc (.cells #[.int .i64 0, .int .i64 0, .int .i64 0, .int .i64 0, .int .i64 0] 43)) (fun i _ => n - (intOf i).toNat)
  case atStart => exact ⟨0, Nat.zero_le _, rfl, rfl⟩
  case round =>
    obtain ⟨k, hk, rfl, rfl⟩ := hrel
    by_cases hkn : k < n
    · have hkn' : (k : Int) < (n : Int) := by omega
      obtain rfl := HA.out (by omega)
      have hb := HB.out (by omega)
      have c0 : w.cell? ⟨b, k * 5, none⟩ = some (.int .i64 (Z k 0)) := HR.out k 0 hkn (by omega)
      have c1 : w.cell? ⟨b, k * 5 + 1, none⟩ = some (.int .i64 (Z k 1)) := HR.out k 1 hkn (by omega)
      have c2 : w.cell? ⟨b, k * 5 + 2, none⟩ = some (.int .i64 (Z k 2)) := HR.out k 2 hkn (by omega)
      have c3 : w.cell? ⟨b, k * 5 + 3, none⟩ = some (.int .i64 (Z k 3)) := HR.out k 3 hkn (by omega)
      have c4 : w.cell? ⟨b, k * 5 + 4, none⟩ = some (.int .i64 (Z k 4)) := HR.out k 4 hkn (by omega)
      have ez : (Z k 0 == z) = false := by simpa using HM.out k hkn
      clear HA
      go_wp2
      go_roundw
      case rel => exact ⟨k + 1, by omega, by go_num, by trivial⟩
      case measure => simp [intOf]; omega
    · clear HA
      go_wp2
      exact bodyPost_ret (v := .tuple #[.agg #[.int .i64 0, .int .i64 0, .int .i64 0, .int .i64 0, .int .i64 0], .bool false]) (by simp [results, Tryz.results47, go_sem]) rfl ⟨rfl, (Below.refl _ _).alloc (by simp) _⟩

theorem range_more (n : Nat) (Z : Nat → Nat → Int) : (List.range (n + 1)).flatMap (five5 Z) = (List.range n).flatMap (five5 Z) ++ five5 Z n := by
  rw [List.range_succ, List.flatMap_append]; simp

set_option maxHeartbeats 1000000 in
set_option maxRecDepth 20000 in
theorem out_all (z : Int) (a : Option Addr) (b n cap : Nat) (Z : Nat → Nat → Int) (hn : n ≤ 1048576) (w : World) (hb : n ≠ 0 → b < w.heap.size) (ha : n ≠ 0 → a = some ⟨b, 0, none⟩) (hF : Noone Z n z) (hr : ∀ k j, k < n → j < 5 → w.cell? ⟨b, k * 5 + j, none⟩ = some (.int .i64 (Z k j))) :
    Calls Tryz.prog 65 #[.slice a n cap, .int .i64 z] w fun e w' => ∃ v, e = .returned v ∧ v ≠ .slice none 0 0 ∧ w'.ownsRow w.heap.size 43 5 v n ((List.range n).flatMap (five5 Z)) ∧ Below w.heap.size w w' := by
  have HR : Hid (∀ k j, k < n → j < 5 → w.cell? ⟨b, k * 5 + j, none⟩ = some (.int .i64 (Z k j))) := hr
  have HA : Hid (n ≠ 0 → a = some ⟨b, 0, none⟩) := ha
  have HB : Hid (n ≠ 0 → b < w.heap.size) := hb
  have HM : Hid (∀ j, j < n → ¬ Z j 0 = z) := hF
  clear hr ha hb hF
  obtain ⟨i5, hi5, hz50, hz51, hz52⟩ := info5
  go_enter Tryz.func65, Tryz.ntmps65
  go_wp2
  go_loopw [5, 6] (fun s i wr => ∃ (k : Nat) (v : Value), k ≤ n ∧ .int .i64 k = i ∧ v = s ∧ v ≠ .slice none 0 0 ∧ wr.ownsRow w.heap.size 43 5 v k ((List.range k).flatMap (five5 Z)) ∧ w.heap.size ≤ wr.heap.size ∧ Below w.heap.size w wr) (fun _ i _ => n - (intOf i).toNat)
  case atStart => exact ⟨0, _, Nat.zero_le _, rfl, rfl, by simp, World.ownsRow_lit w #[] 0 (Nat.le_refl _) (by simp) (by simp), by simp, (Below.refl _ _).alloc (by simp) _⟩
  case round =>
    obtain ⟨k, v, hk, rfl, rfl, hnn, ho, hsz, hbel⟩ := hrel
    by_cases hkn : k < n
    · have hkn' : (k : Int) < (n : Int) := by omega
      obtain rfl := HA.out (by omega)
      have hb := HB.out (by omega)
      have c0 : wr.cell? ⟨b, k * 5, none⟩ = some (.int .i64 (Z k 0)) := (hbel.cell (by exact hb)).trans (HR.out k 0 hkn (by omega))
      have c1 : wr.cell? ⟨b, k * 5 + 1, none⟩ = some (.int .i64 (Z k 1)) := (hbel.cell (by exact hb)).trans (HR.out k 1 hkn (by omega))
      have c2 : wr.cell? ⟨b, k * 5 + 2, none⟩ = some (.int .i64 (Z k 2)) := (hbel.cell (by exact hb)).trans (HR.out k 2 hkn (by omega))
      have c3 : wr.cell? ⟨b, k * 5 + 3, none⟩ = some (.int .i64 (Z k 3)) := (hbel.cell (by exact hb)).trans (HR.out k 3 hkn (by omega))
      have c4 : wr.cell? ⟨b, k * 5 + 4, none⟩ = some (.int .i64 (Z k 4)) := (hbel.cell (by exact hb)).trans (HR.out k 4 hkn (by omega))
      have ez : (Z k 0 == z) = false := by simpa using HM.out k hkn
      have HNN : Hid (v ≠ .slice none 0 0) := hnn
      clear hnn HA HB
      go_wp2_with (at_builtin; refine wpList_append_own _ rfl _ _ 34 rfl w.heap.size 43 i5 (.agg #[.int .i64 0, .int .i64 0, .int .i64 0, .int .i64 0, .int .i64 0]) 5 40 Tryz.underlying34 hi5 hz50 hz51 hz52 rfl (by decide) _ _ _ rfl (ho.alloc _) ⟨wr.heap.size, 0, none⟩ 1 1 (five5 Z k) rfl rfl (five5_box _ Z k 43) (five5_one1 Z k) ?d3 ?d4 ?d5 ?_)
      case d3 => unfold maxLen; omega
      case d4 => omega
      case d5 => simp; omega
      · intro v' w2 hown' hg2 hnil
        have hall := (World.grownBy_alloc wr _ _).trans hg2
        have HO : Hid (w2.ownsRow w.heap.size 43 5 v' (k + 1) ((List.range (k + 1)).flatMap (five5 Z))) := by
          unfold Hid
          rw [range_more]
          exact hown'
        have HNN' : Hid (v' ≠ .slice none 0 0) := hnil
        have hs2 : w.heap.size ≤ w2.heap.size := Nat.le_trans hsz hall.size
        have hb2 : Below w.heap.size w w2 := hbel.grown hall hsz (fun kk e => (ho.lt kk e).1)
        clear hown' hg2 hnil hall ho c0 c1 c2 c3 c4 HNN
        go_wp2
        go_roundw
        case rel => exact ⟨k + 1, _, by omega, by go_num, rfl, HNN'.out, HO.out, hs2, hb2⟩
        case measure => simp [intOf]; omega
    · have hkn' : k = n := by omega
      subst hkn'
      have HO : Hid (wr.ownsRow w.heap.size 43 5 v k ((List.range k).flatMap (five5 Z))) := ho
      have HNN : Hid (v ≠ .slice none 0 0) := hnn
      clear ho hnn HA
      go_wp2
      go_ret
      exact ⟨_, rfl, HNN.out, HO.out, hbel⟩
end Go.Proofs.YtjmjffhommlbnaaGreat
