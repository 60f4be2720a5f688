/- A cell of one's own, changed: the ground, the next number from a side, the walkers; conditions: none beyond those typed. -/
import Derived.Test.YtjmjffhommlbnaaGreatIn5
import Derived.Test.YtjmjffhommlbnaaGreatCAck0
import Derived.BigQuiet
namespace Go.Proofs.YtjmjffhommlbnaaGreat
open Go.RowKit Go.Deep Go.Maps
set_option linter.unusedVariables false

/-- m is the first whose number is z. -/
def First (Z : Nat → Nat → Int) (n : Nat) (z : Int) (m : Nat) : Prop := m < n ∧ Z m 0 = z ∧ ∀ j, j < m → ¬ Z j 0 = z
def Noone (Z : Nat → Nat → Int) (n : Nat) (z : Int) : Prop := ∀ j, j < n → ¬ Z j 0 = z
theorem first_or (Z : Nat → Nat → Int) (z : Int) : ∀ n, Noone Z n z ∨ ∃ m, First Z n z m
  | 0 => .inl (fun j h => absurd h (by omega))
  | n + 1 => by
    rcases first_or Z z n with h | ⟨m, h1, h2, h3⟩
    · by_cases e : Z n 0 = z
      · exact .inr ⟨n, by omega, e, h⟩
      · refine .inl (fun j hj => ?_)
        by_cases hjn : j = n
        · subst hjn; exact e
        · exact h j (by omega)
    · exact .inr ⟨m, by omega, h2, h3⟩
theorem info5 : ∃ i, Tryz.prog.info? 43 = some i ∧ i.zero = some (.agg #[.int .i64 0, .int .i64 0, .int .i64 0, .int .i64 0, .int .i64 0]) ∧ i.size = 5 ∧ i.bytes = 40 := info_parts Tryz.info43
theorem five5_box (w : World) (Z : Nat → Nat → Int) (k : Nat) (t : TypeId) : ∀ j u, (five5 Z k)[j]? = some u → (w.alloc (.cells #[.int .i64 (Z k 0), .int .i64 (Z k 1), .int .i64 (Z k 2), .int .i64 (Z k 3), .int .i64 (Z k 4)] t)).cell? ((⟨w.heap.size, 0, none⟩ : Addr).add j) = some u := by
  intro j u hj
  match j, hj with
  | 0, hj => simp [five5] at hj; subst hj; simp [Addr.add]
  | 1, hj => simp [five5] at hj; subst hj; simp [Addr.add]
  | 2, hj => simp [five5] at hj; subst hj; simp [Addr.add]
  | 3, hj => simp [five5] at hj; subst hj; simp [Addr.add]
  | 4, hj => simp [five5] at hj; subst hj; simp [Addr.add]
  | j + 5, hj => simp [five5] at hj
theorem five5_one1 (Z : Nat → Nat → Int) (k : Nat) : ∀ u ∈ five5 Z k, u.oneCell' = true := by
  intro u hu; simp [five5] at hu; rcases hu with rfl | rfl | rfl | rfl | rfl <;> rfl

set_option maxHeartbeats 1000000 in
theorem find_yes (z : Int) (a : Option Addr) (b n cap m : Nat) (Z : Nat → Nat → Int) (hn : n ≤ 1048576) (w : World) (hb : n ≠ 0 → b < w.heap.size) (ha : n ≠ 0 → a = some ⟨b, 0, none⟩) (hF : First Z n z m) (hr : ∀ k j, k < n → j < 5 → w.cell? ⟨b, k * 5 + j, none⟩ = some (.int .i64 (Z k j))) :
    Calls Tryz.prog 47 #[.slice a n cap, .int .i64 z] w fun e w' => e = .returned (.tuple #[.agg #[.int .i64 (Z m 0), .int .i64 (Z m 1), .int .i64 (Z m 2), .int .i64 (Z m 3), .int .i64 (Z m 4)], .bool true]) ∧ Below w.heap.size w w' := by
  have HR : Hid (∀ k j, k < n → j < 5 → w.cell? ⟨b, k * 5 + j, none⟩ = some (.int .i64 (Z k j))) := hr
  obtain ⟨hm, hmz, hlt⟩ := hF
  obtain rfl := ha (by omega)
  replace hb := hb (by omega)
  have HM : Hid (Z m 0 = z ∧ ∀ j, j < m → ¬ Z j 0 = z) := ⟨hmz, hlt⟩
  clear hr hmz hlt ha
  go_enter Tryz.func47, Tryz.ntmps47
  go_wp2
  go_loopw [6] (fun i wr => ∃ k : Nat, k ≤ m ∧ i = .int .i64 k ∧ wr = w.alloc (.cells #[.int .i64 0, .int .i64 0, .int .i64 0, .int .i64 0, .int .i64 0] 43)) (fun i _ => n - (intOf i).toNat)
  case atStart => exact ⟨0, Nat.zero_le _, rfl, rfl⟩
  case round =>
    obtain ⟨k, hk, rfl, rfl⟩ := hrel
    have hkn : k < n := by omega
    have c0 : w.cell? ⟨b, k * 5, none⟩ = some (.int .i64 (Z k 0)) := HR.out k 0 hkn (by omega)
    have c1 : w.cell? ⟨b, k * 5 + 1, none⟩ = some (.int .i64 (Z k 1)) := HR.out k 1 hkn (by omega)
    have c2 : w.cell? ⟨b, k * 5 + 2, none⟩ = some (.int .i64 (Z k 2)) := HR.out k 2 hkn (by omega)
    have c3 : w.cell? ⟨b, k * 5 + 3, none⟩ = some (.int .i64 (Z k 3)) := HR.out k 3 hkn (by omega)
    have c4 : w.cell? ⟨b, k * 5 + 4, none⟩ = some (.int .i64 (Z k 4)) := HR.out k 4 hkn (by omega)
    by_cases hkm : k = m
    · have ez : (Z k 0 == z) = true := by rw [hkm]; simp [HM.out.1]
      have HK : Hid (k = m) := hkm
      clear hkm
      go_wp2
      exact bodyPost_ret (v := .tuple #[.agg #[.int .i64 (Z k 0), .int .i64 (Z k 1), .int .i64 (Z k 2), .int .i64 (Z k 3), .int .i64 (Z k 4)], .bool true]) (by simp [results, Tryz.results47, go_sem]) rfl ⟨by rw [HK.out], (Below.refl _ _).alloc (by simp) _⟩
    · have ez : (Z k 0 == z) = false := by simpa using HM.out.2 k (by omega)
      go_wp2
      go_roundw
      case rel => exact ⟨k + 1, by omega, by go_num, by trivial⟩
      case measure => simp [intOf]; omega

set_option maxHeartbeats 1000000 in
theorem find_no (z : Int) (a : Option Addr) (b n cap : Nat) (Z : Nat → Nat → Int) (hn : n ≤ 1048576) (w : World) (hb : n ≠ 0 → b < w.heap.size) (ha : n ≠ 0 → a = some ⟨b, 0, none⟩) (hF : Noone Z n z) (hr : ∀ k j, k < n → j < 5 → w.cell? ⟨b, k * 5 + j, none⟩ = some (.int .i64 (Z k j))) :
    Calls Tryz.prog 47 #[.slice a n cap, .int .i64 z] w fun e w' => e = .returned (.tuple #[.agg #[.int .i64 0, .int .i64 0, .int .i64 0, .int .i64 0, .int .i64 0], .bool false]) ∧ Below w.heap.size w w' := by
  have HR : Hid (∀ k j, k < n → j < 5 → w.cell? ⟨b, k * 5 + j, none⟩ = some (.int .i64 (Z k j))) := hr
  have HA : Hid (n ≠ 0 → a = some ⟨b, 0, none⟩) := ha
  have HB : Hid (n ≠ 0 → b < w.heap.size) := hb
  have HM : Hid (∀ j, j < n → ¬ Z j 0 = z) := hF
  clear hr hF ha hb
  go_enter Tryz.func47, Tryz.ntmps47
  go_wp2
  go_loopw [6] (fun i wr => ∃ k : Nat, k ≤ n ∧ i = .int .i64 k ∧ wr = w.alloc (.cells #[.int .i64 0, .int .i64 0, .int .i64 0, .int .i64 0, .int .i64 0] 43)) (fun i _ => n - (intOf i).toNat)
  case atStart => exact ⟨0, Nat.zero_le _, rfl, rfl⟩
  case round =>
    obtain ⟨k, hk, rfl, rfl⟩ := hrel
    by_cases hkn : k < n
    · have hkn' : (k : Int) < (n : Int) := by omega
      obtain rfl := HA.out (by omega)
      have hb := HB.out (by omega)
      have c0 : w.cell? ⟨b, k * 5, none⟩ = some (.int .i64 (Z k 0)) := HR.out k 0 hkn (by omega)
      have c1 : w.cell? ⟨b, k * 5 + 1, none⟩ = some (.int .i64 (Z k 1)) := HR.out k 1 hkn (by omega)
      have c2 : w.cell? ⟨b, k * 5 + 2, none⟩ = some (.int .i64 (Z k 2)) := HR.out k 2 hkn (by omega)
      have c3 : w.cell? ⟨b, k * 5 + 3, none⟩ = some (.int .i64 (Z k 3)) := HR.out k 3 hkn (by omega)
      have c4 : w.cell? ⟨b, k * 5 + 4, none⟩ = some (.int .i64 (Z k 4)) := HR.out k 4 hkn (by omega)
      have ez : (Z k 0 == z) = false := by simpa using HM.out k hkn
      clear HA
      go_wp2
      go_roundw
      case rel => exact ⟨k + 1, by omega, by go_num, by trivial⟩
      case measure => simp [intOf]; omega
    · clear HA
      go_wp2
      exact bodyPost_ret (v := .tuple #[.agg #[.int .i64 0, .int .i64 0, .int .i64 0, .int .i64 0, .int .i64 0], .bool false]) (by simp [results, Tryz.results47, go_sem]) rfl ⟨rfl, (Below.refl _ _).alloc (by simp) _⟩

theorem range_more (n : Nat) (Z : Nat → Nat → Int) : (List.range (n + 1)).flatMap (five5 Z) = (List.range n).flatMap (five5 Z) ++ five5 Z n := by
  rw [List.range_succ, List.flatMap_append]; simp

set_option maxHeartbeats 1000000 in
set_option maxRecDepth 20000 in
theorem out_all (z : Int) (a : Option Addr) (b n cap : Nat) (Z : Nat → Nat → Int) (hn : n ≤ 1048576) (w : World) (hb : n ≠ 0 → b < w.heap.size) (ha : n ≠ 0 → a = some ⟨b, 0, none⟩) (hF : Noone Z n z) (hr : ∀ k j, k < n → j < 5 → w.cell? ⟨b, k * 5 + j, none⟩ = some (.int .i64 (Z k j))) :
    Calls Tryz.prog 65 #[.slice a n cap, .int .i64 z] w fun e w' => ∃ v, e = .returned v ∧ v ≠ .slice none 0 0 ∧ w'.ownsRow w.heap.size 43 5 v n ((List.range n).flatMap (five5 Z)) ∧ Below w.heap.size w w' := by
  have HR : Hid (∀ k j, k < n → j < 5 → w.cell? ⟨b, k * 5 + j, none⟩ = some (.int .i64 (Z k j))) := hr
  have HA : Hid (n ≠ 0 → a = some ⟨b, 0, none⟩) := ha
  have HB : Hid (n ≠ 0 → b < w.heap.size) := hb
  have HM : Hid (∀ j, j < n → ¬ Z j 0 = z) := hF
  clear hr ha hb hF
  obtain ⟨i5, hi5, hz50, hz51, hz52⟩ := info5
  go_enter Tryz.func65, Tryz.ntmps65
  go_wp2
  go_loopw [5, 6] (fun s i wr => ∃ (k : Nat) (v : Value), k ≤ n ∧ .int .i64 k = i ∧ v = s ∧ v ≠ .slice none 0 0 ∧ wr.ownsRow w.heap.size 43 5 v k ((List.range k).flatMap (five5 Z)) ∧ w.heap.size ≤ wr.heap.size ∧ Below w.heap.size w wr) (fun _ i _ => n - (intOf i).toNat)
  case atStart => exact ⟨0, _, Nat.zero_le _, rfl, rfl, by simp, World.ownsRow_lit w #[] 0 (Nat.le_refl _) (by simp) (by simp), by simp, (Below.refl _ _).alloc (by simp) _⟩
  case round =>
    obtain ⟨k, v, hk, rfl, rfl, hnn, ho, hsz, hbel⟩ := hrel
    by_cases hkn : k < n
    · have hkn' : (k : Int) < (n : Int) := by omega
      obtain rfl := HA.out (by omega)
      have hb := HB.out (by omega)
      have c0 : wr.cell? ⟨b, k * 5, none⟩ = some (.int .i64 (Z k 0)) := (hbel.cell (by exact hb)).trans (HR.out k 0 hkn (by omega))
      have c1 : wr.cell? ⟨b, k * 5 + 1, none⟩ = some (.int .i64 (Z k 1)) := (hbel.cell (by exact hb)).trans (HR.out k 1 hkn (by omega))
      have c2 : wr.cell? ⟨b, k * 5 + 2, none⟩ = some (.int .i64 (Z k 2)) := (hbel.cell (by exact hb)).trans (HR.out k 2 hkn (by omega))
      have c3 : wr.cell? ⟨b, k * 5 + 3, none⟩ = some (.int .i64 (Z k 3)) := (hbel.cell (by exact hb)).trans (HR.out k 3 hkn (by omega))
      have c4 : wr.cell? ⟨b, k * 5 + 4, none⟩ = some (.int .i64 (Z k 4)) := (hbel.cell (by exact hb)).trans (HR.out k 4 hkn (by omega))
      have ez : (Z k 0 == z) = false := by simpa using HM.out k hkn
      have HNN : Hid (v ≠ .slice none 0 0) := hnn
      clear hnn HA HB
      go_wp2_with (at_builtin; refine wpList_append_own _ rfl _ _ 34 rfl w.heap.size 43 i5 (.agg #[.int .i64 0, .int .i64 0, .int .i64 0, .int .i64 0, .int .i64 0]) 5 40 Tryz.underlying34 hi5 hz50 hz51 hz52 rfl (by decide) _ _ _ rfl (ho.alloc _) ⟨wr.heap.size, 0, none⟩ 1 1 (five5 Z k) rfl rfl (five5_box _ Z k 43) (five5_one1 Z k) ?d3 ?d4 ?d5 ?_)
      case d3 => unfold maxLen; omega
      case d4 => omega
      case d5 => simp; omega
      · intro v' w2 hown' hg2 hnil
        have hall := (World.grownBy_alloc wr _ _).trans hg2
        have HO : Hid (w2.ownsRow w.heap.size 43 5 v' (k + 1) ((List.range (k + 1)).flatMap (five5 Z))) := by
          unfold Hid
          rw [range_more]
          exact hown'
        have HNN' : Hid (v' ≠ .slice none 0 0) := hnil
        have hs2 : w.heap.size ≤ w2.heap.size := Nat.le_trans hsz hall.size
        have hb2 : Below w.heap.size w w2 := hbel.grown hall hsz (fun kk e => (ho.lt kk e).1)
        clear hown' hg2 hnil hall ho c0 c1 c2 c3 c4 HNN
        go_wp2
        go_roundw
        case rel => exact ⟨k + 1, _, by omega, by go_num, rfl, HNN'.out, HO.out, hs2, hb2⟩
        case measure => simp [intOf]; omega
    · have hkn' : k = n := by omega
      subst hkn'
      have HO : Hid (wr.ownsRow w.heap.size 43 5 v k ((List.range k).flatMap (five5 Z))) := ho
      have HNN : Hid (v ≠ .slice none 0 0) := hnn
      clear ho hnn HA
      go_wp2
      go_ret
      exact ⟨_, rfl, HNN.out, HO.out, hbel⟩
end Go.Proofs.YtjmjffhommlbnaaGreat
namespace Go.Proofs.YtjmjffhommlbnaaGreat
open Go.RowKit Go.Deep Go.Maps
set_option linter.unusedVariables false

theorem ownsRow_base {w : World} {base base' : Nat} {e : TypeId} {size : Nat} {v : Value} {n : Nat} {xs : List Value} (h : w.ownsRow base e size v n xs) (hb : base' ≤ base) : w.ownsRow base' e size v n xs := by
  refine ⟨h.1, ?_⟩
  rcases h.2 with h | ⟨g, cap, cur, hv, hg, r⟩
  · exact .inl h
  · exact .inr ⟨g, cap, cur, hv, Nat.le_trans hb hg, r⟩
/-- How many stand in the new list behind k rounds. -/
def upto (p k : Nat) : Nat := if p < k then k + 1 else k
theorem upto_le (p k : Nat) : upto p k ≤ k + 1 := by unfold upto; split <;> omega
theorem five5_eq {Z Y : Nat → Nat → Int} {i j : Nat} (h : Z i = Y j) : five5 Z i = five5 Y j := by simp [five5, h]
theorem upto_lt {Z : Nat → Nat → Int} {n k : Nat} {Zp : Nat → Int} (h : k < posW Z (Zp 0) n) : upto (posW Z (Zp 0) n) (k + 1) = upto (posW Z (Zp 0) n) k + 1 ∧ (List.range (upto (posW Z (Zp 0) n) k + 1)).flatMap (five5 (insW Z n (Zp 0) Zp)) = (List.range (upto (posW Z (Zp 0) n) k)).flatMap (five5 (insW Z n (Zp 0) Zp)) ++ five5 Z k := by
  have e : upto (posW Z (Zp 0) n) k = k := if_neg (by omega)
  have e2 : upto (posW Z (Zp 0) n) (k + 1) = k + 1 := if_neg (by omega)
  rw [e, e2, range_more]
  exact ⟨rfl, by rw [five5_eq (show (insW Z n (Zp 0) Zp) k = Z k from if_pos h)]⟩
theorem upto_gt {Z : Nat → Nat → Int} {n k : Nat} {Zp : Nat → Int} (h : posW Z (Zp 0) n < k) : upto (posW Z (Zp 0) n) (k + 1) = upto (posW Z (Zp 0) n) k + 1 ∧ (List.range (upto (posW Z (Zp 0) n) k + 1)).flatMap (five5 (insW Z n (Zp 0) Zp)) = (List.range (upto (posW Z (Zp 0) n) k)).flatMap (five5 (insW Z n (Zp 0) Zp)) ++ five5 Z k := by
  have e : upto (posW Z (Zp 0) n) k = k + 1 := if_pos h
  have e2 : upto (posW Z (Zp 0) n) (k + 1) = k + 1 + 1 := if_pos (by omega)
  rw [e, e2, range_more]
  refine ⟨rfl, ?_⟩
  rw [five5_eq (Z := (insW Z n (Zp 0) Zp)) (Y := Z) (i := k + 1) (j := k) ?_]
  unfold insW
  rw [if_neg (by omega), if_neg (by omega)]; rfl
theorem upto_eq {Z : Nat → Nat → Int} {n k : Nat} {Zp : Nat → Int} (h : k = posW Z (Zp 0) n) : upto (posW Z (Zp 0) n) (k + 1) = upto (posW Z (Zp 0) n) k + 1 + 1 ∧ (List.range (upto (posW Z (Zp 0) n) k + 1 + 1)).flatMap (five5 (insW Z n (Zp 0) Zp)) = (List.range (upto (posW Z (Zp 0) n) k)).flatMap (five5 (insW Z n (Zp 0) Zp)) ++ five5 (fun _ => Zp) 0 ++ five5 Z k := by
  have e : upto (posW Z (Zp 0) n) k = k := if_neg (by omega)
  have e2 : upto (posW Z (Zp 0) n) (k + 1) = k + 1 + 1 := if_pos (by omega)
  rw [e, e2, range_more, range_more]
  refine ⟨rfl, ?_⟩
  rw [five5_eq (Y := Z) (j := k) (show (insW Z n (Zp 0) Zp) (k + 1) = Z k from ?_), five5_eq (Z := (insW Z n (Zp 0) Zp)) (Y := fun _ => Zp) (i := k) (j := 0) ?_]
  · unfold insW
    rw [if_neg (by omega), if_pos h]
  · unfold insW
    rw [if_neg (by omega), if_neg (by omega)]; rfl
theorem upto_end {Z : Nat → Nat → Int} {n : Nat} {Zp : Nat → Int} (h : ¬ posW Z (Zp 0) n < n) : upto (posW Z (Zp 0) n) n = n ∧ (List.range (n + 1)).flatMap (five5 (insW Z n (Zp 0) Zp)) = (List.range n).flatMap (five5 (insW Z n (Zp 0) Zp)) ++ five5 (fun _ => Zp) 0 := by
  have hl := posW_le Z (Zp 0) n
  refine ⟨if_neg h, ?_⟩
  rw [range_more, five5_eq (Z := (insW Z n (Zp 0) Zp)) (Y := fun _ => Zp) (i := n) (j := 0) ?_]
  unfold insW
  rw [if_neg (by omega), if_pos (by omega)]

set_option maxRecDepth 20000 in
set_option maxHeartbeats 4000000 in
theorem put_new (a : Option Addr) (b n cap : Nat) (Z : Nat → Nat → Int) (Zp : Nat → Int) (hn : n + 1 ≤ 1048576) (w : World) (hb : n ≠ 0 → b < w.heap.size) (ha : n ≠ 0 → a = some ⟨b, 0, none⟩) (hup : ∀ i j, i < j → j < n → Z i 0 < Z j 0) (hF : Noone Z n (Zp 0)) (hr : ∀ k j, k < n → j < 5 → w.cell? ⟨b, k * 5 + j, none⟩ = some (.int .i64 (Z k j))) :
    Calls Tryz.prog 48 #[.slice a n cap, .agg #[.int .i64 (Zp 0), .int .i64 (Zp 1), .int .i64 (Zp 2), .int .i64 (Zp 3), .int .i64 (Zp 4)]] w fun e w' => ∃ v, e = .returned v ∧ w'.ownsRow w.heap.size 43 5 v (n + 1) ((List.range (n + 1)).flatMap (five5 (insW Z n (Zp 0) Zp))) ∧ Below w.heap.size w w' := by
  obtain ⟨i5, hi5, hz50, hz51, hz52⟩ := info5
  have HB0 : Hid (∀ o : Obj, Below w.heap.size w (w.alloc o)) := fun o => (Below.refl _ _).alloc (Nat.le_refl _) o
  have HC : Hid (∀ ob : Obj, Calls Tryz.prog 65 #[.slice a n cap, .int .i64 (Zp 0)] (w.alloc ob) fun e w' => ∃ v, e = .returned v ∧ v ≠ .slice none 0 0 ∧ w'.ownsRow (w.alloc ob).heap.size 43 5 v n ((List.range n).flatMap (five5 Z)) ∧ Below (w.alloc ob).heap.size (w.alloc ob) w') := fun ob =>
    out_all (Zp 0) a b n cap Z (by omega) (w.alloc ob) (fun h => by have := hb h; simp; omega) ha hF (fun k j h1 h2 => ((HB0.out ob).cell (p := ⟨b, _, none⟩) (hb (by omega))).trans (hr k j h1 h2))
  have HLO : Hid (∀ k, k < posW Z (Zp 0) n → decide (Zp 0 < Z k 0) = false) := fun k hk => decide_eq_false (by have := posW_lt Z (Zp 0) n hup k hk; omega)
  have HHI : Hid (∀ k, posW Z (Zp 0) n = k → k < n → decide (Zp 0 < Z k 0) = true) := fun k h1 h2 => decide_eq_true (by have := posW_ge Z (Zp 0) n k (by omega) h2; have := hF k h2; omega)
  have HPL : Hid (posW Z (Zp 0) n ≤ n) := posW_le Z (Zp 0) n
  clear hr hb ha hup hF
  go_enter Tryz.func48, Tryz.ntmps48
  go_wp2_with fail
  refine (HC.out _).mono ?_
  rintro e w1 ⟨v, rfl, hnv, hW, hb1⟩
  have HX : Hid (∀ j, j < 5 → w1.cell? ⟨w.heap.size, j, none⟩ = some (.int .i64 (Zp j))) := fun j hj => (hb1.cell (p := ⟨w.heap.size, j, none⟩) (by simp)).trans (by
    have : j = 0 ∨ j = 1 ∨ j = 2 ∨ j = 3 ∨ j = 4 := by omega
    rcases this with rfl | rfl | rfl | rfl | rfl <;> simp)
  have hs1 : w.heap.size < w1.heap.size := by have := hb1.size; simp at this; omega
  have B1 : Below w.heap.size w w1 := (HB0.out _).trans (hb1.mono (by simp))
  obtain ⟨g, hRW, _⟩ := rw_of_own hW
  obtain ⟨g0, c, hv⟩ : ∃ g0 c, v = .slice (some g0) n c := by
    rcases hRW with ⟨rfl, a, c, rfl⟩ | ⟨c, rfl, _⟩
    · rcases hW.2 with ⟨e, _⟩ | ⟨g, c, _, e, _⟩
      · exact absurd e hnv
      · exact ⟨_, _, e⟩
    · exact ⟨_, _, rfl⟩
  subst hv
  have HR : Hid (∀ k j, k < n → j < 5 → g0 = ⟨g, 0, none⟩ ∧ g < w1.heap.size ∧ w1.cell? ⟨g, k * 5 + j, none⟩ = some (.int .i64 (Z k j))) := fun k j hk hj => by
    rcases hRW with ⟨e, _⟩ | ⟨c', e, _, h2, h3, h4⟩
    · omega
    · simp only [Value.slice.injEq, Option.some.injEq, true_and] at e
      exact ⟨e.1, by omega, h4.2 k j hk hj⟩
  clear hW hb1 HC HB0 hRW hnv
  go_wp2
  go_loopw [6, 7, 8] (fun s d i wr => ∃ (k : Nat) (v : Value), k ≤ n ∧ .int .i64 k = i ∧ v = s ∧ .bool (decide (posW Z (Zp 0) n < k)) = d ∧ v ≠ .slice none 0 0 ∧ wr.ownsRow w1.heap.size 43 5 v (upto (posW Z (Zp 0) n) k) ((List.range (upto (posW Z (Zp 0) n) k)).flatMap (five5 (insW Z n (Zp 0) Zp))) ∧ w1.heap.size ≤ wr.heap.size ∧ Below w1.heap.size w1 wr) (fun _ _ i _ => n - (intOf i).toNat)
  case atStart => exact ⟨0, _, Nat.zero_le _, rfl, rfl, by simp, by simp, World.ownsRow_lit w1 #[] 0 (Nat.le_refl _) (by simp) (by simp), by simp, (Below.refl _ _).alloc (by simp) _⟩
  case round =>
    obtain ⟨k, v, hk, rfl, rfl, rfl, hnn, ho, hsz, hbel⟩ := hrel
    have x0 : wr.cell? ⟨w.heap.size, 0, none⟩ = some (.int .i64 (Zp 0)) := (hbel.cell (by exact hs1)).trans <| HX.out 0 (by omega)
    have x1 : wr.cell? ⟨w.heap.size, 1, none⟩ = some (.int .i64 (Zp 1)) := (hbel.cell (by exact hs1)).trans <| HX.out 1 (by omega)
    have x2 : wr.cell? ⟨w.heap.size, 2, none⟩ = some (.int .i64 (Zp 2)) := (hbel.cell (by exact hs1)).trans <| HX.out 2 (by omega)
    have x3 : wr.cell? ⟨w.heap.size, 3, none⟩ = some (.int .i64 (Zp 3)) := (hbel.cell (by exact hs1)).trans <| HX.out 3 (by omega)
    have x4 : wr.cell? ⟨w.heap.size, 4, none⟩ = some (.int .i64 (Zp 4)) := (hbel.cell (by exact hs1)).trans <| HX.out 4 (by omega)
    have HNN : Hid (v ≠ .slice none 0 0) := hnn
    have HPN : Hid (upto (posW Z (Zp 0) n) k ≤ k + 1) := upto_le _ k
    clear hnn
    by_cases hkn : k < n
    · have hkn' : (k : Int) < (n : Int) := by omega
      obtain ⟨rfl, hgl, _⟩ := HR.out k 0 hkn (by omega)
      have c0 : wr.cell? ⟨g, k * 5, none⟩ = some (.int .i64 (Z k 0)) := (hbel.cell (by exact hgl)).trans (HR.out k 0 hkn (by omega)).2.2
      have c1 : wr.cell? ⟨g, k * 5 + 1, none⟩ = some (.int .i64 (Z k 1)) := (hbel.cell (by exact hgl)).trans (HR.out k 1 hkn (by omega)).2.2
      have c2 : wr.cell? ⟨g, k * 5 + 2, none⟩ = some (.int .i64 (Z k 2)) := (hbel.cell (by exact hgl)).trans (HR.out k 2 hkn (by omega)).2.2
      have c3 : wr.cell? ⟨g, k * 5 + 3, none⟩ = some (.int .i64 (Z k 3)) := (hbel.cell (by exact hgl)).trans (HR.out k 3 hkn (by omega)).2.2
      have c4 : wr.cell? ⟨g, k * 5 + 4, none⟩ = some (.int .i64 (Z k 4)) := (hbel.cell (by exact hgl)).trans (HR.out k 4 hkn (by omega)).2.2
      rcases Nat.lt_trichotomy k (posW Z (Zp 0) n) with hlt | heq | hgt
      · have hd : decide (posW Z (Zp 0) n < k) = false := decide_eq_false (by omega)
        have hd2 : decide (Zp 0 < Z k 0) = false := HLO.out k hlt
        rw [hd]
        have HLT : Hid (k < posW Z (Zp 0) n) := hlt
        clear hlt hd
        go_wp2_with fail
        go_quiet (fail)
        go_wp2_with (at_builtin; refine wpList_append_own _ rfl _ _ 34 rfl w1.heap.size 43 i5 (.agg #[.int .i64 0, .int .i64 0, .int .i64 0, .int .i64 0, .int .i64 0]) 5 40 Tryz.underlying34 hi5 hz50 hz51 hz52 rfl (by decide) _ _ _ rfl (ho.alloc _) ⟨wr.heap.size, 0, none⟩ 1 1 (five5 Z k) rfl rfl (five5_box _ Z k 43) (five5_one1 Z k) ?d3 ?d4 ?d5 ?_)
        case d3 => have := HPN.out; unfold maxLen; omega
        case d4 => have := HPN.out; omega
        case d5 => simp; omega
        · intro v' w2 hown' hg2 hnil
          have hall0 := (World.grownBy_alloc (wr.drewN nq) _ _).trans hg2
          have hall : wr.grownBy w2 v.ownBlock := ⟨hall0.os, hall0.tape, hall0.output, hall0.size, hall0.block⟩
          clear hall0
          have HO : Hid (w2.ownsRow w1.heap.size 43 5 v' (upto (posW Z (Zp 0) n) (k + 1)) ((List.range (upto (posW Z (Zp 0) n) (k + 1))).flatMap (five5 (insW Z n (Zp 0) Zp)))) := by
            unfold Hid
            rw [(upto_lt HLT.out).1, (upto_lt HLT.out).2]
            exact hown'
          have HNN' : Hid (v' ≠ .slice none 0 0) := by
            intro e
            have h0 := HNN.out
            simp [e] at hnil
          have hs2 : w1.heap.size ≤ w2.heap.size := Nat.le_trans hsz hall.size
          have hb2 : Below w1.heap.size w1 w2 := hbel.grown hall hsz (fun kk e => (ho.lt kk e).1)
          clear hown' hg2 hnil hall ho c0 c1 c2 c3 c4 HNN x0 x1 x2 x3 x4
          go_wp2
          go_roundw
          case rel => exact ⟨k + 1, _, by omega, by go_num, rfl, by have := HLT.out; rw [decide_eq_false (by omega)], HNN'.out, HO.out, hs2, hb2⟩
          case measure => simp [intOf]; omega
      · have hd : decide (posW Z (Zp 0) n < k) = false := decide_eq_false (by omega)
        have hd2 : decide (Zp 0 < Z k 0) = true := HHI.out k heq.symm hkn
        rw [hd]
        have HEQ : Hid (k = posW Z (Zp 0) n) := heq
        clear heq hd
        go_wp2_with fail
        go_quiet (fail)
        go_wp2_with (at_builtin; refine wpList_append_own _ rfl _ _ 34 rfl w1.heap.size 43 i5 (.agg #[.int .i64 0, .int .i64 0, .int .i64 0, .int .i64 0, .int .i64 0]) 5 40 Tryz.underlying34 hi5 hz50 hz51 hz52 rfl (by decide) _ _ _ rfl (ho.alloc _) ⟨wr.heap.size, 0, none⟩ 1 1 (five5 (fun _ => Zp) 0) rfl rfl (five5_box _ (fun _ => Zp) 0 43) (five5_one1 (fun _ => Zp) 0) ?d3 ?d4 ?d5 ?_)
        case d3 => have := HPN.out; unfold maxLen; omega
        case d4 => have := HPN.out; omega
        case d5 => simp; omega
        · intro v1 w2 hown' hg2 hnil
          have hall0 := (World.grownBy_alloc (wr.drewN nq) _ _).trans hg2
          have hall : wr.grownBy w2 v.ownBlock := ⟨hall0.os, hall0.tape, hall0.output, hall0.size, hall0.block⟩
          clear hall0
          have HO1 : w2.ownsRow w1.heap.size 43 5 v1 (upto (posW Z (Zp 0) n) k + 1) ((List.range (upto (posW Z (Zp 0) n) k)).flatMap (five5 (insW Z n (Zp 0) Zp)) ++ five5 (fun _ => Zp) 0) := hown'
          have HNN1 : Hid (v1 ≠ .slice none 0 0) := by
            intro e
            have h0 := HNN.out
            simp [e] at hnil
          have hs2 : w1.heap.size ≤ w2.heap.size := Nat.le_trans hsz hall.size
          have hb2 : Below w1.heap.size w1 w2 := hbel.grown hall hsz (fun kk e => (ho.lt kk e).1)
          clear c0 c1 c2 c3 c4
          have c0 : w2.cell? ⟨g, k * 5, none⟩ = some (.int .i64 (Z k 0)) := (hb2.cell (by exact hgl)).trans (HR.out k 0 hkn (by omega)).2.2
          have c1 : w2.cell? ⟨g, k * 5 + 1, none⟩ = some (.int .i64 (Z k 1)) := (hb2.cell (by exact hgl)).trans (HR.out k 1 hkn (by omega)).2.2
          have c2 : w2.cell? ⟨g, k * 5 + 2, none⟩ = some (.int .i64 (Z k 2)) := (hb2.cell (by exact hgl)).trans (HR.out k 2 hkn (by omega)).2.2
          have c3 : w2.cell? ⟨g, k * 5 + 3, none⟩ = some (.int .i64 (Z k 3)) := (hb2.cell (by exact hgl)).trans (HR.out k 3 hkn (by omega)).2.2
          have c4 : w2.cell? ⟨g, k * 5 + 4, none⟩ = some (.int .i64 (Z k 4)) := (hb2.cell (by exact hgl)).trans (HR.out k 4 hkn (by omega)).2.2
          clear hown' hg2 hnil hall ho HNN x0 x1 x2 x3 x4 hbel hsz hd2
          go_wp2_with (at_builtin; refine wpList_append_own _ rfl _ _ 34 rfl w1.heap.size 43 i5 (.agg #[.int .i64 0, .int .i64 0, .int .i64 0, .int .i64 0, .int .i64 0]) 5 40 Tryz.underlying34 hi5 hz50 hz51 hz52 rfl (by decide) _ _ _ rfl (HO1.alloc _) ⟨w2.heap.size, 0, none⟩ 1 1 (five5 Z k) rfl rfl (five5_box _ Z k 43) (five5_one1 Z k) ?d3 ?d4 ?d5 ?_)
          case d3 => have := HPN.out; unfold maxLen; omega
          case d4 => have := HPN.out; omega
          case d5 => simp; omega
          · intro v' w3 hown' hg3 hnil
            have hall := (World.grownBy_alloc w2 _ _).trans hg3
            have HO : Hid (w3.ownsRow w1.heap.size 43 5 v' (upto (posW Z (Zp 0) n) (k + 1)) ((List.range (upto (posW Z (Zp 0) n) (k + 1))).flatMap (five5 (insW Z n (Zp 0) Zp)))) := by
              unfold Hid
              rw [(upto_eq HEQ.out).1, (upto_eq HEQ.out).2, List.append_assoc]
              exact hown'
            have HNN' : Hid (v' ≠ .slice none 0 0) := by
              intro e
              have h0 := HNN1.out
              simp [e] at hnil
            have hs3 : w1.heap.size ≤ w3.heap.size := Nat.le_trans hs2 hall.size
            have hb3 : Below w1.heap.size w1 w3 := hb2.grown hall hs2 (fun kk e => (HO1.lt kk e).1)
            clear hown' hg3 hnil hall HO1 c0 c1 c2 c3 c4 HNN1
            go_wp2
            go_roundw
            case rel => exact ⟨k + 1, _, by omega, by go_num, rfl, by have := HEQ.out; rw [decide_eq_true (by omega)], HNN'.out, HO.out, hs3, hb3⟩
            case measure => simp [intOf]; omega
      · have hd : decide (posW Z (Zp 0) n < k) = true := decide_eq_true hgt
        rw [hd]
        have HGT : Hid (posW Z (Zp 0) n < k) := hgt
        clear hgt hd
        go_wp2_with fail
        go_quiet (fail)
        go_wp2_with (at_builtin; refine wpList_append_own _ rfl _ _ 34 rfl w1.heap.size 43 i5 (.agg #[.int .i64 0, .int .i64 0, .int .i64 0, .int .i64 0, .int .i64 0]) 5 40 Tryz.underlying34 hi5 hz50 hz51 hz52 rfl (by decide) _ _ _ rfl (ho.alloc _) ⟨wr.heap.size, 0, none⟩ 1 1 (five5 Z k) rfl rfl (five5_box _ Z k 43) (five5_one1 Z k) ?d3 ?d4 ?d5 ?_)
        case d3 => have := HPN.out; unfold maxLen; omega
        case d4 => have := HPN.out; omega
        case d5 => simp; omega
        · intro v' w2 hown' hg2 hnil
          have hall0 := (World.grownBy_alloc (wr.drewN nq) _ _).trans hg2
          have hall : wr.grownBy w2 v.ownBlock := ⟨hall0.os, hall0.tape, hall0.output, hall0.size, hall0.block⟩
          clear hall0
          have HO : Hid (w2.ownsRow w1.heap.size 43 5 v' (upto (posW Z (Zp 0) n) (k + 1)) ((List.range (upto (posW Z (Zp 0) n) (k + 1))).flatMap (five5 (insW Z n (Zp 0) Zp)))) := by
            unfold Hid
            rw [(upto_gt HGT.out).1, (upto_gt HGT.out).2]
            exact hown'
          have HNN' : Hid (v' ≠ .slice none 0 0) := by
            intro e
            have h0 := HNN.out
            simp [e] at hnil
          have hs2 : w1.heap.size ≤ w2.heap.size := Nat.le_trans hsz hall.size
          have hb2 : Below w1.heap.size w1 w2 := hbel.grown hall hsz (fun kk e => (ho.lt kk e).1)
          clear hown' hg2 hnil hall ho c0 c1 c2 c3 c4 HNN x0 x1 x2 x3 x4
          go_wp2
          go_roundw
          case rel => exact ⟨k + 1, _, by omega, by go_num, rfl, by have := HGT.out; rw [decide_eq_true (by omega)], HNN'.out, HO.out, hs2, hb2⟩
          case measure => simp [intOf]; omega
    · have hkn' : k = n := by omega
      subst hkn'
      by_cases hsp : posW Z (Zp 0) k < k
      · have hd : decide (posW Z (Zp 0) k < k) = true := decide_eq_true hsp
        rw [hd]
        have HW : Hid (wr.ownsRow w.heap.size 43 5 v (k + 1) ((List.range (k + 1)).flatMap (five5 (insW Z k (Zp 0) Zp)))) := by
          have e : upto (posW Z (Zp 0) k) k = k + 1 := if_pos hsp
          rw [e] at ho
          exact ownsRow_base ho (Nat.le_of_lt hs1)
        have hbb : Below w.heap.size w wr := B1.trans (hbel.mono (Nat.le_of_lt hs1))
        clear ho hsp hd
        go_wp2
        go_ret
        exact ⟨_, rfl, HW.out, hbb⟩
      · have hd : decide (posW Z (Zp 0) k < k) = false := decide_eq_false hsp
        rw [hd]
        have HSP : Hid (¬ posW Z (Zp 0) k < k) := hsp
        rw [(upto_end hsp).1] at ho
        clear hsp hd
        go_wp2_with (at_builtin; refine wpList_append_own _ rfl _ _ 34 rfl w1.heap.size 43 i5 (.agg #[.int .i64 0, .int .i64 0, .int .i64 0, .int .i64 0, .int .i64 0]) 5 40 Tryz.underlying34 hi5 hz50 hz51 hz52 rfl (by decide) _ _ _ rfl (ho.alloc _) ⟨wr.heap.size, 0, none⟩ 1 1 (five5 (fun _ => Zp) 0) rfl rfl (five5_box _ (fun _ => Zp) 0 43) (five5_one1 (fun _ => Zp) 0) ?d3 ?d4 ?d5 ?_)
        case d3 => unfold maxLen; omega
        case d4 => omega
        case d5 => simp; omega
        · intro v' w2 hown' hg2 hnil
          have hall := (World.grownBy_alloc wr _ _).trans hg2
          have HW : Hid (w2.ownsRow w.heap.size 43 5 v' (k + 1) ((List.range (k + 1)).flatMap (five5 (insW Z k (Zp 0) Zp)))) := by
            rw [(upto_end HSP.out).2]
            exact ownsRow_base hown' (Nat.le_of_lt hs1)
          have hb2 : Below w1.heap.size w1 w2 := hbel.grown hall hsz (fun kk e => (ho.lt kk e).1)
          have hbb : Below w.heap.size w w2 := B1.trans (hb2.mono (Nat.le_of_lt hs1))
          clear hown' hg2 hnil hall ho HNN x0 x1 x2 x3 x4
          go_wp2
          go_ret
          exact ⟨_, rfl, HW.out, hbb⟩
end Go.Proofs.YtjmjffhommlbnaaGreat
namespace Go.Proofs.YtjmjffhommlbnaaGreat
open Go.RowKit Go.Deep
set_option linter.unusedVariables false

theorem OwnC.more {lo lo' hi hi' : Nat} {w w' : World} {v : Value} {V : CV} (h : OwnC lo hi w v V) (h0 : lo' ≤ lo) (h1 : hi ≤ hi') (h2 : hi' ≤ w'.heap.size) (k : ∀ b, lo ≤ b → b < hi → Sm w w' b) : OwnC lo' hi' w' v V := by
  obtain ⟨vW, vO, vX, vI, gW, gO, gX, gI, sl, xs, e, rW, rO, rX, rI, hd, hx1, hx2⟩ := h
  refine ⟨vW, vO, vX, vI, gW, gO, gX, gI, sl, xs, e, rW.go h0 h1 h2 (fun _ => k _), ?_, rX.go h0 h1 h2 (fun _ => k _), rI.go h0 h1 h2 (fun _ => k _), hd, hx1, hx2⟩
  rcases rO with r | ⟨co, e1, l1, l2, l3, hc⟩
  · exact .inl r
  · exact .inr ⟨co, e1, by omega, by omega, h2, fun j hj => ⟨(k gO l1 l2 j).1.trans (hc j hj).1, (hc j hj).2.go h0 h1 h2 (fun _ => k _)⟩⟩
theorem OwnC.gr {lo hi : Nat} {w : World} {x0 x1 x2 x3 x4 x5 : Value} {V : CV} (h : OwnC lo hi w (.agg #[x0, x1, x2, x3, x4, x5]) V) (z : Int) : OwnC lo hi w (.agg #[.int .i64 V.c, x1, .int .i64 z, x3, x4, x5]) { V with g := z } := by
  obtain ⟨vW, vO, vX, vI, gW, gO, gX, gI, sl, xs, e, rW, rO, rX, rI, hd, hx1, hx2⟩ := h
  obtain ⟨rfl, rfl, rfl, rfl⟩ := agg6 e
  exact ⟨_, _, _, _, gW, gO, gX, gI, sl, xs, rfl, rW, rO, rX, rI, hd, hx1, hx2⟩
theorem OwnC.ins {lo hi : Nat} {w : World} {x0 x1 x2 x3 x4 : Value} {aI : Option Addr} {kI q : Nat} {V : CV} (h : OwnC lo hi w (.agg #[x0, x1, x2, x3, x4, .slice aI V.nI kI]) V) (hq : q < V.nI) :
    ∃ gI, aI = some ⟨gI, 0, none⟩ ∧ lo ≤ gI ∧ gI < hi ∧ hi ≤ w.heap.size ∧ w.cell? ⟨gI, q, none⟩ = some (.int .i64 (V.I q)) ∧ w.frozen? ⟨gI, q, none⟩ = false ∧ ∀ z, OwnC lo hi (w.setCell ⟨gI, q, none⟩ (.int .i64 z)) (.agg #[x0, x1, x2, x3, x4, .slice aI V.nI kI]) { V with I := updI V.I q z } := by
  obtain ⟨vW, vO, vX, vI, gW, gO, gX, gI, sl, xs, e, rW, rO, rX, rI, ⟨d1, d2, d3, d4, d5, d6⟩, hx1, hx2⟩ := h
  have e' := e
  obtain ⟨rfl, rfl, rfl, rfl⟩ := agg6 e
  rcases rI with ⟨e, _⟩ | ⟨cI, eI, i1, i2, i3, i4⟩
  · omega
  simp only [Value.slice.injEq, true_and] at eI
  obtain ⟨rfl, rfl⟩ := eI
  refine ⟨gI, rfl, i1, i2, i3, i4.2 q hq, (i4.1 q hq).2, fun z => ?_⟩
  have hz : hi ≤ (w.setCell ⟨gI, q, none⟩ (.int .i64 z)).heap.size := by rw [set_size]; exact i3
  have k : ∀ g, ¬ g = gI → Sm w (w.setCell ⟨gI, q, none⟩ (.int .i64 z)) g := fun g hg => sm_set hg
  refine ⟨_, _, _, _, gW, gO, gX, gI, sl, xs, e', rW.go (Nat.le_refl _) (Nat.le_refl _) hz (fun _ _ _ => k _ d3), ?_, rX.go (Nat.le_refl _) (Nat.le_refl _) hz (fun _ _ _ => k _ d6), .inr ⟨_, rfl, i1, i2, hz, own1_upd i4 hq⟩, ⟨d1, d2, d3, d4, d5, d6⟩, hx1, hx2⟩
  rcases rO with r | ⟨co, e1, l1, l2, l3, hc⟩
  · exact .inl r
  · exact .inr ⟨co, e1, l1, l2, hz, fun j hj => ⟨(k gO d5 j).1.trans (hc j hj).1, (hc j hj).2.go (Nat.le_refl _) (Nat.le_refl _) hz (fun _ _ _ => k _ (hx1 j hj).2.2.2)⟩⟩
theorem OwnC.wk {lo hi base n : Nat} {w w' : World} {x0 x1 x2 x3 x4 x5 v : Value} {V : CV} {Z : Nat → Nat → Int} (h : OwnC lo hi w (.agg #[x0, x1, x2, x3, x4, x5]) V) (hO : V.nO ≠ 0) (hX : V.nX ≠ 0) (hI : V.nI ≠ 0) (hn : n ≠ 0) (h1 : hi ≤ base) (h2 : base ≤ w'.heap.size) (k : ∀ b, lo ≤ b → b < hi → Sm w w' b) (ho : w'.ownsRow base 43 5 v n ((List.range n).flatMap (five5 Z))) :
    OwnC lo w'.heap.size w' (.agg #[.int .i64 V.c, v, .int .i64 V.g, x3, x4, x5]) { V with nW := n, W := Z } := by
  obtain ⟨vW, vO, vX, vI, gW, gO, gX, gI, sl, xs, e, rW, rO, rX, rI, ⟨d1, d2, d3, d4, d5, d6⟩, hx1, hx2⟩ := h
  obtain ⟨rfl, rfl, rfl, rfl⟩ := agg6 e
  obtain ⟨g, hR, _⟩ := rw_of_own ho
  have hh : hi ≤ w'.heap.size := Nat.le_trans h1 h2
  have lX := rX.in hX
  have lI := rI.in hI
  have lg := hR.in hn
  rcases rO with ⟨e, _⟩ | ⟨co, e1, l1, l2, l3, hc⟩
  · exact absurd e hO
  subst e1
  have hlo : lo ≤ base := by omega
  have lx : ∀ j, j < V.nO → V.N j ≠ 0 → xs j < hi := fun j hj e => ((hc j hj).2.in e).2
  refine ownC_any (V := { V with nW := n, W := Z }) (gW := g) (gO := gO) (gX := gX) (gI := gI) (sl := sl) (xs := xs) (hR.go hlo (Nat.le_refl _) (Nat.le_refl _) (fun _ _ _ => Sm.refl _ _)) l1 (by omega) (Nat.le_refl _) (fun j hj => ⟨(k gO l1 l2 j).1.trans (hc j hj).1, (hc j hj).2.go (Nat.le_refl _) hh (Nat.le_refl _) (fun _ => k _)⟩) (rX.go (Nat.le_refl _) hh (Nat.le_refl _) (fun _ => k _)) (rI.go (Nat.le_refl _) hh (Nat.le_refl _) (fun _ => k _)) (fun _ => by omega) (fun _ _ => by omega) (fun _ _ => by omega) (fun _ => d4) (fun _ => d5) (fun _ _ => d6) (fun j hj e => ⟨fun _ => by have := lx j hj e; omega, (hx1 j hj).2.1, fun _ => (hx1 j hj).2.2.1, fun _ => (hx1 j hj).2.2.2⟩) (fun i j hij hj _ _ => hx2 i j (Nat.lt_trans hij hj) hj (Nat.ne_of_lt hij))
theorem OwnC.row {lo hi : Nat} {w : World} {x0 x2 x3 x4 x5 : Value} {aW : Option Addr} {kW : Nat} {V : CV} (h : OwnC lo hi w (.agg #[x0, .slice aW V.nW kW, x2, x3, x4, x5]) V) : ∃ g, (V.nW ≠ 0 → aW = some ⟨g, 0, none⟩) ∧ (V.nW ≠ 0 → g < w.heap.size) ∧ ∀ k j, k < V.nW → j < 5 → w.cell? ⟨g, k * 5 + j, none⟩ = some (.int .i64 (V.W k j)) := by
  obtain ⟨vW, vO, vX, vI, gW, gO, gX, gI, sl, xs, e, rW, rO, rX, rI, hd, hx1, hx2⟩ := h
  obtain ⟨rfl, rfl, rfl, rfl⟩ := agg6 e
  rcases rW with ⟨e, _⟩ | ⟨c, e, l1, l2, l3, h4⟩
  · exact ⟨gW, fun h => absurd e h, fun h => absurd e h, fun k j hk => by omega⟩
  · simp only [Value.slice.injEq, true_and] at e
    exact ⟨gW, fun _ => e.1, fun _ => by omega, fun k j hk hj => h4.2 k j hk hj⟩
theorem Six.put {w : World} {g : Nat} {x0 x1 x2 x3 x4 x5 : Value} (h : Six w g [x0, x1, x2, x3, x4, x5]) : (∀ v, Six (w.setCell ⟨g, 1, none⟩ v) g [x0, v, x2, x3, x4, x5]) ∧ ∀ v, Six (w.setCell ⟨g, 2, none⟩ v) g [x0, x1, v, x3, x4, x5] := by
  refine ⟨fun v i hi => ?_, fun v i hi => ?_⟩
  · rw [set_frozen]
    refine ⟨?_, (h i hi).2⟩
    by_cases e : i = 1
    · subst e
      rw [set_in (by rw [(h 1 (by decide)).1]; rfl)]; rfl
    · rw [set_out (fun q => e q.2.symm), (h i hi).1]
      match i, hi, e with
      | 0, _, _ => rfl
      | 2, _, _ => rfl
      | 3, _, _ => rfl
      | 4, _, _ => rfl
      | 5, _, _ => rfl
  · rw [set_frozen]
    refine ⟨?_, (h i hi).2⟩
    by_cases e : i = 2
    · subst e
      rw [set_in (by rw [(h 2 (by decide)).1]; rfl)]; rfl
    · rw [set_out (fun q => e q.2.symm), (h i hi).1]
      match i, hi, e with
      | 0, _, _ => rfl
      | 1, _, _ => rfl
      | 3, _, _ => rfl
      | 4, _, _ => rfl
      | 5, _, _ => rfl
end Go.Proofs.YtjmjffhommlbnaaGreat
