/- Lists of texts: how they lie, how the laws size, copy, compare and mark them; conditions: the lists lie in memory. -/
import Derived.Test.YtlmoeacpkkkkcaaGreatDoorTA
import Derived.Test.YtlmoeacpkkkkcaaGreatDoorBase
import Derived.SliceStrings
import Derived.Lib.Hide
import Derived.LoopTactic
import Derived.OwnWalk
import Derived.Deep.RegionHeld3
namespace Go.Proofs.YtlmoeacpkkkkcaaGreatDoor
open Go.RowKit Go.Deep
set_option linter.unusedVariables false
set_option maxRecDepth 20000
/-- In w there lie n texts, from a on: the k-th one is X k. -/
def RowS (w : World) (a : Option Addr) (n : Nat) (X : Nat → ByteArray) : Prop :=
  n = 0 ∨ ∃ b o, a = some ⟨b, o, none⟩ ∧ b < w.heap.size ∧ ∀ k, k < n → w.cell? ⟨b, o + k, none⟩ = some (.string (X k))
theorem rowS_below {w w' : World} {a : Option Addr} {n : Nat} {X : Nat → ByteArray} (h : RowS w a n X) (hb : Below w.heap.size w w') : RowS w' a n X := by
  rcases h with rfl | ⟨b, o, rfl, hlt, hr⟩
  · exact .inl rfl
  · exact .inr ⟨b, o, rfl, Nat.lt_of_lt_of_le hlt hb.size, fun k hk => (hb.cell (p := ⟨b, _, none⟩) hlt).trans (hr k hk)⟩
/-- Texts that are short. -/
def ShortS (n : Nat) (X : Nat → ByteArray) (m : Nat) : Prop := n ≤ m ∧ ∀ k, k < n → (X k).size ≤ m
set_option maxHeartbeats 1000000 in
theorem szTexts (a : Option Addr) (n cap : Nat) (X : Nat → ByteArray) (hn : (n : Int) ≤ 9223372036854775807) (hX : ∀ k, k < n → ((X k).size : Int) ≤ 9223372036854775807) (w : World) (h : RowS w a n X) :
    Calls Tryz.prog 4 #[.slice a n cap, .int .i64 1048576] w fun e w' => (∃ r : Int, e = .returned (.int .i64 r) ∧ (r < 0 ∨ (0 ≤ r ∧ ShortS n X 1048576))) ∧ Below w.heap.size w w' := by
  have HR := Lib.hid h
  clear h
  by_cases hs : (n : Int) ≤ 1048576
  · go_enter Tryz.func4, Tryz.ntmps4
    go_wp2
    go_loopw [1, 5] (fun c i wr => ∃ (k : Nat) (l : Int), k ≤ n ∧ .int .i64 k = i ∧ .int .i64 l = c ∧ 0 ≤ l ∧ l ≤ 1048576 ∧ Hid (∀ j, j < k → (X j).size ≤ 1048576) ∧ w = wr) (fun _ i _ => n - (intOf i).toNat)
    case atStart => exact ⟨0, 1048576 - (n : Int), Nat.zero_le _, rfl, rfl, by omega, by omega, fun _ h => absurd h (by omega), rfl⟩
    case round =>
      obtain ⟨k, l, hk, rfl, rfl, l0, l1, hall, rfl⟩ := hrel
      by_cases hkn : k < n
      · have hkn' : (k : Int) < (n : Int) := by omega
        obtain ⟨b, o, rfl, hb, hrow⟩ : ∃ b o, a = some ⟨b, o, none⟩ ∧ b < w.heap.size ∧ ∀ k, k < n → w.cell? ⟨b, o + k, none⟩ = some (.string (X k)) := by
          rcases HR.out with h | h
          · omega
          · exact h
        have hc := hrow k hkn
        have hz := hX k hkn
        clear hrow
        by_cases hneg : l - ((X k).size : Int) < 0
        · go_wp2
          go_ret
          exact ⟨⟨_, rfl, .inl (by omega)⟩, Below.refl _ _⟩
        · go_wp2
          go_roundw
          case rel =>
            refine ⟨k + 1, l - ((X k).size : Int), by omega, by go_num, by go_num, by omega, by omega, fun j hj => ?_, by trivial⟩
            by_cases e : j = k
            · subst e; omega
            · exact hall.out j (by omega)
          case measure => simp [intOf]; omega
      · obtain rfl : k = n := by omega
        go_wp2
        go_ret
        exact ⟨⟨_, rfl, .inr ⟨l0, by omega, hall.out⟩⟩, Below.refl _ _⟩
  · go_enter Tryz.func4, Tryz.ntmps4
    go_wp2
    all_goals (go_ret; exact ⟨⟨_, rfl, .inl (by omega)⟩, Below.refl _ _⟩)
/-- A row of texts of one's own, k of n filled in. -/
def OwnS (w : World) (B n : Nat) (X : Nat → ByteArray) (k : Nat) : Prop :=
  (∀ i, i < n → (w.cell? ⟨B, i, none⟩).isSome = true ∧ w.frozen? ⟨B, i, none⟩ = false) ∧ ∀ j, j < k → w.cell? ⟨B, j, none⟩ = some (.string (X j))
theorem ownS_next {w : World} {B n k : Nat} {X : Nat → ByteArray} (h : OwnS w B n X k) (hk : k < n) : OwnS (w.setCell ⟨B, k, none⟩ (.string (X k))) B n X (k + 1) := by
  refine ⟨fun i hi => ⟨?_, ?_⟩, fun j hj => ?_⟩
  · by_cases hc : k = i
    · subst hc; rw [set_in (h.1 k hk).1]; rfl
    · rw [set_out (fun e => hc e.2)]; exact (h.1 i hi).1
  · rw [set_frozen]; exact (h.1 i hi).2
  · by_cases hc : k = j
    · subst hc; exact set_in (h.1 k hk).1
    · rw [set_out (fun e => hc e.2)]; exact h.2 j (by omega)
theorem ownS_below {w w' : World} {B n k : Nat} {X : Nat → ByteArray} (h : OwnS w B n X k) (hB : B < w.heap.size) (hb : Below w.heap.size w w') : OwnS w' B n X k :=
  ⟨fun i hi => by rw [hb.cell (p := ⟨B, i, none⟩) hB, hb.frozen (p := ⟨B, i, none⟩) hB]; exact h.1 i hi, fun j hj => by rw [hb.cell (p := ⟨B, j, none⟩) hB]; exact h.2 j hj⟩
theorem Tryz.info9s : (Tryz.prog.info? 9).map (fun i => (i.zero, i.size, i.bytes)) = some (some (.string ⟨#[]⟩), 1, 16) := by kernel_rfl
theorem makeS (n : Nat) (hn : n ≤ 1048576) (w : World) :
    (Instr.makeSlice 22 (.int .i64 (n : Int)) (.int .i64 (n : Int))).run Tryz.prog w = .ok (.slice (some ⟨w.heap.size, 0, none⟩) n n) (w.alloc (.cells (madeCells #[.string ⟨#[]⟩] (n * 1)) 9)) := by
  obtain ⟨i, hi, hzz⟩ := Option.map_eq_some_iff.1 Tryz.info9s
  simp only [Prod.mk.injEq] at hzz
  obtain ⟨hz, hs, hb⟩ := hzz
  have := run_make (P := Tryz.prog) w 22 9 i _ Tryz.underlying22 hi hz .i64 .i64 n n (by omega) (by omega) (by rw [hb]; omega) (by omega)
  rw [this, hs]
  rfl
set_option maxHeartbeats 1000000 in
theorem toTexts (a : Option Addr) (n cap : Nat) (X : Nat → ByteArray) (hn : n ≤ 1048576) (w : World) (h : RowS w a n X) :
    Calls Tryz.prog 6 #[.slice a n cap] w fun e w' => e = .returned (.slice (some ⟨w.heap.size, 0, none⟩) n n) ∧ OwnS w' w.heap.size n X n ∧ w.heap.size < w'.heap.size ∧ Below w.heap.size w w' := by
  have hmk := makeS n hn
  have HR := Lib.hid h
  clear h
  go_enter Tryz.func6, Tryz.ntmps6
  go_wp2
  go_loopw [4] (fun i wr => ∃ k : Nat, k ≤ n ∧ i = .int .i64 k ∧ OwnS wr w.heap.size n X k ∧ w.heap.size < wr.heap.size ∧ Below w.heap.size w wr) (fun i _ => n - (intOf i).toNat)
  case atStart => exact ⟨0, Nat.zero_le _, rfl, ⟨fun i hi => by simp [size_madeCells, hi], fun _ h => absurd h (by omega)⟩, by simp, (Below.refl _ _).alloc (by simp) _⟩
  case round =>
    clear hmk
    obtain ⟨k, hk, rfl, hown, hsz, hbel⟩ := hrel
    by_cases hkn : k < n
    · have hkn' : (k : Int) < n := by omega
      obtain ⟨b, o, rfl, hb, hrow⟩ : ∃ b o, a = some ⟨b, o, none⟩ ∧ b < w.heap.size ∧ ∀ k, k < n → w.cell? ⟨b, o + k, none⟩ = some (.string (X k)) := by
        rcases HR.out with h | h
        · omega
        · exact h
      have hc : wr.cell? ⟨b, o + k, none⟩ = some (.string (X k)) := (hbel.cell (p := ⟨b, o + k, none⟩) hb).trans (hrow k hkn)
      clear hrow
      obtain ⟨d0, f0⟩ := hown.1 k hkn
      obtain ⟨v0, d0⟩ := Option.isSome_iff_exists.1 d0
      go_wp2
      go_roundw
      case rel => exact ⟨k + 1, by omega, by go_num, ownS_next hown hkn, by simpa [World.setCell] using hsz, hbel.setCell (Nat.le_refl _) _⟩
      case measure => simp [intOf]; omega
    · have : k = n := by omega
      subst this
      go_wp2
      go_ret
      exact ⟨rfl, hown, hsz, hbel⟩
theorem rowS_of_own {w : World} {B n : Nat} {X : Nat → ByteArray} (h : OwnS w B n X n) (hB : B < w.heap.size) : RowS w (some ⟨B, 0, none⟩) n X :=
  .inr ⟨B, 0, rfl, hB, fun k hk => by rw [Nat.zero_add]; exact h.2 k hk⟩
set_option maxHeartbeats 1000000 in
theorem eqTexts (a1 a2 : Option Addr) (n c1 c2 : Nat) (X : Nat → ByteArray) (hn : n ≤ 2000000) (w : World) (h1 : RowS w a1 n X) (h2 : RowS w a2 n X) :
    Calls Tryz.prog 10 #[.slice a1 n c1, .slice a2 n c2] w fun e w' => e = .returned (.bool true) ∧ Below w.heap.size w w' := by
  have H1 := Lib.hid h1
  have H2 := Lib.hid h2
  clear h1 h2
  go_enter Tryz.func10, Tryz.ntmps10
  go_wp2
  go_loopw [5] (fun i wr => ∃ k : Nat, k ≤ n ∧ i = .int .i64 k ∧ Below w.heap.size w wr) (fun i _ => n - (intOf i).toNat)
  case atStart => exact ⟨0, Nat.zero_le _, rfl, Below.refl _ _⟩
  case round =>
    obtain ⟨k, hk, rfl, hbel⟩ := hrel
    by_cases hkn : k < n
    · have hkn' : (k : Int) < n := by omega
      obtain ⟨b1, o1, rfl, hb1, hr1⟩ : ∃ b o, a1 = some ⟨b, o, none⟩ ∧ b < w.heap.size ∧ ∀ k, k < n → w.cell? ⟨b, o + k, none⟩ = some (.string (X k)) := by
        rcases H1.out with h | h
        · omega
        · exact h
      obtain ⟨b2, o2, rfl, hb2, hr2⟩ : ∃ b o, a2 = some ⟨b, o, none⟩ ∧ b < w.heap.size ∧ ∀ k, k < n → w.cell? ⟨b, o + k, none⟩ = some (.string (X k)) := by
        rcases H2.out with h | h
        · omega
        · exact h
      have d1 : wr.cell? ⟨b1, o1 + k, none⟩ = some (.string (X k)) := (hbel.cell (p := ⟨b1, o1 + k, none⟩) hb1).trans (hr1 k hkn)
      have d2 : wr.cell? ⟨b2, o2 + k, none⟩ = some (.string (X k)) := (hbel.cell (p := ⟨b2, o2 + k, none⟩) hb2).trans (hr2 k hkn)
      clear hr1 hr2
      go_wp2
      go_region
      go_wp2
      go_roundw
      case rel => exact ⟨k + 1, by omega, by go_num, by repeat (first | exact hbel | apply Below.drew | apply bdrewN)⟩
      case measure => simp [intOf]; omega
    · have : k = n := by omega
      subst this
      go_wp2
      go_ret
      exact ⟨rfl, hbel⟩
theorem to_ten (wr : World) (n : Int) : (convert 55 9 (.slice (some ⟨wr.heap.size, 0, none⟩) 1 1)).run Tryz.prog (wr.alloc (.cells #[.int .u8 n] 5)) =
    .ok (.string ⟨[UInt8.ofNat n.toNat].toArray⟩) (wr.alloc (.cells #[.int .u8 n] 5)) := conv1 wr n
set_option maxHeartbeats 1000000 in
theorem markText (N : Nat) (h0 : 0 < N) (hN : N ≤ 100000000) (w : World) :
    Calls Tryz.prog 23 #[.int .i64 N] w fun e w' => (∃ s : ByteArray, e = .returned (.string s)) ∧ Below w.heap.size w w' := by
  go_enter Tryz.func23, Tryz.ntmps23
  go_wp2
  go_loopw [0, 3] (fun n out wr => ∃ (m : Nat) (l : List UInt8), m ≤ N ∧ n = .int .i64 m ∧ out = .string ⟨l.toArray⟩ ∧ l.length + m ≤ N ∧ Below w.heap.size w wr) (fun n _ _ => (intOf n).toNat)
  case atStart => exact ⟨N, [], Nat.le_refl _, rfl, rfl, by simp, Below.refl _ _⟩
  case round =>
    obtain ⟨m, l, hm, rfl, rfl, hlen, hb⟩ := hrel
    by_cases g : (0 : Int) < (m : Int)
    · have cv := to_ten wr (48 + (m : Int) % 10)
      have ll : (l.length : Int) ≤ 100000000 := by omega
      go_wp2
      all_goals
        go_roundw
        case rel => exact ⟨m / 10, (48 + UInt8.ofNat (m % 10)) :: l, by omega, int_eq (by omega), congrArg Value.string (ByteArray.mk_append_mk [48 + UInt8.ofNat (m % 10)] l), by simp; omega, hb.alloc hb.size _⟩
        case measure => simp [intOf]; omega
    · have hm0 : m = 0 := by omega
      subst hm0
      have ll : (l.length : Int) ≤ 100000000 := by omega
      go_wp2
      go_ret
      exact ⟨⟨_, rfl⟩, hb⟩
/-- A row whose cells may be written. -/
def OpenS (w : World) (B n : Nat) : Prop := ∀ i, i < n → (w.cell? ⟨B, i, none⟩).isSome = true ∧ w.frozen? ⟨B, i, none⟩ = false
theorem openS_below {w w' : World} {B n : Nat} (h : OpenS w B n) (hB : B < w.heap.size) (hb : Below w.heap.size w w') : OpenS w' B n :=
  fun i hi => by rw [hb.cell (p := ⟨B, i, none⟩) hB, hb.frozen (p := ⟨B, i, none⟩) hB]; exact h i hi
theorem openS_set {w : World} {B n k : Nat} {u : Value} (h : OpenS w B n) (hk : k < n) : OpenS (w.setCell ⟨B, k, none⟩ u) B n := by
  refine fun i hi => ⟨?_, ?_⟩
  · by_cases hc : k = i
    · subst hc; rw [set_in (h k hk).1]; rfl
    · rw [set_out (fun e => hc e.2)]; exact (h i hi).1
  · rw [set_frozen]; exact (h i hi).2
theorem grown_of {w w' : World} {r : Option Nat} (hb : Below w.heap.size w w') : w.grownBy w' r := ⟨hb.os, hb.tape, hb.output, hb.size, fun k hk _ => hb.block k hk⟩
set_option maxHeartbeats 1000000 in
theorem markTexts (s B n cap : Nat) (h1 : 0 < s) (hs : s ≤ 2000000) (hn : n ≤ 2000000) (w : World) (hB : B < w.heap.size) (h : OpenS w B n) :
    Calls Tryz.prog 11 #[.slice (some ⟨B, 0, none⟩) n cap, .int .i64 (s : Int)] w fun e w' => e = .returned (.int .i64 ((s + n : Nat) : Int)) ∧ w.grownBy w' (some B) := by
  have H0 := Lib.hid h
  clear h
  go_enter Tryz.func11, Tryz.ntmps11
  go_wp2
  go_loopw [1, 5] (fun c i wr => ∃ k : Nat, k ≤ n ∧ .int .i64 k = i ∧ .int .i64 ((s + k : Nat) : Int) = c ∧ Hid (OpenS wr B n) ∧ w.heap.size ≤ wr.heap.size ∧ Hid (w.grownBy wr (some B))) (fun _ i _ => n - (intOf i).toNat)
  case atStart => exact ⟨0, Nat.zero_le _, rfl, rfl, H0.out, Nat.le_refl _, World.grownBy.refl _ _⟩
  case round =>
    obtain ⟨k, hk, rfl, rfl, hop, hsz, hg⟩ := hrel
    by_cases hkn : k < n
    · have hkn' : (k : Int) < (n : Int) := by omega
      go_wp2_with fail
      refine (markText (s + k) (by omega) (by omega) _).mono ?_
      rintro e w1 ⟨⟨t, rfl⟩, hb⟩
      have hop1 := openS_below hop.out (Nat.lt_of_lt_of_le hB hsz) hb
      obtain ⟨d0, f0⟩ := hop1 k hkn
      obtain ⟨v0, d0⟩ := Option.isSome_iff_exists.1 d0
      have HP := Lib.hid (openS_set (u := .string t) hop1 hkn)
      have HG := Lib.hid ((hg.out.trans (grown_of hb)).trans (set_grown w1 B k (.string t)).1)
      have hs1 : w.heap.size ≤ w1.heap.size := Nat.le_trans hsz hb.size
      clear hop hg hop1 hb
      go_wp2
      go_roundw
      case rel => exact ⟨k + 1, by omega, by go_num, by go_num, HP.out, by simpa [World.setCell] using hs1, HG.out⟩
      case measure => simp [intOf]; omega
    · obtain rfl : k = n := by omega
      go_wp2
      go_ret
      exact ⟨rfl, hg.out⟩
end Go.Proofs.YtlmoeacpkkkkcaaGreatDoor
