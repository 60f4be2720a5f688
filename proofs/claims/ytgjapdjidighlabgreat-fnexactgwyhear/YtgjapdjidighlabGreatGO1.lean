/- A book that is open: rows by their walkers in a map; conditions: those typed. -/
import Derived.Test.YtgjapdjidighlabGreatGM3
namespace Go.Proofs.YtgjapdjidighlabGreat
open Go.RowKit Go.Deep
set_option linter.unusedVariables false
def mapP (Kf : Nat → Int) (Bs : Nat → Nat) : Nat → Int → Option Nat
  | 0 => fun _ => none
  | k + 1 => putM (mapP Kf Bs k) (Kf k) (Bs k)
theorem mapP_congr {Kf Kf' : Nat → Int} {Bs Bs' : Nat → Nat} : ∀ k, (∀ j, j < k → Kf j = Kf' j ∧ Bs j = Bs' j) → mapP Kf Bs k = mapP Kf' Bs' k
  | 0, _ => rfl
  | k + 1, h => by
    show putM (mapP Kf Bs k) (Kf k) (Bs k) = putM (mapP Kf' Bs' k) (Kf' k) (Bs' k)
    rw [mapP_congr k (fun j hj => h j (by omega)), (h k (by omega)).1, (h k (by omega)).2]
theorem mapP_none {Kf : Nat → Int} {Bs : Nat → Nat} {z : Int} : ∀ k, (∀ j, j < k → ¬ Kf j = z) → mapP Kf Bs k z = none
  | 0, _ => rfl
  | k + 1, h => by
    show (if z = Kf k then some (Bs k) else mapP Kf Bs k z) = none
    rw [if_neg (fun e => h k (by omega) e.symm), mapP_none k (fun j hj => h j (by omega))]
theorem mapP_some {Kf : Nat → Int} {Bs : Nat → Nat} {i : Nat} : ∀ k, i < k → (∀ a b, a < b → b < k → Kf a < Kf b) → mapP Kf Bs k (Kf i) = some (Bs i)
  | 0, h, _ => absurd h (by omega)
  | k + 1, h, hr => by
    show (if Kf i = Kf k then some (Bs k) else mapP Kf Bs k (Kf i)) = some (Bs i)
    by_cases hi : i = k
    · subst hi; rw [if_pos rfl]
    · rw [if_neg (fun e => by have := hr i k (by omega) (by omega); omega)]
      exact mapP_some k (by omega) (fun a b h1 h2 => hr a b h1 (by omega))
theorem mapP_mem {Kf : Nat → Int} {Bs : Nat → Nat} {z : Int} : ∀ k, (mapP Kf Bs k z).isSome = true ↔ ∃ j, j < k ∧ Kf j = z
  | 0 => by simp [mapP]
  | k + 1 => by
    show (if z = Kf k then some (Bs k) else mapP Kf Bs k z).isSome = true ↔ _
    by_cases h : z = Kf k
    · rw [if_pos h]
      exact ⟨fun _ => ⟨k, by omega, h.symm⟩, fun _ => rfl⟩
    · rw [if_neg h, mapP_mem k]
      exact ⟨fun ⟨j, h1, h2⟩ => ⟨j, by omega, h2⟩, fun ⟨j, h1, h2⟩ => ⟨j, by have : ¬ j = k := fun e => h (by rw [← h2, e]); omega, h2⟩⟩
def Op (lo : Nat) (w : World) (mb n : Nat) (Kf : Nat → Int) (Bs : Nat → Nat) (Z : Nat → Nat → Int) : Prop :=
  lo ≤ mb ∧ Wm w mb n (mapP Kf Bs n) ∧ (∀ k, k < n → lo ≤ Bs k ∧ Bk w (Bs k) (P10.rowK Z k)) ∧ ∀ i j, i < j → j < n → Bs i < Bs j
theorem Op.below {lo mb n : Nat} {w w' : World} {Kf : Nat → Int} {Bs : Nat → Nat} {Z : Nat → Nat → Int} (h : Op lo w mb n Kf Bs Z) (hb : Below w.heap.size w w') : Op lo w' mb n Kf Bs Z :=
  ⟨h.1, h.2.1.below h.2.1.lt hb, fun k hk => ⟨(h.2.2.1 k hk).1, (h.2.2.1 k hk).2.below hb⟩, h.2.2.2⟩
theorem bk_map {w w' : World} {g b : Nat} {l : List Value} (h : Bk w g l) (hg : w.grownBy w' (some b)) (hne : ¬ g = b) : Bk w' g l :=
  h.sm hg.size (sm_grown hg h.1 (fun e => hne (Option.some.inj e)))
theorem Wm.not {w : World} {b n g : Nat} {M : Int → Option Nat} {l : List Value} (h : Wm w b n M) (hb : Bk w g l) (hl : 0 < l.length) : ¬ g = b := by
  intro e
  subst e
  obtain ⟨es, clock, hm, _⟩ := h
  have := (hb.2 0 hl).1
  simp [World.cell?, hm] at this
set_option maxHeartbeats 2000000 in
theorem opened (a : Option Addr) (n cap : Nat) (Z : Nat → Nat → Int) (hn : n ≤ 1048576) (hk : ∀ k, k < n → 1 ≤ Z k 0 ∧ Z k 0 ≤ 9) (w : World) (h : P10.RowK w a n Z) :
    Calls Tryz.prog 24 #[.agg #[.slice a n cap]] w fun e w' => (∃ mb Bs, e = .returned (.map (some mb)) ∧ Op w.heap.size w' mb n (fun k => Z k 0) Bs Z) ∧ Below w.heap.size w w' := by
  have HR : Hid (P10.RowK w a n Z) := h
  clear h
  have HK : Hid (∀ k, k < n → 1 ≤ Z k 0 ∧ Z k 0 ≤ 9) := hk
  clear hk
  go_enter Tryz.func24, Tryz.ntmps24
  have hmk : ∀ W : World, (Instr.makeMap 69 none).run Tryz.prog W = .ok (.map (some W.heap.size)) (W.alloc (.map #[] 0)) := fun W => by kernel_rfl
  go_wp2_with fail
  clear hmk
  obtain ⟨w1, e1⟩ : ∃ y, y = ((w.alloc (.cells #[.slice a n cap] 40)).alloc (.map #[] 0)) := ⟨_, rfl⟩
  have B1 : Hid (Below w.heap.size w w1) := by rw [e1]; exact ((Below.refl _ _).alloc (by simp) _).alloc (by simp) _
  have M1 : Hid (Wm w1 (w.heap.size + 1) 0 (fun _ => none)) := by unfold Hid; rw [e1]; have := Wm.new (w.alloc (.cells #[.slice a n cap] 40)); rwa [show (w.alloc (.cells #[.slice a n cap] 40)).heap.size = w.heap.size + 1 by simp] at this
  rw [← e1]
  clear e1
  go_loopw [10] (fun i wr => ∃ (k : Nat) (Bs : Nat → Nat), k ≤ n ∧ i = .int .i64 k ∧ Wm wr (w.heap.size + 1) k (mapP (fun k => Z k 0) Bs k) ∧ (∀ j, j < k → w.heap.size ≤ Bs j ∧ Bk wr (Bs j) (P10.rowK Z j)) ∧ (∀ i j, i < j → j < k → Bs i < Bs j) ∧ Below w.heap.size w wr) (fun i _ => n - (intOf i).toNat)
  case atStart => exact ⟨0, fun _ => 0, Nat.zero_le _, rfl, M1.out, fun _ h => absurd h (by omega), fun _ _ _ h => absurd h (by omega), B1.out⟩
  case round =>
    obtain ⟨k, Bs, hk, rfl, hM, hBk, hBs, hB⟩ := hrel
    have QM : Hid (Wm wr (w.heap.size + 1) k (mapP (fun k => Z k 0) Bs k)) := hM
    have QK : Hid (∀ j, j < k → w.heap.size ≤ Bs j ∧ Bk wr (Bs j) (P10.rowK Z j)) := hBk
    have QS : Hid (∀ i j, i < j → j < k → Bs i < Bs j) := hBs
    have QB : Hid (Below w.heap.size w wr) := hB
    clear hM hBk hBs hB
    by_cases hkn : k < n
    · have hkn' : (k : Int) < n := by omega
      obtain ⟨b, o, rfl, hb, hrow⟩ : ∃ b o, a = some ⟨b, o, none⟩ ∧ b < w.heap.size ∧ ∀ k j, k < n → j < 10 → w.cell? ⟨b, o + k * 10 + j, none⟩ = some (P10.cv j (Z k j)) := by
        rcases HR.out with h | h
        · omega
        · exact h
      have c0 : wr.cell? ⟨b, o + k * 10, none⟩ = some (.int .i64 (Z k 0)) := (QB.out.cell (p := ⟨b, _, none⟩) hb).trans (hrow k 0 hkn (by omega))
      have c1 : wr.cell? ⟨b, o + k * 10 + 1, none⟩ = some (.int .i64 (Z k 1)) := (QB.out.cell (p := ⟨b, _, none⟩) hb).trans (hrow k 1 hkn (by omega))
      have c2 : wr.cell? ⟨b, o + k * 10 + 2, none⟩ = some (.bool (P10.tr (Z k 2))) := (QB.out.cell (p := ⟨b, _, none⟩) hb).trans (hrow k 2 hkn (by omega))
      have c3 : wr.cell? ⟨b, o + k * 10 + 3, none⟩ = some (.int .i64 (Z k 3)) := (QB.out.cell (p := ⟨b, _, none⟩) hb).trans (hrow k 3 hkn (by omega))
      have c4 : wr.cell? ⟨b, o + k * 10 + 4, none⟩ = some (.int .i64 (Z k 4)) := (QB.out.cell (p := ⟨b, _, none⟩) hb).trans (hrow k 4 hkn (by omega))
      have c5 : wr.cell? ⟨b, o + k * 10 + 5, none⟩ = some (.int .i64 (Z k 5)) := (QB.out.cell (p := ⟨b, _, none⟩) hb).trans (hrow k 5 hkn (by omega))
      have c6 : wr.cell? ⟨b, o + k * 10 + 6, none⟩ = some (.int .i64 (Z k 6)) := (QB.out.cell (p := ⟨b, _, none⟩) hb).trans (hrow k 6 hkn (by omega))
      have c7 : wr.cell? ⟨b, o + k * 10 + 7, none⟩ = some (.int .i64 (Z k 7)) := (QB.out.cell (p := ⟨b, _, none⟩) hb).trans (hrow k 7 hkn (by omega))
      have c8 : wr.cell? ⟨b, o + k * 10 + 8, none⟩ = some (.int .i64 (Z k 8)) := (QB.out.cell (p := ⟨b, _, none⟩) hb).trans (hrow k 8 hkn (by omega))
      have c9 : wr.cell? ⟨b, o + k * 10 + 9, none⟩ = some (.int .i64 (Z k 9)) := (QB.out.cell (p := ⟨b, _, none⟩) hb).trans (hrow k 9 hkn (by omega))
      have lb : b < wr.heap.size := Nat.lt_of_lt_of_le hb QB.out.size
      clear hrow
      have ba : Hid (Below wr.heap.size wr (wr.alloc (.cells #[.int .i64 (Z k 0), .int .i64 (Z k 1), .bool (P10.tr (Z k 2)), .int .i64 (Z k 3), .int .i64 (Z k 4), .int .i64 (Z k 5), .int .i64 (Z k 6), .int .i64 (Z k 7), .int .i64 (Z k 8), .int .i64 (Z k 9)] 63))) := (Below.refl _ _).alloc (Nat.le_refl _) _
      have xa : Hid (Bk (wr.alloc (.cells #[.int .i64 (Z k 0), .int .i64 (Z k 1), .bool (P10.tr (Z k 2)), .int .i64 (Z k 3), .int .i64 (Z k 4), .int .i64 (Z k 5), .int .i64 (Z k 6), .int .i64 (Z k 7), .int .i64 (Z k 8), .int .i64 (Z k 9)] 63)) wr.heap.size (P10.rowK Z k)) := bk_new wr 63 (P10.rowK Z k)
      obtain ⟨w6, hupd, hM6, hg6⟩ := (QM.out.below QM.out.lt ba.out).put (z := Z k 0) (by have := HK.out k hkn; simp [Lit.wf, IntKind.min, IntKind.max, IntKind.bits, IntKind.signed]; omega) wr.heap.size
      simp only [pv] at hupd
      have q0 := QM.out.lt
      have hm1 : ¬ wr.heap.size = w.heap.size + 1 := by omega
      have H6 : Hid (Wm w6 (w.heap.size + 1) (k + 1) (mapP (fun k => Z k 0) (fun j => if j = k then wr.heap.size else Bs j) (k + 1))) := by
        unfold Hid
        show Wm w6 (w.heap.size + 1) (k + 1) (putM (mapP _ _ k) (Z k 0) (if k = k then wr.heap.size else Bs k))
        rw [if_pos rfl, mapP_congr (Kf' := fun k => Z k 0) (Bs' := Bs) k (fun j hj => ⟨rfl, if_neg (by omega)⟩)]
        exact hM6
      have K6 : Hid (∀ j, j < k + 1 → w.heap.size ≤ (if j = k then wr.heap.size else Bs j) ∧ Bk w6 (if j = k then wr.heap.size else Bs j) (P10.rowK Z j)) := by
        intro j hj
        by_cases e : j = k
        · subst e
          rw [if_pos rfl]
          exact ⟨by omega, bk_map xa.out hg6 hm1⟩
        · rw [if_neg e]
          have h1 := QK.out j (by omega)
          exact ⟨h1.1, bk_map (h1.2.below ba.out) hg6 (QM.out.not h1.2 (by simp [P10.rowK]))⟩
      have S6 : Hid (∀ i j, i < j → j < k + 1 → (if i = k then wr.heap.size else Bs i) < (if j = k then wr.heap.size else Bs j)) := by
        intro i j h1 h2
        rw [if_neg (show ¬ i = k by omega)]
        by_cases e : j = k
        · rw [if_pos e]; exact (QK.out i (by omega)).2.1
        · rw [if_neg e]; exact QS.out i j h1 (by omega)
      have B6 : Hid (Below w.heap.size w w6) := (QB.out.trans (ba.out.mono (by omega))).trans (below_grown hg6 (by omega) (by have := ba.out.size; omega))
      clear hM6 hg6
      go_wp2
      go_roundw
      case rel => exact ⟨k + 1, _, by omega, by go_num, H6.out, K6.out, S6.out, B6.out⟩
      case measure => simp [intOf]; omega
    · have hkk : k = n := by omega
      subst hkk
      go_wp2
      go_ret
      exact ⟨⟨_, Bs, rfl, by omega, QM.out, QK.out, QS.out⟩, QB.out⟩
end Go.Proofs.YtgjapdjidighlabGreat
