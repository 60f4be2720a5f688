/- What is carried: lemmas on lists, cells and draws; conditions: those typed. -/
import Derived.WalkKit
import Derived.ProofKit
import Derived.OpenShut
import Derived.Below
import Derived.Test.YtjllgmkficjiaaaRows
import Derived.WalkSpells
import Derived.Deep.RegionHeld3
import Derived.Deep.QuietTactic
import Derived.BigQuiet
import Derived.Laws.Bits64
import Derived.Deep.RegionWith
import Derived.Test.YtjllgmkficjiaaaCA
import Derived.Test.YtjllgmkficjiaaaCB
namespace Go.Proofs.Ytjllgmkficjiaaa
open Go.RowKit Go.ChangeShapes Go.WideShapes Go.ChangeAt
end Go.Proofs.Ytjllgmkficjiaaa
namespace Go.Proofs.Ytjllgmkficjiaaa
open Go.RowKit
set_option linter.unusedVariables false
end Go.Proofs.Ytjllgmkficjiaaa
namespace Go.Proofs.Ytjllgmkficjiaaa
open Go.RowKit
set_option linter.unusedVariables false
end Go.Proofs.Ytjllgmkficjiaaa
namespace Go.Proofs.Ytjllgmkficjiaaa
open Go.RowKit
set_option linter.unusedVariables false
/-- What the law is told of a slice of bytes that came in. -/
def IsRow (w : World) (a : Option Addr) (len cap : Nat) (zs : List Int) : Prop :=
  (a = none ∧ len = 0 ∧ cap = 0 ∧ zs = []) ∨
  ∃ x, a = some x ∧ len ≤ cap ∧ cap ≤ maxLen ∧ zs.length = cap ∧ (∀ i, i < zs.length → w.cell? (x.add i) = some (.int .u8 (zs.getD i 0))) ∧ ∀ n ∈ zs, (Lit.int .u8 n).wf = true
theorem u8_bounds {n : Int} (h : (Lit.int .u8 n).wf = true) : 0 ≤ n ∧ n ≤ 255 := by
  have := bounds_u8 h
  omega
theorem open_any (a : Option Addr) (len cap : Nat) (zs : List Int) (w : World) (h : IsRow w a len cap zs) :
    Calls Try.prog 12 #[.slice a len cap] w fun e w' => e = .returned (.pointer (some ⟨w.heap.size, 0, none⟩)) ∧ Rd w' w.heap.size a (min len 2000) cap 0 ∧ Below w.heap.size w w' ∧ w'.heap.size = w.heap.size + 1 := by
  have hrow : 0 < min len 2000 → ∃ k off, a = some ⟨k, off, none⟩ ∧ k < w.heap.size ∧ ∀ i, i < min len 2000 → ∃ z : Int, w.cell? ⟨k, off + i, none⟩ = some (.int .u8 z) ∧ 0 ≤ z ∧ z ≤ 255 := by
    intro h0
    rcases h with ⟨rfl, rfl, rfl, rfl⟩ | ⟨x, rfl, hl, hm, hz, hc, hw⟩
    · omega
    · obtain ⟨k, off, spot⟩ := x
      have c0 := hc 0 (by omega)
      have hspot : spot = none := by simpa [Addr.add] using World.cell?_spot c0
      subst hspot
      refine ⟨k, off, rfl, ?_, fun i hi => ?_⟩
      · have c1 : w.cell? ⟨k, off, none⟩ = some (.int .u8 (zs.getD 0 0)) := by simpa [Addr.add] using c0
        by_cases hlt : k < w.heap.size
        · exact hlt
        · exfalso
          have : w.heap[k]? = none := by simp; omega
          simp [World.cell?, this] at c1
      · have hlt : i < zs.length := by omega
        have e : zs.getD i 0 = zs[i] := by simp [List.getD, hlt]
        have := u8_bounds (hw zs[i] (List.getElem_mem hlt))
        have ci := hc i hlt
        rw [show (Addr.mk k off none).add i = ⟨k, off + i, none⟩ by unfold Addr.add; split <;> simp_all] at ci
        exact ⟨zs.getD i 0, ci, by rw [e]; omega, by rw [e]; omega⟩
  have fin : ∀ w' : World, w' = w.alloc (.cells #[.slice a (min len 2000) cap, .int .i64 0] 57) → Rd w' w.heap.size a (min len 2000) cap 0 ∧ Below w.heap.size w w' ∧ w'.heap.size = w.heap.size + 1 := by
    rintro w' rfl
    refine ⟨⟨by simp, by simp, by simp, by omega, ?_⟩, (Below.refl _ _).alloc (by simp) _, by simp⟩
    intro h0
    obtain ⟨k, off, e, hk, hz⟩ := hrow h0
    refine ⟨k, off, e, hk, fun i hi => ?_⟩
    obtain ⟨z, cz, z0, z1⟩ := hz i hi
    exact ⟨z, by rw [World.cell?_alloc_past _ _ _ hk]; exact cz, z0, z1⟩
  have hcap : len ≤ cap := by
    rcases h with ⟨rfl, rfl, rfl, rfl⟩ | ⟨x, rfl, hl, _⟩
    · exact Nat.le_refl _
    · exact hl
  clear hrow h
  by_cases hlen : (2000 : Int) < (len : Int)
  · have hm : min len 2000 = 2000 := by omega
    rw [hm] at fin ⊢
    have F : Hid (∀ w' : World, w' = w.alloc (.cells #[.slice a 2000 cap, .int .i64 0] 57) → Rd w' w.heap.size a 2000 cap 0 ∧ Below w.heap.size w w' ∧ w'.heap.size = w.heap.size + 1) := fin
    clear fin hm
    have h2 : ¬ (cap : Int) < 2000 := by omega
    go_enter Try.func12, Try.ntmps12
    go_wp2
    go_ret
    exact ⟨rfl, F.out _ rfl⟩
  · have hm : min len 2000 = len := by omega
    rw [hm] at fin ⊢
    have F : Hid (∀ w' : World, w' = w.alloc (.cells #[.slice a len cap, .int .i64 0] 57) → Rd w' w.heap.size a len cap 0 ∧ Below w.heap.size w w' ∧ w'.heap.size = w.heap.size + 1) := fin
    clear fin hm
    go_enter Try.func12, Try.ntmps12
    go_wp2
    go_ret
    exact ⟨rfl, F.out _ rfl⟩
/-- A drawn place of a literal list of numbers. -/
theorem litCell (zs : List Int) {r : Nat} {w w' : World} {t : TypeId} (K : Kept r (w.alloc (.cells (zs.map (Value.int .i64)).toArray t)) w') (hne : ¬ w.heap.size = r) {u lo hi : Int} (u0 : 0 ≤ u) (u1 : u < zs.length) (hb : ∀ z ∈ zs, lo ≤ z ∧ z ≤ hi) :
    ∃ z, w'.cell? ⟨w.heap.size, u.toNat, none⟩ = some (.int .i64 z) ∧ lo ≤ z ∧ z ≤ hi := by
  have hlt : u.toNat < zs.length := by omega
  refine ⟨zs[u.toNat], ?_, hb _ (List.getElem_mem hlt)⟩
  rw [(kcell K).1 w.heap.size u.toNat (by simp) hne]
  simp [hlt]
end Go.Proofs.Ytjllgmkficjiaaa
namespace Go.Proofs.Ytjllgmkficjiaaa
open Go.RowKit
set_option linter.unusedVariables false
end Go.Proofs.Ytjllgmkficjiaaa
namespace Go.Proofs.Ytjllgmkficjiaaa
open Go.RowKit
set_option linter.unusedVariables false
set_option maxHeartbeats 1000000 in
theorem map_any (r : Nat) (a : Option Addr) (len cap : Nat) (p : Int) (w : World) (h : Rd w r a len cap p) (h0 : 0 ≤ p) (h1 : p ≤ 100000) (hr : r < w.heap.size) :
    Calls Try.prog 13 #[.pointer (some ⟨r, 0, none⟩)] w fun e w' => ∃ c d q, e = .returned (.agg #[.int .i64 c, .int .i64 d]) ∧ MapOut c d ∧ 0 ≤ q ∧ q ≤ p + 4 ∧ Rd w' r a len cap q ∧ Kept r w w' := by
  have H : Hid (Rd w r a len cap p) := h
  have hne : ¬ w.heap.size = r := by omega
  clear h
  go_enter Try.func13, Try.ntmps13
  go_wp2_with fail
  refine (pick_kept r a len cap p 3 _ (H.out.alloc hr _) h0 (by omega)).mono ?_
  rintro e w1 ⟨x, rfl, ⟨x0, x1, _⟩, R1, K1⟩
  have x2 := x1 (by decide)
  have T1 := K1.two (b := w.heap.size) (by simp) hne (u := .int .i64 0) (v := .int .i64 0) (by simp)
  have hz1 : w.heap.size < w1.heap.size := by have := K1.size; simp at this; omega
  clear x1
  go_wp2_with fail
  refine (pick_kept r a len cap (p + 1) 3 _ R1 (by omega) (by omega)).mono ?_
  rintro e w2 ⟨y, rfl, ⟨y0, y1, _⟩, R2, K2⟩
  have y2 := y1 (by decide)
  have T2 := K2.two hz1 hne T1
  have hz2 : w.heap.size < w2.heap.size := by have := K2.size; omega
  have hne2 : ¬ w2.heap.size = r := by omega
  clear y1 T1
  go_wp2_with fail
  refine (pick_kept r a len cap (p + 1 + 1) 24 _ (R2.alloc (by omega) _) (by omega) (by omega)).mono ?_
  rintro e w3 ⟨v, rfl, ⟨v0, v1, _⟩, R3, K3⟩
  have v2 := v1 (by decide)
  have K2a : Kept r w2 w3 := ((Kept.refl r w2).alloc _).trans K3
  have T3 := K2a.two hz2 hne T2
  have M3 := K3.two (b := w2.heap.size) (by simp) hne2 (u := .int .i64 (2 + x)) (v := .int .i64 (2 + y)) (by simp)
  have hz3 : w2.heap.size < w3.heap.size := by have := K3.size; simp at this; omega
  have hne3 : ¬ w3.heap.size = r := by omega
  have hnw : ¬ w2.heap.size = w.heap.size := by omega
  have K : Hid (Kept r w w3) := (((Kept.refl r w).alloc _).trans (K1.trans K2)).trans K2a
  clear v1 T2
  by_cases g0 : v = 0
  · subst g0
    go_wp2_with fail
    refine (pick_kept r a len cap (p + 1 + 1 + 1) 4 _ (R3.alloc (by omega) _) (by omega) (by omega)).mono ?_
    rintro e w4 ⟨u, rfl, ⟨u0, u1, _⟩, R4, K4⟩
    have u2 := u1 (by decide)
    have K3a : Kept r w3 w4 := ((Kept.refl r w3).alloc _).trans K4
    have T4 := K3a.two (b := w.heap.size) (by omega) hne T3
    have M4 := K3a.two hz3 hne2 M3
    have hz4 : w3.heap.size < w4.heap.size := by have := K4.size; simp at this; omega
    clear u1 T3 M3
    obtain ⟨z, b4, z0, z1⟩ := litCell [0, 1, 5, -1] K4 hne3 u0 u2 (lo := -1) (hi := 5) (by decide)
    go_wp2
    refine bodyPost_ret (v := .agg #[.int .i64 z, .int .i64 (2 + y)]) (by simp [results, Try.results13, go_sem, T4]) rfl ⟨_, _, _, rfl, ⟨by omega, by omega, by omega, by omega⟩, ?_, ?_, R4.below ((((Below.refl _ _).setCell ?_ _).setCell ?_ _).setCell ?_ _), (((K.out.trans K3a).setCell ?_ _).setCell ?_ _).setCell ?_ _⟩
    all_goals (first | omega | (simp; done) | (simp; omega))
  · have e0 : (v == 0) = false := by simpa using g0
    by_cases g1 : v = 1
    · subst g1
      go_wp2_with fail
      refine (pick_kept r a len cap (p + 1 + 1 + 1) 4 _ (R3.alloc (by omega) _) (by omega) (by omega)).mono ?_
      rintro e w4 ⟨u, rfl, ⟨u0, u1, _⟩, R4, K4⟩
      have u2 := u1 (by decide)
      have K3a : Kept r w3 w4 := ((Kept.refl r w3).alloc _).trans K4
      have T4 := K3a.two (b := w.heap.size) (by omega) hne T3
      have M4 := K3a.two hz3 hne2 M3
      have hz4 : w3.heap.size < w4.heap.size := by have := K4.size; simp at this; omega
      clear u1 T3 M3
      obtain ⟨z, b4, z0, z1⟩ := litCell [0, 1, 9, 8] K4 hne3 u0 u2 (lo := 0) (hi := 9) (by decide)
      go_wp2
      refine bodyPost_ret (v := .agg #[.int .i64 (2 + x), .int .i64 z]) (by simp [results, Try.results13, go_sem, T4]) rfl ⟨_, _, _, rfl, ⟨by omega, by omega, by omega, by omega⟩, ?_, ?_, R4.below ((((Below.refl _ _).setCell ?_ _).setCell ?_ _).setCell ?_ _), (((K.out.trans K3a).setCell ?_ _).setCell ?_ _).setCell ?_ _⟩
      all_goals (first | omega | (simp; done) | (simp; omega))
    · have e1 : (v == 1) = false := by simpa using g1
      go_wp2
      refine bodyPost_ret (v := .agg #[.int .i64 (2 + x), .int .i64 (2 + y)]) (by simp [results, Try.results13, go_sem, T3]) rfl ⟨_, _, _, rfl, ⟨by omega, by omega, by omega, by omega⟩, ?_, ?_, R3.below (((Below.refl _ _).setCell ?_ _).setCell ?_ _), ((K.out).setCell ?_ _).setCell ?_ _⟩
      all_goals (first | omega | (simp; done) | (simp; omega))
theorem map_B {r : Nat} {a : Option Addr} {len cap : Nat} {m : Int} {w : World} (h : RdB w r a len cap m) (hm : m ≤ 100000) :
    Calls Try.prog 13 #[.pointer (some ⟨r, 0, none⟩)] w fun e w' => ∃ c d, e = .returned (.agg #[.int .i64 c, .int .i64 d]) ∧ MapOut c d ∧ RdB w' r a len cap (m + 4) ∧ Kept r w w' := by
  obtain ⟨p, h0, h1, h⟩ := h
  refine (map_any r a len cap p w h h0 (by omega) h.lt).mono ?_
  rintro e w' ⟨c, d, q, rfl, hx, q0, q1, R, K⟩
  exact ⟨c, d, rfl, hx, ⟨q, q0, by omega, R⟩, K⟩
end Go.Proofs.Ytjllgmkficjiaaa
