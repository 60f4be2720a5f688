/- The walks of l20Open and l20Map: the reader is opened; a map is drawn; conditions: those typed. -/
import Derived.Test.YtodmfbbicdbjdaaPick
namespace Go.Proofs.Ytodmfbbicdbjdaa
open Go.RowKit
set_option linter.unusedVariables false

/-- What the law is told of a slice of bytes that came in. -/
def IsRow (w : World) (a : Option Addr) (len cap : Nat) (zs : List Int) : Prop :=
  (a = none ∧ len = 0 ∧ cap = 0 ∧ zs = []) ∨
  ∃ x, a = some x ∧ len ≤ cap ∧ cap ≤ maxLen ∧ zs.length = cap ∧ (∀ i, i < zs.length → w.cell? (x.add i) = some (.int .u8 (zs.getD i 0))) ∧ ∀ n ∈ zs, (Lit.int .u8 n).wf = true

theorem u8_bounds {n : Int} (h : (Lit.int .u8 n).wf = true) : 0 ≤ n ∧ n ≤ 255 := by
  have := bounds_u8 h
  omega

theorem open_any (a : Option Addr) (len cap : Nat) (zs : List Int) (w : World) (h : IsRow w a len cap zs) :
    Calls Try.prog 13 #[.slice a len cap] w fun e w' => e = .returned (.pointer (some ⟨w.heap.size, 0, none⟩)) ∧ Rd w' w.heap.size a (min len 2000) cap 0 ∧ Below w.heap.size w w' ∧ w'.heap.size = w.heap.size + 1 := by
  have hrow : 0 < min len 2000 → ∃ k off, a = some ⟨k, off, none⟩ ∧ k < w.heap.size ∧ ∀ i, i < min len 2000 → ∃ z : Int, w.cell? ⟨k, off + i, none⟩ = some (.int .u8 z) ∧ 0 ≤ z ∧ z ≤ 255 := by
    intro h0
    rcases h with ⟨rfl, rfl, rfl, rfl⟩ | ⟨x, rfl, hl, hm, hz, hc, hw⟩
    · omega
    · obtain ⟨k, off, spot⟩ := x
      have c0 := hc 0 (by omega)
      have hspot : spot = none := by simpa [Addr.add] using World.cell?_spot c0
      subst hspot
      refine ⟨k, off, rfl, ?_, fun i hi => ?_⟩
      · have c1 : w.cell? ⟨k, off, none⟩ = some (.int .u8 (zs.getD 0 0)) := by simpa [Addr.add] using c0
        by_cases hlt : k < w.heap.size
        · exact hlt
        · exfalso
          have : w.heap[k]? = none := by simp; omega
          simp [World.cell?, this] at c1
      · have hlt : i < zs.length := by omega
        have e : zs.getD i 0 = zs[i] := by simp [List.getD, hlt]
        have := u8_bounds (hw zs[i] (List.getElem_mem hlt))
        have ci := hc i hlt
        rw [show (Addr.mk k off none).add i = ⟨k, off + i, none⟩ by unfold Addr.add; split <;> simp_all] at ci
        exact ⟨zs.getD i 0, ci, by rw [e]; omega, by rw [e]; omega⟩
  have fin : ∀ w' : World, w' = w.alloc (.cells #[.slice a (min len 2000) cap, .int .i64 0] 52) → Rd w' w.heap.size a (min len 2000) cap 0 ∧ Below w.heap.size w w' ∧ w'.heap.size = w.heap.size + 1 := by
    rintro w' rfl
    refine ⟨⟨by simp, by simp, by simp, by omega, ?_⟩, (Below.refl _ _).alloc (by simp) _, by simp⟩
    intro h0
    obtain ⟨k, off, e, hk, hz⟩ := hrow h0
    refine ⟨k, off, e, hk, fun i hi => ?_⟩
    obtain ⟨z, cz, z0, z1⟩ := hz i hi
    exact ⟨z, by rw [World.cell?_alloc_past _ _ _ hk]; exact cz, z0, z1⟩
  have hcap : len ≤ cap := by
    rcases h with ⟨rfl, rfl, rfl, rfl⟩ | ⟨x, rfl, hl, _⟩
    · exact Nat.le_refl _
    · exact hl
  clear hrow h
  by_cases hlen : (2000 : Int) < (len : Int)
  · have hm : min len 2000 = 2000 := by omega
    rw [hm] at fin ⊢
    have F : Hid (∀ w' : World, w' = w.alloc (.cells #[.slice a 2000 cap, .int .i64 0] 52) → Rd w' w.heap.size a 2000 cap 0 ∧ Below w.heap.size w w' ∧ w'.heap.size = w.heap.size + 1) := fin
    clear fin hm
    have h2 : ¬ (cap : Int) < 2000 := by omega
    go_enter Try.func13, Try.ntmps13
    go_wp2
    go_ret
    exact ⟨rfl, F.out _ rfl⟩
  · have hm : min len 2000 = len := by omega
    rw [hm] at fin ⊢
    have F : Hid (∀ w' : World, w' = w.alloc (.cells #[.slice a len cap, .int .i64 0] 52) → Rd w' w.heap.size a len cap 0 ∧ Below w.heap.size w w' ∧ w'.heap.size = w.heap.size + 1) := fin
    clear fin hm
    go_enter Try.func13, Try.ntmps13
    go_wp2
    go_ret
    exact ⟨rfl, F.out _ rfl⟩

theorem Rd.next {w : World} {r : Nat} {a : Option Addr} {len cap : Nat} {p : Int} (h : Rd w r a len cap p) (q : Int) (nq : Nat) : Rd ((w.setCell ⟨r, 1, none⟩ (.int .i64 q)).drewN nq) r a len cap q := by
  obtain ⟨cb, cp, cf, hle, hby⟩ := h
  refine ⟨?_, ?_, ?_, hle, ?_⟩
  · simp [go_sem, cb]
  · simp [go_sem, cp]
  · simp [cf]
  · intro h0
    obtain ⟨k, off, e, hk, hz⟩ := hby h0
    have hne : ¬ k = r := by omega
    refine ⟨k, off, e, hk, fun i hi => ?_⟩
    obtain ⟨z, cz, z0, z1⟩ := hz i hi
    exact ⟨z, by simp [go_sem, cz], z0, z1⟩

theorem Rd.alloc {w : World} {r : Nat} {a : Option Addr} {len cap : Nat} {p : Int} (h : Rd w r a len cap p) (hr : r < w.heap.size) (o : Obj) : Rd (w.alloc o) r a len cap p :=
  h.below ((Below.refl _ _).alloc (by omega) o)

/-- w' is w, but for block r and for new blocks. -/
structure Kept (r : Nat) (w w' : World) : Prop where
  os : w'.os = w.os
  tape : w'.tape = w.tape
  output : w'.output = w.output
  size : w.heap.size ≤ w'.heap.size
  block : ∀ k, k < w.heap.size → ¬ k = r → w'.heap[k]? = w.heap[k]?

theorem Kept.refl (r : Nat) (w : World) : Kept r w w := ⟨rfl, rfl, rfl, Nat.le_refl _, fun _ _ _ => rfl⟩
theorem Kept.trans {r : Nat} {a b c : World} (h : Kept r a b) (k : Kept r b c) : Kept r a c :=
  ⟨k.os.trans h.os, k.tape.trans h.tape, k.output.trans h.output, Nat.le_trans h.size k.size, fun i hi hn => (k.block i (Nat.lt_of_lt_of_le hi h.size) hn).trans (h.block i hi hn)⟩
theorem Kept.ofBelow {r : Nat} {a b : World} (h : Below a.heap.size a b) : Kept r a b := ⟨h.os, h.tape, h.output, h.size, fun k hk _ => h.block k hk⟩
theorem Kept.alloc {r : Nat} {a w : World} (h : Kept r a w) (o : Obj) : Kept r a (w.alloc o) := h.trans (Kept.ofBelow ((Below.refl _ _).alloc (by simp) _))
theorem Kept.drewN {r : Nat} {a w : World} (h : Kept r a w) (n : Nat) : Kept r a (w.drewN n) := h.trans ⟨rfl, rfl, rfl, Nat.le_refl _, fun _ _ _ => rfl⟩
theorem Kept.drew {r : Nat} {a w : World} (h : Kept r a w) : Kept r a w.drew := h.trans ⟨rfl, rfl, rfl, Nat.le_refl _, fun _ _ _ => rfl⟩
theorem Kept.setCell {r : Nat} {a w : World} (h : Kept r a w) {q : Addr} (hq : a.heap.size ≤ q.block ∨ q.block = r) (u : Value) : Kept r a (w.setCell q u) :=
  ⟨h.os, h.tape, h.output, by have := h.size; simpa [World.setCell] using this, fun k hk hn => (Below.heap_setCell _ _ _ _ (by rcases hq with hq | hq <;> omega)).trans (h.block k hk hn)⟩
theorem Kept.below {r : Nat} {a w : World} (h : Kept r a w) {n : Nat} (hn : n ≤ r) (hs : n ≤ a.heap.size) : Below n a w :=
  ⟨h.os, h.tape, h.output, h.size, fun k hk => h.block k (by omega) (by omega)⟩
theorem kcell {r : Nat} {w w' : World} (h : Kept r w w') : (∀ b o, b < w.heap.size → ¬ b = r → w'.cell? ⟨b, o, none⟩ = w.cell? ⟨b, o, none⟩) ∧ (∀ b o, b < w.heap.size → ¬ b = r → w'.frozen? ⟨b, o, none⟩ = w.frozen? ⟨b, o, none⟩) :=
  ⟨fun b o hb hn => World.cell?_of_block (w := w) (h.block b hb hn), fun b o hb hn => World.frozen?_of_block (w := w) (h.block b hb hn)⟩

/-- pick, the world behind it a variable. -/
theorem pick_kept (r : Nat) (a : Option Addr) (len cap : Nat) (p n : Int) (w : World) (h : Rd w r a len cap p) (h0 : 0 ≤ p) (h1 : p ≤ 1000000) :
    Calls Try.prog 15 #[.pointer (some ⟨r, 0, none⟩), .int .i64 n] w fun e w' => ∃ x, e = .returned (.int .i64 x) ∧ PickOut n x ∧ Rd w' r a len cap (p + 1) ∧ Kept r w w' := by
  refine (pick_any r a len cap p n w h h0 h1).mono ?_
  rintro e w' ⟨x, rfl, hx, nq, rfl⟩
  exact ⟨x, rfl, hx, h.next _ _, ((Kept.refl r w).setCell (q := ⟨r, 1, none⟩) (.inr rfl) _).drewN nq⟩

/-- Two cells of a block that is not the reader's, carried on. -/
theorem Kept.two {r : Nat} {w w' : World} (h : Kept r w w') {b : Nat} (hb : b < w.heap.size) (hn : ¬ b = r) {u v : Value}
    (c : w.cell? ⟨b, 0, none⟩ = some u ∧ w.cell? ⟨b, 1, none⟩ = some v ∧ w.frozen? ⟨b, 0, none⟩ = false ∧ w.frozen? ⟨b, 1, none⟩ = false) :
    w'.cell? ⟨b, 0, none⟩ = some u ∧ w'.cell? ⟨b, 1, none⟩ = some v ∧ w'.frozen? ⟨b, 0, none⟩ = false ∧ w'.frozen? ⟨b, 1, none⟩ = false := by
  obtain ⟨hc, hf⟩ := kcell h
  rw [hc b 0 hb hn, hc b 1 hb hn, hf b 0 hb hn, hf b 1 hb hn]
  exact c

/-- A drawn place of a literal list of numbers. -/
theorem litCell (zs : List Int) {r : Nat} {w w' : World} {t : TypeId} (K : Kept r (w.alloc (.cells (zs.map (Value.int .i64)).toArray t)) w') (hne : ¬ w.heap.size = r) {u lo hi : Int} (u0 : 0 ≤ u) (u1 : u < zs.length) (hb : ∀ z ∈ zs, lo ≤ z ∧ z ≤ hi) :
    ∃ z, w'.cell? ⟨w.heap.size, u.toNat, none⟩ = some (.int .i64 z) ∧ lo ≤ z ∧ z ≤ hi := by
  have hlt : u.toNat < zs.length := by omega
  refine ⟨zs[u.toNat], ?_, hb _ (List.getElem_mem hlt)⟩
  rw [(kcell K).1 w.heap.size u.toNat (by simp) hne]
  simp [hlt]

def MapOut (c d : Int) : Prop := -1 ≤ c ∧ c ≤ 5 ∧ 0 ≤ d ∧ d ≤ 9

theorem Rd.lt {w : World} {r : Nat} {a : Option Addr} {len cap : Nat} {p : Int} (h : Rd w r a len cap p) : r < w.heap.size := by
  have c := h.p
  by_cases hlt : r < w.heap.size
  · exact hlt
  · exfalso
    have : w.heap[r]? = none := by simp; omega
    simp [World.cell?, this] at c

/-- The reader, at most m steps on. -/
def RdB (w : World) (r : Nat) (a : Option Addr) (len cap : Nat) (m : Int) : Prop := ∃ p, 0 ≤ p ∧ p ≤ m ∧ Rd w r a len cap p
theorem RdB.lt {w : World} {r : Nat} {a : Option Addr} {len cap : Nat} {m : Int} (h : RdB w r a len cap m) : r < w.heap.size := by
  obtain ⟨p, _, _, h⟩ := h; exact h.lt
theorem RdB.alloc {w : World} {r : Nat} {a : Option Addr} {len cap : Nat} {m : Int} (h : RdB w r a len cap m) (o : Obj) : RdB (w.alloc o) r a len cap m := by
  obtain ⟨p, h0, h1, h⟩ := h; exact ⟨p, h0, h1, h.alloc h.lt o⟩
theorem RdB.drew {w : World} {r : Nat} {a : Option Addr} {len cap : Nat} {m : Int} (h : RdB w r a len cap m) : RdB w.drew r a len cap m := by
  obtain ⟨p, h0, h1, h⟩ := h; exact ⟨p, h0, h1, h.below ⟨rfl, rfl, rfl, Nat.le_refl _, fun _ _ => rfl⟩⟩
theorem RdB.drewN {w : World} {r : Nat} {a : Option Addr} {len cap : Nat} {m : Int} (h : RdB w r a len cap m) (n : Nat) : RdB (w.drewN n) r a len cap m := by
  obtain ⟨p, h0, h1, h⟩ := h; exact ⟨p, h0, h1, h.below ⟨rfl, rfl, rfl, Nat.le_refl _, fun _ _ => rfl⟩⟩

theorem pick_B {r : Nat} {a : Option Addr} {len cap : Nat} {m n : Int} {w : World} (h : RdB w r a len cap m) (hm : m ≤ 1000000) :
    Calls Try.prog 15 #[.pointer (some ⟨r, 0, none⟩), .int .i64 n] w fun e w' => ∃ x, e = .returned (.int .i64 x) ∧ PickOut n x ∧ RdB w' r a len cap (m + 1) ∧ Kept r w w' := by
  obtain ⟨p, h0, h1, h⟩ := h
  refine (pick_kept r a len cap p n w h h0 (by omega)).mono ?_
  rintro e w' ⟨x, rfl, hx, R, K⟩
  exact ⟨x, rfl, hx, ⟨p + 1, by omega, by omega, R⟩, K⟩

end Go.Proofs.Ytodmfbbicdbjdaa
