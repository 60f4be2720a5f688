/- The walk of DrawPlcSide: a map, a cell and a side within bounds; conditions: those typed. -/
import Derived.Test.YteapgcaimcjjpaaDraw2
import Derived.Deep.RegionWith
namespace Go.Proofs.Yteapgcaimcjjpaa
open Go.RowKit
set_option linter.unusedVariables false
theorem wrap_id {n : Int} (h1 : -1000000 ≤ n) (h2 : n ≤ 1000000) : IntKind.i64.wrap n = n := by
  rw [IntKind.wrap_i64]; omega
theorem Lits.newD (zs : List Int) (W : World) (t : TypeId) : Lits (W.alloc (.cells (zs.map (Value.int .i64)).toArray t)).drew W.heap.size zs := Lits.new zs W t

theorem lit6_get {u : Int} (h0 : 0 ≤ u) (h1 : u < 6) (h : u.toNat < [Value.int .i64 0, Value.int .i64 1, Value.int .i64 0, Value.int .i64 1, Value.int .i64 2, Value.int .i64 (-1)].length) :
    [Value.int .i64 0, Value.int .i64 1, Value.int .i64 0, Value.int .i64 1, Value.int .i64 2, Value.int .i64 (-1)][u.toNat]'h = Value.int .i64 (lit6 u) := by
  have : u = 0 ∨ u = 1 ∨ u = 2 ∨ u = 3 ∨ u = 4 ∨ u = 5 := by omega
  rcases this with rfl | rfl | rfl | rfl | rfl | rfl <;> rfl
theorem finB {w W : World} (h : KK (w.heap.size + 1) w W) : Below w.heap.size w W := Kept.below h (by omega) (Nat.le_refl _)

set_option maxHeartbeats 8000000 in
theorem drawSide_any (a : Option Addr) (len cap : Nat) (zs : List Int) (w : World) (h : IsRow w a len cap zs) :
    Calls Try.prog 5 #[.slice a len cap] w fun e w' => ∃ c d k s, e = .returned (.tuple #[.agg #[.int .i64 c, .int .i64 d], .int .i64 k, .int .i64 s]) ∧ MapOut c d ∧ -1 ≤ k ∧ k ≤ 4 ∧ -1 ≤ s ∧ s ≤ 2 ∧ Below w.heap.size w w' := by
  have H : Hid (IsRow (w.alloc (.cells #[.int .i64 0, .int .i64 0] 24)) a len cap zs) := by
    rcases h with h | ⟨x, rfl, hl, hm, hz, hc, hw⟩
    · exact .inl h
    · refine .inr ⟨x, rfl, hl, hm, hz, fun i hi => ?_, hw⟩
      have hlt : (x.add i).block < w.heap.size := by
        by_cases g : (x.add i).block < w.heap.size
        · exact g
        · exfalso
          have : w.heap[(x.add i).block]? = none := by simp; omega
          have c := hc i hi
          simp [World.cell?, this] at c
      rw [(bcell' ((Below.refl _ _).alloc (by simp) _) hlt)]; exact hc i hi
  clear h
  go_enter Try.func5, Try.ntmps5
  go_wp2_with fail
  refine (open_any a len cap zs _ H.out).mono ?_
  rintro e w1 ⟨rfl, R1, B1, S1⟩
  have R : RdB w1 (w.heap.size + 1) a (min len 2000) cap 0 := ⟨0, by omega, by omega, by simpa using R1⟩
  have T1 : Two w1 w.heap.size (.int .i64 0) (.int .i64 0) := Two.below (W := w.alloc (.cells #[.int .i64 0, .int .i64 0] 24)) (by simp [Two]) B1
  have hz1 : w1.heap.size = w.heap.size + 2 := by simpa using S1
  have hn1 : ¬ w1.heap.size = w.heap.size + 1 := by omega
  have hlt1 : w.heap.size < w1.heap.size := by omega
  have hl1 : ¬ w1.heap.size = w.heap.size := by omega
  have hl1' : ¬ w.heap.size = w1.heap.size := by omega
  clear hz1
  have Q1 : KK (w.heap.size + 1) w w1 := ((Kept.refl _ w).alloc _).trans (Kept.ofBelow B1)
  clear R1 S1 B1
  go_wp2
  go_region_with (first
    | (go_at_call 17; refine (map_B (by (repeat (first | assumption | apply RdB.drew | apply RdB.alloc))) (by omega)).mono ?_; rintro e w' ⟨c, d, rfl, hm, R, K⟩; have T := Two.kept K (by (repeat (first | assumption | apply Two.drew | apply Two.alloc))) (by omega); have hn : ¬ w'.heap.size = w.heap.size + 1 := (by have := R.lt; omega); have hlt : w.heap.size < w'.heap.size := (by have := R.lt; omega); have hl : ¬ w'.heap.size = w.heap.size := (by have := R.lt; omega); have hl' : ¬ w.heap.size = w'.heap.size := (by have := R.lt; omega); have T' := T; obtain ⟨t0, t1, t2, t3⟩ := T'; (try (have G := Lits.kept K (by (first | assumption | exact Lits.new [0, 1, 0, 1, 2, -1] _ _ | exact Lits.newD [0, 1, 0, 1, 2, -1] _ _)) (by assumption); have G' := lit6_of G)); have Q := KK.kept (w := w) K (by (repeat (first | assumption | apply KK.drew | apply KK.alloc))); clear K)
    | (go_at_call 18; refine (pick_B (by (repeat (first | assumption | apply RdB.drew | apply RdB.alloc))) (by omega)).mono ?_; rintro e w' ⟨u, rfl, ⟨u0, u1, _⟩, R, K⟩; have u2 := u1 (by decide); clear u1; have L0 := lit6_at u0 u2; have uw : IntKind.i64.wrap (u - 1) = u - 1 := wrap_id (by omega) (by omega); have L1 := lit6_cell u0 u2; have T := Two.kept K (by (repeat (first | assumption | apply Two.drew | apply Two.alloc))) (by omega); have hn : ¬ w'.heap.size = w.heap.size + 1 := (by have := R.lt; omega); have hlt : w.heap.size < w'.heap.size := (by have := R.lt; omega); have hl : ¬ w'.heap.size = w.heap.size := (by have := R.lt; omega); have hl' : ¬ w.heap.size = w'.heap.size := (by have := R.lt; omega); have T' := T; obtain ⟨t0, t1, t2, t3⟩ := T'; (try (have G := Lits.kept K (by (first | assumption | exact Lits.new [0, 1, 0, 1, 2, -1] _ _ | exact Lits.newD [0, 1, 0, 1, 2, -1] _ _)) (by assumption); have G' := lit6_of G u u0 u2)); have Q := KK.kept (w := w) K (by (repeat (first | assumption | apply KK.drew | apply KK.alloc))); clear K))
  all_goals 
  all_goals
    go_wp2
    refine bodyPost_ret (v := .tuple #[.agg #[.int .i64 _, .int .i64 _], .int .i64 _, .int .i64 _]) (by simp [results, Try.results5, go_sem, *]; first | exact ⟨⟨rfl, rfl⟩, rfl, rfl⟩ | exact ⟨⟨rfl, rfl⟩, rfl, lit6_get (by assumption) (by assumption) _⟩) rfl ⟨_, _, _, _, rfl, by assumption, by omega, by omega, (lit6_bd _).1, (lit6_bd _).2, ?_⟩
    repeat (first | exact finB (by assumption) | refine Below.setCell ?_ (by simp) _ | refine Below.alloc ?_ (by simp; omega) _ | apply Below.drew)
end Go.Proofs.Yteapgcaimcjjpaa
