/- The walks of the model's l3Where and l3What; conditions: the words lie in memory. -/
import Derived.Test.YtmccbbanganjlaaDoorORead4
import Derived.Test.YtmccbbanganjlaaDoorRead5
namespace Go.Proofs.YtmccbbanganjlaaDoor
open Go.RowKit
set_option linter.unusedVariables false

theorem left_eq (x : ByteArray) : (x.toList == [108, 101, 102, 116]) = decide (x = wordOf 0) := by
  rw [← list_eq]
  congr 1
  decide +kernel
theorem right_eq (x : ByteArray) : (x.toList == [114, 105, 103, 104, 116]) = decide (x = wordOf 1) := by
  rw [← list_eq]
  congr 1
  decide +kernel

theorem where_none (a : Option Addr) (n cap k : Nat) (h : (n : Int) ≤ (k : Int)) (hk : k ≤ 100) (w : World) :
    Calls Tryd.prog 63 #[.slice a n cap, .int .i64 k] w fun e w' => e = .returned (.int .i64 (-1)) ∧ w' = w := by
  go_enter Tryd.func63, Tryd.ntmps63
  go_wp2
  go_ret
  exact ⟨rfl, rfl⟩

theorem where_some (g n cap k : Nat) (h : (k : Int) < (n : Int)) (hn : n ≤ 1000) (x : ByteArray) (w : World) (hc : w.cell? ⟨g, k, none⟩ = some (.string x)) :
    Calls Tryd.prog 63 #[.slice (some ⟨g, 0, none⟩) n cap, .int .i64 k] w fun e w' => e = .returned (.int .i64 (sideF x)) ∧ w' = w := by
  have h0 := left_eq x
  have h1 := right_eq x
  go_enter Tryd.func63, Tryd.ntmps63
  go_wp2
  all_goals (go_ret; exact ⟨by simp_all [sideF], rfl⟩)

/-- What the model reads behind the two numbers. -/
def Looked (v : Value) (w : World) (U S : Nat → Int) : Prop := ∀ w' : World, Below w.heap.size w w' → (∀ k : Nat, k ≤ 100 → Calls Tryd.prog 38 #[v, .int .i64 k] w' fun e w'' => e = .returned (.int .i64 (U k)) ∧ w'' = w') ∧ (∀ k : Nat, k ≤ 100 → Calls Tryd.prog 63 #[v, .int .i64 k] w' fun e w'' => e = .returned (.int .i64 (S k)) ∧ w'' = w')

set_option maxHeartbeats 1000000 in
theorem what_step (g n cap : Nat) (h3 : (3 : Int) ≤ (n : Int)) (hn : n ≤ 1000) (who seq : Int) (U S : Nat → Int) (w : World) (hg : g < w.heap.size) (hc : w.cell? ⟨g, 2, none⟩ = some (.string ⟨#[115, 116, 101, 112]⟩)) (hL : Looked (.slice (some ⟨g, 0, none⟩) n cap) w U S) :
    Calls Tryd.prog 37 #[.agg #[.int .i64 who, .int .i64 seq, .int .i64 0, .int .i64 0, .int .i64 0], .slice (some ⟨g, 0, none⟩) n cap] w fun e w' => e = .returned (.agg #[.int .i64 who, .int .i64 seq, .int .i64 1, .int .i64 (S 3), .int .i64 0]) ∧ Below w.heap.size w w' := by
  have BA : Below w.heap.size w ((w.alloc (.cells #[.int .i64 who, .int .i64 seq, .int .i64 0, .int .i64 0, .int .i64 0] 24)).alloc (.cells #[.int .i64 0, .int .i64 0, .int .i64 0, .int .i64 0, .int .i64 0] 24)) := ((Below.refl _ _).alloc (Nat.le_refl _) _).alloc (by simp) _
  have LU : Hid (∀ (k : Int), 0 ≤ k → k ≤ 100 → ∀ w', Below w.heap.size w w' → Calls Tryd.prog 38 #[.slice (some ⟨g, 0, none⟩) n cap, .int .i64 k] w' fun e w'' => e = .returned (.int .i64 (U k.toNat)) ∧ w'' = w') := fun k h0 h1 w' hb => by
    have := (hL w' hb).1 k.toNat (by omega)
    rwa [show ((k.toNat : Nat) : Int) = k by omega] at this
  have LS : Hid (∀ (k : Int), 0 ≤ k → k ≤ 100 → ∀ w', Below w.heap.size w w' → Calls Tryd.prog 63 #[.slice (some ⟨g, 0, none⟩) n cap, .int .i64 k] w' fun e w'' => e = .returned (.int .i64 (S k.toNat)) ∧ w'' = w') := fun k h0 h1 w' hb => by
    have := (hL w' hb).2 k.toNat (by omega)
    rwa [show ((k.toNat : Nat) : Int) = k by omega] at this
  clear hL
  go_enter Tryd.func37, Tryd.ntmps37
  go_wp2_with fail
  go_region_held3 (fun w' => (∀ b o, b < w.heap.size + 1 → w'.cell? ⟨b, o, none⟩ = (w.alloc (.cells #[.int .i64 who, .int .i64 seq, .int .i64 0, .int .i64 0, .int .i64 0] 24)).cell? ⟨b, o, none⟩) ∧ w.heap.size + 2 ≤ w'.heap.size) (first | assumption | (refine ⟨fun b o hb => ?_, by simp⟩; exact ((Below.refl _ _).alloc (Nat.le_refl _) _ : Below (w.alloc (.cells #[.int .i64 who, .int .i64 seq, .int .i64 0, .int .i64 0, .int .i64 0] 24)).heap.size (w.alloc (.cells #[.int .i64 who, .int .i64 seq, .int .i64 0, .int .i64 0, .int .i64 0] 24)) (World.alloc _ _)).cell (p := ⟨b, o, none⟩) (by simpa using hb))) (first | (go_at_call 63; refine (LS.out _ (by omega) (by omega) _ (by repeat (first | exact BA | exact Below.refl _ _ | apply Below.drew | apply bdrewN))).mono ?_; rintro e w' ⟨rfl, hw'⟩; subst hw'))
  go_wp2
  exact bodyPost_ret (v := .agg #[.int .i64 who, .int .i64 seq, .int .i64 1, .int .i64 (S 3), .int .i64 0]) (by simp [results, Tryd.results37, go_sem]) rfl ⟨rfl, (((Below.refl _ _).alloc (Nat.le_refl _) _).alloc (by simp) _).drew⟩

set_option maxHeartbeats 1000000 in
theorem what_give (g n cap : Nat) (h3 : (3 : Int) ≤ (n : Int)) (hn : n ≤ 1000) (who seq : Int) (U S : Nat → Int) (w : World) (hg : g < w.heap.size) (hc : w.cell? ⟨g, 2, none⟩ = some (.string ⟨#[103, 105, 118, 101]⟩)) (hL : Looked (.slice (some ⟨g, 0, none⟩) n cap) w U S) :
    Calls Tryd.prog 37 #[.agg #[.int .i64 who, .int .i64 seq, .int .i64 0, .int .i64 0, .int .i64 0], .slice (some ⟨g, 0, none⟩) n cap] w fun e w' => e = .returned (.agg #[.int .i64 who, .int .i64 seq, .int .i64 2, .int .i64 (U 3), .int .i64 (U 4)]) ∧ Below w.heap.size w w' := by
  have BA : Below w.heap.size w ((w.alloc (.cells #[.int .i64 who, .int .i64 seq, .int .i64 0, .int .i64 0, .int .i64 0] 24)).alloc (.cells #[.int .i64 0, .int .i64 0, .int .i64 0, .int .i64 0, .int .i64 0] 24)) := ((Below.refl _ _).alloc (Nat.le_refl _) _).alloc (by simp) _
  have LU : Hid (∀ (k : Int), 0 ≤ k → k ≤ 100 → ∀ w', Below w.heap.size w w' → Calls Tryd.prog 38 #[.slice (some ⟨g, 0, none⟩) n cap, .int .i64 k] w' fun e w'' => e = .returned (.int .i64 (U k.toNat)) ∧ w'' = w') := fun k h0 h1 w' hb => by
    have := (hL w' hb).1 k.toNat (by omega)
    rwa [show ((k.toNat : Nat) : Int) = k by omega] at this
  have LS : Hid (∀ (k : Int), 0 ≤ k → k ≤ 100 → ∀ w', Below w.heap.size w w' → Calls Tryd.prog 63 #[.slice (some ⟨g, 0, none⟩) n cap, .int .i64 k] w' fun e w'' => e = .returned (.int .i64 (S k.toNat)) ∧ w'' = w') := fun k h0 h1 w' hb => by
    have := (hL w' hb).2 k.toNat (by omega)
    rwa [show ((k.toNat : Nat) : Int) = k by omega] at this
  clear hL
  go_enter Tryd.func37, Tryd.ntmps37
  go_wp2_with fail
  go_region_held3 (fun w' => (∀ b o, b < w.heap.size + 1 → w'.cell? ⟨b, o, none⟩ = (w.alloc (.cells #[.int .i64 who, .int .i64 seq, .int .i64 0, .int .i64 0, .int .i64 0] 24)).cell? ⟨b, o, none⟩) ∧ w.heap.size + 2 ≤ w'.heap.size) (first | assumption | (refine ⟨fun b o hb => ?_, by simp⟩; exact ((Below.refl _ _).alloc (Nat.le_refl _) _ : Below (w.alloc (.cells #[.int .i64 who, .int .i64 seq, .int .i64 0, .int .i64 0, .int .i64 0] 24)).heap.size (w.alloc (.cells #[.int .i64 who, .int .i64 seq, .int .i64 0, .int .i64 0, .int .i64 0] 24)) (World.alloc _ _)).cell (p := ⟨b, o, none⟩) (by simpa using hb))) (first | (go_at_call 38; refine (LU.out _ (by omega) (by omega) _ (by repeat (first | exact BA | exact Below.refl _ _ | apply Below.drew | apply bdrewN))).mono ?_; rintro e w' ⟨rfl, hw'⟩; subst hw'))
  go_wp2
  exact bodyPost_ret (v := .agg #[.int .i64 who, .int .i64 seq, .int .i64 2, .int .i64 (U 3), .int .i64 (U 4)]) (by simp [results, Tryd.results37, go_sem]) rfl ⟨rfl, (((Below.refl _ _).alloc (Nat.le_refl _) _).alloc (by simp) _).drew⟩

set_option maxHeartbeats 1000000 in
theorem what_drop (g n cap : Nat) (h3 : (3 : Int) ≤ (n : Int)) (hn : n ≤ 1000) (who seq : Int) (U S : Nat → Int) (w : World) (hg : g < w.heap.size) (hc : w.cell? ⟨g, 2, none⟩ = some (.string ⟨#[100, 114, 111, 112]⟩)) (hL : Looked (.slice (some ⟨g, 0, none⟩) n cap) w U S) :
    Calls Tryd.prog 37 #[.agg #[.int .i64 who, .int .i64 seq, .int .i64 0, .int .i64 0, .int .i64 0], .slice (some ⟨g, 0, none⟩) n cap] w fun e w' => e = .returned (.agg #[.int .i64 who, .int .i64 seq, .int .i64 3, .int .i64 0, .int .i64 (U 3)]) ∧ Below w.heap.size w w' := by
  have BA : Below w.heap.size w ((w.alloc (.cells #[.int .i64 who, .int .i64 seq, .int .i64 0, .int .i64 0, .int .i64 0] 24)).alloc (.cells #[.int .i64 0, .int .i64 0, .int .i64 0, .int .i64 0, .int .i64 0] 24)) := ((Below.refl _ _).alloc (Nat.le_refl _) _).alloc (by simp) _
  have LU : Hid (∀ (k : Int), 0 ≤ k → k ≤ 100 → ∀ w', Below w.heap.size w w' → Calls Tryd.prog 38 #[.slice (some ⟨g, 0, none⟩) n cap, .int .i64 k] w' fun e w'' => e = .returned (.int .i64 (U k.toNat)) ∧ w'' = w') := fun k h0 h1 w' hb => by
    have := (hL w' hb).1 k.toNat (by omega)
    rwa [show ((k.toNat : Nat) : Int) = k by omega] at this
  have LS : Hid (∀ (k : Int), 0 ≤ k → k ≤ 100 → ∀ w', Below w.heap.size w w' → Calls Tryd.prog 63 #[.slice (some ⟨g, 0, none⟩) n cap, .int .i64 k] w' fun e w'' => e = .returned (.int .i64 (S k.toNat)) ∧ w'' = w') := fun k h0 h1 w' hb => by
    have := (hL w' hb).2 k.toNat (by omega)
    rwa [show ((k.toNat : Nat) : Int) = k by omega] at this
  clear hL
  go_enter Tryd.func37, Tryd.ntmps37
  go_wp2_with fail
  go_region_held3 (fun w' => (∀ b o, b < w.heap.size + 1 → w'.cell? ⟨b, o, none⟩ = (w.alloc (.cells #[.int .i64 who, .int .i64 seq, .int .i64 0, .int .i64 0, .int .i64 0] 24)).cell? ⟨b, o, none⟩) ∧ w.heap.size + 2 ≤ w'.heap.size) (first | assumption | (refine ⟨fun b o hb => ?_, by simp⟩; exact ((Below.refl _ _).alloc (Nat.le_refl _) _ : Below (w.alloc (.cells #[.int .i64 who, .int .i64 seq, .int .i64 0, .int .i64 0, .int .i64 0] 24)).heap.size (w.alloc (.cells #[.int .i64 who, .int .i64 seq, .int .i64 0, .int .i64 0, .int .i64 0] 24)) (World.alloc _ _)).cell (p := ⟨b, o, none⟩) (by simpa using hb))) (first | (go_at_call 38; refine (LU.out _ (by omega) (by omega) _ (by repeat (first | exact BA | exact Below.refl _ _ | apply Below.drew | apply bdrewN))).mono ?_; rintro e w' ⟨rfl, hw'⟩; subst hw'))
  go_wp2
  exact bodyPost_ret (v := .agg #[.int .i64 who, .int .i64 seq, .int .i64 3, .int .i64 0, .int .i64 (U 3)]) (by simp [results, Tryd.results37, go_sem]) rfl ⟨rfl, (((Below.refl _ _).alloc (Nat.le_refl _) _).alloc (by simp) _).drew⟩

set_option maxHeartbeats 1000000 in
theorem what_pick (g n cap : Nat) (h3 : (3 : Int) ≤ (n : Int)) (hn : n ≤ 1000) (who seq : Int) (U S : Nat → Int) (w : World) (hg : g < w.heap.size) (hc : w.cell? ⟨g, 2, none⟩ = some (.string ⟨#[112, 105, 99, 107]⟩)) (hL : Looked (.slice (some ⟨g, 0, none⟩) n cap) w U S) :
    Calls Tryd.prog 37 #[.agg #[.int .i64 who, .int .i64 seq, .int .i64 0, .int .i64 0, .int .i64 0], .slice (some ⟨g, 0, none⟩) n cap] w fun e w' => e = .returned (.agg #[.int .i64 who, .int .i64 seq, .int .i64 4, .int .i64 0, .int .i64 (U 3)]) ∧ Below w.heap.size w w' := by
  have BA : Below w.heap.size w ((w.alloc (.cells #[.int .i64 who, .int .i64 seq, .int .i64 0, .int .i64 0, .int .i64 0] 24)).alloc (.cells #[.int .i64 0, .int .i64 0, .int .i64 0, .int .i64 0, .int .i64 0] 24)) := ((Below.refl _ _).alloc (Nat.le_refl _) _).alloc (by simp) _
  have LU : Hid (∀ (k : Int), 0 ≤ k → k ≤ 100 → ∀ w', Below w.heap.size w w' → Calls Tryd.prog 38 #[.slice (some ⟨g, 0, none⟩) n cap, .int .i64 k] w' fun e w'' => e = .returned (.int .i64 (U k.toNat)) ∧ w'' = w') := fun k h0 h1 w' hb => by
    have := (hL w' hb).1 k.toNat (by omega)
    rwa [show ((k.toNat : Nat) : Int) = k by omega] at this
  have LS : Hid (∀ (k : Int), 0 ≤ k → k ≤ 100 → ∀ w', Below w.heap.size w w' → Calls Tryd.prog 63 #[.slice (some ⟨g, 0, none⟩) n cap, .int .i64 k] w' fun e w'' => e = .returned (.int .i64 (S k.toNat)) ∧ w'' = w') := fun k h0 h1 w' hb => by
    have := (hL w' hb).2 k.toNat (by omega)
    rwa [show ((k.toNat : Nat) : Int) = k by omega] at this
  clear hL
  go_enter Tryd.func37, Tryd.ntmps37
  go_wp2_with fail
  go_region_held3 (fun w' => (∀ b o, b < w.heap.size + 1 → w'.cell? ⟨b, o, none⟩ = (w.alloc (.cells #[.int .i64 who, .int .i64 seq, .int .i64 0, .int .i64 0, .int .i64 0] 24)).cell? ⟨b, o, none⟩) ∧ w.heap.size + 2 ≤ w'.heap.size) (first | assumption | (refine ⟨fun b o hb => ?_, by simp⟩; exact ((Below.refl _ _).alloc (Nat.le_refl _) _ : Below (w.alloc (.cells #[.int .i64 who, .int .i64 seq, .int .i64 0, .int .i64 0, .int .i64 0] 24)).heap.size (w.alloc (.cells #[.int .i64 who, .int .i64 seq, .int .i64 0, .int .i64 0, .int .i64 0] 24)) (World.alloc _ _)).cell (p := ⟨b, o, none⟩) (by simpa using hb))) (first | (go_at_call 38; refine (LU.out _ (by omega) (by omega) _ (by repeat (first | exact BA | exact Below.refl _ _ | apply Below.drew | apply bdrewN))).mono ?_; rintro e w' ⟨rfl, hw'⟩; subst hw'))
  go_wp2
  exact bodyPost_ret (v := .agg #[.int .i64 who, .int .i64 seq, .int .i64 4, .int .i64 0, .int .i64 (U 3)]) (by simp [results, Tryd.results37, go_sem]) rfl ⟨rfl, (((Below.refl _ _).alloc (Nat.le_refl _) _).alloc (by simp) _).drew⟩

set_option maxHeartbeats 1000000 in
theorem what_throw (g n cap : Nat) (h3 : (3 : Int) ≤ (n : Int)) (hn : n ≤ 1000) (who seq : Int) (U S : Nat → Int) (w : World) (hg : g < w.heap.size) (hc : w.cell? ⟨g, 2, none⟩ = some (.string ⟨#[116, 104, 114, 111, 119]⟩)) (hL : Looked (.slice (some ⟨g, 0, none⟩) n cap) w U S) :
    Calls Tryd.prog 37 #[.agg #[.int .i64 who, .int .i64 seq, .int .i64 0, .int .i64 0, .int .i64 0], .slice (some ⟨g, 0, none⟩) n cap] w fun e w' => e = .returned (.agg #[.int .i64 who, .int .i64 seq, .int .i64 5, .int .i64 (S 3), .int .i64 (U 4)]) ∧ Below w.heap.size w w' := by
  have BA : Below w.heap.size w ((w.alloc (.cells #[.int .i64 who, .int .i64 seq, .int .i64 0, .int .i64 0, .int .i64 0] 24)).alloc (.cells #[.int .i64 0, .int .i64 0, .int .i64 0, .int .i64 0, .int .i64 0] 24)) := ((Below.refl _ _).alloc (Nat.le_refl _) _).alloc (by simp) _
  have LU : Hid (∀ (k : Int), 0 ≤ k → k ≤ 100 → ∀ w', Below w.heap.size w w' → Calls Tryd.prog 38 #[.slice (some ⟨g, 0, none⟩) n cap, .int .i64 k] w' fun e w'' => e = .returned (.int .i64 (U k.toNat)) ∧ w'' = w') := fun k h0 h1 w' hb => by
    have := (hL w' hb).1 k.toNat (by omega)
    rwa [show ((k.toNat : Nat) : Int) = k by omega] at this
  have LS : Hid (∀ (k : Int), 0 ≤ k → k ≤ 100 → ∀ w', Below w.heap.size w w' → Calls Tryd.prog 63 #[.slice (some ⟨g, 0, none⟩) n cap, .int .i64 k] w' fun e w'' => e = .returned (.int .i64 (S k.toNat)) ∧ w'' = w') := fun k h0 h1 w' hb => by
    have := (hL w' hb).2 k.toNat (by omega)
    rwa [show ((k.toNat : Nat) : Int) = k by omega] at this
  clear hL
  go_enter Tryd.func37, Tryd.ntmps37
  go_wp2_with fail
  go_region_held3 (fun w' => (∀ b o, b < w.heap.size + 1 → w'.cell? ⟨b, o, none⟩ = (w.alloc (.cells #[.int .i64 who, .int .i64 seq, .int .i64 0, .int .i64 0, .int .i64 0] 24)).cell? ⟨b, o, none⟩) ∧ w.heap.size + 2 ≤ w'.heap.size) (first | assumption | (refine ⟨fun b o hb => ?_, by simp⟩; exact ((Below.refl _ _).alloc (Nat.le_refl _) _ : Below (w.alloc (.cells #[.int .i64 who, .int .i64 seq, .int .i64 0, .int .i64 0, .int .i64 0] 24)).heap.size (w.alloc (.cells #[.int .i64 who, .int .i64 seq, .int .i64 0, .int .i64 0, .int .i64 0] 24)) (World.alloc _ _)).cell (p := ⟨b, o, none⟩) (by simpa using hb))) (first | (go_at_call 38; refine (LU.out _ (by omega) (by omega) _ (by repeat (first | exact BA | exact Below.refl _ _ | apply Below.drew | apply bdrewN))).mono ?_; rintro e w' ⟨rfl, hw'⟩; subst hw') | (go_at_call 63; refine (LS.out _ (by omega) (by omega) _ (by repeat (first | exact BA | exact Below.refl _ _ | apply Below.drew | apply bdrewN))).mono ?_; rintro e w' ⟨rfl, hw'⟩; subst hw'))
  go_wp2
  exact bodyPost_ret (v := .agg #[.int .i64 who, .int .i64 seq, .int .i64 5, .int .i64 (S 3), .int .i64 (U 4)]) (by simp [results, Tryd.results37, go_sem]) rfl ⟨rfl, (((Below.refl _ _).alloc (Nat.le_refl _) _).alloc (by simp) _).drew⟩

set_option maxHeartbeats 1000000 in
theorem what_rest (g n cap : Nat) (h3 : (3 : Int) ≤ (n : Int)) (hn : n ≤ 1000) (who seq : Int) (U S : Nat → Int) (w : World) (hg : g < w.heap.size) (hc : w.cell? ⟨g, 2, none⟩ = some (.string ⟨#[114, 101, 115, 116]⟩)) (hL : Looked (.slice (some ⟨g, 0, none⟩) n cap) w U S) :
    Calls Tryd.prog 37 #[.agg #[.int .i64 who, .int .i64 seq, .int .i64 0, .int .i64 0, .int .i64 0], .slice (some ⟨g, 0, none⟩) n cap] w fun e w' => e = .returned (.agg #[.int .i64 who, .int .i64 seq, .int .i64 6, .int .i64 0, .int .i64 0]) ∧ Below w.heap.size w w' := by
  have BA : Below w.heap.size w ((w.alloc (.cells #[.int .i64 who, .int .i64 seq, .int .i64 0, .int .i64 0, .int .i64 0] 24)).alloc (.cells #[.int .i64 0, .int .i64 0, .int .i64 0, .int .i64 0, .int .i64 0] 24)) := ((Below.refl _ _).alloc (Nat.le_refl _) _).alloc (by simp) _
  have LU : Hid (∀ (k : Int), 0 ≤ k → k ≤ 100 → ∀ w', Below w.heap.size w w' → Calls Tryd.prog 38 #[.slice (some ⟨g, 0, none⟩) n cap, .int .i64 k] w' fun e w'' => e = .returned (.int .i64 (U k.toNat)) ∧ w'' = w') := fun k h0 h1 w' hb => by
    have := (hL w' hb).1 k.toNat (by omega)
    rwa [show ((k.toNat : Nat) : Int) = k by omega] at this
  have LS : Hid (∀ (k : Int), 0 ≤ k → k ≤ 100 → ∀ w', Below w.heap.size w w' → Calls Tryd.prog 63 #[.slice (some ⟨g, 0, none⟩) n cap, .int .i64 k] w' fun e w'' => e = .returned (.int .i64 (S k.toNat)) ∧ w'' = w') := fun k h0 h1 w' hb => by
    have := (hL w' hb).2 k.toNat (by omega)
    rwa [show ((k.toNat : Nat) : Int) = k by omega] at this
  clear hL
  go_enter Tryd.func37, Tryd.ntmps37
  go_wp2
  exact bodyPost_ret (v := .agg #[.int .i64 who, .int .i64 seq, .int .i64 6, .int .i64 0, .int .i64 0]) (by simp [results, Tryd.results37, go_sem]) rfl ⟨rfl, ((Below.refl _ _).alloc (Nat.le_refl _) _).alloc (by simp) _⟩

theorem what_none (g n cap : Nat) (h3 : (3 : Int) ≤ (n : Int)) (hn : n ≤ 1000) (who seq : Int) (x : ByteArray) (hx : readerOf x = none) (w : World) (hg : g < w.heap.size) (hc : w.cell? ⟨g, 2, none⟩ = some (.string x)) :
    Calls Tryd.prog 37 #[.agg #[.int .i64 who, .int .i64 seq, .int .i64 0, .int .i64 0, .int .i64 0], .slice (some ⟨g, 0, none⟩) n cap] w fun e w' => e = .returned (.agg #[.int .i64 0, .int .i64 0, .int .i64 0, .int .i64 0, .int .i64 0]) ∧ Below w.heap.size w w' := by
  have nstep : (x.toList == [115, 116, 101, 112]) = false := by
    have e : (x.toList == [115, 116, 101, 112]) = decide (x = (⟨#[115, 116, 101, 112]⟩ : ByteArray)) := by
      rw [← list_eq]
      congr 1
      decide +kernel
    rw [e, decide_eq_false]
    intro h
    subst h
    exact absurd hx (by decide +kernel)
  have ngive : (x.toList == [103, 105, 118, 101]) = false := by
    have e : (x.toList == [103, 105, 118, 101]) = decide (x = (⟨#[103, 105, 118, 101]⟩ : ByteArray)) := by
      rw [← list_eq]
      congr 1
      decide +kernel
    rw [e, decide_eq_false]
    intro h
    subst h
    exact absurd hx (by decide +kernel)
  have ndrop : (x.toList == [100, 114, 111, 112]) = false := by
    have e : (x.toList == [100, 114, 111, 112]) = decide (x = (⟨#[100, 114, 111, 112]⟩ : ByteArray)) := by
      rw [← list_eq]
      congr 1
      decide +kernel
    rw [e, decide_eq_false]
    intro h
    subst h
    exact absurd hx (by decide +kernel)
  have npick : (x.toList == [112, 105, 99, 107]) = false := by
    have e : (x.toList == [112, 105, 99, 107]) = decide (x = (⟨#[112, 105, 99, 107]⟩ : ByteArray)) := by
      rw [← list_eq]
      congr 1
      decide +kernel
    rw [e, decide_eq_false]
    intro h
    subst h
    exact absurd hx (by decide +kernel)
  have nthrow : (x.toList == [116, 104, 114, 111, 119]) = false := by
    have e : (x.toList == [116, 104, 114, 111, 119]) = decide (x = (⟨#[116, 104, 114, 111, 119]⟩ : ByteArray)) := by
      rw [← list_eq]
      congr 1
      decide +kernel
    rw [e, decide_eq_false]
    intro h
    subst h
    exact absurd hx (by decide +kernel)
  have nrest : (x.toList == [114, 101, 115, 116]) = false := by
    have e : (x.toList == [114, 101, 115, 116]) = decide (x = (⟨#[114, 101, 115, 116]⟩ : ByteArray)) := by
      rw [← list_eq]
      congr 1
      decide +kernel
    rw [e, decide_eq_false]
    intro h
    subst h
    exact absurd hx (by decide +kernel)
  clear hx
  go_enter Tryd.func37, Tryd.ntmps37
  go_wp2
  exact bodyPost_ret (v := .agg #[.int .i64 0, .int .i64 0, .int .i64 0, .int .i64 0, .int .i64 0]) (by simp [results, Tryd.results37, go_sem]) rfl ⟨rfl, ((Below.refl _ _).alloc (Nat.le_refl _) _).alloc (by simp) _⟩
end Go.Proofs.YtmccbbanganjlaaDoor
