/- DskHead of the program; conditions: those typed. -/
import Derived.Test.YtlmoeacpkkkkcaaGreatDoorTK
import Derived.Test.YtlmoeacpkkkkcaaGreatDoorTM
namespace Go.Proofs.YtlmoeacpkkkkcaaGreatDoor
open Go.RowKit Go.Deep
set_option linter.unusedVariables false
set_option maxRecDepth 100000
/-- What DskHead answers of n lines. -/
def Ans (X : Nat → ByteArray) (n : Nat) (e : Ending) (w' : World) (base : Nat) : Prop :=
  (∃ k, Stop X n k ∧ ∃ a c, e = .returned (.tuple #[.agg #[.int .i64 0, .int .i64 0], .int .i64 0, .slice a 0 c, .int .i64 ((k : Int) + 1)])) ∨
  (AllG X n ∧ ∃ sl, e = .returned (.tuple #[.agg #[.int .i64 (hA X), .int .i64 (hB X)], .int .i64 (hS X), sl, .int .i64 0]) ∧ WkR w' base sl (n - 2) (hZ X))
set_option maxHeartbeats 2000000 in
theorem head_impl (b n0 m : Nat) (X : Nat → ByteArray) (hm : m = min n0 400) (hn : n0 ≤ 1048576) (hX : ∀ k, k < n0 → (X k).size ≤ 1048576) (w : World) (hE : Env w) (hH : w.cell? ⟨0, 0, none⟩ = some (.iface 77 (.agg #[.pointer (some ⟨9, 46, none⟩)]))) (hb : b < w.heap.size) (h : RowS w (some ⟨b, 0, none⟩) n0 X) :
    Calls Tryz.prog 7 #[.slice (some ⟨b, 0, none⟩) n0 n0] w fun e w' => Ans X m e w' (w.heap.size + 1) ∧ Below w.heap.size w w' := by
  have hm1 : m ≤ 400 := by omega
  have hm2 : m ≤ n0 := by omega
  have hmx : min (n0 : Int) 400 = (m : Int) := by omega
  have hr : RowS w (some ⟨b, 0, none⟩) m X := by
    rcases h with h | ⟨b', o', e, h1, h2⟩
    · exact .inl (by omega)
    · exact .inr ⟨b', o', e, h1, fun k hk => h2 k (by omega)⟩
  have HE := hid hE
  have HR := hid hr
  have HX := hid hX
  have HM := hid hm
  have HH := hid hH
  clear hE h hX hr hm hH
  go_enter Tryz.func7, Tryz.ntmps7
  go_wp2_with fail
  obtain ⟨w0, e0⟩ : ∃ y, y = w.alloc (.cells #[.int .i64 0, .int .i64 0] 25) := ⟨_, rfl⟩
  rw [← e0]
  have hb0 : Below w.heap.size w w0 := by rw [e0]; exact (Below.refl _ _).alloc (Nat.le_refl _) _
  have R0 : Bk w0 w.heap.size [.int .i64 0, .int .i64 0] := by rw [e0]; exact bk_new w 25 _
  clear e0
  refine (opening_impl _ m n0 X hm1 (fun k hk => HX.out k (by omega)) w0 (HE.out.on hb0) (rowS_below HR.out hb0)).mono ?_
  rintro e w1 ⟨h, hb1⟩
  have B1 := hid (bthen hb0 hb1)
  have R1 := hid (R0.below hb1)
  have z0 : w.heap.size < w0.heap.size := R0.1
  have z1 : w0.heap.size ≤ w1.heap.size := hb1.size
  have H1 := hid (((bthen hb0 hb1).cell (p := ⟨0, 0, none⟩) (show (0 : Nat) < w.heap.size by omega)).trans HH.out)
  clear R0 hb0 hb1 HE HR HX HH
  rcases h with ⟨k, hs, rfl⟩ | ⟨hall, sl, rfl, hw⟩
  · have HS := hid hs
    clear hs
    go_wp2_with fail
    obtain ⟨w2, e2⟩ : ∃ y, y = (w1.alloc (.cells #[.int .i64 0, .int .i64 0, .int .i64 0, .slice none 0 0] 44)).alloc (.cells #[.int .i64 0] 50) := ⟨_, rfl⟩
    rw [← e2]
    obtain ⟨g5, eg⟩ : ∃ g, g = w1.heap.size + 1 := ⟨_, rfl⟩
    have hb2 : Below w1.heap.size w1 w2 := by rw [e2]; exact ((Below.refl _ _).alloc (by simp) _).alloc (by simp) _
    have hF : Bk w2 g5 [.int .i64 0] := by
      rw [e2, eg]
      have := bk_new (w1.alloc (.cells #[.int .i64 0, .int .i64 0, .int .i64 0, .slice none 0 0] 44)) 50 [.int .i64 0]
      rwa [show (w1.alloc (.cells #[.int .i64 0, .int .i64 0, .int .i64 0, .slice none 0 0] 44)).heap.size = w1.heap.size + 1 by simp] at this
    rw [← eg]
    have hg5 : w1.heap.size < g5 := by omega
    have R2 := hid (R1.out.below hb2)
    have B2 := hid (bthen B1.out hb2)
    have z2 : w1.heap.size ≤ w2.heap.size := hb2.size
    have h2 := (hb2.cell (p := ⟨0, 0, none⟩) (show (0 : Nat) < w1.heap.size by omega)).trans H1.out
    have f0 := (hF.2 0 (by simp)).1
    have f1 := (hF.2 0 (by simp)).2
    simp only [List.getD, List.getElem?_cons_zero, Option.getD_some] at f0
    clear e2 eg hb2 R1 B1 H1
    refine (as_hit ((k : Int) + 1) ⟨g5, 0, none⟩ _ w2 h2 f0 f1).mono ?_
    rintro e w3 ⟨rfl, e3⟩
    obtain ⟨w4, e4⟩ : ∃ y, y = (((w2.alloc (.cells #[.pointer (some ⟨g5, 0, none⟩)] 52)).alloc (.cells #[.pointer (some ⟨9, 52, none⟩), .pointer (some ⟨w2.heap.size, 0, none⟩), .int .u64 150] 63)).alloc (.cells #[.pointer (some ⟨9, 52, none⟩), .pointer (some ⟨w2.heap.size, 0, none⟩), .int .u64 150] 63)).alloc (.cells #[.int .i64 ((k : Int) + 1)] 50) := ⟨_, rfl⟩
    rw [← e4] at e3
    have hb4 : Below w2.heap.size w2 w4 := by rw [e4]; exact ((((Below.refl _ _).alloc (Nat.le_refl _) _).alloc (by first | simp | omega) _).alloc (by first | (simp; done) | (simp; omega)) _).alloc (by first | (simp; done) | (simp; omega)) _
    have hF3 : Bk w3 g5 [.int .i64 ((k : Int) + 1)] := by rw [e3]; exact Bk.set (j := 0) (hF.below hb4) (by simp)
    have R3 := hid (show Bk w3 w.heap.size [.int .i64 0, .int .i64 0] by rw [e3]; exact (R2.out.below hb4).far (by omega))
    have B3 := hid (show Below w.heap.size w w3 by rw [e3]; exact (bthen B2.out hb4).setCell (by show w.heap.size ≤ g5; omega) _)
    have q0 := (hF3.2 0 (by simp)).1
    simp only [List.getD, List.getElem?_cons_zero, Option.getD_some] at q0
    have q1 := hF3.1
    have y0 := (R3.out.2 0 (by simp)).1
    have y1 := (R3.out.2 1 (by simp)).1
    have v0 := (R3.out.2 0 (by simp)).2
    have v1 := (R3.out.2 1 (by simp)).2
    simp only [List.getD, List.getElem?_cons_zero, List.getElem?_cons_succ, Option.getD_some] at y0 y1
    have y2 := R3.out.1
    have hne : ¬ g5 = w.heap.size := by omega
    clear e3 e4 hb4 hF R2 B2 h2 f0 f1 hF3
    go_wp2
    go_region
    go_wp2
    refine bodyPost_ret (v := .tuple #[.agg #[.int .i64 0, .int .i64 0], .int .i64 0, .slice none 0 0, .int .i64 ((k : Int) + 1)]) (by simp [results, Tryz.results7, go_sem, *]) rfl ⟨.inl ⟨k, HS.out, none, 0, rfl⟩, ?_⟩
    exact Below.drew (Below.setCell (Below.setCell B3.out (Nat.le_refl _) _) (Nat.le_refl _) _)
  · have HA := hid hall
    have HW := hid hw
    obtain ⟨a0, l0, c0, rfl⟩ := own_shape hw
    clear hall hw
    go_wp2_with fail
    obtain ⟨w2, e2⟩ : ∃ y, y = (w1.alloc (.cells #[.int .i64 (hA X), .int .i64 (hB X), .int .i64 (hS X), .slice a0 l0 c0] 44)).alloc (.cells #[.int .i64 0] 50) := ⟨_, rfl⟩
    rw [← e2]
    have hb2 : Below w1.heap.size w1 w2 := by rw [e2]; exact ((Below.refl _ _).alloc (by simp) _).alloc (by simp) _
    have hO : Bk w2 w1.heap.size [.int .i64 (hA X), .int .i64 (hB X), .int .i64 (hS X), .slice a0 l0 c0] := by
      rw [e2]
      exact (bk_new w1 44 [.int .i64 (hA X), .int .i64 (hB X), .int .i64 (hS X), .slice a0 l0 c0]).below ((Below.refl _ _).alloc (Nat.le_refl _) _)
    obtain ⟨o, eo⟩ : ∃ o, o = w1.heap.size := ⟨_, rfl⟩
    rw [← eo] at hO ⊢
    have ho1 : w1.heap.size ≤ o := by omega
    have R2 := hid (R1.out.below hb2)
    have B2 := hid (bthen B1.out hb2)
    have W2 := hid (WkR.below HW.out hb2)
    clear e2 eo hb2 R1 B1 H1 HW
    refine (as_nil _ w2).mono ?_
    rintro e w3 ⟨rfl, e3⟩
    subst e3
    have q0 := (hO.2 0 (by simp)).1
    have q1 := (hO.2 1 (by simp)).1
    have q2 := (hO.2 2 (by simp)).1
    have q3 := (hO.2 3 (by simp)).1
    simp only [List.getD, List.getElem?_cons_zero, List.getElem?_cons_succ, Option.getD_some] at q0 q1 q2 q3
    have qo := hO.1
    have y0 := (R2.out.2 0 (by simp)).1
    have y1 := (R2.out.2 1 (by simp)).1
    have v0 := (R2.out.2 0 (by simp)).2
    have v1 := (R2.out.2 1 (by simp)).2
    simp only [List.getD, List.getElem?_cons_zero, List.getElem?_cons_succ, Option.getD_some] at y0 y1
    have y2 := R2.out.1
    have hne : ¬ o = w.heap.size := by omega
    clear hO
    go_wp2
    go_region
    go_wp2
    refine bodyPost_ret (v := .tuple #[.agg #[.int .i64 (hA X), .int .i64 (hB X)], .int .i64 (hS X), .slice a0 l0 c0, .int .i64 0]) (by simp [results, Tryz.results7, go_sem, *]) rfl ⟨.inr ⟨HA.out, _, rfl, ?_⟩, ?_⟩
    · have hW := W2.out
      have hlow : WkR w3 (w.heap.size + 1) (.slice a0 l0 c0) (m - 2) (hZ X) := by
        refine ⟨hW.1, ?_⟩
        rcases hW.2 with h | ⟨g, cap, cur, e1, e2, e3⟩
        · exact .inl h
        · exact .inr ⟨g, cap, cur, e1, by omega, e3⟩
      exact WkR.below (own_far (own_far hlow (Nat.lt_succ_self _)) (Nat.lt_succ_self _)) (Below.drew (Below.refl _ _))
    · exact Below.drew (Below.setCell (Below.setCell B2.out (Nat.le_refl _) _) (Nat.le_refl _) _)
end Go.Proofs.YtlmoeacpkkkkcaaGreatDoor
