/- GwyHear of the model; conditions: those typed. -/
import Derived.Test.YtgjapdjidighlabGreatTk
import Derived.Test.YtgjapdjidighlabGreatGH4
import Derived.Test.YtgjapdjidighlabGreatGA3
import Derived.Test.YtgjapdjidighlabGreatGB4
import Derived.Test.YtgjapdjidighlabGreatMsg2
namespace Go.Proofs.YtgjapdjidighlabGreat
open Go.RowKit Go.Deep
set_option linter.unusedVariables false
theorem P10.own_change {w : World} {g n i : Nat} {Z Z' : Nat → Nat → Int} (h : P10.OwnK w g n Z n) (hi : i < n) (hz : ∀ k j, ¬ k = i → Z' k j = Z k j) : P10.OwnK (P10.putK w g i Z') g n Z' n := by
  have hin : ∀ j, j < 10 → (P10.putK w g i Z').cell? ⟨g, i * 10 + j, none⟩ = some (P10.cv j (Z' i j)) := by
    intro j hj
    rw [P10.putK_cells]
    have := World.cell?_setCells_in g [.int .i64 (Z' i 0), .int .i64 (Z' i 1), .bool (P10.tr (Z' i 2)), .int .i64 (Z' i 3), .int .i64 (Z' i 4), .int .i64 (Z' i 5), .int .i64 (Z' i 6), .int .i64 (Z' i 7), .int .i64 (Z' i 8), .int .i64 (Z' i 9)] (i * 10) w (fun j' hj' => (h.1 (i * 10 + j') (by simp at hj'; omega)).1) j (by simpa using hj)
    rw [this]
    match j, hj with
    | 0, _ => rfl
    | 1, _ => rfl
    | 2, _ => rfl
    | 3, _ => rfl
    | 4, _ => rfl
    | 5, _ => rfl
    | 6, _ => rfl
    | 7, _ => rfl
    | 8, _ => rfl
    | 9, _ => rfl
    | j + 10, hj => omega
  have hout : ∀ q, (q < i * 10 ∨ i * 10 + 10 ≤ q) → (P10.putK w g i Z').cell? ⟨g, q, none⟩ = w.cell? ⟨g, q, none⟩ := by
    intro q hq
    rw [P10.putK_cells]
    exact World.cell?_setCells_out g _ (i * 10) w ⟨g, q, none⟩ (fun _ _ => by simpa using hq)
  refine ⟨fun q hq => ⟨?_, ?_⟩, fun k j hk hj => ?_⟩
  · by_cases hc : q < i * 10 ∨ i * 10 + 10 ≤ q
    · rw [hout q hc]; exact (h.1 q hq).1
    · have := hin (q - i * 10) (by omega)
      rw [show i * 10 + (q - i * 10) = q by omega] at this
      rw [this]; rfl
  · rw [P10.putK_cells, World.frozen?_setCells]; exact (h.1 q hq).2
  · by_cases e : k = i
    · subst e; exact hin j hj
    · rw [hout _ (by omega), h.2 k j hk hj, hz k j e]
theorem own_drew {w : World} {g n k : Nat} {Z : Nat → Nat → Int} (h : P10.OwnK w g n Z k) : P10.OwnK w.drew g n Z k := h
theorem own_away {w : World} {g n i : Nat} {Z : Nat → Nat → Int} {c ce : Int} (h : P10.OwnK w g n Z n) (hi : i < n) (he : Z i 1 = ce) : P10.OwnK (w.setCell ⟨g, i * 10 + 1, none⟩ (.int .i64 ((ce + 1) % c))) g n (awayZ c Z i ce) n := by
  refine ⟨fun q hq => ⟨?_, by rw [set_frozen]; exact (h.1 q hq).2⟩, fun k j hk hj => ?_⟩
  · by_cases e : q = i * 10 + 1
    · subst e; rw [set_in (h.1 _ hq).1]; rfl
    · rw [set_out (fun e2 => e e2.2.symm)]; exact (h.1 q hq).1
  · by_cases e : k = i ∧ j = 1
    · obtain ⟨rfl, rfl⟩ := e
      rw [set_in (h.1 _ (by omega)).1]
      simp [awayZ, P10.cv, he]
    · rw [set_out (fun e2 => e (by omega)), h.2 k j hk hj]
      by_cases ek : k = i
      · subst ek
        have hj1 : ¬ j = 1 := fun ej => e ⟨rfl, ej⟩
        congr 2
        unfold awayZ
        rw [if_pos rfl]
        split
        · exact absurd rfl hj1
        · rfl
      · simp [awayZ, ek]
theorem rl_row {lo hi : Nat} {w : World} {a : Option Addr} {c n : Nat} {Z : Nat → Nat → Int} (h : P10.RL lo hi w (.slice a n c) n Z) : P10.RowK w a n Z := by
  obtain ⟨a', c', e, r⟩ := h.at
  cases e
  exact r
theorem rl_hi {lo hi hi' : Nat} {w : World} {v : Value} {n : Nat} {Z : Nat → Nat → Int} (h : P10.RL lo hi w v n Z) (h1 : hi ≤ hi') (h2 : hi' ≤ w.heap.size) : P10.RL lo hi' w v n Z := by
  rcases h with h | ⟨g, c, q1, q2, q3, q4, q5⟩
  · exact .inl h
  · exact .inr ⟨g, c, q1, q2, by omega, h2, q5⟩
theorem hear_idle {c d sv k : Int} {n i : Nat} {Z : Nat → Nat → Int} {x : Nat → Int} (hk : bookB c d n Z = true) (hm : msgB c d sv k x = true) (hs : seek n Z (x 5) = some i) (hb : P10.tr (Z i 2) = false) : heardR c n Z k x = (Z, false) := by
  by_cases h34 : k = 3 ∨ k = 4
  · obtain ⟨hi, _, _⟩ := seek_some hs
    have h1 := (book_row hk i hi).1
    simp only [rowB, Bool.and_eq_true] at h1
    have h2 := h1.2.2.2.2
    simp only [ordR, hb, Bool.false_eq_true, if_false, zo, Bool.and_eq_true, beq_iff_eq] at h2
    have h3 := msg_who hm h34
    have he : eq5 (Z i) x = false := by
      simp only [eq5, Bool.and_eq_false_iff, beq_eq_false_iff_ne]
      exact .inl (by omega)
    simp [heardR, hs, he]
  · simp [heardR, h34]
attribute [local go_sem ↓] load44_eq
attribute [local go_sem] run_load44 cellD
set_option maxRecDepth 20000 in
set_option maxHeartbeats 8000000 in
theorem hear_spec (c d : Int) (b o n cap : Nat) (Z : Nat → Nat → Int) (sv k : Int) (x : Nat → Int) (hn : n ≤ 1048576) (w : World) (hb : b < w.heap.size) (hr : ∀ k j, k < n → j < 10 → w.cell? ⟨b, o + k * 10 + j, none⟩ = some (P10.cv j (Z k j))) :
    Calls Tryz.prog 5 #[.agg #[.int .i64 c, .int .i64 d], .agg #[.slice (some ⟨b, o, none⟩) n cap], .int .i64 sv, .agg #[.int .i64 k, .int .i64 (x 1), .int .i64 (x 2), .int .i64 (x 3), .int .i64 (x 4), .int .i64 (x 5), .int .i64 (x 6), .int .i64 (x 7), .int .i64 (x 8), .int .i64 (x 9), .int .i64 (x 10), .int .i64 (x 11), .int .i64 (x 12), .int .i64 (x 13), .int .i64 (x 14), .int .i64 (x 15), .int .i64 (x 16), .int .i64 (x 17), .int .i64 (x 18), .int .i64 (x 19), .int .i64 (x 20), .int .i64 (x 21), .int .i64 (x 22), .int .i64 (x 23), .int .i64 (x 24)]] w fun e w' => (∃ v, e = .returned (.tuple #[.agg #[v], .bool (ghB c d sv n Z k x)]) ∧ P10.RL w.heap.size w'.heap.size w' v (ghN c d sv n Z k x) (heardR c n Z k x).1) ∧ Below w.heap.size w w' := by
  have HR : Hid (∀ k j, k < n → j < 10 → w.cell? ⟨b, o + k * 10 + j, none⟩ = some (P10.cv j (Z k j))) := hr
  clear hr
  have HW : Hid (P10.RowK w (some ⟨b, o, none⟩) n Z) := .inr ⟨b, o, rfl, hb, HR.out⟩
  cases hk : bookB c d n Z
  · have hv : ghN c d sv n Z k x = 0 := by simp [ghN, hk]
    have hb : ghB c d sv n Z k x = false := by simp [ghB, hk]
    rw [hv, hb]
    clear hv hb
    go_enter Tryz.func5, Tryz.ntmps5
    go_upto_region 1 with fail
    obtain ⟨w0, e0⟩ : ∃ w0, w0 = ((((w.alloc (.cells #[.int .i64 c, .int .i64 d] 43)).alloc (.cells #[.slice (some ⟨b, o, none⟩) n cap] 40)).alloc (.cells #[.int .i64 k, .int .i64 (x 1), .int .i64 (x 2), .int .i64 (x 3), .int .i64 (x 4), .int .i64 (x 5), .int .i64 (x 6), .int .i64 (x 7), .int .i64 (x 8), .int .i64 (x 9), .int .i64 (x 10), .int .i64 (x 11), .int .i64 (x 12), .int .i64 (x 13), .int .i64 (x 14), .int .i64 (x 15), .int .i64 (x 16), .int .i64 (x 17), .int .i64 (x 18), .int .i64 (x 19), .int .i64 (x 20), .int .i64 (x 21), .int .i64 (x 22), .int .i64 (x 23), .int .i64 (x 24)] 53)).alloc (.cells #[.slice none 0 0] 40)) := ⟨_, rfl⟩
    have B1 : Hid (Below w.heap.size w w0) := by rw [e0]; exact ((((Below.refl _ _).alloc (by simp) _).alloc (by simp) _).alloc (by simp; omega) _).alloc (by simp; omega) _
    have M2 : Hid (Bk w0 w.heap.size [.int .i64 c, .int .i64 d]) := by rw [e0]; exact (((bk_new w 43 [.int .i64 c, .int .i64 d]).below ((Below.refl _ _).alloc (Nat.le_refl _) _)).below ((Below.refl _ _).alloc (Nat.le_refl _) _)).below ((Below.refl _ _).alloc (Nat.le_refl _) _)
    have K3 : Hid (Bk w0 (w.heap.size + 1) [.slice (some ⟨b, o, none⟩) n cap]) := by rw [e0]; have := ((bk_new (w.alloc (.cells #[.int .i64 c, .int .i64 d] 43)) 40 [.slice (some ⟨b, o, none⟩) n cap]).below ((Below.refl _ _).alloc (Nat.le_refl _) (.cells #[.int .i64 k, .int .i64 (x 1), .int .i64 (x 2), .int .i64 (x 3), .int .i64 (x 4), .int .i64 (x 5), .int .i64 (x 6), .int .i64 (x 7), .int .i64 (x 8), .int .i64 (x 9), .int .i64 (x 10), .int .i64 (x 11), .int .i64 (x 12), .int .i64 (x 13), .int .i64 (x 14), .int .i64 (x 15), .int .i64 (x 16), .int .i64 (x 17), .int .i64 (x 18), .int .i64 (x 19), .int .i64 (x 20), .int .i64 (x 21), .int .i64 (x 22), .int .i64 (x 23), .int .i64 (x 24)] 53))).below ((Below.refl _ _).alloc (Nat.le_refl _) (.cells #[.slice none 0 0] 40)); rwa [show (w.alloc (.cells #[.int .i64 c, .int .i64 d] 43)).heap.size = w.heap.size + 1 by simp] at this
    have X4 : Hid (Bk w0 (w.heap.size + 1 + 1) [.int .i64 k, .int .i64 (x 1), .int .i64 (x 2), .int .i64 (x 3), .int .i64 (x 4), .int .i64 (x 5), .int .i64 (x 6), .int .i64 (x 7), .int .i64 (x 8), .int .i64 (x 9), .int .i64 (x 10), .int .i64 (x 11), .int .i64 (x 12), .int .i64 (x 13), .int .i64 (x 14), .int .i64 (x 15), .int .i64 (x 16), .int .i64 (x 17), .int .i64 (x 18), .int .i64 (x 19), .int .i64 (x 20), .int .i64 (x 21), .int .i64 (x 22), .int .i64 (x 23), .int .i64 (x 24)]) := by rw [e0]; have := (bk_new ((w.alloc (.cells #[.int .i64 c, .int .i64 d] 43)).alloc (.cells #[.slice (some ⟨b, o, none⟩) n cap] 40)) 53 [.int .i64 k, .int .i64 (x 1), .int .i64 (x 2), .int .i64 (x 3), .int .i64 (x 4), .int .i64 (x 5), .int .i64 (x 6), .int .i64 (x 7), .int .i64 (x 8), .int .i64 (x 9), .int .i64 (x 10), .int .i64 (x 11), .int .i64 (x 12), .int .i64 (x 13), .int .i64 (x 14), .int .i64 (x 15), .int .i64 (x 16), .int .i64 (x 17), .int .i64 (x 18), .int .i64 (x 19), .int .i64 (x 20), .int .i64 (x 21), .int .i64 (x 22), .int .i64 (x 23), .int .i64 (x 24)]).below ((Below.refl _ _).alloc (Nat.le_refl _) (.cells #[.slice none 0 0] 40)); rwa [show ((w.alloc (.cells #[.int .i64 c, .int .i64 d] 43)).alloc (.cells #[.slice (some ⟨b, o, none⟩) n cap] 40)).heap.size = w.heap.size + 1 + 1 by simp] at this
    have R5 : Hid (Bk w0 (w.heap.size + 1 + 1 + 1) [.slice none 0 0]) := by rw [e0]; have := bk_new (((w.alloc (.cells #[.int .i64 c, .int .i64 d] 43)).alloc (.cells #[.slice (some ⟨b, o, none⟩) n cap] 40)).alloc (.cells #[.int .i64 k, .int .i64 (x 1), .int .i64 (x 2), .int .i64 (x 3), .int .i64 (x 4), .int .i64 (x 5), .int .i64 (x 6), .int .i64 (x 7), .int .i64 (x 8), .int .i64 (x 9), .int .i64 (x 10), .int .i64 (x 11), .int .i64 (x 12), .int .i64 (x 13), .int .i64 (x 14), .int .i64 (x 15), .int .i64 (x 16), .int .i64 (x 17), .int .i64 (x 18), .int .i64 (x 19), .int .i64 (x 20), .int .i64 (x 21), .int .i64 (x 22), .int .i64 (x 23), .int .i64 (x 24)] 53)) 40 [.slice none 0 0]; rwa [show (((w.alloc (.cells #[.int .i64 c, .int .i64 d] 43)).alloc (.cells #[.slice (some ⟨b, o, none⟩) n cap] 40)).alloc (.cells #[.int .i64 k, .int .i64 (x 1), .int .i64 (x 2), .int .i64 (x 3), .int .i64 (x 4), .int .i64 (x 5), .int .i64 (x 6), .int .i64 (x 7), .int .i64 (x 8), .int .i64 (x 9), .int .i64 (x 10), .int .i64 (x 11), .int .i64 (x 12), .int .i64 (x 13), .int .i64 (x 14), .int .i64 (x 15), .int .i64 (x 16), .int .i64 (x 17), .int .i64 (x 18), .int .i64 (x 19), .int .i64 (x 20), .int .i64 (x 21), .int .i64 (x 22), .int .i64 (x 23), .int .i64 (x 24)] 53)).heap.size = w.heap.size + 1 + 1 + 1 by simp] at this
    rw [← e0]
    clear e0
    obtain ⟨yM0, yM1⟩ := M2.out.a2
    have hlM : w.heap.size < w0.heap.size := M2.out.1
    have yK0 := K3.out.a1
    have hlK : (w.heap.size + 1) < w0.heap.size := K3.out.1
    go_wp2_with fail
    refine (book_spec c d _ n cap Z hn _ (P10.row_below HW.out B1.out)).mono ?_
    rintro e w1 ⟨rfl, hb1⟩
    clear yM0 yM1 hlM yK0 hlK
    have B6 := hid (bthen B1.out hb1)
    have M6 := hid (M2.out.below hb1)
    have K6 := hid (K3.out.below hb1)
    have X6 := hid (X4.out.below hb1)
    have R6 := hid (R5.out.below hb1)
    clear B1 M2 K3 X4 R5
    clear hb1
    rw [hk]
    have yR0 := R6.out.a1
    have zR0 := R6.out.f1
    have hlR : (w.heap.size + 1 + 1 + 1) < w1.heap.size := R6.out.1
    go_wp2
    refine bodyPost_ret (v := .tuple #[.agg #[.slice none 0 0], .bool false]) (by simp [results, Tryz.results5, go_sem, *]) rfl ?_
    exact ⟨⟨_, rfl, .inl ⟨rfl, none, 0, rfl⟩⟩, B6.out.setCell (by show w.heap.size ≤ w.heap.size + 1 + 1 + 1; omega) _⟩
  cases hm : msgB c d sv k x
  · have hv : ghN c d sv n Z k x = 0 := by simp [ghN, hm]
    have hb : ghB c d sv n Z k x = false := by simp [ghB, hm]
    rw [hv, hb]
    clear hv hb
    go_enter Tryz.func5, Tryz.ntmps5
    go_upto_region 1 with fail
    obtain ⟨w0, e0⟩ : ∃ w0, w0 = ((((w.alloc (.cells #[.int .i64 c, .int .i64 d] 43)).alloc (.cells #[.slice (some ⟨b, o, none⟩) n cap] 40)).alloc (.cells #[.int .i64 k, .int .i64 (x 1), .int .i64 (x 2), .int .i64 (x 3), .int .i64 (x 4), .int .i64 (x 5), .int .i64 (x 6), .int .i64 (x 7), .int .i64 (x 8), .int .i64 (x 9), .int .i64 (x 10), .int .i64 (x 11), .int .i64 (x 12), .int .i64 (x 13), .int .i64 (x 14), .int .i64 (x 15), .int .i64 (x 16), .int .i64 (x 17), .int .i64 (x 18), .int .i64 (x 19), .int .i64 (x 20), .int .i64 (x 21), .int .i64 (x 22), .int .i64 (x 23), .int .i64 (x 24)] 53)).alloc (.cells #[.slice none 0 0] 40)) := ⟨_, rfl⟩
    have B7 : Hid (Below w.heap.size w w0) := by rw [e0]; exact ((((Below.refl _ _).alloc (by simp) _).alloc (by simp) _).alloc (by simp; omega) _).alloc (by simp; omega) _
    have M8 : Hid (Bk w0 w.heap.size [.int .i64 c, .int .i64 d]) := by rw [e0]; exact (((bk_new w 43 [.int .i64 c, .int .i64 d]).below ((Below.refl _ _).alloc (Nat.le_refl _) _)).below ((Below.refl _ _).alloc (Nat.le_refl _) _)).below ((Below.refl _ _).alloc (Nat.le_refl _) _)
    have K9 : Hid (Bk w0 (w.heap.size + 1) [.slice (some ⟨b, o, none⟩) n cap]) := by rw [e0]; have := ((bk_new (w.alloc (.cells #[.int .i64 c, .int .i64 d] 43)) 40 [.slice (some ⟨b, o, none⟩) n cap]).below ((Below.refl _ _).alloc (Nat.le_refl _) (.cells #[.int .i64 k, .int .i64 (x 1), .int .i64 (x 2), .int .i64 (x 3), .int .i64 (x 4), .int .i64 (x 5), .int .i64 (x 6), .int .i64 (x 7), .int .i64 (x 8), .int .i64 (x 9), .int .i64 (x 10), .int .i64 (x 11), .int .i64 (x 12), .int .i64 (x 13), .int .i64 (x 14), .int .i64 (x 15), .int .i64 (x 16), .int .i64 (x 17), .int .i64 (x 18), .int .i64 (x 19), .int .i64 (x 20), .int .i64 (x 21), .int .i64 (x 22), .int .i64 (x 23), .int .i64 (x 24)] 53))).below ((Below.refl _ _).alloc (Nat.le_refl _) (.cells #[.slice none 0 0] 40)); rwa [show (w.alloc (.cells #[.int .i64 c, .int .i64 d] 43)).heap.size = w.heap.size + 1 by simp] at this
    have X10 : Hid (Bk w0 (w.heap.size + 1 + 1) [.int .i64 k, .int .i64 (x 1), .int .i64 (x 2), .int .i64 (x 3), .int .i64 (x 4), .int .i64 (x 5), .int .i64 (x 6), .int .i64 (x 7), .int .i64 (x 8), .int .i64 (x 9), .int .i64 (x 10), .int .i64 (x 11), .int .i64 (x 12), .int .i64 (x 13), .int .i64 (x 14), .int .i64 (x 15), .int .i64 (x 16), .int .i64 (x 17), .int .i64 (x 18), .int .i64 (x 19), .int .i64 (x 20), .int .i64 (x 21), .int .i64 (x 22), .int .i64 (x 23), .int .i64 (x 24)]) := by rw [e0]; have := (bk_new ((w.alloc (.cells #[.int .i64 c, .int .i64 d] 43)).alloc (.cells #[.slice (some ⟨b, o, none⟩) n cap] 40)) 53 [.int .i64 k, .int .i64 (x 1), .int .i64 (x 2), .int .i64 (x 3), .int .i64 (x 4), .int .i64 (x 5), .int .i64 (x 6), .int .i64 (x 7), .int .i64 (x 8), .int .i64 (x 9), .int .i64 (x 10), .int .i64 (x 11), .int .i64 (x 12), .int .i64 (x 13), .int .i64 (x 14), .int .i64 (x 15), .int .i64 (x 16), .int .i64 (x 17), .int .i64 (x 18), .int .i64 (x 19), .int .i64 (x 20), .int .i64 (x 21), .int .i64 (x 22), .int .i64 (x 23), .int .i64 (x 24)]).below ((Below.refl _ _).alloc (Nat.le_refl _) (.cells #[.slice none 0 0] 40)); rwa [show ((w.alloc (.cells #[.int .i64 c, .int .i64 d] 43)).alloc (.cells #[.slice (some ⟨b, o, none⟩) n cap] 40)).heap.size = w.heap.size + 1 + 1 by simp] at this
    have R11 : Hid (Bk w0 (w.heap.size + 1 + 1 + 1) [.slice none 0 0]) := by rw [e0]; have := bk_new (((w.alloc (.cells #[.int .i64 c, .int .i64 d] 43)).alloc (.cells #[.slice (some ⟨b, o, none⟩) n cap] 40)).alloc (.cells #[.int .i64 k, .int .i64 (x 1), .int .i64 (x 2), .int .i64 (x 3), .int .i64 (x 4), .int .i64 (x 5), .int .i64 (x 6), .int .i64 (x 7), .int .i64 (x 8), .int .i64 (x 9), .int .i64 (x 10), .int .i64 (x 11), .int .i64 (x 12), .int .i64 (x 13), .int .i64 (x 14), .int .i64 (x 15), .int .i64 (x 16), .int .i64 (x 17), .int .i64 (x 18), .int .i64 (x 19), .int .i64 (x 20), .int .i64 (x 21), .int .i64 (x 22), .int .i64 (x 23), .int .i64 (x 24)] 53)) 40 [.slice none 0 0]; rwa [show (((w.alloc (.cells #[.int .i64 c, .int .i64 d] 43)).alloc (.cells #[.slice (some ⟨b, o, none⟩) n cap] 40)).alloc (.cells #[.int .i64 k, .int .i64 (x 1), .int .i64 (x 2), .int .i64 (x 3), .int .i64 (x 4), .int .i64 (x 5), .int .i64 (x 6), .int .i64 (x 7), .int .i64 (x 8), .int .i64 (x 9), .int .i64 (x 10), .int .i64 (x 11), .int .i64 (x 12), .int .i64 (x 13), .int .i64 (x 14), .int .i64 (x 15), .int .i64 (x 16), .int .i64 (x 17), .int .i64 (x 18), .int .i64 (x 19), .int .i64 (x 20), .int .i64 (x 21), .int .i64 (x 22), .int .i64 (x 23), .int .i64 (x 24)] 53)).heap.size = w.heap.size + 1 + 1 + 1 by simp] at this
    rw [← e0]
    clear e0
    obtain ⟨yM0, yM1⟩ := M8.out.a2
    have hlM : w.heap.size < w0.heap.size := M8.out.1
    have yK0 := K9.out.a1
    have hlK : (w.heap.size + 1) < w0.heap.size := K9.out.1
    go_wp2_with fail
    refine (book_spec c d _ n cap Z hn _ (P10.row_below HW.out B7.out)).mono ?_
    rintro e w1 ⟨rfl, hb1⟩
    clear yM0 yM1 hlM yK0 hlK
    have B12 := hid (bthen B7.out hb1)
    have M12 := hid (M8.out.below hb1)
    have K12 := hid (K9.out.below hb1)
    have X12 := hid (X10.out.below hb1)
    have R12 := hid (R11.out.below hb1)
    clear B7 M8 K9 X10 R11
    clear hb1
    rw [hk]
    obtain ⟨yM0, yM1⟩ := M12.out.a2
    have hlM : w.heap.size < w1.heap.size := M12.out.1
    obtain ⟨yX0, yX1, yX2, yX3, yX4, yX5, yX6, yX7, yX8, yX9, yX10, yX11, yX12, yX13, yX14, yX15, yX16, yX17, yX18, yX19, yX20, yX21, yX22, yX23, yX24⟩ := X12.out.a25
    have hlX : (w.heap.size + 1 + 1) < w1.heap.size := X12.out.1
    go_wp2_with fail
    refine (msgOk_spec c d sv k x _).mono ?_
    rintro e w2 ⟨rfl, hb2⟩
    clear yM0 yM1 hlM yX0 yX1 yX2 yX3 yX4 yX5 yX6 yX7 yX8 yX9 yX10 yX11 yX12 yX13 yX14 yX15 yX16 yX17 yX18 yX19 yX20 yX21 yX22 yX23 yX24 hlX
    have B13 := hid (bthen B12.out hb2)
    have M13 := hid (M12.out.below hb2)
    have K13 := hid (K12.out.below hb2)
    have X13 := hid (X12.out.below hb2)
    have R13 := hid (R12.out.below hb2)
    clear B12 M12 K12 X12 R12
    clear hb2
    rw [hm]
    have yR0 := R13.out.a1
    have zR0 := R13.out.f1
    have hlR : (w.heap.size + 1 + 1 + 1) < w2.heap.size := R13.out.1
    go_wp2
    refine bodyPost_ret (v := .tuple #[.agg #[.slice none 0 0], .bool false]) (by simp [results, Tryz.results5, go_sem, *]) rfl ?_
    exact ⟨⟨_, rfl, .inl ⟨rfl, none, 0, rfl⟩⟩, B13.out.setCell (by show w.heap.size ≤ w.heap.size + 1 + 1 + 1; omega) _⟩
  have hv : ghN c d sv n Z k x = n := by simp [ghN, hk, hm]
  have hb2 : ghB c d sv n Z k x = (heardR c n Z k x).2 := by simp [ghB, hk, hm]
  rw [hv, hb2]
  clear hv hb2
  cases hs : seek n Z (x 5) with
  | none =>
    have hh : heardR c n Z k x = (Z, false) := by simp [heardR, hs]
    rw [hh]
    clear hh
    go_enter Tryz.func5, Tryz.ntmps5
    go_upto_region 1 with fail
    obtain ⟨w0, e0⟩ : ∃ w0, w0 = ((((w.alloc (.cells #[.int .i64 c, .int .i64 d] 43)).alloc (.cells #[.slice (some ⟨b, o, none⟩) n cap] 40)).alloc (.cells #[.int .i64 k, .int .i64 (x 1), .int .i64 (x 2), .int .i64 (x 3), .int .i64 (x 4), .int .i64 (x 5), .int .i64 (x 6), .int .i64 (x 7), .int .i64 (x 8), .int .i64 (x 9), .int .i64 (x 10), .int .i64 (x 11), .int .i64 (x 12), .int .i64 (x 13), .int .i64 (x 14), .int .i64 (x 15), .int .i64 (x 16), .int .i64 (x 17), .int .i64 (x 18), .int .i64 (x 19), .int .i64 (x 20), .int .i64 (x 21), .int .i64 (x 22), .int .i64 (x 23), .int .i64 (x 24)] 53)).alloc (.cells #[.slice none 0 0] 40)) := ⟨_, rfl⟩
    have B14 : Hid (Below w.heap.size w w0) := by rw [e0]; exact ((((Below.refl _ _).alloc (by simp) _).alloc (by simp) _).alloc (by simp; omega) _).alloc (by simp; omega) _
    have M15 : Hid (Bk w0 w.heap.size [.int .i64 c, .int .i64 d]) := by rw [e0]; exact (((bk_new w 43 [.int .i64 c, .int .i64 d]).below ((Below.refl _ _).alloc (Nat.le_refl _) _)).below ((Below.refl _ _).alloc (Nat.le_refl _) _)).below ((Below.refl _ _).alloc (Nat.le_refl _) _)
    have K16 : Hid (Bk w0 (w.heap.size + 1) [.slice (some ⟨b, o, none⟩) n cap]) := by rw [e0]; have := ((bk_new (w.alloc (.cells #[.int .i64 c, .int .i64 d] 43)) 40 [.slice (some ⟨b, o, none⟩) n cap]).below ((Below.refl _ _).alloc (Nat.le_refl _) (.cells #[.int .i64 k, .int .i64 (x 1), .int .i64 (x 2), .int .i64 (x 3), .int .i64 (x 4), .int .i64 (x 5), .int .i64 (x 6), .int .i64 (x 7), .int .i64 (x 8), .int .i64 (x 9), .int .i64 (x 10), .int .i64 (x 11), .int .i64 (x 12), .int .i64 (x 13), .int .i64 (x 14), .int .i64 (x 15), .int .i64 (x 16), .int .i64 (x 17), .int .i64 (x 18), .int .i64 (x 19), .int .i64 (x 20), .int .i64 (x 21), .int .i64 (x 22), .int .i64 (x 23), .int .i64 (x 24)] 53))).below ((Below.refl _ _).alloc (Nat.le_refl _) (.cells #[.slice none 0 0] 40)); rwa [show (w.alloc (.cells #[.int .i64 c, .int .i64 d] 43)).heap.size = w.heap.size + 1 by simp] at this
    have X17 : Hid (Bk w0 (w.heap.size + 1 + 1) [.int .i64 k, .int .i64 (x 1), .int .i64 (x 2), .int .i64 (x 3), .int .i64 (x 4), .int .i64 (x 5), .int .i64 (x 6), .int .i64 (x 7), .int .i64 (x 8), .int .i64 (x 9), .int .i64 (x 10), .int .i64 (x 11), .int .i64 (x 12), .int .i64 (x 13), .int .i64 (x 14), .int .i64 (x 15), .int .i64 (x 16), .int .i64 (x 17), .int .i64 (x 18), .int .i64 (x 19), .int .i64 (x 20), .int .i64 (x 21), .int .i64 (x 22), .int .i64 (x 23), .int .i64 (x 24)]) := by rw [e0]; have := (bk_new ((w.alloc (.cells #[.int .i64 c, .int .i64 d] 43)).alloc (.cells #[.slice (some ⟨b, o, none⟩) n cap] 40)) 53 [.int .i64 k, .int .i64 (x 1), .int .i64 (x 2), .int .i64 (x 3), .int .i64 (x 4), .int .i64 (x 5), .int .i64 (x 6), .int .i64 (x 7), .int .i64 (x 8), .int .i64 (x 9), .int .i64 (x 10), .int .i64 (x 11), .int .i64 (x 12), .int .i64 (x 13), .int .i64 (x 14), .int .i64 (x 15), .int .i64 (x 16), .int .i64 (x 17), .int .i64 (x 18), .int .i64 (x 19), .int .i64 (x 20), .int .i64 (x 21), .int .i64 (x 22), .int .i64 (x 23), .int .i64 (x 24)]).below ((Below.refl _ _).alloc (Nat.le_refl _) (.cells #[.slice none 0 0] 40)); rwa [show ((w.alloc (.cells #[.int .i64 c, .int .i64 d] 43)).alloc (.cells #[.slice (some ⟨b, o, none⟩) n cap] 40)).heap.size = w.heap.size + 1 + 1 by simp] at this
    have R18 : Hid (Bk w0 (w.heap.size + 1 + 1 + 1) [.slice none 0 0]) := by rw [e0]; have := bk_new (((w.alloc (.cells #[.int .i64 c, .int .i64 d] 43)).alloc (.cells #[.slice (some ⟨b, o, none⟩) n cap] 40)).alloc (.cells #[.int .i64 k, .int .i64 (x 1), .int .i64 (x 2), .int .i64 (x 3), .int .i64 (x 4), .int .i64 (x 5), .int .i64 (x 6), .int .i64 (x 7), .int .i64 (x 8), .int .i64 (x 9), .int .i64 (x 10), .int .i64 (x 11), .int .i64 (x 12), .int .i64 (x 13), .int .i64 (x 14), .int .i64 (x 15), .int .i64 (x 16), .int .i64 (x 17), .int .i64 (x 18), .int .i64 (x 19), .int .i64 (x 20), .int .i64 (x 21), .int .i64 (x 22), .int .i64 (x 23), .int .i64 (x 24)] 53)) 40 [.slice none 0 0]; rwa [show (((w.alloc (.cells #[.int .i64 c, .int .i64 d] 43)).alloc (.cells #[.slice (some ⟨b, o, none⟩) n cap] 40)).alloc (.cells #[.int .i64 k, .int .i64 (x 1), .int .i64 (x 2), .int .i64 (x 3), .int .i64 (x 4), .int .i64 (x 5), .int .i64 (x 6), .int .i64 (x 7), .int .i64 (x 8), .int .i64 (x 9), .int .i64 (x 10), .int .i64 (x 11), .int .i64 (x 12), .int .i64 (x 13), .int .i64 (x 14), .int .i64 (x 15), .int .i64 (x 16), .int .i64 (x 17), .int .i64 (x 18), .int .i64 (x 19), .int .i64 (x 20), .int .i64 (x 21), .int .i64 (x 22), .int .i64 (x 23), .int .i64 (x 24)] 53)).heap.size = w.heap.size + 1 + 1 + 1 by simp] at this
    rw [← e0]
    clear e0
    obtain ⟨yM0, yM1⟩ := M15.out.a2
    have hlM : w.heap.size < w0.heap.size := M15.out.1
    have yK0 := K16.out.a1
    have hlK : (w.heap.size + 1) < w0.heap.size := K16.out.1
    go_wp2_with fail
    refine (book_spec c d _ n cap Z hn _ (P10.row_below HW.out B14.out)).mono ?_
    rintro e w1 ⟨rfl, hb1⟩
    clear yM0 yM1 hlM yK0 hlK
    have B19 := hid (bthen B14.out hb1)
    have M19 := hid (M15.out.below hb1)
    have K19 := hid (K16.out.below hb1)
    have X19 := hid (X17.out.below hb1)
    have R19 := hid (R18.out.below hb1)
    clear B14 M15 K16 X17 R18
    clear hb1
    rw [hk]
    obtain ⟨yM0, yM1⟩ := M19.out.a2
    have hlM : w.heap.size < w1.heap.size := M19.out.1
    obtain ⟨yX0, yX1, yX2, yX3, yX4, yX5, yX6, yX7, yX8, yX9, yX10, yX11, yX12, yX13, yX14, yX15, yX16, yX17, yX18, yX19, yX20, yX21, yX22, yX23, yX24⟩ := X19.out.a25
    have hlX : (w.heap.size + 1 + 1) < w1.heap.size := X19.out.1
    go_wp2_with fail
    refine (msgOk_spec c d sv k x _).mono ?_
    rintro e w2 ⟨rfl, hb2⟩
    clear yM0 yM1 hlM yX0 yX1 yX2 yX3 yX4 yX5 yX6 yX7 yX8 yX9 yX10 yX11 yX12 yX13 yX14 yX15 yX16 yX17 yX18 yX19 yX20 yX21 yX22 yX23 yX24 hlX
    have B20 := hid (bthen B19.out hb2)
    have M20 := hid (M19.out.below hb2)
    have K20 := hid (K19.out.below hb2)
    have X20 := hid (X19.out.below hb2)
    have R20 := hid (R19.out.below hb2)
    clear B19 M19 K19 X19 R19
    clear hb2
    rw [hm]
    have r1 : w.heap.size + 1 + 1 + 1 < w2.heap.size := R20.out.1
    have yK0 := K20.out.a1
    have hlK : (w.heap.size + 1) < w2.heap.size := K20.out.1
    go_wp2_with fail
    refine (copy_spec b o n cap Z hn _ (Nat.lt_of_lt_of_le hb B20.out.size) (fun k j h1 h2 => (B20.out.cell (p := ⟨b, _, none⟩) hb).trans (HR.out k j h1 h2))).mono ?_
    rintro e w3 ⟨⟨v, rfl, hr3⟩, hb3⟩
    clear yK0 hlK
    have B21 := hid (bthen B20.out hb3)
    have M21 := hid (M20.out.below hb3)
    have K21 := hid (K20.out.below hb3)
    have X21 := hid (X20.out.below hb3)
    have R21 := hid (R20.out.below hb3)
    clear B20 M20 K20 X20 R20
    have z3 := hb3.size
    clear hb3
    obtain ⟨va, vc, ev, _⟩ := hr3.at
    subst ev
    obtain ⟨lo, elo⟩ : ∃ g, g = w2.heap.size := ⟨_, rfl⟩
    rw [← elo] at r1 z3 hr3
    clear elo
    obtain ⟨gX, eX⟩ : ∃ g, g = w3.heap.size := ⟨_, rfl⟩
    rw [← eX] at z3 hr3
    have L22 : Hid (P10.RL lo gX w3 (.slice va n vc) n Z) := hr3
    clear hr3
    obtain ⟨yX0, yX1, yX2, yX3, yX4, yX5, yX6, yX7, yX8, yX9, yX10, yX11, yX12, yX13, yX14, yX15, yX16, yX17, yX18, yX19, yX20, yX21, yX22, yX23, yX24⟩ := X21.out.a25
    have hlX : (w.heap.size + 1 + 1) < w3.heap.size := X21.out.1
    go_wp2_with fail
    clear yX0 yX1 yX2 yX3 yX4 yX5 yX6 yX7 yX8 yX9 yX10 yX11 yX12 yX13 yX14 yX15 yX16 yX17 yX18 yX19 yX20 yX21 yX22 yX23 yX24 hlX
    obtain ⟨w4, e4⟩ : ∃ y, y = w3.alloc (.cells #[.slice va n vc] 40) := ⟨_, rfl⟩
    have hb4 : Below w3.heap.size w3 w4 := by rw [e4]; exact (Below.refl _ _).alloc (Nat.le_refl _) _
    have X4 : Bk w4 gX [.slice va n vc] := by rw [e4, eX]; exact bk_new w3 40 [.slice va n vc]
    rw [← e4, ← eX]
    clear e4 eX
    have B23 := hid (bthen B21.out hb4)
    have M23 := hid (M21.out.below hb4)
    have K23 := hid (K21.out.below hb4)
    have X23 := hid (X21.out.below hb4)
    have R23 := hid (R21.out.below hb4)
    have L23 : Hid (P10.RL lo gX w4 (.slice va n vc) n Z) := L22.out.below hb4
    clear B21 M21 K21 X21 R21 L22
    have G24 : Hid (Bk w4 gX [.slice va n vc]) := X4
    clear X4 hb4
    refine (at_spec va n vc Z (x 5) hn _ (rl_row L23.out)).mono ?_
    rintro e w5 ⟨rfl, hb5⟩
    rw [hs]
    have B25 := hid (bthen B23.out hb5)
    have M25 := hid (M23.out.below hb5)
    have K25 := hid (K23.out.below hb5)
    have X25 := hid (X23.out.below hb5)
    have R25 := hid (R23.out.below hb5)
    have L25 : Hid (P10.RL lo gX w5 (.slice va n vc) n Z) := L23.out.below hb5
    have G25 := hid (G24.out.below hb5)
    clear B23 M23 K23 X23 R23 L23 G24
    clear hb5
    simp only [atI]
    have yG0 := G25.out.a1
    have hlG : gX < w5.heap.size := G25.out.1
    obtain ⟨yX0, yX1, yX2, yX3, yX4, yX5, yX6, yX7, yX8, yX9, yX10, yX11, yX12, yX13, yX14, yX15, yX16, yX17, yX18, yX19, yX20, yX21, yX22, yX23, yX24⟩ := X25.out.a25
    have hlX : (w.heap.size + 1 + 1) < w5.heap.size := X25.out.1
    go_wp2_with fail
    refine wp_region_held_drew (S := fun w' => (∀ b o, b < w5.heap.size → w'.cell? ⟨b, o, none⟩ = w5.cell? ⟨b, o, none⟩) ∧ w5.heap.size ≤ w'.heap.size) (by kernel_rfl) ⟨fun _ _ _ => rfl, Nat.le_refl _⟩ ?_
    intro hHeld
    refine tkl 0 (.int .i64 (-1)) rfl ?_ ?_
    · intro wx hSw; go_simp
    try simp only [Act.put, aS]
    refine tkl 1 (.bool true) rfl ?_ ?_
    · intro wx hSw; go_simp <;> first | omega | (exact IntWalk.i64_in _ (by omega)) | go_num
    try simp only [Act.put, aS]
    refine tkl 2 (.bool true) rfl ?_ ?_
    · intro wx hSw; go_simp
    try simp only [Act.put, aS]
    refine tkr 3 rfl ?_
    try simp only [Act.put, aS]
    refine tkr 4 rfl ?_
    try simp only [Act.put, aS]
    refine tkr 5 rfl ?_
    try simp only [Act.put, aS]
    refine tkr 6 rfl ?_
    try simp only [Act.put, aS]
    refine tkr 7 rfl ?_
    try simp only [Act.put, aS]
    refine tkr 8 rfl ?_
    try simp only [Act.put, aS]
    refine tkr 9 rfl ?_
    try simp only [Act.put, aS]
    refine tkl 10 (.bool true) rfl ?_ ?_
    · intro wx hSw; go_simp
    try simp only [Act.put, aS]
    refine tkl 11 (.bool true) rfl ?_ ?_
    · intro wx hSw; go_simp
    try simp only [Act.put, aS]
    refine tkr 12 rfl ?_
    try simp only [Act.put, aS]
    refine tkr 13 rfl ?_
    try simp only [Act.put, aS]
    refine tkr 14 rfl ?_
    try simp only [Act.put, aS]
    refine tkr 15 rfl ?_
    try simp only [Act.put, aS]
    refine tkr 16 rfl ?_
    try simp only [Act.put, aS]
    refine tkr 17 rfl ?_
    try simp only [Act.put, aS]
    refine tkr 18 rfl ?_
    try simp only [Act.put, aS]
    refine tkr 19 rfl ?_
    try simp only [Act.put, aS]
    refine tkr 20 rfl ?_
    try simp only [Act.put, aS]
    refine tkl 21 (.bool true) rfl ?_ ?_
    · intro wx hSw; go_simp
    try simp only [Act.put, aS]
    refine wpAnyH_done (by kernel_rfl) ?_ _
    clear hHeld
    clear yG0 hlG yX0 yX1 yX2 yX3 yX4 yX5 yX6 yX7 yX8 yX9 yX10 yX11 yX12 yX13 yX14 yX15 yX16 yX17 yX18 yX19 yX20 yX21 yX22 yX23 yX24 hlX
    have hd : Below w5.heap.size w5 w5.drew := (Below.refl _ _).drew
    obtain ⟨w6, en⟩ : ∃ y, y = w5.drew := ⟨_, rfl⟩
    rw [← en] at hd ⊢
    clear en
    have B26 := hid (bthen B25.out hd)
    have M26 := hid (M25.out.below hd)
    have K26 := hid (K25.out.below hd)
    have X26 := hid (X25.out.below hd)
    have R26 := hid (R25.out.below hd)
    have L26 : Hid (P10.RL lo gX w6 (.slice va n vc) n Z) := L25.out.below hd
    have G26 := hid (G25.out.below hd)
    clear B25 M25 K25 X25 R25 L25 G25
    clear hd
    have zg : gX ≤ w6.heap.size := Nat.le_of_lt G26.out.1
    have HL : Hid (P10.RL lo w6.heap.size w6 (.slice va n vc) n Z) := rl_hi L26.out zg (Nat.le_refl _)
    have yR0 := R26.out.a1
    have zR0 := R26.out.f1
    have hlR : (w.heap.size + 1 + 1 + 1) < w6.heap.size := R26.out.1
    have yG0 := G26.out.a1
    have hlG : gX < w6.heap.size := G26.out.1
    go_wp2
    refine bodyPost_ret (v := .tuple #[.agg #[.slice va n vc], .bool false]) (by simp [results, Tryz.results5, go_sem, *]) rfl ?_
    exact ⟨⟨_, rfl, rl_mono (by rw [set_size]; exact rl_set HL.out (by omega)) (by omega)⟩, B26.out.setCell (by show w.heap.size ≤ w.heap.size + 1 + 1 + 1; omega) _⟩
  | some i =>
    have hi := (seek_some hs).1
    have hi' : (i : Int) < n := by omega
    have hi1 : ¬ (i : Int) = -1 := by omega
    obtain ⟨mc1, mc2, mc3, mc4⟩ := msg_cells hm
    cases hb2 : P10.tr (Z i 2)
    · have hh : heardR c n Z k x = (Z, false) := hear_idle hk hm hs hb2
      rw [hh]
      clear hh
      go_enter Tryz.func5, Tryz.ntmps5
      go_upto_region 1 with fail
      obtain ⟨w0, e0⟩ : ∃ w0, w0 = ((((w.alloc (.cells #[.int .i64 c, .int .i64 d] 43)).alloc (.cells #[.slice (some ⟨b, o, none⟩) n cap] 40)).alloc (.cells #[.int .i64 k, .int .i64 (x 1), .int .i64 (x 2), .int .i64 (x 3), .int .i64 (x 4), .int .i64 (x 5), .int .i64 (x 6), .int .i64 (x 7), .int .i64 (x 8), .int .i64 (x 9), .int .i64 (x 10), .int .i64 (x 11), .int .i64 (x 12), .int .i64 (x 13), .int .i64 (x 14), .int .i64 (x 15), .int .i64 (x 16), .int .i64 (x 17), .int .i64 (x 18), .int .i64 (x 19), .int .i64 (x 20), .int .i64 (x 21), .int .i64 (x 22), .int .i64 (x 23), .int .i64 (x 24)] 53)).alloc (.cells #[.slice none 0 0] 40)) := ⟨_, rfl⟩
      have B27 : Hid (Below w.heap.size w w0) := by rw [e0]; exact ((((Below.refl _ _).alloc (by simp) _).alloc (by simp) _).alloc (by simp; omega) _).alloc (by simp; omega) _
      have M28 : Hid (Bk w0 w.heap.size [.int .i64 c, .int .i64 d]) := by rw [e0]; exact (((bk_new w 43 [.int .i64 c, .int .i64 d]).below ((Below.refl _ _).alloc (Nat.le_refl _) _)).below ((Below.refl _ _).alloc (Nat.le_refl _) _)).below ((Below.refl _ _).alloc (Nat.le_refl _) _)
      have K29 : Hid (Bk w0 (w.heap.size + 1) [.slice (some ⟨b, o, none⟩) n cap]) := by rw [e0]; have := ((bk_new (w.alloc (.cells #[.int .i64 c, .int .i64 d] 43)) 40 [.slice (some ⟨b, o, none⟩) n cap]).below ((Below.refl _ _).alloc (Nat.le_refl _) (.cells #[.int .i64 k, .int .i64 (x 1), .int .i64 (x 2), .int .i64 (x 3), .int .i64 (x 4), .int .i64 (x 5), .int .i64 (x 6), .int .i64 (x 7), .int .i64 (x 8), .int .i64 (x 9), .int .i64 (x 10), .int .i64 (x 11), .int .i64 (x 12), .int .i64 (x 13), .int .i64 (x 14), .int .i64 (x 15), .int .i64 (x 16), .int .i64 (x 17), .int .i64 (x 18), .int .i64 (x 19), .int .i64 (x 20), .int .i64 (x 21), .int .i64 (x 22), .int .i64 (x 23), .int .i64 (x 24)] 53))).below ((Below.refl _ _).alloc (Nat.le_refl _) (.cells #[.slice none 0 0] 40)); rwa [show (w.alloc (.cells #[.int .i64 c, .int .i64 d] 43)).heap.size = w.heap.size + 1 by simp] at this
      have X30 : Hid (Bk w0 (w.heap.size + 1 + 1) [.int .i64 k, .int .i64 (x 1), .int .i64 (x 2), .int .i64 (x 3), .int .i64 (x 4), .int .i64 (x 5), .int .i64 (x 6), .int .i64 (x 7), .int .i64 (x 8), .int .i64 (x 9), .int .i64 (x 10), .int .i64 (x 11), .int .i64 (x 12), .int .i64 (x 13), .int .i64 (x 14), .int .i64 (x 15), .int .i64 (x 16), .int .i64 (x 17), .int .i64 (x 18), .int .i64 (x 19), .int .i64 (x 20), .int .i64 (x 21), .int .i64 (x 22), .int .i64 (x 23), .int .i64 (x 24)]) := by rw [e0]; have := (bk_new ((w.alloc (.cells #[.int .i64 c, .int .i64 d] 43)).alloc (.cells #[.slice (some ⟨b, o, none⟩) n cap] 40)) 53 [.int .i64 k, .int .i64 (x 1), .int .i64 (x 2), .int .i64 (x 3), .int .i64 (x 4), .int .i64 (x 5), .int .i64 (x 6), .int .i64 (x 7), .int .i64 (x 8), .int .i64 (x 9), .int .i64 (x 10), .int .i64 (x 11), .int .i64 (x 12), .int .i64 (x 13), .int .i64 (x 14), .int .i64 (x 15), .int .i64 (x 16), .int .i64 (x 17), .int .i64 (x 18), .int .i64 (x 19), .int .i64 (x 20), .int .i64 (x 21), .int .i64 (x 22), .int .i64 (x 23), .int .i64 (x 24)]).below ((Below.refl _ _).alloc (Nat.le_refl _) (.cells #[.slice none 0 0] 40)); rwa [show ((w.alloc (.cells #[.int .i64 c, .int .i64 d] 43)).alloc (.cells #[.slice (some ⟨b, o, none⟩) n cap] 40)).heap.size = w.heap.size + 1 + 1 by simp] at this
      have R31 : Hid (Bk w0 (w.heap.size + 1 + 1 + 1) [.slice none 0 0]) := by rw [e0]; have := bk_new (((w.alloc (.cells #[.int .i64 c, .int .i64 d] 43)).alloc (.cells #[.slice (some ⟨b, o, none⟩) n cap] 40)).alloc (.cells #[.int .i64 k, .int .i64 (x 1), .int .i64 (x 2), .int .i64 (x 3), .int .i64 (x 4), .int .i64 (x 5), .int .i64 (x 6), .int .i64 (x 7), .int .i64 (x 8), .int .i64 (x 9), .int .i64 (x 10), .int .i64 (x 11), .int .i64 (x 12), .int .i64 (x 13), .int .i64 (x 14), .int .i64 (x 15), .int .i64 (x 16), .int .i64 (x 17), .int .i64 (x 18), .int .i64 (x 19), .int .i64 (x 20), .int .i64 (x 21), .int .i64 (x 22), .int .i64 (x 23), .int .i64 (x 24)] 53)) 40 [.slice none 0 0]; rwa [show (((w.alloc (.cells #[.int .i64 c, .int .i64 d] 43)).alloc (.cells #[.slice (some ⟨b, o, none⟩) n cap] 40)).alloc (.cells #[.int .i64 k, .int .i64 (x 1), .int .i64 (x 2), .int .i64 (x 3), .int .i64 (x 4), .int .i64 (x 5), .int .i64 (x 6), .int .i64 (x 7), .int .i64 (x 8), .int .i64 (x 9), .int .i64 (x 10), .int .i64 (x 11), .int .i64 (x 12), .int .i64 (x 13), .int .i64 (x 14), .int .i64 (x 15), .int .i64 (x 16), .int .i64 (x 17), .int .i64 (x 18), .int .i64 (x 19), .int .i64 (x 20), .int .i64 (x 21), .int .i64 (x 22), .int .i64 (x 23), .int .i64 (x 24)] 53)).heap.size = w.heap.size + 1 + 1 + 1 by simp] at this
      rw [← e0]
      clear e0
      obtain ⟨yM0, yM1⟩ := M28.out.a2
      have hlM : w.heap.size < w0.heap.size := M28.out.1
      have yK0 := K29.out.a1
      have hlK : (w.heap.size + 1) < w0.heap.size := K29.out.1
      go_wp2_with fail
      refine (book_spec c d _ n cap Z hn _ (P10.row_below HW.out B27.out)).mono ?_
      rintro e w1 ⟨rfl, hb1⟩
      clear yM0 yM1 hlM yK0 hlK
      have B32 := hid (bthen B27.out hb1)
      have M32 := hid (M28.out.below hb1)
      have K32 := hid (K29.out.below hb1)
      have X32 := hid (X30.out.below hb1)
      have R32 := hid (R31.out.below hb1)
      clear B27 M28 K29 X30 R31
      clear hb1
      rw [hk]
      obtain ⟨yM0, yM1⟩ := M32.out.a2
      have hlM : w.heap.size < w1.heap.size := M32.out.1
      obtain ⟨yX0, yX1, yX2, yX3, yX4, yX5, yX6, yX7, yX8, yX9, yX10, yX11, yX12, yX13, yX14, yX15, yX16, yX17, yX18, yX19, yX20, yX21, yX22, yX23, yX24⟩ := X32.out.a25
      have hlX : (w.heap.size + 1 + 1) < w1.heap.size := X32.out.1
      go_wp2_with fail
      refine (msgOk_spec c d sv k x _).mono ?_
      rintro e w2 ⟨rfl, hb2⟩
      clear yM0 yM1 hlM yX0 yX1 yX2 yX3 yX4 yX5 yX6 yX7 yX8 yX9 yX10 yX11 yX12 yX13 yX14 yX15 yX16 yX17 yX18 yX19 yX20 yX21 yX22 yX23 yX24 hlX
      have B33 := hid (bthen B32.out hb2)
      have M33 := hid (M32.out.below hb2)
      have K33 := hid (K32.out.below hb2)
      have X33 := hid (X32.out.below hb2)
      have R33 := hid (R32.out.below hb2)
      clear B32 M32 K32 X32 R32
      clear hb2
      rw [hm]
      have r1 : w.heap.size + 1 + 1 + 1 < w2.heap.size := R33.out.1
      have yK0 := K33.out.a1
      have hlK : (w.heap.size + 1) < w2.heap.size := K33.out.1
      go_wp2_with fail
      refine (copy_spec b o n cap Z hn _ (Nat.lt_of_lt_of_le hb B33.out.size) (fun k j h1 h2 => (B33.out.cell (p := ⟨b, _, none⟩) hb).trans (HR.out k j h1 h2))).mono ?_
      rintro e w3 ⟨⟨v, rfl, hr3⟩, hb3⟩
      clear yK0 hlK
      have B34 := hid (bthen B33.out hb3)
      have M34 := hid (M33.out.below hb3)
      have K34 := hid (K33.out.below hb3)
      have X34 := hid (X33.out.below hb3)
      have R34 := hid (R33.out.below hb3)
      clear B33 M33 K33 X33 R33
      have z3 := hb3.size
      clear hb3
      obtain ⟨va, vc, ev, _⟩ := hr3.at
      subst ev
      obtain ⟨lo, elo⟩ : ∃ g, g = w2.heap.size := ⟨_, rfl⟩
      rw [← elo] at r1 z3 hr3
      clear elo
      obtain ⟨gX, eX⟩ : ∃ g, g = w3.heap.size := ⟨_, rfl⟩
      rw [← eX] at z3 hr3
      have L35 : Hid (P10.RL lo gX w3 (.slice va n vc) n Z) := hr3
      clear hr3
      obtain ⟨yX0, yX1, yX2, yX3, yX4, yX5, yX6, yX7, yX8, yX9, yX10, yX11, yX12, yX13, yX14, yX15, yX16, yX17, yX18, yX19, yX20, yX21, yX22, yX23, yX24⟩ := X34.out.a25
      have hlX : (w.heap.size + 1 + 1) < w3.heap.size := X34.out.1
      go_wp2_with fail
      clear yX0 yX1 yX2 yX3 yX4 yX5 yX6 yX7 yX8 yX9 yX10 yX11 yX12 yX13 yX14 yX15 yX16 yX17 yX18 yX19 yX20 yX21 yX22 yX23 yX24 hlX
      obtain ⟨w4, e4⟩ : ∃ y, y = w3.alloc (.cells #[.slice va n vc] 40) := ⟨_, rfl⟩
      have hb4 : Below w3.heap.size w3 w4 := by rw [e4]; exact (Below.refl _ _).alloc (Nat.le_refl _) _
      have X4 : Bk w4 gX [.slice va n vc] := by rw [e4, eX]; exact bk_new w3 40 [.slice va n vc]
      rw [← e4, ← eX]
      clear e4 eX
      have B36 := hid (bthen B34.out hb4)
      have M36 := hid (M34.out.below hb4)
      have K36 := hid (K34.out.below hb4)
      have X36 := hid (X34.out.below hb4)
      have R36 := hid (R34.out.below hb4)
      have L36 : Hid (P10.RL lo gX w4 (.slice va n vc) n Z) := L35.out.below hb4
      clear B34 M34 K34 X34 R34 L35
      have G37 : Hid (Bk w4 gX [.slice va n vc]) := X4
      clear X4 hb4
      refine (at_spec va n vc Z (x 5) hn _ (rl_row L36.out)).mono ?_
      rintro e w5 ⟨rfl, hb5⟩
      rw [hs]
      have B38 := hid (bthen B36.out hb5)
      have M38 := hid (M36.out.below hb5)
      have K38 := hid (K36.out.below hb5)
      have X38 := hid (X36.out.below hb5)
      have R38 := hid (R36.out.below hb5)
      have L38 : Hid (P10.RL lo gX w5 (.slice va n vc) n Z) := L36.out.below hb5
      have G38 := hid (G37.out.below hb5)
      clear B36 M36 K36 X36 R36 L36 G37
      clear hb5
      simp only [atI]
      obtain ⟨g, gc, eg, g1, g2, g3, hOg⟩ : ∃ g c, Value.slice va n vc = .slice (some ⟨g, 0, none⟩) n c ∧ lo ≤ g ∧ g < gX ∧ gX ≤ w5.heap.size ∧ P10.OwnK w5 g n Z n := by
        rcases L38.out with ⟨h0, _⟩ | h
        · omega
        · exact h
      injection eg with eg1 _ eg2
      subst eg1 eg2
      have N39 : Hid (P10.OwnK w5 g n Z n ∧ g < w5.heap.size) := ⟨hOg, by omega⟩
      clear hOg
      have c0 : w5.cell? ⟨g, i * 10, none⟩ = some (.int .i64 (Z i 0)) := N39.out.1.2 i 0 hi (by omega)
      have c1 : w5.cell? ⟨g, i * 10 + 1, none⟩ = some (.int .i64 (Z i 1)) := N39.out.1.2 i 1 hi (by omega)
      have c2 : w5.cell? ⟨g, i * 10 + 2, none⟩ = some (.bool false) := by rw [N39.out.1.2 i 2 hi (by omega)]; simp [P10.cv, hb2]
      have c3 : w5.cell? ⟨g, i * 10 + 3, none⟩ = some (.int .i64 (Z i 3)) := N39.out.1.2 i 3 hi (by omega)
      have c4 : w5.cell? ⟨g, i * 10 + 4, none⟩ = some (.int .i64 (Z i 4)) := N39.out.1.2 i 4 hi (by omega)
      have c5 : w5.cell? ⟨g, i * 10 + 5, none⟩ = some (.int .i64 (Z i 5)) := N39.out.1.2 i 5 hi (by omega)
      have c6 : w5.cell? ⟨g, i * 10 + 6, none⟩ = some (.int .i64 (Z i 6)) := N39.out.1.2 i 6 hi (by omega)
      have c7 : w5.cell? ⟨g, i * 10 + 7, none⟩ = some (.int .i64 (Z i 7)) := N39.out.1.2 i 7 hi (by omega)
      have c8 : w5.cell? ⟨g, i * 10 + 8, none⟩ = some (.int .i64 (Z i 8)) := N39.out.1.2 i 8 hi (by omega)
      have c9 : w5.cell? ⟨g, i * 10 + 9, none⟩ = some (.int .i64 (Z i 9)) := N39.out.1.2 i 9 hi (by omega)
      have lg : g < w5.heap.size := N39.out.2
      have yG0 : w5.cell? ⟨gX, 0, none⟩ = some (.slice (some ⟨g, 0, none⟩) n vc) := (G38.out.2 0 (by simp)).1
      have hlG : gX < w5.heap.size := G38.out.1
      obtain ⟨yX0, yX1, yX2, yX3, yX4, yX5, yX6, yX7, yX8, yX9, yX10, yX11, yX12, yX13, yX14, yX15, yX16, yX17, yX18, yX19, yX20, yX21, yX22, yX23, yX24⟩ := X38.out.a25
      have hlX : (w.heap.size + 1 + 1) < w5.heap.size := X38.out.1
      go_wp2_with fail
      refine wp_region_held_drew (S := fun w' => (∀ b o, b < w5.heap.size → w'.cell? ⟨b, o, none⟩ = w5.cell? ⟨b, o, none⟩) ∧ w5.heap.size ≤ w'.heap.size) (by kernel_rfl) ⟨fun _ _ _ => rfl, Nat.le_refl _⟩ ?_
      intro hHeld
      refine tkl 0 (.int .i64 (i : Int)) rfl ?_ ?_
      · intro wx hSw; go_simp
      try simp only [Act.put, aS]
      refine tkl 1 (.bool false) rfl ?_ ?_
      · intro wx hSw; go_simp <;> first | omega | (exact IntWalk.i64_in _ (by omega)) | go_num
      try simp only [Act.put, aS]
      refine tkl 2 (.bool false) rfl ?_ ?_
      · intro wx hSw; go_simp
      try simp only [Act.put, aS]
      refine tkl 3 (.pointer (some ⟨gX, 0, none⟩)) rfl ?_ ?_
      · intro wx hSw; go_simp
      try simp only [Act.put, aS]
      refine tkl 4 (.slice (some ⟨g, 0, none⟩) n vc) rfl ?_ ?_
      · intro wx hSw; go_simp
      try simp only [Act.put, aS]
      refine tkl 5 (.int .i64 (i : Int)) rfl ?_ ?_
      · intro wx hSw; go_simp
      try simp only [Act.put, aS]
      refine tkl 6 (.pointer (some ⟨g, i * 10, none⟩)) rfl ?_ ?_
      · intro wx hSw; go_simp
      try simp only [Act.put, aS]
      refine tkl 7 (.pointer (some ⟨g, i * 10 + 2, none⟩)) rfl ?_ ?_
      · intro wx hSw; go_simp
      try simp only [Act.put, aS]
      refine tkl 8 (.bool false) rfl ?_ ?_
      · intro wx hSw; go_simp
      try simp only [Act.put, aS]
      refine tkl 9 (.bool true) rfl ?_ ?_
      · intro wx hSw; go_simp
      try simp only [Act.put, aS]
      refine tkl 10 (.bool true) rfl ?_ ?_
      · intro wx hSw; go_simp
      try simp only [Act.put, aS]
      refine tkl 11 (.bool true) rfl ?_ ?_
      · intro wx hSw; go_simp
      try simp only [Act.put, aS]
      refine tkr 12 rfl ?_
      try simp only [Act.put, aS]
      refine tkr 13 rfl ?_
      try simp only [Act.put, aS]
      refine tkr 14 rfl ?_
      try simp only [Act.put, aS]
      refine tkr 15 rfl ?_
      try simp only [Act.put, aS]
      refine tkr 16 rfl ?_
      try simp only [Act.put, aS]
      refine tkr 17 rfl ?_
      try simp only [Act.put, aS]
      refine tkr 18 rfl ?_
      try simp only [Act.put, aS]
      refine tkr 19 rfl ?_
      try simp only [Act.put, aS]
      refine tkr 20 rfl ?_
      try simp only [Act.put, aS]
      refine tkl 21 (.bool true) rfl ?_ ?_
      · intro wx hSw; go_simp
      try simp only [Act.put, aS]
      refine wpAnyH_done (by kernel_rfl) ?_ _
      clear hHeld
      clear yG0 hlG yX0 yX1 yX2 yX3 yX4 yX5 yX6 yX7 yX8 yX9 yX10 yX11 yX12 yX13 yX14 yX15 yX16 yX17 yX18 yX19 yX20 yX21 yX22 yX23 yX24 hlX
      clear c0 c1 c2 c3 c4 c5 c6 c7 c8 c9 lg
      have hd : Below w5.heap.size w5 w5.drew := (Below.refl _ _).drew
      obtain ⟨w6, en⟩ : ∃ y, y = w5.drew := ⟨_, rfl⟩
      rw [← en] at hd ⊢
      clear en
      have B40 := hid (bthen B38.out hd)
      have M40 := hid (M38.out.below hd)
      have K40 := hid (K38.out.below hd)
      have X40 := hid (X38.out.below hd)
      have R40 := hid (R38.out.below hd)
      have L40 : Hid (P10.RL lo gX w6 (.slice (some ⟨g, 0, none⟩) n vc) n Z) := L38.out.below hd
      have G40 : Hid (Bk w6 gX [.slice (some ⟨g, 0, none⟩) n vc]) := G38.out.below hd
      have N40 : Hid (P10.OwnK w6 g n Z n ∧ g < w6.heap.size) := ⟨P10.own_below N39.out.1 N39.out.2 hd, Nat.lt_of_lt_of_le N39.out.2 hd.size⟩
      clear B38 M38 K38 X38 R38 L38 G38 N39
      clear hd
      have zg : gX ≤ w6.heap.size := Nat.le_of_lt G40.out.1
      have HL : Hid (P10.RL lo w6.heap.size w6 (.slice (some ⟨g, 0, none⟩) n vc) n Z) := rl_hi L40.out zg (Nat.le_refl _)
      have yR0 := R40.out.a1
      have zR0 := R40.out.f1
      have hlR : (w.heap.size + 1 + 1 + 1) < w6.heap.size := R40.out.1
      have yG0 := G40.out.a1
      have hlG : gX < w6.heap.size := G40.out.1
      go_wp2
      refine bodyPost_ret (v := .tuple #[.agg #[.slice (some ⟨g, 0, none⟩) n vc], .bool false]) (by simp [results, Tryz.results5, go_sem, *]) rfl ?_
      exact ⟨⟨_, rfl, rl_mono (by rw [set_size]; exact rl_set HL.out (by omega)) (by omega)⟩, B40.out.setCell (by show w.heap.size ≤ w.heap.size + 1 + 1 + 1; omega) _⟩
    cases he : eq5 (Z i) x
    · have hh : heardR c n Z k x = (Z, false) := by simp [heardR, hs, he]
      rw [hh]
      clear hh
      have HE : Hid (eq5 (Z i) x = false) := he
      clear he
      go_enter Tryz.func5, Tryz.ntmps5
      go_upto_region 1 with fail
      obtain ⟨w0, e0⟩ : ∃ w0, w0 = ((((w.alloc (.cells #[.int .i64 c, .int .i64 d] 43)).alloc (.cells #[.slice (some ⟨b, o, none⟩) n cap] 40)).alloc (.cells #[.int .i64 k, .int .i64 (x 1), .int .i64 (x 2), .int .i64 (x 3), .int .i64 (x 4), .int .i64 (x 5), .int .i64 (x 6), .int .i64 (x 7), .int .i64 (x 8), .int .i64 (x 9), .int .i64 (x 10), .int .i64 (x 11), .int .i64 (x 12), .int .i64 (x 13), .int .i64 (x 14), .int .i64 (x 15), .int .i64 (x 16), .int .i64 (x 17), .int .i64 (x 18), .int .i64 (x 19), .int .i64 (x 20), .int .i64 (x 21), .int .i64 (x 22), .int .i64 (x 23), .int .i64 (x 24)] 53)).alloc (.cells #[.slice none 0 0] 40)) := ⟨_, rfl⟩
      have B41 : Hid (Below w.heap.size w w0) := by rw [e0]; exact ((((Below.refl _ _).alloc (by simp) _).alloc (by simp) _).alloc (by simp; omega) _).alloc (by simp; omega) _
      have M42 : Hid (Bk w0 w.heap.size [.int .i64 c, .int .i64 d]) := by rw [e0]; exact (((bk_new w 43 [.int .i64 c, .int .i64 d]).below ((Below.refl _ _).alloc (Nat.le_refl _) _)).below ((Below.refl _ _).alloc (Nat.le_refl _) _)).below ((Below.refl _ _).alloc (Nat.le_refl _) _)
      have K43 : Hid (Bk w0 (w.heap.size + 1) [.slice (some ⟨b, o, none⟩) n cap]) := by rw [e0]; have := ((bk_new (w.alloc (.cells #[.int .i64 c, .int .i64 d] 43)) 40 [.slice (some ⟨b, o, none⟩) n cap]).below ((Below.refl _ _).alloc (Nat.le_refl _) (.cells #[.int .i64 k, .int .i64 (x 1), .int .i64 (x 2), .int .i64 (x 3), .int .i64 (x 4), .int .i64 (x 5), .int .i64 (x 6), .int .i64 (x 7), .int .i64 (x 8), .int .i64 (x 9), .int .i64 (x 10), .int .i64 (x 11), .int .i64 (x 12), .int .i64 (x 13), .int .i64 (x 14), .int .i64 (x 15), .int .i64 (x 16), .int .i64 (x 17), .int .i64 (x 18), .int .i64 (x 19), .int .i64 (x 20), .int .i64 (x 21), .int .i64 (x 22), .int .i64 (x 23), .int .i64 (x 24)] 53))).below ((Below.refl _ _).alloc (Nat.le_refl _) (.cells #[.slice none 0 0] 40)); rwa [show (w.alloc (.cells #[.int .i64 c, .int .i64 d] 43)).heap.size = w.heap.size + 1 by simp] at this
      have X44 : Hid (Bk w0 (w.heap.size + 1 + 1) [.int .i64 k, .int .i64 (x 1), .int .i64 (x 2), .int .i64 (x 3), .int .i64 (x 4), .int .i64 (x 5), .int .i64 (x 6), .int .i64 (x 7), .int .i64 (x 8), .int .i64 (x 9), .int .i64 (x 10), .int .i64 (x 11), .int .i64 (x 12), .int .i64 (x 13), .int .i64 (x 14), .int .i64 (x 15), .int .i64 (x 16), .int .i64 (x 17), .int .i64 (x 18), .int .i64 (x 19), .int .i64 (x 20), .int .i64 (x 21), .int .i64 (x 22), .int .i64 (x 23), .int .i64 (x 24)]) := by rw [e0]; have := (bk_new ((w.alloc (.cells #[.int .i64 c, .int .i64 d] 43)).alloc (.cells #[.slice (some ⟨b, o, none⟩) n cap] 40)) 53 [.int .i64 k, .int .i64 (x 1), .int .i64 (x 2), .int .i64 (x 3), .int .i64 (x 4), .int .i64 (x 5), .int .i64 (x 6), .int .i64 (x 7), .int .i64 (x 8), .int .i64 (x 9), .int .i64 (x 10), .int .i64 (x 11), .int .i64 (x 12), .int .i64 (x 13), .int .i64 (x 14), .int .i64 (x 15), .int .i64 (x 16), .int .i64 (x 17), .int .i64 (x 18), .int .i64 (x 19), .int .i64 (x 20), .int .i64 (x 21), .int .i64 (x 22), .int .i64 (x 23), .int .i64 (x 24)]).below ((Below.refl _ _).alloc (Nat.le_refl _) (.cells #[.slice none 0 0] 40)); rwa [show ((w.alloc (.cells #[.int .i64 c, .int .i64 d] 43)).alloc (.cells #[.slice (some ⟨b, o, none⟩) n cap] 40)).heap.size = w.heap.size + 1 + 1 by simp] at this
      have R45 : Hid (Bk w0 (w.heap.size + 1 + 1 + 1) [.slice none 0 0]) := by rw [e0]; have := bk_new (((w.alloc (.cells #[.int .i64 c, .int .i64 d] 43)).alloc (.cells #[.slice (some ⟨b, o, none⟩) n cap] 40)).alloc (.cells #[.int .i64 k, .int .i64 (x 1), .int .i64 (x 2), .int .i64 (x 3), .int .i64 (x 4), .int .i64 (x 5), .int .i64 (x 6), .int .i64 (x 7), .int .i64 (x 8), .int .i64 (x 9), .int .i64 (x 10), .int .i64 (x 11), .int .i64 (x 12), .int .i64 (x 13), .int .i64 (x 14), .int .i64 (x 15), .int .i64 (x 16), .int .i64 (x 17), .int .i64 (x 18), .int .i64 (x 19), .int .i64 (x 20), .int .i64 (x 21), .int .i64 (x 22), .int .i64 (x 23), .int .i64 (x 24)] 53)) 40 [.slice none 0 0]; rwa [show (((w.alloc (.cells #[.int .i64 c, .int .i64 d] 43)).alloc (.cells #[.slice (some ⟨b, o, none⟩) n cap] 40)).alloc (.cells #[.int .i64 k, .int .i64 (x 1), .int .i64 (x 2), .int .i64 (x 3), .int .i64 (x 4), .int .i64 (x 5), .int .i64 (x 6), .int .i64 (x 7), .int .i64 (x 8), .int .i64 (x 9), .int .i64 (x 10), .int .i64 (x 11), .int .i64 (x 12), .int .i64 (x 13), .int .i64 (x 14), .int .i64 (x 15), .int .i64 (x 16), .int .i64 (x 17), .int .i64 (x 18), .int .i64 (x 19), .int .i64 (x 20), .int .i64 (x 21), .int .i64 (x 22), .int .i64 (x 23), .int .i64 (x 24)] 53)).heap.size = w.heap.size + 1 + 1 + 1 by simp] at this
      rw [← e0]
      clear e0
      obtain ⟨yM0, yM1⟩ := M42.out.a2
      have hlM : w.heap.size < w0.heap.size := M42.out.1
      have yK0 := K43.out.a1
      have hlK : (w.heap.size + 1) < w0.heap.size := K43.out.1
      go_wp2_with fail
      refine (book_spec c d _ n cap Z hn _ (P10.row_below HW.out B41.out)).mono ?_
      rintro e w1 ⟨rfl, hb1⟩
      clear yM0 yM1 hlM yK0 hlK
      have B46 := hid (bthen B41.out hb1)
      have M46 := hid (M42.out.below hb1)
      have K46 := hid (K43.out.below hb1)
      have X46 := hid (X44.out.below hb1)
      have R46 := hid (R45.out.below hb1)
      clear B41 M42 K43 X44 R45
      clear hb1
      rw [hk]
      obtain ⟨yM0, yM1⟩ := M46.out.a2
      have hlM : w.heap.size < w1.heap.size := M46.out.1
      obtain ⟨yX0, yX1, yX2, yX3, yX4, yX5, yX6, yX7, yX8, yX9, yX10, yX11, yX12, yX13, yX14, yX15, yX16, yX17, yX18, yX19, yX20, yX21, yX22, yX23, yX24⟩ := X46.out.a25
      have hlX : (w.heap.size + 1 + 1) < w1.heap.size := X46.out.1
      go_wp2_with fail
      refine (msgOk_spec c d sv k x _).mono ?_
      rintro e w2 ⟨rfl, hb2⟩
      clear yM0 yM1 hlM yX0 yX1 yX2 yX3 yX4 yX5 yX6 yX7 yX8 yX9 yX10 yX11 yX12 yX13 yX14 yX15 yX16 yX17 yX18 yX19 yX20 yX21 yX22 yX23 yX24 hlX
      have B47 := hid (bthen B46.out hb2)
      have M47 := hid (M46.out.below hb2)
      have K47 := hid (K46.out.below hb2)
      have X47 := hid (X46.out.below hb2)
      have R47 := hid (R46.out.below hb2)
      clear B46 M46 K46 X46 R46
      clear hb2
      rw [hm]
      have r1 : w.heap.size + 1 + 1 + 1 < w2.heap.size := R47.out.1
      have yK0 := K47.out.a1
      have hlK : (w.heap.size + 1) < w2.heap.size := K47.out.1
      go_wp2_with fail
      refine (copy_spec b o n cap Z hn _ (Nat.lt_of_lt_of_le hb B47.out.size) (fun k j h1 h2 => (B47.out.cell (p := ⟨b, _, none⟩) hb).trans (HR.out k j h1 h2))).mono ?_
      rintro e w3 ⟨⟨v, rfl, hr3⟩, hb3⟩
      clear yK0 hlK
      have B48 := hid (bthen B47.out hb3)
      have M48 := hid (M47.out.below hb3)
      have K48 := hid (K47.out.below hb3)
      have X48 := hid (X47.out.below hb3)
      have R48 := hid (R47.out.below hb3)
      clear B47 M47 K47 X47 R47
      have z3 := hb3.size
      clear hb3
      obtain ⟨va, vc, ev, _⟩ := hr3.at
      subst ev
      obtain ⟨lo, elo⟩ : ∃ g, g = w2.heap.size := ⟨_, rfl⟩
      rw [← elo] at r1 z3 hr3
      clear elo
      obtain ⟨gX, eX⟩ : ∃ g, g = w3.heap.size := ⟨_, rfl⟩
      rw [← eX] at z3 hr3
      have L49 : Hid (P10.RL lo gX w3 (.slice va n vc) n Z) := hr3
      clear hr3
      obtain ⟨yX0, yX1, yX2, yX3, yX4, yX5, yX6, yX7, yX8, yX9, yX10, yX11, yX12, yX13, yX14, yX15, yX16, yX17, yX18, yX19, yX20, yX21, yX22, yX23, yX24⟩ := X48.out.a25
      have hlX : (w.heap.size + 1 + 1) < w3.heap.size := X48.out.1
      go_wp2_with fail
      clear yX0 yX1 yX2 yX3 yX4 yX5 yX6 yX7 yX8 yX9 yX10 yX11 yX12 yX13 yX14 yX15 yX16 yX17 yX18 yX19 yX20 yX21 yX22 yX23 yX24 hlX
      obtain ⟨w4, e4⟩ : ∃ y, y = w3.alloc (.cells #[.slice va n vc] 40) := ⟨_, rfl⟩
      have hb4 : Below w3.heap.size w3 w4 := by rw [e4]; exact (Below.refl _ _).alloc (Nat.le_refl _) _
      have X4 : Bk w4 gX [.slice va n vc] := by rw [e4, eX]; exact bk_new w3 40 [.slice va n vc]
      rw [← e4, ← eX]
      clear e4 eX
      have B50 := hid (bthen B48.out hb4)
      have M50 := hid (M48.out.below hb4)
      have K50 := hid (K48.out.below hb4)
      have X50 := hid (X48.out.below hb4)
      have R50 := hid (R48.out.below hb4)
      have L50 : Hid (P10.RL lo gX w4 (.slice va n vc) n Z) := L49.out.below hb4
      clear B48 M48 K48 X48 R48 L49
      have G51 : Hid (Bk w4 gX [.slice va n vc]) := X4
      clear X4 hb4
      refine (at_spec va n vc Z (x 5) hn _ (rl_row L50.out)).mono ?_
      rintro e w5 ⟨rfl, hb5⟩
      rw [hs]
      have B52 := hid (bthen B50.out hb5)
      have M52 := hid (M50.out.below hb5)
      have K52 := hid (K50.out.below hb5)
      have X52 := hid (X50.out.below hb5)
      have R52 := hid (R50.out.below hb5)
      have L52 : Hid (P10.RL lo gX w5 (.slice va n vc) n Z) := L50.out.below hb5
      have G52 := hid (G51.out.below hb5)
      clear B50 M50 K50 X50 R50 L50 G51
      clear hb5
      simp only [atI]
      obtain ⟨g, gc, eg, g1, g2, g3, hOg⟩ : ∃ g c, Value.slice va n vc = .slice (some ⟨g, 0, none⟩) n c ∧ lo ≤ g ∧ g < gX ∧ gX ≤ w5.heap.size ∧ P10.OwnK w5 g n Z n := by
        rcases L52.out with ⟨h0, _⟩ | h
        · omega
        · exact h
      injection eg with eg1 _ eg2
      subst eg1 eg2
      have N53 : Hid (P10.OwnK w5 g n Z n ∧ g < w5.heap.size) := ⟨hOg, by omega⟩
      clear hOg
      have c0 : w5.cell? ⟨g, i * 10, none⟩ = some (.int .i64 (Z i 0)) := N53.out.1.2 i 0 hi (by omega)
      have c1 : w5.cell? ⟨g, i * 10 + 1, none⟩ = some (.int .i64 (Z i 1)) := N53.out.1.2 i 1 hi (by omega)
      have c2 : w5.cell? ⟨g, i * 10 + 2, none⟩ = some (.bool true) := by rw [N53.out.1.2 i 2 hi (by omega)]; simp [P10.cv, hb2]
      have c3 : w5.cell? ⟨g, i * 10 + 3, none⟩ = some (.int .i64 (Z i 3)) := N53.out.1.2 i 3 hi (by omega)
      have c4 : w5.cell? ⟨g, i * 10 + 4, none⟩ = some (.int .i64 (Z i 4)) := N53.out.1.2 i 4 hi (by omega)
      have c5 : w5.cell? ⟨g, i * 10 + 5, none⟩ = some (.int .i64 (Z i 5)) := N53.out.1.2 i 5 hi (by omega)
      have c6 : w5.cell? ⟨g, i * 10 + 6, none⟩ = some (.int .i64 (Z i 6)) := N53.out.1.2 i 6 hi (by omega)
      have c7 : w5.cell? ⟨g, i * 10 + 7, none⟩ = some (.int .i64 (Z i 7)) := N53.out.1.2 i 7 hi (by omega)
      have c8 : w5.cell? ⟨g, i * 10 + 8, none⟩ = some (.int .i64 (Z i 8)) := N53.out.1.2 i 8 hi (by omega)
      have c9 : w5.cell? ⟨g, i * 10 + 9, none⟩ = some (.int .i64 (Z i 9)) := N53.out.1.2 i 9 hi (by omega)
      have lg : g < w5.heap.size := N53.out.2
      have yG0 : w5.cell? ⟨gX, 0, none⟩ = some (.slice (some ⟨g, 0, none⟩) n vc) := (G52.out.2 0 (by simp)).1
      have hlG : gX < w5.heap.size := G52.out.1
      obtain ⟨yX0, yX1, yX2, yX3, yX4, yX5, yX6, yX7, yX8, yX9, yX10, yX11, yX12, yX13, yX14, yX15, yX16, yX17, yX18, yX19, yX20, yX21, yX22, yX23, yX24⟩ := X52.out.a25
      have hlX : (w.heap.size + 1 + 1) < w5.heap.size := X52.out.1
      go_wp2_with fail
      refine wp_region_held_drew (S := fun w' => (∀ b o, b < w5.heap.size → w'.cell? ⟨b, o, none⟩ = w5.cell? ⟨b, o, none⟩) ∧ w5.heap.size ≤ w'.heap.size) (by kernel_rfl) ⟨fun _ _ _ => rfl, Nat.le_refl _⟩ ?_
      intro hHeld
      refine tkl 0 (.int .i64 (i : Int)) rfl ?_ ?_
      · intro wx hSw; go_simp
      try simp only [Act.put, aS]
      refine tkl 1 (.bool false) rfl ?_ ?_
      · intro wx hSw; go_simp <;> first | omega | (exact IntWalk.i64_in _ (by omega)) | go_num
      try simp only [Act.put, aS]
      refine tkl 2 (.bool false) rfl ?_ ?_
      · intro wx hSw; go_simp
      try simp only [Act.put, aS]
      refine tkl 3 (.pointer (some ⟨gX, 0, none⟩)) rfl ?_ ?_
      · intro wx hSw; go_simp
      try simp only [Act.put, aS]
      refine tkl 4 (.slice (some ⟨g, 0, none⟩) n vc) rfl ?_ ?_
      · intro wx hSw; go_simp
      try simp only [Act.put, aS]
      refine tkl 5 (.int .i64 (i : Int)) rfl ?_ ?_
      · intro wx hSw; go_simp
      try simp only [Act.put, aS]
      refine tkl 6 (.pointer (some ⟨g, i * 10, none⟩)) rfl ?_ ?_
      · intro wx hSw; go_simp
      try simp only [Act.put, aS]
      refine tkl 7 (.pointer (some ⟨g, i * 10 + 2, none⟩)) rfl ?_ ?_
      · intro wx hSw; go_simp
      try simp only [Act.put, aS]
      refine tkl 8 (.bool true) rfl ?_ ?_
      · intro wx hSw; go_simp
      try simp only [Act.put, aS]
      refine tkl 9 (.bool false) rfl ?_ ?_
      · intro wx hSw; go_simp
      try simp only [Act.put, aS]
      refine tkl 10 (.bool false) rfl ?_ ?_
      · intro wx hSw; go_simp
      try simp only [Act.put, aS]
      refine tkl 11 (.bool false) rfl ?_ ?_
      · intro wx hSw; go_simp
      try simp only [Act.put, aS]
      refine tkl 12 (.pointer (some ⟨gX, 0, none⟩)) rfl ?_ ?_
      · intro wx hSw; go_simp
      try simp only [Act.put, aS]
      refine tkl 13 (.slice (some ⟨g, 0, none⟩) n vc) rfl ?_ ?_
      · intro wx hSw; go_simp
      try simp only [Act.put, aS]
      refine tkl 14 (.int .i64 (i : Int)) rfl ?_ ?_
      · intro wx hSw; go_simp
      try simp only [Act.put, aS]
      refine tkl 15 (.pointer (some ⟨g, i * 10, none⟩)) rfl ?_ ?_
      · intro wx hSw; go_simp
      try simp only [Act.put, aS]
      refine tkl 16 (.pointer (some ⟨g, i * 10 + 3, none⟩)) rfl ?_ ?_
      · intro wx hSw; go_simp
      try simp only [Act.put, aS]
      refine tkl 17 (.agg #[.int .i64 (Z i 3), .int .i64 (Z i 4), .int .i64 (Z i 5), .int .i64 (Z i 6), .int .i64 (Z i 7)]) rfl ?_ ?_
      · intro wx hSw; go_simp
      try simp only [Act.put, aS]
      refine tkl 18 (.pointer (some ⟨(w.heap.size + 1 + 1), 5, none⟩)) rfl ?_ ?_
      · intro wx hSw; go_simp
      try simp only [Act.put, aS]
      refine tkl 19 (.agg #[.int .i64 (x 5), .int .i64 (x 6), .int .i64 (x 7), .int .i64 (x 8), .int .i64 (x 9)]) rfl ?_ ?_
      · intro wx hSw; go_simp
      try simp only [Act.put, aS]
      refine tkl 20 (.bool (!eq5 (Z i) x)) rfl ?_ ?_
      · intro wx hSw; go_simp; exact q5n (Z i) x wx
      try simp only [Act.put, aS]
      refine tkl 21 (.bool (!eq5 (Z i) x)) rfl ?_ ?_
      · intro wx hSw; go_simp
      try simp only [Act.put, aS]
      refine wpAnyH_done (by kernel_rfl) ?_ _
      clear hHeld
      clear yG0 hlG yX0 yX1 yX2 yX3 yX4 yX5 yX6 yX7 yX8 yX9 yX10 yX11 yX12 yX13 yX14 yX15 yX16 yX17 yX18 yX19 yX20 yX21 yX22 yX23 yX24 hlX
      rw [HE.out]
      clear c0 c1 c2 c3 c4 c5 c6 c7 c8 c9 lg
      have hd : Below w5.heap.size w5 w5.drew := (Below.refl _ _).drew
      obtain ⟨w6, en⟩ : ∃ y, y = w5.drew := ⟨_, rfl⟩
      rw [← en] at hd ⊢
      clear en
      have B54 := hid (bthen B52.out hd)
      have M54 := hid (M52.out.below hd)
      have K54 := hid (K52.out.below hd)
      have X54 := hid (X52.out.below hd)
      have R54 := hid (R52.out.below hd)
      have L54 : Hid (P10.RL lo gX w6 (.slice (some ⟨g, 0, none⟩) n vc) n Z) := L52.out.below hd
      have G54 : Hid (Bk w6 gX [.slice (some ⟨g, 0, none⟩) n vc]) := G52.out.below hd
      have N54 : Hid (P10.OwnK w6 g n Z n ∧ g < w6.heap.size) := ⟨P10.own_below N53.out.1 N53.out.2 hd, Nat.lt_of_lt_of_le N53.out.2 hd.size⟩
      clear B52 M52 K52 X52 R52 L52 G52 N53
      clear hd
      have zg : gX ≤ w6.heap.size := Nat.le_of_lt G54.out.1
      have HL : Hid (P10.RL lo w6.heap.size w6 (.slice (some ⟨g, 0, none⟩) n vc) n Z) := rl_hi L54.out zg (Nat.le_refl _)
      have yR0 := R54.out.a1
      have zR0 := R54.out.f1
      have hlR : (w.heap.size + 1 + 1 + 1) < w6.heap.size := R54.out.1
      have yG0 := G54.out.a1
      have hlG : gX < w6.heap.size := G54.out.1
      go_wp2
      refine bodyPost_ret (v := .tuple #[.agg #[.slice (some ⟨g, 0, none⟩) n vc], .bool false]) (by simp [results, Tryz.results5, go_sem, *]) rfl ?_
      exact ⟨⟨_, rfl, rl_mono (by rw [set_size]; exact rl_set HL.out (by omega)) (by omega)⟩, B54.out.setCell (by show w.heap.size ≤ w.heap.size + 1 + 1 + 1; omega) _⟩
    by_cases k3 : k = 3
    · have E4 : Hid (Z i 4 = x 6) := by unfold Hid; simp only [eq5, Bool.and_eq_true, beq_iff_eq] at he; exact he.2.1
      have q3 : (k == 3) = true := by simp [k3]
      have hh : heardR c n Z k x = (tellZ Z i (x 2) (x 6) (x 4), true) := by simp [heardR, hs, he, k3]
      rw [hh]
      clear hh
      clear k3
      have HE : Hid (eq5 (Z i) x = true) := he
      clear he
      go_enter Tryz.func5, Tryz.ntmps5
      go_upto_region 1 with fail
      obtain ⟨w0, e0⟩ : ∃ w0, w0 = ((((w.alloc (.cells #[.int .i64 c, .int .i64 d] 43)).alloc (.cells #[.slice (some ⟨b, o, none⟩) n cap] 40)).alloc (.cells #[.int .i64 k, .int .i64 (x 1), .int .i64 (x 2), .int .i64 (x 3), .int .i64 (x 4), .int .i64 (x 5), .int .i64 (x 6), .int .i64 (x 7), .int .i64 (x 8), .int .i64 (x 9), .int .i64 (x 10), .int .i64 (x 11), .int .i64 (x 12), .int .i64 (x 13), .int .i64 (x 14), .int .i64 (x 15), .int .i64 (x 16), .int .i64 (x 17), .int .i64 (x 18), .int .i64 (x 19), .int .i64 (x 20), .int .i64 (x 21), .int .i64 (x 22), .int .i64 (x 23), .int .i64 (x 24)] 53)).alloc (.cells #[.slice none 0 0] 40)) := ⟨_, rfl⟩
      have B55 : Hid (Below w.heap.size w w0) := by rw [e0]; exact ((((Below.refl _ _).alloc (by simp) _).alloc (by simp) _).alloc (by simp; omega) _).alloc (by simp; omega) _
      have M56 : Hid (Bk w0 w.heap.size [.int .i64 c, .int .i64 d]) := by rw [e0]; exact (((bk_new w 43 [.int .i64 c, .int .i64 d]).below ((Below.refl _ _).alloc (Nat.le_refl _) _)).below ((Below.refl _ _).alloc (Nat.le_refl _) _)).below ((Below.refl _ _).alloc (Nat.le_refl _) _)
      have K57 : Hid (Bk w0 (w.heap.size + 1) [.slice (some ⟨b, o, none⟩) n cap]) := by rw [e0]; have := ((bk_new (w.alloc (.cells #[.int .i64 c, .int .i64 d] 43)) 40 [.slice (some ⟨b, o, none⟩) n cap]).below ((Below.refl _ _).alloc (Nat.le_refl _) (.cells #[.int .i64 k, .int .i64 (x 1), .int .i64 (x 2), .int .i64 (x 3), .int .i64 (x 4), .int .i64 (x 5), .int .i64 (x 6), .int .i64 (x 7), .int .i64 (x 8), .int .i64 (x 9), .int .i64 (x 10), .int .i64 (x 11), .int .i64 (x 12), .int .i64 (x 13), .int .i64 (x 14), .int .i64 (x 15), .int .i64 (x 16), .int .i64 (x 17), .int .i64 (x 18), .int .i64 (x 19), .int .i64 (x 20), .int .i64 (x 21), .int .i64 (x 22), .int .i64 (x 23), .int .i64 (x 24)] 53))).below ((Below.refl _ _).alloc (Nat.le_refl _) (.cells #[.slice none 0 0] 40)); rwa [show (w.alloc (.cells #[.int .i64 c, .int .i64 d] 43)).heap.size = w.heap.size + 1 by simp] at this
      have X58 : Hid (Bk w0 (w.heap.size + 1 + 1) [.int .i64 k, .int .i64 (x 1), .int .i64 (x 2), .int .i64 (x 3), .int .i64 (x 4), .int .i64 (x 5), .int .i64 (x 6), .int .i64 (x 7), .int .i64 (x 8), .int .i64 (x 9), .int .i64 (x 10), .int .i64 (x 11), .int .i64 (x 12), .int .i64 (x 13), .int .i64 (x 14), .int .i64 (x 15), .int .i64 (x 16), .int .i64 (x 17), .int .i64 (x 18), .int .i64 (x 19), .int .i64 (x 20), .int .i64 (x 21), .int .i64 (x 22), .int .i64 (x 23), .int .i64 (x 24)]) := by rw [e0]; have := (bk_new ((w.alloc (.cells #[.int .i64 c, .int .i64 d] 43)).alloc (.cells #[.slice (some ⟨b, o, none⟩) n cap] 40)) 53 [.int .i64 k, .int .i64 (x 1), .int .i64 (x 2), .int .i64 (x 3), .int .i64 (x 4), .int .i64 (x 5), .int .i64 (x 6), .int .i64 (x 7), .int .i64 (x 8), .int .i64 (x 9), .int .i64 (x 10), .int .i64 (x 11), .int .i64 (x 12), .int .i64 (x 13), .int .i64 (x 14), .int .i64 (x 15), .int .i64 (x 16), .int .i64 (x 17), .int .i64 (x 18), .int .i64 (x 19), .int .i64 (x 20), .int .i64 (x 21), .int .i64 (x 22), .int .i64 (x 23), .int .i64 (x 24)]).below ((Below.refl _ _).alloc (Nat.le_refl _) (.cells #[.slice none 0 0] 40)); rwa [show ((w.alloc (.cells #[.int .i64 c, .int .i64 d] 43)).alloc (.cells #[.slice (some ⟨b, o, none⟩) n cap] 40)).heap.size = w.heap.size + 1 + 1 by simp] at this
      have R59 : Hid (Bk w0 (w.heap.size + 1 + 1 + 1) [.slice none 0 0]) := by rw [e0]; have := bk_new (((w.alloc (.cells #[.int .i64 c, .int .i64 d] 43)).alloc (.cells #[.slice (some ⟨b, o, none⟩) n cap] 40)).alloc (.cells #[.int .i64 k, .int .i64 (x 1), .int .i64 (x 2), .int .i64 (x 3), .int .i64 (x 4), .int .i64 (x 5), .int .i64 (x 6), .int .i64 (x 7), .int .i64 (x 8), .int .i64 (x 9), .int .i64 (x 10), .int .i64 (x 11), .int .i64 (x 12), .int .i64 (x 13), .int .i64 (x 14), .int .i64 (x 15), .int .i64 (x 16), .int .i64 (x 17), .int .i64 (x 18), .int .i64 (x 19), .int .i64 (x 20), .int .i64 (x 21), .int .i64 (x 22), .int .i64 (x 23), .int .i64 (x 24)] 53)) 40 [.slice none 0 0]; rwa [show (((w.alloc (.cells #[.int .i64 c, .int .i64 d] 43)).alloc (.cells #[.slice (some ⟨b, o, none⟩) n cap] 40)).alloc (.cells #[.int .i64 k, .int .i64 (x 1), .int .i64 (x 2), .int .i64 (x 3), .int .i64 (x 4), .int .i64 (x 5), .int .i64 (x 6), .int .i64 (x 7), .int .i64 (x 8), .int .i64 (x 9), .int .i64 (x 10), .int .i64 (x 11), .int .i64 (x 12), .int .i64 (x 13), .int .i64 (x 14), .int .i64 (x 15), .int .i64 (x 16), .int .i64 (x 17), .int .i64 (x 18), .int .i64 (x 19), .int .i64 (x 20), .int .i64 (x 21), .int .i64 (x 22), .int .i64 (x 23), .int .i64 (x 24)] 53)).heap.size = w.heap.size + 1 + 1 + 1 by simp] at this
      rw [← e0]
      clear e0
      obtain ⟨yM0, yM1⟩ := M56.out.a2
      have hlM : w.heap.size < w0.heap.size := M56.out.1
      have yK0 := K57.out.a1
      have hlK : (w.heap.size + 1) < w0.heap.size := K57.out.1
      go_wp2_with fail
      refine (book_spec c d _ n cap Z hn _ (P10.row_below HW.out B55.out)).mono ?_
      rintro e w1 ⟨rfl, hb1⟩
      clear yM0 yM1 hlM yK0 hlK
      have B60 := hid (bthen B55.out hb1)
      have M60 := hid (M56.out.below hb1)
      have K60 := hid (K57.out.below hb1)
      have X60 := hid (X58.out.below hb1)
      have R60 := hid (R59.out.below hb1)
      clear B55 M56 K57 X58 R59
      clear hb1
      rw [hk]
      obtain ⟨yM0, yM1⟩ := M60.out.a2
      have hlM : w.heap.size < w1.heap.size := M60.out.1
      obtain ⟨yX0, yX1, yX2, yX3, yX4, yX5, yX6, yX7, yX8, yX9, yX10, yX11, yX12, yX13, yX14, yX15, yX16, yX17, yX18, yX19, yX20, yX21, yX22, yX23, yX24⟩ := X60.out.a25
      have hlX : (w.heap.size + 1 + 1) < w1.heap.size := X60.out.1
      go_wp2_with fail
      refine (msgOk_spec c d sv k x _).mono ?_
      rintro e w2 ⟨rfl, hb2⟩
      clear yM0 yM1 hlM yX0 yX1 yX2 yX3 yX4 yX5 yX6 yX7 yX8 yX9 yX10 yX11 yX12 yX13 yX14 yX15 yX16 yX17 yX18 yX19 yX20 yX21 yX22 yX23 yX24 hlX
      have B61 := hid (bthen B60.out hb2)
      have M61 := hid (M60.out.below hb2)
      have K61 := hid (K60.out.below hb2)
      have X61 := hid (X60.out.below hb2)
      have R61 := hid (R60.out.below hb2)
      clear B60 M60 K60 X60 R60
      clear hb2
      rw [hm]
      have r1 : w.heap.size + 1 + 1 + 1 < w2.heap.size := R61.out.1
      have yK0 := K61.out.a1
      have hlK : (w.heap.size + 1) < w2.heap.size := K61.out.1
      go_wp2_with fail
      refine (copy_spec b o n cap Z hn _ (Nat.lt_of_lt_of_le hb B61.out.size) (fun k j h1 h2 => (B61.out.cell (p := ⟨b, _, none⟩) hb).trans (HR.out k j h1 h2))).mono ?_
      rintro e w3 ⟨⟨v, rfl, hr3⟩, hb3⟩
      clear yK0 hlK
      have B62 := hid (bthen B61.out hb3)
      have M62 := hid (M61.out.below hb3)
      have K62 := hid (K61.out.below hb3)
      have X62 := hid (X61.out.below hb3)
      have R62 := hid (R61.out.below hb3)
      clear B61 M61 K61 X61 R61
      have z3 := hb3.size
      clear hb3
      obtain ⟨va, vc, ev, _⟩ := hr3.at
      subst ev
      obtain ⟨lo, elo⟩ : ∃ g, g = w2.heap.size := ⟨_, rfl⟩
      rw [← elo] at r1 z3 hr3
      clear elo
      obtain ⟨gX, eX⟩ : ∃ g, g = w3.heap.size := ⟨_, rfl⟩
      rw [← eX] at z3 hr3
      have L63 : Hid (P10.RL lo gX w3 (.slice va n vc) n Z) := hr3
      clear hr3
      obtain ⟨yX0, yX1, yX2, yX3, yX4, yX5, yX6, yX7, yX8, yX9, yX10, yX11, yX12, yX13, yX14, yX15, yX16, yX17, yX18, yX19, yX20, yX21, yX22, yX23, yX24⟩ := X62.out.a25
      have hlX : (w.heap.size + 1 + 1) < w3.heap.size := X62.out.1
      go_wp2_with fail
      clear yX0 yX1 yX2 yX3 yX4 yX5 yX6 yX7 yX8 yX9 yX10 yX11 yX12 yX13 yX14 yX15 yX16 yX17 yX18 yX19 yX20 yX21 yX22 yX23 yX24 hlX
      obtain ⟨w4, e4⟩ : ∃ y, y = w3.alloc (.cells #[.slice va n vc] 40) := ⟨_, rfl⟩
      have hb4 : Below w3.heap.size w3 w4 := by rw [e4]; exact (Below.refl _ _).alloc (Nat.le_refl _) _
      have X4 : Bk w4 gX [.slice va n vc] := by rw [e4, eX]; exact bk_new w3 40 [.slice va n vc]
      rw [← e4, ← eX]
      clear e4 eX
      have B64 := hid (bthen B62.out hb4)
      have M64 := hid (M62.out.below hb4)
      have K64 := hid (K62.out.below hb4)
      have X64 := hid (X62.out.below hb4)
      have R64 := hid (R62.out.below hb4)
      have L64 : Hid (P10.RL lo gX w4 (.slice va n vc) n Z) := L63.out.below hb4
      clear B62 M62 K62 X62 R62 L63
      have G65 : Hid (Bk w4 gX [.slice va n vc]) := X4
      clear X4 hb4
      refine (at_spec va n vc Z (x 5) hn _ (rl_row L64.out)).mono ?_
      rintro e w5 ⟨rfl, hb5⟩
      rw [hs]
      have B66 := hid (bthen B64.out hb5)
      have M66 := hid (M64.out.below hb5)
      have K66 := hid (K64.out.below hb5)
      have X66 := hid (X64.out.below hb5)
      have R66 := hid (R64.out.below hb5)
      have L66 : Hid (P10.RL lo gX w5 (.slice va n vc) n Z) := L64.out.below hb5
      have G66 := hid (G65.out.below hb5)
      clear B64 M64 K64 X64 R64 L64 G65
      clear hb5
      simp only [atI]
      obtain ⟨g, gc, eg, g1, g2, g3, hOg⟩ : ∃ g c, Value.slice va n vc = .slice (some ⟨g, 0, none⟩) n c ∧ lo ≤ g ∧ g < gX ∧ gX ≤ w5.heap.size ∧ P10.OwnK w5 g n Z n := by
        rcases L66.out with ⟨h0, _⟩ | h
        · omega
        · exact h
      injection eg with eg1 _ eg2
      subst eg1 eg2
      have N67 : Hid (P10.OwnK w5 g n Z n ∧ g < w5.heap.size) := ⟨hOg, by omega⟩
      clear hOg
      have c0 : w5.cell? ⟨g, i * 10, none⟩ = some (.int .i64 (Z i 0)) := N67.out.1.2 i 0 hi (by omega)
      have c1 : w5.cell? ⟨g, i * 10 + 1, none⟩ = some (.int .i64 (Z i 1)) := N67.out.1.2 i 1 hi (by omega)
      have c2 : w5.cell? ⟨g, i * 10 + 2, none⟩ = some (.bool true) := by rw [N67.out.1.2 i 2 hi (by omega)]; simp [P10.cv, hb2]
      have c3 : w5.cell? ⟨g, i * 10 + 3, none⟩ = some (.int .i64 (Z i 3)) := N67.out.1.2 i 3 hi (by omega)
      have c4 : w5.cell? ⟨g, i * 10 + 4, none⟩ = some (.int .i64 (Z i 4)) := N67.out.1.2 i 4 hi (by omega)
      have c5 : w5.cell? ⟨g, i * 10 + 5, none⟩ = some (.int .i64 (Z i 5)) := N67.out.1.2 i 5 hi (by omega)
      have c6 : w5.cell? ⟨g, i * 10 + 6, none⟩ = some (.int .i64 (Z i 6)) := N67.out.1.2 i 6 hi (by omega)
      have c7 : w5.cell? ⟨g, i * 10 + 7, none⟩ = some (.int .i64 (Z i 7)) := N67.out.1.2 i 7 hi (by omega)
      have c8 : w5.cell? ⟨g, i * 10 + 8, none⟩ = some (.int .i64 (Z i 8)) := N67.out.1.2 i 8 hi (by omega)
      have c9 : w5.cell? ⟨g, i * 10 + 9, none⟩ = some (.int .i64 (Z i 9)) := N67.out.1.2 i 9 hi (by omega)
      have lg : g < w5.heap.size := N67.out.2
      have yG0 : w5.cell? ⟨gX, 0, none⟩ = some (.slice (some ⟨g, 0, none⟩) n vc) := (G66.out.2 0 (by simp)).1
      have hlG : gX < w5.heap.size := G66.out.1
      obtain ⟨yX0, yX1, yX2, yX3, yX4, yX5, yX6, yX7, yX8, yX9, yX10, yX11, yX12, yX13, yX14, yX15, yX16, yX17, yX18, yX19, yX20, yX21, yX22, yX23, yX24⟩ := X66.out.a25
      have hlX : (w.heap.size + 1 + 1) < w5.heap.size := X66.out.1
      go_wp2_with fail
      refine wp_region_held_drew (S := fun w' => (∀ b o, b < w5.heap.size → w'.cell? ⟨b, o, none⟩ = w5.cell? ⟨b, o, none⟩) ∧ w5.heap.size ≤ w'.heap.size) (by kernel_rfl) ⟨fun _ _ _ => rfl, Nat.le_refl _⟩ ?_
      intro hHeld
      refine tkl 0 (.int .i64 (i : Int)) rfl ?_ ?_
      · intro wx hSw; go_simp
      try simp only [Act.put, aS]
      refine tkl 1 (.bool false) rfl ?_ ?_
      · intro wx hSw; go_simp <;> first | omega | (exact IntWalk.i64_in _ (by omega)) | go_num
      try simp only [Act.put, aS]
      refine tkl 2 (.bool false) rfl ?_ ?_
      · intro wx hSw; go_simp
      try simp only [Act.put, aS]
      refine tkl 3 (.pointer (some ⟨gX, 0, none⟩)) rfl ?_ ?_
      · intro wx hSw; go_simp
      try simp only [Act.put, aS]
      refine tkl 4 (.slice (some ⟨g, 0, none⟩) n vc) rfl ?_ ?_
      · intro wx hSw; go_simp
      try simp only [Act.put, aS]
      refine tkl 5 (.int .i64 (i : Int)) rfl ?_ ?_
      · intro wx hSw; go_simp
      try simp only [Act.put, aS]
      refine tkl 6 (.pointer (some ⟨g, i * 10, none⟩)) rfl ?_ ?_
      · intro wx hSw; go_simp
      try simp only [Act.put, aS]
      refine tkl 7 (.pointer (some ⟨g, i * 10 + 2, none⟩)) rfl ?_ ?_
      · intro wx hSw; go_simp
      try simp only [Act.put, aS]
      refine tkl 8 (.bool true) rfl ?_ ?_
      · intro wx hSw; go_simp
      try simp only [Act.put, aS]
      refine tkl 9 (.bool false) rfl ?_ ?_
      · intro wx hSw; go_simp
      try simp only [Act.put, aS]
      refine tkl 10 (.bool false) rfl ?_ ?_
      · intro wx hSw; go_simp
      try simp only [Act.put, aS]
      refine tkl 11 (.bool false) rfl ?_ ?_
      · intro wx hSw; go_simp
      try simp only [Act.put, aS]
      refine tkl 12 (.pointer (some ⟨gX, 0, none⟩)) rfl ?_ ?_
      · intro wx hSw; go_simp
      try simp only [Act.put, aS]
      refine tkl 13 (.slice (some ⟨g, 0, none⟩) n vc) rfl ?_ ?_
      · intro wx hSw; go_simp
      try simp only [Act.put, aS]
      refine tkl 14 (.int .i64 (i : Int)) rfl ?_ ?_
      · intro wx hSw; go_simp
      try simp only [Act.put, aS]
      refine tkl 15 (.pointer (some ⟨g, i * 10, none⟩)) rfl ?_ ?_
      · intro wx hSw; go_simp
      try simp only [Act.put, aS]
      refine tkl 16 (.pointer (some ⟨g, i * 10 + 3, none⟩)) rfl ?_ ?_
      · intro wx hSw; go_simp
      try simp only [Act.put, aS]
      refine tkl 17 (.agg #[.int .i64 (Z i 3), .int .i64 (Z i 4), .int .i64 (Z i 5), .int .i64 (Z i 6), .int .i64 (Z i 7)]) rfl ?_ ?_
      · intro wx hSw; go_simp
      try simp only [Act.put, aS]
      refine tkl 18 (.pointer (some ⟨(w.heap.size + 1 + 1), 5, none⟩)) rfl ?_ ?_
      · intro wx hSw; go_simp
      try simp only [Act.put, aS]
      refine tkl 19 (.agg #[.int .i64 (x 5), .int .i64 (x 6), .int .i64 (x 7), .int .i64 (x 8), .int .i64 (x 9)]) rfl ?_ ?_
      · intro wx hSw; go_simp
      try simp only [Act.put, aS]
      refine tkl 20 (.bool (!eq5 (Z i) x)) rfl ?_ ?_
      · intro wx hSw; go_simp; exact q5n (Z i) x wx
      try simp only [Act.put, aS]
      refine tkl 21 (.bool (!eq5 (Z i) x)) rfl ?_ ?_
      · intro wx hSw; go_simp
      try simp only [Act.put, aS]
      refine wpAnyH_done (by kernel_rfl) ?_ _
      clear hHeld
      clear yG0 hlG yX0 yX1 yX2 yX3 yX4 yX5 yX6 yX7 yX8 yX9 yX10 yX11 yX12 yX13 yX14 yX15 yX16 yX17 yX18 yX19 yX20 yX21 yX22 yX23 yX24 hlX
      rw [HE.out]
      clear c0 c1 c2 c3 c4 c5 c6 c7 c8 c9 lg
      have hd : Below w5.heap.size w5 w5.drew := (Below.refl _ _).drew
      obtain ⟨w6, en⟩ : ∃ y, y = w5.drew := ⟨_, rfl⟩
      rw [← en] at hd ⊢
      clear en
      have B68 := hid (bthen B66.out hd)
      have M68 := hid (M66.out.below hd)
      have K68 := hid (K66.out.below hd)
      have X68 := hid (X66.out.below hd)
      have R68 := hid (R66.out.below hd)
      have L68 : Hid (P10.RL lo gX w6 (.slice (some ⟨g, 0, none⟩) n vc) n Z) := L66.out.below hd
      have G68 : Hid (Bk w6 gX [.slice (some ⟨g, 0, none⟩) n vc]) := G66.out.below hd
      have N68 : Hid (P10.OwnK w6 g n Z n ∧ g < w6.heap.size) := ⟨P10.own_below N67.out.1 N67.out.2 hd, Nat.lt_of_lt_of_le N67.out.2 hd.size⟩
      clear B66 M66 K66 X66 R66 L66 G66 N67
      clear hd
      have c0 : w6.cell? ⟨g, i * 10, none⟩ = some (.int .i64 (Z i 0)) := N68.out.1.2 i 0 hi (by omega)
      have c1 : w6.cell? ⟨g, i * 10 + 1, none⟩ = some (.int .i64 (Z i 1)) := N68.out.1.2 i 1 hi (by omega)
      have c2 : w6.cell? ⟨g, i * 10 + 2, none⟩ = some (.bool true) := by rw [N68.out.1.2 i 2 hi (by omega)]; simp [P10.cv, hb2]
      have c3 : w6.cell? ⟨g, i * 10 + 3, none⟩ = some (.int .i64 (Z i 3)) := N68.out.1.2 i 3 hi (by omega)
      have c4 : w6.cell? ⟨g, i * 10 + 4, none⟩ = some (.int .i64 (Z i 4)) := N68.out.1.2 i 4 hi (by omega)
      have c5 : w6.cell? ⟨g, i * 10 + 5, none⟩ = some (.int .i64 (Z i 5)) := N68.out.1.2 i 5 hi (by omega)
      have c6 : w6.cell? ⟨g, i * 10 + 6, none⟩ = some (.int .i64 (Z i 6)) := N68.out.1.2 i 6 hi (by omega)
      have c7 : w6.cell? ⟨g, i * 10 + 7, none⟩ = some (.int .i64 (Z i 7)) := N68.out.1.2 i 7 hi (by omega)
      have c8 : w6.cell? ⟨g, i * 10 + 8, none⟩ = some (.int .i64 (Z i 8)) := N68.out.1.2 i 8 hi (by omega)
      have c9 : w6.cell? ⟨g, i * 10 + 9, none⟩ = some (.int .i64 (Z i 9)) := N68.out.1.2 i 9 hi (by omega)
      have lg : g < w6.heap.size := N68.out.2
      have yG0 := G68.out.a1
      have hlG : gX < w6.heap.size := G68.out.1
      obtain ⟨yX0, yX1, yX2, yX3, yX4, yX5, yX6, yX7, yX8, yX9, yX10, yX11, yX12, yX13, yX14, yX15, yX16, yX17, yX18, yX19, yX20, yX21, yX22, yX23, yX24⟩ := X68.out.a25
      have hlX : (w.heap.size + 1 + 1) < w6.heap.size := X68.out.1
      go_upto_region 8 with fail
      clear yG0 hlG yX0 yX1 yX2 yX3 yX4 yX5 yX6 yX7 yX8 yX9 yX10 yX11 yX12 yX13 yX14 yX15 yX16 yX17 yX18 yX19 yX20 yX21 yX22 yX23 yX24 hlX
      clear c0 c1 c2 c3 c4 c5 c6 c7 c8 c9 lg
      obtain ⟨gW, eW⟩ : ∃ g, g = w6.heap.size := ⟨_, rfl⟩
      obtain ⟨w7, e7⟩ : ∃ y, y = w6.alloc (.cells #[.int .i64 (Z i 0), .int .i64 (Z i 1), .bool true, .int .i64 (Z i 3), .int .i64 (Z i 4), .int .i64 (Z i 5), .int .i64 (Z i 6), .int .i64 (Z i 7), .int .i64 (Z i 8), .int .i64 (Z i 9)] 63) := ⟨_, rfl⟩
      have hb7 : Below w6.heap.size w6 w7 := by rw [e7]; exact (Below.refl _ _).alloc (Nat.le_refl _) _
      have W7 : Bk w7 gW [.int .i64 (Z i 0), .int .i64 (Z i 1), .bool true, .int .i64 (Z i 3), .int .i64 (Z i 4), .int .i64 (Z i 5), .int .i64 (Z i 6), .int .i64 (Z i 7), .int .i64 (Z i 8), .int .i64 (Z i 9)] := by rw [e7, eW]; exact bk_new w6 63 [.int .i64 (Z i 0), .int .i64 (Z i 1), .bool true, .int .i64 (Z i 3), .int .i64 (Z i 4), .int .i64 (Z i 5), .int .i64 (Z i 6), .int .i64 (Z i 7), .int .i64 (Z i 8), .int .i64 (Z i 9)]
      have gw1 : gX < gW := by rw [eW]; exact G68.out.1
      rw [← e7, ← eW]
      clear e7 eW
      have B69 := hid (bthen B68.out hb7)
      have M69 := hid (M68.out.below hb7)
      have K69 := hid (K68.out.below hb7)
      have X69 := hid (X68.out.below hb7)
      have R69 := hid (R68.out.below hb7)
      have L69 : Hid (P10.RL lo gX w7 (.slice (some ⟨g, 0, none⟩) n vc) n Z) := L68.out.below hb7
      have G69 := hid (G68.out.below hb7)
      have N69 : Hid (P10.OwnK w7 g n Z n ∧ g < w7.heap.size) := ⟨P10.own_below N68.out.1 N68.out.2 hb7, Nat.lt_of_lt_of_le N68.out.2 hb7.size⟩
      clear B68 M68 K68 X68 R68 L68 G68 N68
      have W70 : Hid (Bk w7 gW [.int .i64 (Z i 0), .int .i64 (Z i 1), .bool true, .int .i64 (Z i 3), .int .i64 (Z i 4), .int .i64 (Z i 5), .int .i64 (Z i 6), .int .i64 (Z i 7), .int .i64 (Z i 8), .int .i64 (Z i 9)]) := W7
      clear W7 hb7
      obtain ⟨d0, p0⟩ := Option.isSome_iff_exists.1 (N69.out.1.1 (i * 10 + 0) (by omega)).1
      have f0 := (N69.out.1.1 (i * 10 + 0) (by omega)).2
      obtain ⟨d1, p1⟩ := Option.isSome_iff_exists.1 (N69.out.1.1 (i * 10 + 1) (by omega)).1
      have f1 := (N69.out.1.1 (i * 10 + 1) (by omega)).2
      obtain ⟨d2, p2⟩ := Option.isSome_iff_exists.1 (N69.out.1.1 (i * 10 + 2) (by omega)).1
      have f2 := (N69.out.1.1 (i * 10 + 2) (by omega)).2
      obtain ⟨d3, p3⟩ := Option.isSome_iff_exists.1 (N69.out.1.1 (i * 10 + 3) (by omega)).1
      have f3 := (N69.out.1.1 (i * 10 + 3) (by omega)).2
      obtain ⟨d4, p4⟩ := Option.isSome_iff_exists.1 (N69.out.1.1 (i * 10 + 4) (by omega)).1
      have f4 := (N69.out.1.1 (i * 10 + 4) (by omega)).2
      obtain ⟨d5, p5⟩ := Option.isSome_iff_exists.1 (N69.out.1.1 (i * 10 + 5) (by omega)).1
      have f5 := (N69.out.1.1 (i * 10 + 5) (by omega)).2
      obtain ⟨d6, p6⟩ := Option.isSome_iff_exists.1 (N69.out.1.1 (i * 10 + 6) (by omega)).1
      have f6 := (N69.out.1.1 (i * 10 + 6) (by omega)).2
      obtain ⟨d7, p7⟩ := Option.isSome_iff_exists.1 (N69.out.1.1 (i * 10 + 7) (by omega)).1
      have f7 := (N69.out.1.1 (i * 10 + 7) (by omega)).2
      obtain ⟨d8, p8⟩ := Option.isSome_iff_exists.1 (N69.out.1.1 (i * 10 + 8) (by omega)).1
      have f8 := (N69.out.1.1 (i * 10 + 8) (by omega)).2
      obtain ⟨d9, p9⟩ := Option.isSome_iff_exists.1 (N69.out.1.1 (i * 10 + 9) (by omega)).1
      have f9 := (N69.out.1.1 (i * 10 + 9) (by omega)).2
      simp only [Nat.add_zero] at p0 f0
      have lg := N69.out.2
      have yG0 := G69.out.a1
      have hlG : gX < w7.heap.size := G69.out.1
      obtain ⟨yX0, yX1, yX2, yX3, yX4, yX5, yX6, yX7, yX8, yX9, yX10, yX11, yX12, yX13, yX14, yX15, yX16, yX17, yX18, yX19, yX20, yX21, yX22, yX23, yX24⟩ := X69.out.a25
      have hlX : (w.heap.size + 1 + 1) < w7.heap.size := X69.out.1
      obtain ⟨yW0, yW1, yW2, yW3, yW4, yW5, yW6, yW7, yW8, yW9⟩ := W70.out.a10
      have hlW : gW < w7.heap.size := W70.out.1
      go_upto_region 11 with fail
      clear yG0 hlG yX0 yX1 yX2 yX3 yX4 yX5 yX6 yX7 yX8 yX9 yX10 yX11 yX12 yX13 yX14 yX15 yX16 yX17 yX18 yX19 yX20 yX21 yX22 yX23 yX24 hlX yW0 yW1 yW2 yW3 yW4 yW5 yW6 yW7 yW8 yW9 hlW
      obtain ⟨w8, e8⟩ : ∃ y, y = ((((((((((w7.setCell ⟨g, i * 10, none⟩ (.int .i64 (Z i 0))).setCell ⟨g, i * 10 + 1, none⟩ (.int .i64 (x 2))).setCell ⟨g, i * 10 + 2, none⟩ (.bool false)).setCell ⟨g, i * 10 + 3, none⟩ (.int .i64 0)).setCell ⟨g, i * 10 + 4, none⟩ (.int .i64 0)).setCell ⟨g, i * 10 + 5, none⟩ (.int .i64 0)).setCell ⟨g, i * 10 + 6, none⟩ (.int .i64 0)).setCell ⟨g, i * 10 + 7, none⟩ (.int .i64 0)).setCell ⟨g, i * 10 + 8, none⟩ (.int .i64 (Z i 4))).setCell ⟨g, i * 10 + 9, none⟩ (.int .i64 (x 4))) := ⟨_, rfl⟩
      have HT : Hid (P10.OwnK w8 g n (tellZ Z i (x 2) (x 6) (x 4)) n) := by
        have q := P10.own_change (Z' := tellZ Z i (x 2) (x 6) (x 4)) N69.out.1 hi (fun k j hk => by simp [tellZ, hk])
        have e : P10.putK w7 g i (tellZ Z i (x 2) (x 6) (x 4)) = ((((((((((w7.setCell ⟨g, i * 10, none⟩ (.int .i64 (Z i 0))).setCell ⟨g, i * 10 + 1, none⟩ (.int .i64 (x 2))).setCell ⟨g, i * 10 + 2, none⟩ (.bool false)).setCell ⟨g, i * 10 + 3, none⟩ (.int .i64 0)).setCell ⟨g, i * 10 + 4, none⟩ (.int .i64 0)).setCell ⟨g, i * 10 + 5, none⟩ (.int .i64 0)).setCell ⟨g, i * 10 + 6, none⟩ (.int .i64 0)).setCell ⟨g, i * 10 + 7, none⟩ (.int .i64 0)).setCell ⟨g, i * 10 + 8, none⟩ (.int .i64 (Z i 4))).setCell ⟨g, i * 10 + 9, none⟩ (.int .i64 (x 4))) := by simp [P10.putK, tellZ, P10.tr, E4.out]
        rw [e, ← e8] at q
        exact q
      have B8 : Hid (Below w.heap.size w w8) := by unfold Hid; rw [e8]; exact ((((((((((B69.out.setCell (by show w.heap.size ≤ g; omega) _).setCell (by show w.heap.size ≤ g; omega) _).setCell (by show w.heap.size ≤ g; omega) _).setCell (by show w.heap.size ≤ g; omega) _).setCell (by show w.heap.size ≤ g; omega) _).setCell (by show w.heap.size ≤ g; omega) _).setCell (by show w.heap.size ≤ g; omega) _).setCell (by show w.heap.size ≤ g; omega) _).setCell (by show w.heap.size ≤ g; omega) _).setCell (by show w.heap.size ≤ g; omega) _)
      have R8 : Bk w8 (w.heap.size + 1 + 1 + 1) [.slice none 0 0] := by rw [e8]; exact ((((((((((R69.out.far (by omega)).far (by omega)).far (by omega)).far (by omega)).far (by omega)).far (by omega)).far (by omega)).far (by omega)).far (by omega)).far (by omega))
      have X8 : Bk w8 gX [.slice (some ⟨g, 0, none⟩) n vc] := by rw [e8]; exact ((((((((((G69.out.far (by omega)).far (by omega)).far (by omega)).far (by omega)).far (by omega)).far (by omega)).far (by omega)).far (by omega)).far (by omega)).far (by omega))
      rw [← e8]
      clear e8
      have yr : w8.cell? ⟨w.heap.size + 1 + 1 + 1, 0, none⟩ = some (.slice none 0 0) := (R8.2 0 (by simp)).1
      have zr : w8.frozen? ⟨w.heap.size + 1 + 1 + 1, 0, none⟩ = false := (R8.2 0 (by simp)).2
      have yx : w8.cell? ⟨gX, 0, none⟩ = some (.slice (some ⟨g, 0, none⟩) n vc) := (X8.2 0 (by simp)).1
      have lx := X8.1
      have lr := R8.1
      clear R8 X8
      go_wp2
      refine bodyPost_ret (v := .tuple #[.agg #[.slice (some ⟨g, 0, none⟩) n vc], .bool true]) (by simp [results, Tryz.results5, go_sem, *]) rfl ?_
      exact ⟨⟨_, rfl, .inr ⟨g, vc, rfl, by omega, by rw [set_size]; omega, Nat.le_refl _, P10.own_far HT.out (by omega)⟩⟩, B8.out.setCell (by show w.heap.size ≤ w.heap.size + 1 + 1 + 1; omega) _⟩
    have q3 : (k == 3) = false := by simpa using k3
    by_cases k4 : k = 4
    · have q4 : (k == 4) = true := by simp [k4]
      by_cases hc : Z i 1 = x 2
      · have hh : heardR c n Z k x = (awayZ c Z i (x 2), false) := by simp [heardR, hs, he, k4]
        rw [hh]
        clear hh
        clear k4 k3
        have hw1 : IntKind.wrap .i64 (Z i 1 + 1) = Z i 1 + 1 := by simp [IntKind.wrap, IntKind.bits, IntKind.signed]; omega
        have hc0 : ¬ c = 0 := by omega
        have hz1 : 0 ≤ Z i 1 ∧ Z i 1 ≤ 3 := by omega
        have HC : Hid (Z i 1 = x 2) := hc
        have hcq : (x 2 == Z i 1) = true := by simp [hc]
        clear hc
        have HE : Hid (eq5 (Z i) x = true) := he
        clear he
        go_enter Tryz.func5, Tryz.ntmps5
        go_upto_region 1 with fail
        obtain ⟨w0, e0⟩ : ∃ w0, w0 = ((((w.alloc (.cells #[.int .i64 c, .int .i64 d] 43)).alloc (.cells #[.slice (some ⟨b, o, none⟩) n cap] 40)).alloc (.cells #[.int .i64 k, .int .i64 (x 1), .int .i64 (x 2), .int .i64 (x 3), .int .i64 (x 4), .int .i64 (x 5), .int .i64 (x 6), .int .i64 (x 7), .int .i64 (x 8), .int .i64 (x 9), .int .i64 (x 10), .int .i64 (x 11), .int .i64 (x 12), .int .i64 (x 13), .int .i64 (x 14), .int .i64 (x 15), .int .i64 (x 16), .int .i64 (x 17), .int .i64 (x 18), .int .i64 (x 19), .int .i64 (x 20), .int .i64 (x 21), .int .i64 (x 22), .int .i64 (x 23), .int .i64 (x 24)] 53)).alloc (.cells #[.slice none 0 0] 40)) := ⟨_, rfl⟩
        have B71 : Hid (Below w.heap.size w w0) := by rw [e0]; exact ((((Below.refl _ _).alloc (by simp) _).alloc (by simp) _).alloc (by simp; omega) _).alloc (by simp; omega) _
        have M72 : Hid (Bk w0 w.heap.size [.int .i64 c, .int .i64 d]) := by rw [e0]; exact (((bk_new w 43 [.int .i64 c, .int .i64 d]).below ((Below.refl _ _).alloc (Nat.le_refl _) _)).below ((Below.refl _ _).alloc (Nat.le_refl _) _)).below ((Below.refl _ _).alloc (Nat.le_refl _) _)
        have K73 : Hid (Bk w0 (w.heap.size + 1) [.slice (some ⟨b, o, none⟩) n cap]) := by rw [e0]; have := ((bk_new (w.alloc (.cells #[.int .i64 c, .int .i64 d] 43)) 40 [.slice (some ⟨b, o, none⟩) n cap]).below ((Below.refl _ _).alloc (Nat.le_refl _) (.cells #[.int .i64 k, .int .i64 (x 1), .int .i64 (x 2), .int .i64 (x 3), .int .i64 (x 4), .int .i64 (x 5), .int .i64 (x 6), .int .i64 (x 7), .int .i64 (x 8), .int .i64 (x 9), .int .i64 (x 10), .int .i64 (x 11), .int .i64 (x 12), .int .i64 (x 13), .int .i64 (x 14), .int .i64 (x 15), .int .i64 (x 16), .int .i64 (x 17), .int .i64 (x 18), .int .i64 (x 19), .int .i64 (x 20), .int .i64 (x 21), .int .i64 (x 22), .int .i64 (x 23), .int .i64 (x 24)] 53))).below ((Below.refl _ _).alloc (Nat.le_refl _) (.cells #[.slice none 0 0] 40)); rwa [show (w.alloc (.cells #[.int .i64 c, .int .i64 d] 43)).heap.size = w.heap.size + 1 by simp] at this
        have X74 : Hid (Bk w0 (w.heap.size + 1 + 1) [.int .i64 k, .int .i64 (x 1), .int .i64 (x 2), .int .i64 (x 3), .int .i64 (x 4), .int .i64 (x 5), .int .i64 (x 6), .int .i64 (x 7), .int .i64 (x 8), .int .i64 (x 9), .int .i64 (x 10), .int .i64 (x 11), .int .i64 (x 12), .int .i64 (x 13), .int .i64 (x 14), .int .i64 (x 15), .int .i64 (x 16), .int .i64 (x 17), .int .i64 (x 18), .int .i64 (x 19), .int .i64 (x 20), .int .i64 (x 21), .int .i64 (x 22), .int .i64 (x 23), .int .i64 (x 24)]) := by rw [e0]; have := (bk_new ((w.alloc (.cells #[.int .i64 c, .int .i64 d] 43)).alloc (.cells #[.slice (some ⟨b, o, none⟩) n cap] 40)) 53 [.int .i64 k, .int .i64 (x 1), .int .i64 (x 2), .int .i64 (x 3), .int .i64 (x 4), .int .i64 (x 5), .int .i64 (x 6), .int .i64 (x 7), .int .i64 (x 8), .int .i64 (x 9), .int .i64 (x 10), .int .i64 (x 11), .int .i64 (x 12), .int .i64 (x 13), .int .i64 (x 14), .int .i64 (x 15), .int .i64 (x 16), .int .i64 (x 17), .int .i64 (x 18), .int .i64 (x 19), .int .i64 (x 20), .int .i64 (x 21), .int .i64 (x 22), .int .i64 (x 23), .int .i64 (x 24)]).below ((Below.refl _ _).alloc (Nat.le_refl _) (.cells #[.slice none 0 0] 40)); rwa [show ((w.alloc (.cells #[.int .i64 c, .int .i64 d] 43)).alloc (.cells #[.slice (some ⟨b, o, none⟩) n cap] 40)).heap.size = w.heap.size + 1 + 1 by simp] at this
        have R75 : Hid (Bk w0 (w.heap.size + 1 + 1 + 1) [.slice none 0 0]) := by rw [e0]; have := bk_new (((w.alloc (.cells #[.int .i64 c, .int .i64 d] 43)).alloc (.cells #[.slice (some ⟨b, o, none⟩) n cap] 40)).alloc (.cells #[.int .i64 k, .int .i64 (x 1), .int .i64 (x 2), .int .i64 (x 3), .int .i64 (x 4), .int .i64 (x 5), .int .i64 (x 6), .int .i64 (x 7), .int .i64 (x 8), .int .i64 (x 9), .int .i64 (x 10), .int .i64 (x 11), .int .i64 (x 12), .int .i64 (x 13), .int .i64 (x 14), .int .i64 (x 15), .int .i64 (x 16), .int .i64 (x 17), .int .i64 (x 18), .int .i64 (x 19), .int .i64 (x 20), .int .i64 (x 21), .int .i64 (x 22), .int .i64 (x 23), .int .i64 (x 24)] 53)) 40 [.slice none 0 0]; rwa [show (((w.alloc (.cells #[.int .i64 c, .int .i64 d] 43)).alloc (.cells #[.slice (some ⟨b, o, none⟩) n cap] 40)).alloc (.cells #[.int .i64 k, .int .i64 (x 1), .int .i64 (x 2), .int .i64 (x 3), .int .i64 (x 4), .int .i64 (x 5), .int .i64 (x 6), .int .i64 (x 7), .int .i64 (x 8), .int .i64 (x 9), .int .i64 (x 10), .int .i64 (x 11), .int .i64 (x 12), .int .i64 (x 13), .int .i64 (x 14), .int .i64 (x 15), .int .i64 (x 16), .int .i64 (x 17), .int .i64 (x 18), .int .i64 (x 19), .int .i64 (x 20), .int .i64 (x 21), .int .i64 (x 22), .int .i64 (x 23), .int .i64 (x 24)] 53)).heap.size = w.heap.size + 1 + 1 + 1 by simp] at this
        rw [← e0]
        clear e0
        obtain ⟨yM0, yM1⟩ := M72.out.a2
        have hlM : w.heap.size < w0.heap.size := M72.out.1
        have yK0 := K73.out.a1
        have hlK : (w.heap.size + 1) < w0.heap.size := K73.out.1
        go_wp2_with fail
        refine (book_spec c d _ n cap Z hn _ (P10.row_below HW.out B71.out)).mono ?_
        rintro e w1 ⟨rfl, hb1⟩
        clear yM0 yM1 hlM yK0 hlK
        have B76 := hid (bthen B71.out hb1)
        have M76 := hid (M72.out.below hb1)
        have K76 := hid (K73.out.below hb1)
        have X76 := hid (X74.out.below hb1)
        have R76 := hid (R75.out.below hb1)
        clear B71 M72 K73 X74 R75
        clear hb1
        rw [hk]
        obtain ⟨yM0, yM1⟩ := M76.out.a2
        have hlM : w.heap.size < w1.heap.size := M76.out.1
        obtain ⟨yX0, yX1, yX2, yX3, yX4, yX5, yX6, yX7, yX8, yX9, yX10, yX11, yX12, yX13, yX14, yX15, yX16, yX17, yX18, yX19, yX20, yX21, yX22, yX23, yX24⟩ := X76.out.a25
        have hlX : (w.heap.size + 1 + 1) < w1.heap.size := X76.out.1
        go_wp2_with fail
        refine (msgOk_spec c d sv k x _).mono ?_
        rintro e w2 ⟨rfl, hb2⟩
        clear yM0 yM1 hlM yX0 yX1 yX2 yX3 yX4 yX5 yX6 yX7 yX8 yX9 yX10 yX11 yX12 yX13 yX14 yX15 yX16 yX17 yX18 yX19 yX20 yX21 yX22 yX23 yX24 hlX
        have B77 := hid (bthen B76.out hb2)
        have M77 := hid (M76.out.below hb2)
        have K77 := hid (K76.out.below hb2)
        have X77 := hid (X76.out.below hb2)
        have R77 := hid (R76.out.below hb2)
        clear B76 M76 K76 X76 R76
        clear hb2
        rw [hm]
        have r1 : w.heap.size + 1 + 1 + 1 < w2.heap.size := R77.out.1
        have yK0 := K77.out.a1
        have hlK : (w.heap.size + 1) < w2.heap.size := K77.out.1
        go_wp2_with fail
        refine (copy_spec b o n cap Z hn _ (Nat.lt_of_lt_of_le hb B77.out.size) (fun k j h1 h2 => (B77.out.cell (p := ⟨b, _, none⟩) hb).trans (HR.out k j h1 h2))).mono ?_
        rintro e w3 ⟨⟨v, rfl, hr3⟩, hb3⟩
        clear yK0 hlK
        have B78 := hid (bthen B77.out hb3)
        have M78 := hid (M77.out.below hb3)
        have K78 := hid (K77.out.below hb3)
        have X78 := hid (X77.out.below hb3)
        have R78 := hid (R77.out.below hb3)
        clear B77 M77 K77 X77 R77
        have z3 := hb3.size
        clear hb3
        obtain ⟨va, vc, ev, _⟩ := hr3.at
        subst ev
        obtain ⟨lo, elo⟩ : ∃ g, g = w2.heap.size := ⟨_, rfl⟩
        rw [← elo] at r1 z3 hr3
        clear elo
        obtain ⟨gX, eX⟩ : ∃ g, g = w3.heap.size := ⟨_, rfl⟩
        rw [← eX] at z3 hr3
        have L79 : Hid (P10.RL lo gX w3 (.slice va n vc) n Z) := hr3
        clear hr3
        obtain ⟨yX0, yX1, yX2, yX3, yX4, yX5, yX6, yX7, yX8, yX9, yX10, yX11, yX12, yX13, yX14, yX15, yX16, yX17, yX18, yX19, yX20, yX21, yX22, yX23, yX24⟩ := X78.out.a25
        have hlX : (w.heap.size + 1 + 1) < w3.heap.size := X78.out.1
        go_wp2_with fail
        clear yX0 yX1 yX2 yX3 yX4 yX5 yX6 yX7 yX8 yX9 yX10 yX11 yX12 yX13 yX14 yX15 yX16 yX17 yX18 yX19 yX20 yX21 yX22 yX23 yX24 hlX
        obtain ⟨w4, e4⟩ : ∃ y, y = w3.alloc (.cells #[.slice va n vc] 40) := ⟨_, rfl⟩
        have hb4 : Below w3.heap.size w3 w4 := by rw [e4]; exact (Below.refl _ _).alloc (Nat.le_refl _) _
        have X4 : Bk w4 gX [.slice va n vc] := by rw [e4, eX]; exact bk_new w3 40 [.slice va n vc]
        rw [← e4, ← eX]
        clear e4 eX
        have B80 := hid (bthen B78.out hb4)
        have M80 := hid (M78.out.below hb4)
        have K80 := hid (K78.out.below hb4)
        have X80 := hid (X78.out.below hb4)
        have R80 := hid (R78.out.below hb4)
        have L80 : Hid (P10.RL lo gX w4 (.slice va n vc) n Z) := L79.out.below hb4
        clear B78 M78 K78 X78 R78 L79
        have G81 : Hid (Bk w4 gX [.slice va n vc]) := X4
        clear X4 hb4
        refine (at_spec va n vc Z (x 5) hn _ (rl_row L80.out)).mono ?_
        rintro e w5 ⟨rfl, hb5⟩
        rw [hs]
        have B82 := hid (bthen B80.out hb5)
        have M82 := hid (M80.out.below hb5)
        have K82 := hid (K80.out.below hb5)
        have X82 := hid (X80.out.below hb5)
        have R82 := hid (R80.out.below hb5)
        have L82 : Hid (P10.RL lo gX w5 (.slice va n vc) n Z) := L80.out.below hb5
        have G82 := hid (G81.out.below hb5)
        clear B80 M80 K80 X80 R80 L80 G81
        clear hb5
        simp only [atI]
        obtain ⟨g, gc, eg, g1, g2, g3, hOg⟩ : ∃ g c, Value.slice va n vc = .slice (some ⟨g, 0, none⟩) n c ∧ lo ≤ g ∧ g < gX ∧ gX ≤ w5.heap.size ∧ P10.OwnK w5 g n Z n := by
          rcases L82.out with ⟨h0, _⟩ | h
          · omega
          · exact h
        injection eg with eg1 _ eg2
        subst eg1 eg2
        have N83 : Hid (P10.OwnK w5 g n Z n ∧ g < w5.heap.size) := ⟨hOg, by omega⟩
        clear hOg
        have c0 : w5.cell? ⟨g, i * 10, none⟩ = some (.int .i64 (Z i 0)) := N83.out.1.2 i 0 hi (by omega)
        have c1 : w5.cell? ⟨g, i * 10 + 1, none⟩ = some (.int .i64 (Z i 1)) := N83.out.1.2 i 1 hi (by omega)
        have c2 : w5.cell? ⟨g, i * 10 + 2, none⟩ = some (.bool true) := by rw [N83.out.1.2 i 2 hi (by omega)]; simp [P10.cv, hb2]
        have c3 : w5.cell? ⟨g, i * 10 + 3, none⟩ = some (.int .i64 (Z i 3)) := N83.out.1.2 i 3 hi (by omega)
        have c4 : w5.cell? ⟨g, i * 10 + 4, none⟩ = some (.int .i64 (Z i 4)) := N83.out.1.2 i 4 hi (by omega)
        have c5 : w5.cell? ⟨g, i * 10 + 5, none⟩ = some (.int .i64 (Z i 5)) := N83.out.1.2 i 5 hi (by omega)
        have c6 : w5.cell? ⟨g, i * 10 + 6, none⟩ = some (.int .i64 (Z i 6)) := N83.out.1.2 i 6 hi (by omega)
        have c7 : w5.cell? ⟨g, i * 10 + 7, none⟩ = some (.int .i64 (Z i 7)) := N83.out.1.2 i 7 hi (by omega)
        have c8 : w5.cell? ⟨g, i * 10 + 8, none⟩ = some (.int .i64 (Z i 8)) := N83.out.1.2 i 8 hi (by omega)
        have c9 : w5.cell? ⟨g, i * 10 + 9, none⟩ = some (.int .i64 (Z i 9)) := N83.out.1.2 i 9 hi (by omega)
        have lg : g < w5.heap.size := N83.out.2
        have yG0 : w5.cell? ⟨gX, 0, none⟩ = some (.slice (some ⟨g, 0, none⟩) n vc) := (G82.out.2 0 (by simp)).1
        have hlG : gX < w5.heap.size := G82.out.1
        obtain ⟨yX0, yX1, yX2, yX3, yX4, yX5, yX6, yX7, yX8, yX9, yX10, yX11, yX12, yX13, yX14, yX15, yX16, yX17, yX18, yX19, yX20, yX21, yX22, yX23, yX24⟩ := X82.out.a25
        have hlX : (w.heap.size + 1 + 1) < w5.heap.size := X82.out.1
        go_wp2_with fail
        refine wp_region_held_drew (S := fun w' => (∀ b o, b < w5.heap.size → w'.cell? ⟨b, o, none⟩ = w5.cell? ⟨b, o, none⟩) ∧ w5.heap.size ≤ w'.heap.size) (by kernel_rfl) ⟨fun _ _ _ => rfl, Nat.le_refl _⟩ ?_
        intro hHeld
        refine tkl 0 (.int .i64 (i : Int)) rfl ?_ ?_
        · intro wx hSw; go_simp
        try simp only [Act.put, aS]
        refine tkl 1 (.bool false) rfl ?_ ?_
        · intro wx hSw; go_simp <;> first | omega | (exact IntWalk.i64_in _ (by omega)) | go_num
        try simp only [Act.put, aS]
        refine tkl 2 (.bool false) rfl ?_ ?_
        · intro wx hSw; go_simp
        try simp only [Act.put, aS]
        refine tkl 3 (.pointer (some ⟨gX, 0, none⟩)) rfl ?_ ?_
        · intro wx hSw; go_simp
        try simp only [Act.put, aS]
        refine tkl 4 (.slice (some ⟨g, 0, none⟩) n vc) rfl ?_ ?_
        · intro wx hSw; go_simp
        try simp only [Act.put, aS]
        refine tkl 5 (.int .i64 (i : Int)) rfl ?_ ?_
        · intro wx hSw; go_simp
        try simp only [Act.put, aS]
        refine tkl 6 (.pointer (some ⟨g, i * 10, none⟩)) rfl ?_ ?_
        · intro wx hSw; go_simp
        try simp only [Act.put, aS]
        refine tkl 7 (.pointer (some ⟨g, i * 10 + 2, none⟩)) rfl ?_ ?_
        · intro wx hSw; go_simp
        try simp only [Act.put, aS]
        refine tkl 8 (.bool true) rfl ?_ ?_
        · intro wx hSw; go_simp
        try simp only [Act.put, aS]
        refine tkl 9 (.bool false) rfl ?_ ?_
        · intro wx hSw; go_simp
        try simp only [Act.put, aS]
        refine tkl 10 (.bool false) rfl ?_ ?_
        · intro wx hSw; go_simp
        try simp only [Act.put, aS]
        refine tkl 11 (.bool false) rfl ?_ ?_
        · intro wx hSw; go_simp
        try simp only [Act.put, aS]
        refine tkl 12 (.pointer (some ⟨gX, 0, none⟩)) rfl ?_ ?_
        · intro wx hSw; go_simp
        try simp only [Act.put, aS]
        refine tkl 13 (.slice (some ⟨g, 0, none⟩) n vc) rfl ?_ ?_
        · intro wx hSw; go_simp
        try simp only [Act.put, aS]
        refine tkl 14 (.int .i64 (i : Int)) rfl ?_ ?_
        · intro wx hSw; go_simp
        try simp only [Act.put, aS]
        refine tkl 15 (.pointer (some ⟨g, i * 10, none⟩)) rfl ?_ ?_
        · intro wx hSw; go_simp
        try simp only [Act.put, aS]
        refine tkl 16 (.pointer (some ⟨g, i * 10 + 3, none⟩)) rfl ?_ ?_
        · intro wx hSw; go_simp
        try simp only [Act.put, aS]
        refine tkl 17 (.agg #[.int .i64 (Z i 3), .int .i64 (Z i 4), .int .i64 (Z i 5), .int .i64 (Z i 6), .int .i64 (Z i 7)]) rfl ?_ ?_
        · intro wx hSw; go_simp
        try simp only [Act.put, aS]
        refine tkl 18 (.pointer (some ⟨(w.heap.size + 1 + 1), 5, none⟩)) rfl ?_ ?_
        · intro wx hSw; go_simp
        try simp only [Act.put, aS]
        refine tkl 19 (.agg #[.int .i64 (x 5), .int .i64 (x 6), .int .i64 (x 7), .int .i64 (x 8), .int .i64 (x 9)]) rfl ?_ ?_
        · intro wx hSw; go_simp
        try simp only [Act.put, aS]
        refine tkl 20 (.bool (!eq5 (Z i) x)) rfl ?_ ?_
        · intro wx hSw; go_simp; exact q5n (Z i) x wx
        try simp only [Act.put, aS]
        refine tkl 21 (.bool (!eq5 (Z i) x)) rfl ?_ ?_
        · intro wx hSw; go_simp
        try simp only [Act.put, aS]
        refine wpAnyH_done (by kernel_rfl) ?_ _
        clear hHeld
        clear yG0 hlG yX0 yX1 yX2 yX3 yX4 yX5 yX6 yX7 yX8 yX9 yX10 yX11 yX12 yX13 yX14 yX15 yX16 yX17 yX18 yX19 yX20 yX21 yX22 yX23 yX24 hlX
        rw [HE.out]
        clear c0 c1 c2 c3 c4 c5 c6 c7 c8 c9 lg
        have hd : Below w5.heap.size w5 w5.drew := (Below.refl _ _).drew
        obtain ⟨w6, en⟩ : ∃ y, y = w5.drew := ⟨_, rfl⟩
        rw [← en] at hd ⊢
        clear en
        have B84 := hid (bthen B82.out hd)
        have M84 := hid (M82.out.below hd)
        have K84 := hid (K82.out.below hd)
        have X84 := hid (X82.out.below hd)
        have R84 := hid (R82.out.below hd)
        have L84 : Hid (P10.RL lo gX w6 (.slice (some ⟨g, 0, none⟩) n vc) n Z) := L82.out.below hd
        have G84 : Hid (Bk w6 gX [.slice (some ⟨g, 0, none⟩) n vc]) := G82.out.below hd
        have N84 : Hid (P10.OwnK w6 g n Z n ∧ g < w6.heap.size) := ⟨P10.own_below N83.out.1 N83.out.2 hd, Nat.lt_of_lt_of_le N83.out.2 hd.size⟩
        clear B82 M82 K82 X82 R82 L82 G82 N83
        clear hd
        have c0 : w6.cell? ⟨g, i * 10, none⟩ = some (.int .i64 (Z i 0)) := N84.out.1.2 i 0 hi (by omega)
        have c1 : w6.cell? ⟨g, i * 10 + 1, none⟩ = some (.int .i64 (Z i 1)) := N84.out.1.2 i 1 hi (by omega)
        have c2 : w6.cell? ⟨g, i * 10 + 2, none⟩ = some (.bool true) := by rw [N84.out.1.2 i 2 hi (by omega)]; simp [P10.cv, hb2]
        have c3 : w6.cell? ⟨g, i * 10 + 3, none⟩ = some (.int .i64 (Z i 3)) := N84.out.1.2 i 3 hi (by omega)
        have c4 : w6.cell? ⟨g, i * 10 + 4, none⟩ = some (.int .i64 (Z i 4)) := N84.out.1.2 i 4 hi (by omega)
        have c5 : w6.cell? ⟨g, i * 10 + 5, none⟩ = some (.int .i64 (Z i 5)) := N84.out.1.2 i 5 hi (by omega)
        have c6 : w6.cell? ⟨g, i * 10 + 6, none⟩ = some (.int .i64 (Z i 6)) := N84.out.1.2 i 6 hi (by omega)
        have c7 : w6.cell? ⟨g, i * 10 + 7, none⟩ = some (.int .i64 (Z i 7)) := N84.out.1.2 i 7 hi (by omega)
        have c8 : w6.cell? ⟨g, i * 10 + 8, none⟩ = some (.int .i64 (Z i 8)) := N84.out.1.2 i 8 hi (by omega)
        have c9 : w6.cell? ⟨g, i * 10 + 9, none⟩ = some (.int .i64 (Z i 9)) := N84.out.1.2 i 9 hi (by omega)
        have lg : g < w6.heap.size := N84.out.2
        have yG0 := G84.out.a1
        have hlG : gX < w6.heap.size := G84.out.1
        obtain ⟨yX0, yX1, yX2, yX3, yX4, yX5, yX6, yX7, yX8, yX9, yX10, yX11, yX12, yX13, yX14, yX15, yX16, yX17, yX18, yX19, yX20, yX21, yX22, yX23, yX24⟩ := X84.out.a25
        have hlX : (w.heap.size + 1 + 1) < w6.heap.size := X84.out.1
        go_upto_region 8 with fail
        clear yG0 hlG yX0 yX1 yX2 yX3 yX4 yX5 yX6 yX7 yX8 yX9 yX10 yX11 yX12 yX13 yX14 yX15 yX16 yX17 yX18 yX19 yX20 yX21 yX22 yX23 yX24 hlX
        clear c0 c1 c2 c3 c4 c5 c6 c7 c8 c9 lg
        obtain ⟨gW, eW⟩ : ∃ g, g = w6.heap.size := ⟨_, rfl⟩
        obtain ⟨w7, e7⟩ : ∃ y, y = w6.alloc (.cells #[.int .i64 (Z i 0), .int .i64 (Z i 1), .bool true, .int .i64 (Z i 3), .int .i64 (Z i 4), .int .i64 (Z i 5), .int .i64 (Z i 6), .int .i64 (Z i 7), .int .i64 (Z i 8), .int .i64 (Z i 9)] 63) := ⟨_, rfl⟩
        have hb7 : Below w6.heap.size w6 w7 := by rw [e7]; exact (Below.refl _ _).alloc (Nat.le_refl _) _
        have W7 : Bk w7 gW [.int .i64 (Z i 0), .int .i64 (Z i 1), .bool true, .int .i64 (Z i 3), .int .i64 (Z i 4), .int .i64 (Z i 5), .int .i64 (Z i 6), .int .i64 (Z i 7), .int .i64 (Z i 8), .int .i64 (Z i 9)] := by rw [e7, eW]; exact bk_new w6 63 [.int .i64 (Z i 0), .int .i64 (Z i 1), .bool true, .int .i64 (Z i 3), .int .i64 (Z i 4), .int .i64 (Z i 5), .int .i64 (Z i 6), .int .i64 (Z i 7), .int .i64 (Z i 8), .int .i64 (Z i 9)]
        have gw1 : gX < gW := by rw [eW]; exact G84.out.1
        rw [← e7, ← eW]
        clear e7 eW
        have B85 := hid (bthen B84.out hb7)
        have M85 := hid (M84.out.below hb7)
        have K85 := hid (K84.out.below hb7)
        have X85 := hid (X84.out.below hb7)
        have R85 := hid (R84.out.below hb7)
        have L85 : Hid (P10.RL lo gX w7 (.slice (some ⟨g, 0, none⟩) n vc) n Z) := L84.out.below hb7
        have G85 := hid (G84.out.below hb7)
        have N85 : Hid (P10.OwnK w7 g n Z n ∧ g < w7.heap.size) := ⟨P10.own_below N84.out.1 N84.out.2 hb7, Nat.lt_of_lt_of_le N84.out.2 hb7.size⟩
        clear B84 M84 K84 X84 R84 L84 G84 N84
        have W86 : Hid (Bk w7 gW [.int .i64 (Z i 0), .int .i64 (Z i 1), .bool true, .int .i64 (Z i 3), .int .i64 (Z i 4), .int .i64 (Z i 5), .int .i64 (Z i 6), .int .i64 (Z i 7), .int .i64 (Z i 8), .int .i64 (Z i 9)]) := W7
        clear W7 hb7
        obtain ⟨d1, p1⟩ := Option.isSome_iff_exists.1 (N85.out.1.1 (i * 10 + 1) (by omega)).1
        have f1 := (N85.out.1.1 (i * 10 + 1) (by omega)).2
        have lg := N85.out.2
        have n1 : ¬ g = gX := by omega
        have n2 : ¬ gX = g := by omega
        have n3 : ¬ g = gW := by omega
        have n4 : ¬ gW = g := by omega
        have n5 : ¬ g = w.heap.size := by omega
        have n6 : ¬ w.heap.size = g := by omega
        have yG0 := G85.out.a1
        have hlG : gX < w7.heap.size := G85.out.1
        obtain ⟨yX0, yX1, yX2, yX3, yX4, yX5, yX6, yX7, yX8, yX9, yX10, yX11, yX12, yX13, yX14, yX15, yX16, yX17, yX18, yX19, yX20, yX21, yX22, yX23, yX24⟩ := X85.out.a25
        have hlX : (w.heap.size + 1 + 1) < w7.heap.size := X85.out.1
        obtain ⟨yW0, yW1, yW2, yW3, yW4, yW5, yW6, yW7, yW8, yW9⟩ := W86.out.a10
        have hlW : gW < w7.heap.size := W86.out.1
        obtain ⟨yM0, yM1⟩ := M85.out.a2
        have hlM : w.heap.size < w7.heap.size := M85.out.1
        go_upto_region 14 with fail
        go_region
        clear yG0 hlG yX0 yX1 yX2 yX3 yX4 yX5 yX6 yX7 yX8 yX9 yX10 yX11 yX12 yX13 yX14 yX15 yX16 yX17 yX18 yX19 yX20 yX21 yX22 yX23 yX24 hlX yW0 yW1 yW2 yW3 yW4 yW5 yW6 yW7 yW8 yW9 hlW yM0 yM1 hlM
        clear p1 f1
        obtain ⟨w8, e8⟩ : ∃ y, y = (w7.setCell ⟨g, i * 10 + 1, none⟩ (.int .i64 ((Z i 1 + 1) % c))).drew := ⟨_, rfl⟩
        have HT : Hid (P10.OwnK w8 g n (awayZ c Z i (x 2)) n) := by
          have q := own_away (c := c) N85.out.1 hi HC.out
          rw [← HC.out] at q
          unfold Hid
          rw [e8, ← HC.out]
          exact own_drew q
        have B8 : Hid (Below w.heap.size w w8) := by unfold Hid; rw [e8]; exact (B85.out.setCell (by show w.heap.size ≤ g; omega) _).drew
        have R8 : Bk w8 (w.heap.size + 1 + 1 + 1) [.slice none 0 0] := by rw [e8]; exact bk_drew (R85.out.far (by omega))
        have X8 : Bk w8 gX [.slice (some ⟨g, 0, none⟩) n vc] := by rw [e8]; exact bk_drew (G85.out.far (by omega))
        rw [← e8]
        clear e8
        have yr : w8.cell? ⟨w.heap.size + 1 + 1 + 1, 0, none⟩ = some (.slice none 0 0) := (R8.2 0 (by simp)).1
        have zr : w8.frozen? ⟨w.heap.size + 1 + 1 + 1, 0, none⟩ = false := (R8.2 0 (by simp)).2
        have yx : w8.cell? ⟨gX, 0, none⟩ = some (.slice (some ⟨g, 0, none⟩) n vc) := (X8.2 0 (by simp)).1
        have lx := X8.1
        have lr := R8.1
        clear R8 X8
        go_wp2
        refine bodyPost_ret (v := .tuple #[.agg #[.slice (some ⟨g, 0, none⟩) n vc], .bool false]) (by simp [results, Tryz.results5, go_sem, *]) rfl ?_
        exact ⟨⟨_, rfl, .inr ⟨g, vc, rfl, by omega, by rw [set_size]; omega, Nat.le_refl _, P10.own_far HT.out (by omega)⟩⟩, B8.out.setCell (by show w.heap.size ≤ w.heap.size + 1 + 1 + 1; omega) _⟩
      · have hh : heardR c n Z k x = (Z, false) := by
          have hY : awayZ c Z i (x 2) = Z := by
            funext k j
            unfold awayZ
            split
            · rename_i e
              subst e
              split
              · first | rfl | rw [if_neg hc]
              · rfl
            · rfl
          simp [heardR, hs, he, hY, k4]
        rw [hh]
        clear hh
        clear k4 k3
        have hc2 : ¬ x 2 = Z i 1 := fun e => hc e.symm
        clear hc
        have HE : Hid (eq5 (Z i) x = true) := he
        clear he
        go_enter Tryz.func5, Tryz.ntmps5
        go_upto_region 1 with fail
        obtain ⟨w0, e0⟩ : ∃ w0, w0 = ((((w.alloc (.cells #[.int .i64 c, .int .i64 d] 43)).alloc (.cells #[.slice (some ⟨b, o, none⟩) n cap] 40)).alloc (.cells #[.int .i64 k, .int .i64 (x 1), .int .i64 (x 2), .int .i64 (x 3), .int .i64 (x 4), .int .i64 (x 5), .int .i64 (x 6), .int .i64 (x 7), .int .i64 (x 8), .int .i64 (x 9), .int .i64 (x 10), .int .i64 (x 11), .int .i64 (x 12), .int .i64 (x 13), .int .i64 (x 14), .int .i64 (x 15), .int .i64 (x 16), .int .i64 (x 17), .int .i64 (x 18), .int .i64 (x 19), .int .i64 (x 20), .int .i64 (x 21), .int .i64 (x 22), .int .i64 (x 23), .int .i64 (x 24)] 53)).alloc (.cells #[.slice none 0 0] 40)) := ⟨_, rfl⟩
        have B87 : Hid (Below w.heap.size w w0) := by rw [e0]; exact ((((Below.refl _ _).alloc (by simp) _).alloc (by simp) _).alloc (by simp; omega) _).alloc (by simp; omega) _
        have M88 : Hid (Bk w0 w.heap.size [.int .i64 c, .int .i64 d]) := by rw [e0]; exact (((bk_new w 43 [.int .i64 c, .int .i64 d]).below ((Below.refl _ _).alloc (Nat.le_refl _) _)).below ((Below.refl _ _).alloc (Nat.le_refl _) _)).below ((Below.refl _ _).alloc (Nat.le_refl _) _)
        have K89 : Hid (Bk w0 (w.heap.size + 1) [.slice (some ⟨b, o, none⟩) n cap]) := by rw [e0]; have := ((bk_new (w.alloc (.cells #[.int .i64 c, .int .i64 d] 43)) 40 [.slice (some ⟨b, o, none⟩) n cap]).below ((Below.refl _ _).alloc (Nat.le_refl _) (.cells #[.int .i64 k, .int .i64 (x 1), .int .i64 (x 2), .int .i64 (x 3), .int .i64 (x 4), .int .i64 (x 5), .int .i64 (x 6), .int .i64 (x 7), .int .i64 (x 8), .int .i64 (x 9), .int .i64 (x 10), .int .i64 (x 11), .int .i64 (x 12), .int .i64 (x 13), .int .i64 (x 14), .int .i64 (x 15), .int .i64 (x 16), .int .i64 (x 17), .int .i64 (x 18), .int .i64 (x 19), .int .i64 (x 20), .int .i64 (x 21), .int .i64 (x 22), .int .i64 (x 23), .int .i64 (x 24)] 53))).below ((Below.refl _ _).alloc (Nat.le_refl _) (.cells #[.slice none 0 0] 40)); rwa [show (w.alloc (.cells #[.int .i64 c, .int .i64 d] 43)).heap.size = w.heap.size + 1 by simp] at this
        have X90 : Hid (Bk w0 (w.heap.size + 1 + 1) [.int .i64 k, .int .i64 (x 1), .int .i64 (x 2), .int .i64 (x 3), .int .i64 (x 4), .int .i64 (x 5), .int .i64 (x 6), .int .i64 (x 7), .int .i64 (x 8), .int .i64 (x 9), .int .i64 (x 10), .int .i64 (x 11), .int .i64 (x 12), .int .i64 (x 13), .int .i64 (x 14), .int .i64 (x 15), .int .i64 (x 16), .int .i64 (x 17), .int .i64 (x 18), .int .i64 (x 19), .int .i64 (x 20), .int .i64 (x 21), .int .i64 (x 22), .int .i64 (x 23), .int .i64 (x 24)]) := by rw [e0]; have := (bk_new ((w.alloc (.cells #[.int .i64 c, .int .i64 d] 43)).alloc (.cells #[.slice (some ⟨b, o, none⟩) n cap] 40)) 53 [.int .i64 k, .int .i64 (x 1), .int .i64 (x 2), .int .i64 (x 3), .int .i64 (x 4), .int .i64 (x 5), .int .i64 (x 6), .int .i64 (x 7), .int .i64 (x 8), .int .i64 (x 9), .int .i64 (x 10), .int .i64 (x 11), .int .i64 (x 12), .int .i64 (x 13), .int .i64 (x 14), .int .i64 (x 15), .int .i64 (x 16), .int .i64 (x 17), .int .i64 (x 18), .int .i64 (x 19), .int .i64 (x 20), .int .i64 (x 21), .int .i64 (x 22), .int .i64 (x 23), .int .i64 (x 24)]).below ((Below.refl _ _).alloc (Nat.le_refl _) (.cells #[.slice none 0 0] 40)); rwa [show ((w.alloc (.cells #[.int .i64 c, .int .i64 d] 43)).alloc (.cells #[.slice (some ⟨b, o, none⟩) n cap] 40)).heap.size = w.heap.size + 1 + 1 by simp] at this
        have R91 : Hid (Bk w0 (w.heap.size + 1 + 1 + 1) [.slice none 0 0]) := by rw [e0]; have := bk_new (((w.alloc (.cells #[.int .i64 c, .int .i64 d] 43)).alloc (.cells #[.slice (some ⟨b, o, none⟩) n cap] 40)).alloc (.cells #[.int .i64 k, .int .i64 (x 1), .int .i64 (x 2), .int .i64 (x 3), .int .i64 (x 4), .int .i64 (x 5), .int .i64 (x 6), .int .i64 (x 7), .int .i64 (x 8), .int .i64 (x 9), .int .i64 (x 10), .int .i64 (x 11), .int .i64 (x 12), .int .i64 (x 13), .int .i64 (x 14), .int .i64 (x 15), .int .i64 (x 16), .int .i64 (x 17), .int .i64 (x 18), .int .i64 (x 19), .int .i64 (x 20), .int .i64 (x 21), .int .i64 (x 22), .int .i64 (x 23), .int .i64 (x 24)] 53)) 40 [.slice none 0 0]; rwa [show (((w.alloc (.cells #[.int .i64 c, .int .i64 d] 43)).alloc (.cells #[.slice (some ⟨b, o, none⟩) n cap] 40)).alloc (.cells #[.int .i64 k, .int .i64 (x 1), .int .i64 (x 2), .int .i64 (x 3), .int .i64 (x 4), .int .i64 (x 5), .int .i64 (x 6), .int .i64 (x 7), .int .i64 (x 8), .int .i64 (x 9), .int .i64 (x 10), .int .i64 (x 11), .int .i64 (x 12), .int .i64 (x 13), .int .i64 (x 14), .int .i64 (x 15), .int .i64 (x 16), .int .i64 (x 17), .int .i64 (x 18), .int .i64 (x 19), .int .i64 (x 20), .int .i64 (x 21), .int .i64 (x 22), .int .i64 (x 23), .int .i64 (x 24)] 53)).heap.size = w.heap.size + 1 + 1 + 1 by simp] at this
        rw [← e0]
        clear e0
        obtain ⟨yM0, yM1⟩ := M88.out.a2
        have hlM : w.heap.size < w0.heap.size := M88.out.1
        have yK0 := K89.out.a1
        have hlK : (w.heap.size + 1) < w0.heap.size := K89.out.1
        go_wp2_with fail
        refine (book_spec c d _ n cap Z hn _ (P10.row_below HW.out B87.out)).mono ?_
        rintro e w1 ⟨rfl, hb1⟩
        clear yM0 yM1 hlM yK0 hlK
        have B92 := hid (bthen B87.out hb1)
        have M92 := hid (M88.out.below hb1)
        have K92 := hid (K89.out.below hb1)
        have X92 := hid (X90.out.below hb1)
        have R92 := hid (R91.out.below hb1)
        clear B87 M88 K89 X90 R91
        clear hb1
        rw [hk]
        obtain ⟨yM0, yM1⟩ := M92.out.a2
        have hlM : w.heap.size < w1.heap.size := M92.out.1
        obtain ⟨yX0, yX1, yX2, yX3, yX4, yX5, yX6, yX7, yX8, yX9, yX10, yX11, yX12, yX13, yX14, yX15, yX16, yX17, yX18, yX19, yX20, yX21, yX22, yX23, yX24⟩ := X92.out.a25
        have hlX : (w.heap.size + 1 + 1) < w1.heap.size := X92.out.1
        go_wp2_with fail
        refine (msgOk_spec c d sv k x _).mono ?_
        rintro e w2 ⟨rfl, hb2⟩
        clear yM0 yM1 hlM yX0 yX1 yX2 yX3 yX4 yX5 yX6 yX7 yX8 yX9 yX10 yX11 yX12 yX13 yX14 yX15 yX16 yX17 yX18 yX19 yX20 yX21 yX22 yX23 yX24 hlX
        have B93 := hid (bthen B92.out hb2)
        have M93 := hid (M92.out.below hb2)
        have K93 := hid (K92.out.below hb2)
        have X93 := hid (X92.out.below hb2)
        have R93 := hid (R92.out.below hb2)
        clear B92 M92 K92 X92 R92
        clear hb2
        rw [hm]
        have r1 : w.heap.size + 1 + 1 + 1 < w2.heap.size := R93.out.1
        have yK0 := K93.out.a1
        have hlK : (w.heap.size + 1) < w2.heap.size := K93.out.1
        go_wp2_with fail
        refine (copy_spec b o n cap Z hn _ (Nat.lt_of_lt_of_le hb B93.out.size) (fun k j h1 h2 => (B93.out.cell (p := ⟨b, _, none⟩) hb).trans (HR.out k j h1 h2))).mono ?_
        rintro e w3 ⟨⟨v, rfl, hr3⟩, hb3⟩
        clear yK0 hlK
        have B94 := hid (bthen B93.out hb3)
        have M94 := hid (M93.out.below hb3)
        have K94 := hid (K93.out.below hb3)
        have X94 := hid (X93.out.below hb3)
        have R94 := hid (R93.out.below hb3)
        clear B93 M93 K93 X93 R93
        have z3 := hb3.size
        clear hb3
        obtain ⟨va, vc, ev, _⟩ := hr3.at
        subst ev
        obtain ⟨lo, elo⟩ : ∃ g, g = w2.heap.size := ⟨_, rfl⟩
        rw [← elo] at r1 z3 hr3
        clear elo
        obtain ⟨gX, eX⟩ : ∃ g, g = w3.heap.size := ⟨_, rfl⟩
        rw [← eX] at z3 hr3
        have L95 : Hid (P10.RL lo gX w3 (.slice va n vc) n Z) := hr3
        clear hr3
        obtain ⟨yX0, yX1, yX2, yX3, yX4, yX5, yX6, yX7, yX8, yX9, yX10, yX11, yX12, yX13, yX14, yX15, yX16, yX17, yX18, yX19, yX20, yX21, yX22, yX23, yX24⟩ := X94.out.a25
        have hlX : (w.heap.size + 1 + 1) < w3.heap.size := X94.out.1
        go_wp2_with fail
        clear yX0 yX1 yX2 yX3 yX4 yX5 yX6 yX7 yX8 yX9 yX10 yX11 yX12 yX13 yX14 yX15 yX16 yX17 yX18 yX19 yX20 yX21 yX22 yX23 yX24 hlX
        obtain ⟨w4, e4⟩ : ∃ y, y = w3.alloc (.cells #[.slice va n vc] 40) := ⟨_, rfl⟩
        have hb4 : Below w3.heap.size w3 w4 := by rw [e4]; exact (Below.refl _ _).alloc (Nat.le_refl _) _
        have X4 : Bk w4 gX [.slice va n vc] := by rw [e4, eX]; exact bk_new w3 40 [.slice va n vc]
        rw [← e4, ← eX]
        clear e4 eX
        have B96 := hid (bthen B94.out hb4)
        have M96 := hid (M94.out.below hb4)
        have K96 := hid (K94.out.below hb4)
        have X96 := hid (X94.out.below hb4)
        have R96 := hid (R94.out.below hb4)
        have L96 : Hid (P10.RL lo gX w4 (.slice va n vc) n Z) := L95.out.below hb4
        clear B94 M94 K94 X94 R94 L95
        have G97 : Hid (Bk w4 gX [.slice va n vc]) := X4
        clear X4 hb4
        refine (at_spec va n vc Z (x 5) hn _ (rl_row L96.out)).mono ?_
        rintro e w5 ⟨rfl, hb5⟩
        rw [hs]
        have B98 := hid (bthen B96.out hb5)
        have M98 := hid (M96.out.below hb5)
        have K98 := hid (K96.out.below hb5)
        have X98 := hid (X96.out.below hb5)
        have R98 := hid (R96.out.below hb5)
        have L98 : Hid (P10.RL lo gX w5 (.slice va n vc) n Z) := L96.out.below hb5
        have G98 := hid (G97.out.below hb5)
        clear B96 M96 K96 X96 R96 L96 G97
        clear hb5
        simp only [atI]
        obtain ⟨g, gc, eg, g1, g2, g3, hOg⟩ : ∃ g c, Value.slice va n vc = .slice (some ⟨g, 0, none⟩) n c ∧ lo ≤ g ∧ g < gX ∧ gX ≤ w5.heap.size ∧ P10.OwnK w5 g n Z n := by
          rcases L98.out with ⟨h0, _⟩ | h
          · omega
          · exact h
        injection eg with eg1 _ eg2
        subst eg1 eg2
        have N99 : Hid (P10.OwnK w5 g n Z n ∧ g < w5.heap.size) := ⟨hOg, by omega⟩
        clear hOg
        have c0 : w5.cell? ⟨g, i * 10, none⟩ = some (.int .i64 (Z i 0)) := N99.out.1.2 i 0 hi (by omega)
        have c1 : w5.cell? ⟨g, i * 10 + 1, none⟩ = some (.int .i64 (Z i 1)) := N99.out.1.2 i 1 hi (by omega)
        have c2 : w5.cell? ⟨g, i * 10 + 2, none⟩ = some (.bool true) := by rw [N99.out.1.2 i 2 hi (by omega)]; simp [P10.cv, hb2]
        have c3 : w5.cell? ⟨g, i * 10 + 3, none⟩ = some (.int .i64 (Z i 3)) := N99.out.1.2 i 3 hi (by omega)
        have c4 : w5.cell? ⟨g, i * 10 + 4, none⟩ = some (.int .i64 (Z i 4)) := N99.out.1.2 i 4 hi (by omega)
        have c5 : w5.cell? ⟨g, i * 10 + 5, none⟩ = some (.int .i64 (Z i 5)) := N99.out.1.2 i 5 hi (by omega)
        have c6 : w5.cell? ⟨g, i * 10 + 6, none⟩ = some (.int .i64 (Z i 6)) := N99.out.1.2 i 6 hi (by omega)
        have c7 : w5.cell? ⟨g, i * 10 + 7, none⟩ = some (.int .i64 (Z i 7)) := N99.out.1.2 i 7 hi (by omega)
        have c8 : w5.cell? ⟨g, i * 10 + 8, none⟩ = some (.int .i64 (Z i 8)) := N99.out.1.2 i 8 hi (by omega)
        have c9 : w5.cell? ⟨g, i * 10 + 9, none⟩ = some (.int .i64 (Z i 9)) := N99.out.1.2 i 9 hi (by omega)
        have lg : g < w5.heap.size := N99.out.2
        have yG0 : w5.cell? ⟨gX, 0, none⟩ = some (.slice (some ⟨g, 0, none⟩) n vc) := (G98.out.2 0 (by simp)).1
        have hlG : gX < w5.heap.size := G98.out.1
        obtain ⟨yX0, yX1, yX2, yX3, yX4, yX5, yX6, yX7, yX8, yX9, yX10, yX11, yX12, yX13, yX14, yX15, yX16, yX17, yX18, yX19, yX20, yX21, yX22, yX23, yX24⟩ := X98.out.a25
        have hlX : (w.heap.size + 1 + 1) < w5.heap.size := X98.out.1
        go_wp2_with fail
        refine wp_region_held_drew (S := fun w' => (∀ b o, b < w5.heap.size → w'.cell? ⟨b, o, none⟩ = w5.cell? ⟨b, o, none⟩) ∧ w5.heap.size ≤ w'.heap.size) (by kernel_rfl) ⟨fun _ _ _ => rfl, Nat.le_refl _⟩ ?_
        intro hHeld
        refine tkl 0 (.int .i64 (i : Int)) rfl ?_ ?_
        · intro wx hSw; go_simp
        try simp only [Act.put, aS]
        refine tkl 1 (.bool false) rfl ?_ ?_
        · intro wx hSw; go_simp <;> first | omega | (exact IntWalk.i64_in _ (by omega)) | go_num
        try simp only [Act.put, aS]
        refine tkl 2 (.bool false) rfl ?_ ?_
        · intro wx hSw; go_simp
        try simp only [Act.put, aS]
        refine tkl 3 (.pointer (some ⟨gX, 0, none⟩)) rfl ?_ ?_
        · intro wx hSw; go_simp
        try simp only [Act.put, aS]
        refine tkl 4 (.slice (some ⟨g, 0, none⟩) n vc) rfl ?_ ?_
        · intro wx hSw; go_simp
        try simp only [Act.put, aS]
        refine tkl 5 (.int .i64 (i : Int)) rfl ?_ ?_
        · intro wx hSw; go_simp
        try simp only [Act.put, aS]
        refine tkl 6 (.pointer (some ⟨g, i * 10, none⟩)) rfl ?_ ?_
        · intro wx hSw; go_simp
        try simp only [Act.put, aS]
        refine tkl 7 (.pointer (some ⟨g, i * 10 + 2, none⟩)) rfl ?_ ?_
        · intro wx hSw; go_simp
        try simp only [Act.put, aS]
        refine tkl 8 (.bool true) rfl ?_ ?_
        · intro wx hSw; go_simp
        try simp only [Act.put, aS]
        refine tkl 9 (.bool false) rfl ?_ ?_
        · intro wx hSw; go_simp
        try simp only [Act.put, aS]
        refine tkl 10 (.bool false) rfl ?_ ?_
        · intro wx hSw; go_simp
        try simp only [Act.put, aS]
        refine tkl 11 (.bool false) rfl ?_ ?_
        · intro wx hSw; go_simp
        try simp only [Act.put, aS]
        refine tkl 12 (.pointer (some ⟨gX, 0, none⟩)) rfl ?_ ?_
        · intro wx hSw; go_simp
        try simp only [Act.put, aS]
        refine tkl 13 (.slice (some ⟨g, 0, none⟩) n vc) rfl ?_ ?_
        · intro wx hSw; go_simp
        try simp only [Act.put, aS]
        refine tkl 14 (.int .i64 (i : Int)) rfl ?_ ?_
        · intro wx hSw; go_simp
        try simp only [Act.put, aS]
        refine tkl 15 (.pointer (some ⟨g, i * 10, none⟩)) rfl ?_ ?_
        · intro wx hSw; go_simp
        try simp only [Act.put, aS]
        refine tkl 16 (.pointer (some ⟨g, i * 10 + 3, none⟩)) rfl ?_ ?_
        · intro wx hSw; go_simp
        try simp only [Act.put, aS]
        refine tkl 17 (.agg #[.int .i64 (Z i 3), .int .i64 (Z i 4), .int .i64 (Z i 5), .int .i64 (Z i 6), .int .i64 (Z i 7)]) rfl ?_ ?_
        · intro wx hSw; go_simp
        try simp only [Act.put, aS]
        refine tkl 18 (.pointer (some ⟨(w.heap.size + 1 + 1), 5, none⟩)) rfl ?_ ?_
        · intro wx hSw; go_simp
        try simp only [Act.put, aS]
        refine tkl 19 (.agg #[.int .i64 (x 5), .int .i64 (x 6), .int .i64 (x 7), .int .i64 (x 8), .int .i64 (x 9)]) rfl ?_ ?_
        · intro wx hSw; go_simp
        try simp only [Act.put, aS]
        refine tkl 20 (.bool (!eq5 (Z i) x)) rfl ?_ ?_
        · intro wx hSw; go_simp; exact q5n (Z i) x wx
        try simp only [Act.put, aS]
        refine tkl 21 (.bool (!eq5 (Z i) x)) rfl ?_ ?_
        · intro wx hSw; go_simp
        try simp only [Act.put, aS]
        refine wpAnyH_done (by kernel_rfl) ?_ _
        clear hHeld
        clear yG0 hlG yX0 yX1 yX2 yX3 yX4 yX5 yX6 yX7 yX8 yX9 yX10 yX11 yX12 yX13 yX14 yX15 yX16 yX17 yX18 yX19 yX20 yX21 yX22 yX23 yX24 hlX
        rw [HE.out]
        clear c0 c1 c2 c3 c4 c5 c6 c7 c8 c9 lg
        have hd : Below w5.heap.size w5 w5.drew := (Below.refl _ _).drew
        obtain ⟨w6, en⟩ : ∃ y, y = w5.drew := ⟨_, rfl⟩
        rw [← en] at hd ⊢
        clear en
        have B100 := hid (bthen B98.out hd)
        have M100 := hid (M98.out.below hd)
        have K100 := hid (K98.out.below hd)
        have X100 := hid (X98.out.below hd)
        have R100 := hid (R98.out.below hd)
        have L100 : Hid (P10.RL lo gX w6 (.slice (some ⟨g, 0, none⟩) n vc) n Z) := L98.out.below hd
        have G100 : Hid (Bk w6 gX [.slice (some ⟨g, 0, none⟩) n vc]) := G98.out.below hd
        have N100 : Hid (P10.OwnK w6 g n Z n ∧ g < w6.heap.size) := ⟨P10.own_below N99.out.1 N99.out.2 hd, Nat.lt_of_lt_of_le N99.out.2 hd.size⟩
        clear B98 M98 K98 X98 R98 L98 G98 N99
        clear hd
        have c0 : w6.cell? ⟨g, i * 10, none⟩ = some (.int .i64 (Z i 0)) := N100.out.1.2 i 0 hi (by omega)
        have c1 : w6.cell? ⟨g, i * 10 + 1, none⟩ = some (.int .i64 (Z i 1)) := N100.out.1.2 i 1 hi (by omega)
        have c2 : w6.cell? ⟨g, i * 10 + 2, none⟩ = some (.bool true) := by rw [N100.out.1.2 i 2 hi (by omega)]; simp [P10.cv, hb2]
        have c3 : w6.cell? ⟨g, i * 10 + 3, none⟩ = some (.int .i64 (Z i 3)) := N100.out.1.2 i 3 hi (by omega)
        have c4 : w6.cell? ⟨g, i * 10 + 4, none⟩ = some (.int .i64 (Z i 4)) := N100.out.1.2 i 4 hi (by omega)
        have c5 : w6.cell? ⟨g, i * 10 + 5, none⟩ = some (.int .i64 (Z i 5)) := N100.out.1.2 i 5 hi (by omega)
        have c6 : w6.cell? ⟨g, i * 10 + 6, none⟩ = some (.int .i64 (Z i 6)) := N100.out.1.2 i 6 hi (by omega)
        have c7 : w6.cell? ⟨g, i * 10 + 7, none⟩ = some (.int .i64 (Z i 7)) := N100.out.1.2 i 7 hi (by omega)
        have c8 : w6.cell? ⟨g, i * 10 + 8, none⟩ = some (.int .i64 (Z i 8)) := N100.out.1.2 i 8 hi (by omega)
        have c9 : w6.cell? ⟨g, i * 10 + 9, none⟩ = some (.int .i64 (Z i 9)) := N100.out.1.2 i 9 hi (by omega)
        have lg : g < w6.heap.size := N100.out.2
        have yG0 := G100.out.a1
        have hlG : gX < w6.heap.size := G100.out.1
        obtain ⟨yX0, yX1, yX2, yX3, yX4, yX5, yX6, yX7, yX8, yX9, yX10, yX11, yX12, yX13, yX14, yX15, yX16, yX17, yX18, yX19, yX20, yX21, yX22, yX23, yX24⟩ := X100.out.a25
        have hlX : (w.heap.size + 1 + 1) < w6.heap.size := X100.out.1
        go_upto_region 8 with fail
        clear yG0 hlG yX0 yX1 yX2 yX3 yX4 yX5 yX6 yX7 yX8 yX9 yX10 yX11 yX12 yX13 yX14 yX15 yX16 yX17 yX18 yX19 yX20 yX21 yX22 yX23 yX24 hlX
        clear c0 c1 c2 c3 c4 c5 c6 c7 c8 c9 lg
        obtain ⟨gW, eW⟩ : ∃ g, g = w6.heap.size := ⟨_, rfl⟩
        obtain ⟨w7, e7⟩ : ∃ y, y = w6.alloc (.cells #[.int .i64 (Z i 0), .int .i64 (Z i 1), .bool true, .int .i64 (Z i 3), .int .i64 (Z i 4), .int .i64 (Z i 5), .int .i64 (Z i 6), .int .i64 (Z i 7), .int .i64 (Z i 8), .int .i64 (Z i 9)] 63) := ⟨_, rfl⟩
        have hb7 : Below w6.heap.size w6 w7 := by rw [e7]; exact (Below.refl _ _).alloc (Nat.le_refl _) _
        have W7 : Bk w7 gW [.int .i64 (Z i 0), .int .i64 (Z i 1), .bool true, .int .i64 (Z i 3), .int .i64 (Z i 4), .int .i64 (Z i 5), .int .i64 (Z i 6), .int .i64 (Z i 7), .int .i64 (Z i 8), .int .i64 (Z i 9)] := by rw [e7, eW]; exact bk_new w6 63 [.int .i64 (Z i 0), .int .i64 (Z i 1), .bool true, .int .i64 (Z i 3), .int .i64 (Z i 4), .int .i64 (Z i 5), .int .i64 (Z i 6), .int .i64 (Z i 7), .int .i64 (Z i 8), .int .i64 (Z i 9)]
        have gw1 : gX < gW := by rw [eW]; exact G100.out.1
        rw [← e7, ← eW]
        clear e7 eW
        have B101 := hid (bthen B100.out hb7)
        have M101 := hid (M100.out.below hb7)
        have K101 := hid (K100.out.below hb7)
        have X101 := hid (X100.out.below hb7)
        have R101 := hid (R100.out.below hb7)
        have L101 : Hid (P10.RL lo gX w7 (.slice (some ⟨g, 0, none⟩) n vc) n Z) := L100.out.below hb7
        have G101 := hid (G100.out.below hb7)
        have N101 : Hid (P10.OwnK w7 g n Z n ∧ g < w7.heap.size) := ⟨P10.own_below N100.out.1 N100.out.2 hb7, Nat.lt_of_lt_of_le N100.out.2 hb7.size⟩
        clear B100 M100 K100 X100 R100 L100 G100 N100
        have W102 : Hid (Bk w7 gW [.int .i64 (Z i 0), .int .i64 (Z i 1), .bool true, .int .i64 (Z i 3), .int .i64 (Z i 4), .int .i64 (Z i 5), .int .i64 (Z i 6), .int .i64 (Z i 7), .int .i64 (Z i 8), .int .i64 (Z i 9)]) := W7
        clear W7 hb7
        obtain ⟨yX0, yX1, yX2, yX3, yX4, yX5, yX6, yX7, yX8, yX9, yX10, yX11, yX12, yX13, yX14, yX15, yX16, yX17, yX18, yX19, yX20, yX21, yX22, yX23, yX24⟩ := X101.out.a25
        have hlX : (w.heap.size + 1 + 1) < w7.heap.size := X101.out.1
        obtain ⟨yW0, yW1, yW2, yW3, yW4, yW5, yW6, yW7, yW8, yW9⟩ := W102.out.a10
        have hlW : gW < w7.heap.size := W102.out.1
        have zg : gX ≤ w7.heap.size := Nat.le_of_lt G101.out.1
        have HL : Hid (P10.RL lo w7.heap.size w7 (.slice (some ⟨g, 0, none⟩) n vc) n Z) := rl_hi L101.out zg (Nat.le_refl _)
        have yR0 := R101.out.a1
        have zR0 := R101.out.f1
        have hlR : (w.heap.size + 1 + 1 + 1) < w7.heap.size := R101.out.1
        have yG0 := G101.out.a1
        have hlG : gX < w7.heap.size := G101.out.1
        go_wp2
        refine bodyPost_ret (v := .tuple #[.agg #[.slice (some ⟨g, 0, none⟩) n vc], .bool false]) (by simp [results, Tryz.results5, go_sem, *]) rfl ?_
        exact ⟨⟨_, rfl, rl_mono (by rw [set_size]; exact rl_set HL.out (by omega)) (by omega)⟩, B101.out.setCell (by show w.heap.size ≤ w.heap.size + 1 + 1 + 1; omega) _⟩
    · have hh : heardR c n Z k x = (Z, false) := by simp [heardR, k3, k4]
      rw [hh]
      clear hh
      have q4 : (k == 4) = false := by simpa using k4
      clear k3 k4
      have HE : Hid (eq5 (Z i) x = true) := he
      clear he
      go_enter Tryz.func5, Tryz.ntmps5
      go_upto_region 1 with fail
      obtain ⟨w0, e0⟩ : ∃ w0, w0 = ((((w.alloc (.cells #[.int .i64 c, .int .i64 d] 43)).alloc (.cells #[.slice (some ⟨b, o, none⟩) n cap] 40)).alloc (.cells #[.int .i64 k, .int .i64 (x 1), .int .i64 (x 2), .int .i64 (x 3), .int .i64 (x 4), .int .i64 (x 5), .int .i64 (x 6), .int .i64 (x 7), .int .i64 (x 8), .int .i64 (x 9), .int .i64 (x 10), .int .i64 (x 11), .int .i64 (x 12), .int .i64 (x 13), .int .i64 (x 14), .int .i64 (x 15), .int .i64 (x 16), .int .i64 (x 17), .int .i64 (x 18), .int .i64 (x 19), .int .i64 (x 20), .int .i64 (x 21), .int .i64 (x 22), .int .i64 (x 23), .int .i64 (x 24)] 53)).alloc (.cells #[.slice none 0 0] 40)) := ⟨_, rfl⟩
      have B103 : Hid (Below w.heap.size w w0) := by rw [e0]; exact ((((Below.refl _ _).alloc (by simp) _).alloc (by simp) _).alloc (by simp; omega) _).alloc (by simp; omega) _
      have M104 : Hid (Bk w0 w.heap.size [.int .i64 c, .int .i64 d]) := by rw [e0]; exact (((bk_new w 43 [.int .i64 c, .int .i64 d]).below ((Below.refl _ _).alloc (Nat.le_refl _) _)).below ((Below.refl _ _).alloc (Nat.le_refl _) _)).below ((Below.refl _ _).alloc (Nat.le_refl _) _)
      have K105 : Hid (Bk w0 (w.heap.size + 1) [.slice (some ⟨b, o, none⟩) n cap]) := by rw [e0]; have := ((bk_new (w.alloc (.cells #[.int .i64 c, .int .i64 d] 43)) 40 [.slice (some ⟨b, o, none⟩) n cap]).below ((Below.refl _ _).alloc (Nat.le_refl _) (.cells #[.int .i64 k, .int .i64 (x 1), .int .i64 (x 2), .int .i64 (x 3), .int .i64 (x 4), .int .i64 (x 5), .int .i64 (x 6), .int .i64 (x 7), .int .i64 (x 8), .int .i64 (x 9), .int .i64 (x 10), .int .i64 (x 11), .int .i64 (x 12), .int .i64 (x 13), .int .i64 (x 14), .int .i64 (x 15), .int .i64 (x 16), .int .i64 (x 17), .int .i64 (x 18), .int .i64 (x 19), .int .i64 (x 20), .int .i64 (x 21), .int .i64 (x 22), .int .i64 (x 23), .int .i64 (x 24)] 53))).below ((Below.refl _ _).alloc (Nat.le_refl _) (.cells #[.slice none 0 0] 40)); rwa [show (w.alloc (.cells #[.int .i64 c, .int .i64 d] 43)).heap.size = w.heap.size + 1 by simp] at this
      have X106 : Hid (Bk w0 (w.heap.size + 1 + 1) [.int .i64 k, .int .i64 (x 1), .int .i64 (x 2), .int .i64 (x 3), .int .i64 (x 4), .int .i64 (x 5), .int .i64 (x 6), .int .i64 (x 7), .int .i64 (x 8), .int .i64 (x 9), .int .i64 (x 10), .int .i64 (x 11), .int .i64 (x 12), .int .i64 (x 13), .int .i64 (x 14), .int .i64 (x 15), .int .i64 (x 16), .int .i64 (x 17), .int .i64 (x 18), .int .i64 (x 19), .int .i64 (x 20), .int .i64 (x 21), .int .i64 (x 22), .int .i64 (x 23), .int .i64 (x 24)]) := by rw [e0]; have := (bk_new ((w.alloc (.cells #[.int .i64 c, .int .i64 d] 43)).alloc (.cells #[.slice (some ⟨b, o, none⟩) n cap] 40)) 53 [.int .i64 k, .int .i64 (x 1), .int .i64 (x 2), .int .i64 (x 3), .int .i64 (x 4), .int .i64 (x 5), .int .i64 (x 6), .int .i64 (x 7), .int .i64 (x 8), .int .i64 (x 9), .int .i64 (x 10), .int .i64 (x 11), .int .i64 (x 12), .int .i64 (x 13), .int .i64 (x 14), .int .i64 (x 15), .int .i64 (x 16), .int .i64 (x 17), .int .i64 (x 18), .int .i64 (x 19), .int .i64 (x 20), .int .i64 (x 21), .int .i64 (x 22), .int .i64 (x 23), .int .i64 (x 24)]).below ((Below.refl _ _).alloc (Nat.le_refl _) (.cells #[.slice none 0 0] 40)); rwa [show ((w.alloc (.cells #[.int .i64 c, .int .i64 d] 43)).alloc (.cells #[.slice (some ⟨b, o, none⟩) n cap] 40)).heap.size = w.heap.size + 1 + 1 by simp] at this
      have R107 : Hid (Bk w0 (w.heap.size + 1 + 1 + 1) [.slice none 0 0]) := by rw [e0]; have := bk_new (((w.alloc (.cells #[.int .i64 c, .int .i64 d] 43)).alloc (.cells #[.slice (some ⟨b, o, none⟩) n cap] 40)).alloc (.cells #[.int .i64 k, .int .i64 (x 1), .int .i64 (x 2), .int .i64 (x 3), .int .i64 (x 4), .int .i64 (x 5), .int .i64 (x 6), .int .i64 (x 7), .int .i64 (x 8), .int .i64 (x 9), .int .i64 (x 10), .int .i64 (x 11), .int .i64 (x 12), .int .i64 (x 13), .int .i64 (x 14), .int .i64 (x 15), .int .i64 (x 16), .int .i64 (x 17), .int .i64 (x 18), .int .i64 (x 19), .int .i64 (x 20), .int .i64 (x 21), .int .i64 (x 22), .int .i64 (x 23), .int .i64 (x 24)] 53)) 40 [.slice none 0 0]; rwa [show (((w.alloc (.cells #[.int .i64 c, .int .i64 d] 43)).alloc (.cells #[.slice (some ⟨b, o, none⟩) n cap] 40)).alloc (.cells #[.int .i64 k, .int .i64 (x 1), .int .i64 (x 2), .int .i64 (x 3), .int .i64 (x 4), .int .i64 (x 5), .int .i64 (x 6), .int .i64 (x 7), .int .i64 (x 8), .int .i64 (x 9), .int .i64 (x 10), .int .i64 (x 11), .int .i64 (x 12), .int .i64 (x 13), .int .i64 (x 14), .int .i64 (x 15), .int .i64 (x 16), .int .i64 (x 17), .int .i64 (x 18), .int .i64 (x 19), .int .i64 (x 20), .int .i64 (x 21), .int .i64 (x 22), .int .i64 (x 23), .int .i64 (x 24)] 53)).heap.size = w.heap.size + 1 + 1 + 1 by simp] at this
      rw [← e0]
      clear e0
      obtain ⟨yM0, yM1⟩ := M104.out.a2
      have hlM : w.heap.size < w0.heap.size := M104.out.1
      have yK0 := K105.out.a1
      have hlK : (w.heap.size + 1) < w0.heap.size := K105.out.1
      go_wp2_with fail
      refine (book_spec c d _ n cap Z hn _ (P10.row_below HW.out B103.out)).mono ?_
      rintro e w1 ⟨rfl, hb1⟩
      clear yM0 yM1 hlM yK0 hlK
      have B108 := hid (bthen B103.out hb1)
      have M108 := hid (M104.out.below hb1)
      have K108 := hid (K105.out.below hb1)
      have X108 := hid (X106.out.below hb1)
      have R108 := hid (R107.out.below hb1)
      clear B103 M104 K105 X106 R107
      clear hb1
      rw [hk]
      obtain ⟨yM0, yM1⟩ := M108.out.a2
      have hlM : w.heap.size < w1.heap.size := M108.out.1
      obtain ⟨yX0, yX1, yX2, yX3, yX4, yX5, yX6, yX7, yX8, yX9, yX10, yX11, yX12, yX13, yX14, yX15, yX16, yX17, yX18, yX19, yX20, yX21, yX22, yX23, yX24⟩ := X108.out.a25
      have hlX : (w.heap.size + 1 + 1) < w1.heap.size := X108.out.1
      go_wp2_with fail
      refine (msgOk_spec c d sv k x _).mono ?_
      rintro e w2 ⟨rfl, hb2⟩
      clear yM0 yM1 hlM yX0 yX1 yX2 yX3 yX4 yX5 yX6 yX7 yX8 yX9 yX10 yX11 yX12 yX13 yX14 yX15 yX16 yX17 yX18 yX19 yX20 yX21 yX22 yX23 yX24 hlX
      have B109 := hid (bthen B108.out hb2)
      have M109 := hid (M108.out.below hb2)
      have K109 := hid (K108.out.below hb2)
      have X109 := hid (X108.out.below hb2)
      have R109 := hid (R108.out.below hb2)
      clear B108 M108 K108 X108 R108
      clear hb2
      rw [hm]
      have r1 : w.heap.size + 1 + 1 + 1 < w2.heap.size := R109.out.1
      have yK0 := K109.out.a1
      have hlK : (w.heap.size + 1) < w2.heap.size := K109.out.1
      go_wp2_with fail
      refine (copy_spec b o n cap Z hn _ (Nat.lt_of_lt_of_le hb B109.out.size) (fun k j h1 h2 => (B109.out.cell (p := ⟨b, _, none⟩) hb).trans (HR.out k j h1 h2))).mono ?_
      rintro e w3 ⟨⟨v, rfl, hr3⟩, hb3⟩
      clear yK0 hlK
      have B110 := hid (bthen B109.out hb3)
      have M110 := hid (M109.out.below hb3)
      have K110 := hid (K109.out.below hb3)
      have X110 := hid (X109.out.below hb3)
      have R110 := hid (R109.out.below hb3)
      clear B109 M109 K109 X109 R109
      have z3 := hb3.size
      clear hb3
      obtain ⟨va, vc, ev, _⟩ := hr3.at
      subst ev
      obtain ⟨lo, elo⟩ : ∃ g, g = w2.heap.size := ⟨_, rfl⟩
      rw [← elo] at r1 z3 hr3
      clear elo
      obtain ⟨gX, eX⟩ : ∃ g, g = w3.heap.size := ⟨_, rfl⟩
      rw [← eX] at z3 hr3
      have L111 : Hid (P10.RL lo gX w3 (.slice va n vc) n Z) := hr3
      clear hr3
      obtain ⟨yX0, yX1, yX2, yX3, yX4, yX5, yX6, yX7, yX8, yX9, yX10, yX11, yX12, yX13, yX14, yX15, yX16, yX17, yX18, yX19, yX20, yX21, yX22, yX23, yX24⟩ := X110.out.a25
      have hlX : (w.heap.size + 1 + 1) < w3.heap.size := X110.out.1
      go_wp2_with fail
      clear yX0 yX1 yX2 yX3 yX4 yX5 yX6 yX7 yX8 yX9 yX10 yX11 yX12 yX13 yX14 yX15 yX16 yX17 yX18 yX19 yX20 yX21 yX22 yX23 yX24 hlX
      obtain ⟨w4, e4⟩ : ∃ y, y = w3.alloc (.cells #[.slice va n vc] 40) := ⟨_, rfl⟩
      have hb4 : Below w3.heap.size w3 w4 := by rw [e4]; exact (Below.refl _ _).alloc (Nat.le_refl _) _
      have X4 : Bk w4 gX [.slice va n vc] := by rw [e4, eX]; exact bk_new w3 40 [.slice va n vc]
      rw [← e4, ← eX]
      clear e4 eX
      have B112 := hid (bthen B110.out hb4)
      have M112 := hid (M110.out.below hb4)
      have K112 := hid (K110.out.below hb4)
      have X112 := hid (X110.out.below hb4)
      have R112 := hid (R110.out.below hb4)
      have L112 : Hid (P10.RL lo gX w4 (.slice va n vc) n Z) := L111.out.below hb4
      clear B110 M110 K110 X110 R110 L111
      have G113 : Hid (Bk w4 gX [.slice va n vc]) := X4
      clear X4 hb4
      refine (at_spec va n vc Z (x 5) hn _ (rl_row L112.out)).mono ?_
      rintro e w5 ⟨rfl, hb5⟩
      rw [hs]
      have B114 := hid (bthen B112.out hb5)
      have M114 := hid (M112.out.below hb5)
      have K114 := hid (K112.out.below hb5)
      have X114 := hid (X112.out.below hb5)
      have R114 := hid (R112.out.below hb5)
      have L114 : Hid (P10.RL lo gX w5 (.slice va n vc) n Z) := L112.out.below hb5
      have G114 := hid (G113.out.below hb5)
      clear B112 M112 K112 X112 R112 L112 G113
      clear hb5
      simp only [atI]
      obtain ⟨g, gc, eg, g1, g2, g3, hOg⟩ : ∃ g c, Value.slice va n vc = .slice (some ⟨g, 0, none⟩) n c ∧ lo ≤ g ∧ g < gX ∧ gX ≤ w5.heap.size ∧ P10.OwnK w5 g n Z n := by
        rcases L114.out with ⟨h0, _⟩ | h
        · omega
        · exact h
      injection eg with eg1 _ eg2
      subst eg1 eg2
      have N115 : Hid (P10.OwnK w5 g n Z n ∧ g < w5.heap.size) := ⟨hOg, by omega⟩
      clear hOg
      have c0 : w5.cell? ⟨g, i * 10, none⟩ = some (.int .i64 (Z i 0)) := N115.out.1.2 i 0 hi (by omega)
      have c1 : w5.cell? ⟨g, i * 10 + 1, none⟩ = some (.int .i64 (Z i 1)) := N115.out.1.2 i 1 hi (by omega)
      have c2 : w5.cell? ⟨g, i * 10 + 2, none⟩ = some (.bool true) := by rw [N115.out.1.2 i 2 hi (by omega)]; simp [P10.cv, hb2]
      have c3 : w5.cell? ⟨g, i * 10 + 3, none⟩ = some (.int .i64 (Z i 3)) := N115.out.1.2 i 3 hi (by omega)
      have c4 : w5.cell? ⟨g, i * 10 + 4, none⟩ = some (.int .i64 (Z i 4)) := N115.out.1.2 i 4 hi (by omega)
      have c5 : w5.cell? ⟨g, i * 10 + 5, none⟩ = some (.int .i64 (Z i 5)) := N115.out.1.2 i 5 hi (by omega)
      have c6 : w5.cell? ⟨g, i * 10 + 6, none⟩ = some (.int .i64 (Z i 6)) := N115.out.1.2 i 6 hi (by omega)
      have c7 : w5.cell? ⟨g, i * 10 + 7, none⟩ = some (.int .i64 (Z i 7)) := N115.out.1.2 i 7 hi (by omega)
      have c8 : w5.cell? ⟨g, i * 10 + 8, none⟩ = some (.int .i64 (Z i 8)) := N115.out.1.2 i 8 hi (by omega)
      have c9 : w5.cell? ⟨g, i * 10 + 9, none⟩ = some (.int .i64 (Z i 9)) := N115.out.1.2 i 9 hi (by omega)
      have lg : g < w5.heap.size := N115.out.2
      have yG0 : w5.cell? ⟨gX, 0, none⟩ = some (.slice (some ⟨g, 0, none⟩) n vc) := (G114.out.2 0 (by simp)).1
      have hlG : gX < w5.heap.size := G114.out.1
      obtain ⟨yX0, yX1, yX2, yX3, yX4, yX5, yX6, yX7, yX8, yX9, yX10, yX11, yX12, yX13, yX14, yX15, yX16, yX17, yX18, yX19, yX20, yX21, yX22, yX23, yX24⟩ := X114.out.a25
      have hlX : (w.heap.size + 1 + 1) < w5.heap.size := X114.out.1
      go_wp2_with fail
      refine wp_region_held_drew (S := fun w' => (∀ b o, b < w5.heap.size → w'.cell? ⟨b, o, none⟩ = w5.cell? ⟨b, o, none⟩) ∧ w5.heap.size ≤ w'.heap.size) (by kernel_rfl) ⟨fun _ _ _ => rfl, Nat.le_refl _⟩ ?_
      intro hHeld
      refine tkl 0 (.int .i64 (i : Int)) rfl ?_ ?_
      · intro wx hSw; go_simp
      try simp only [Act.put, aS]
      refine tkl 1 (.bool false) rfl ?_ ?_
      · intro wx hSw; go_simp <;> first | omega | (exact IntWalk.i64_in _ (by omega)) | go_num
      try simp only [Act.put, aS]
      refine tkl 2 (.bool false) rfl ?_ ?_
      · intro wx hSw; go_simp
      try simp only [Act.put, aS]
      refine tkl 3 (.pointer (some ⟨gX, 0, none⟩)) rfl ?_ ?_
      · intro wx hSw; go_simp
      try simp only [Act.put, aS]
      refine tkl 4 (.slice (some ⟨g, 0, none⟩) n vc) rfl ?_ ?_
      · intro wx hSw; go_simp
      try simp only [Act.put, aS]
      refine tkl 5 (.int .i64 (i : Int)) rfl ?_ ?_
      · intro wx hSw; go_simp
      try simp only [Act.put, aS]
      refine tkl 6 (.pointer (some ⟨g, i * 10, none⟩)) rfl ?_ ?_
      · intro wx hSw; go_simp
      try simp only [Act.put, aS]
      refine tkl 7 (.pointer (some ⟨g, i * 10 + 2, none⟩)) rfl ?_ ?_
      · intro wx hSw; go_simp
      try simp only [Act.put, aS]
      refine tkl 8 (.bool true) rfl ?_ ?_
      · intro wx hSw; go_simp
      try simp only [Act.put, aS]
      refine tkl 9 (.bool false) rfl ?_ ?_
      · intro wx hSw; go_simp
      try simp only [Act.put, aS]
      refine tkl 10 (.bool false) rfl ?_ ?_
      · intro wx hSw; go_simp
      try simp only [Act.put, aS]
      refine tkl 11 (.bool false) rfl ?_ ?_
      · intro wx hSw; go_simp
      try simp only [Act.put, aS]
      refine tkl 12 (.pointer (some ⟨gX, 0, none⟩)) rfl ?_ ?_
      · intro wx hSw; go_simp
      try simp only [Act.put, aS]
      refine tkl 13 (.slice (some ⟨g, 0, none⟩) n vc) rfl ?_ ?_
      · intro wx hSw; go_simp
      try simp only [Act.put, aS]
      refine tkl 14 (.int .i64 (i : Int)) rfl ?_ ?_
      · intro wx hSw; go_simp
      try simp only [Act.put, aS]
      refine tkl 15 (.pointer (some ⟨g, i * 10, none⟩)) rfl ?_ ?_
      · intro wx hSw; go_simp
      try simp only [Act.put, aS]
      refine tkl 16 (.pointer (some ⟨g, i * 10 + 3, none⟩)) rfl ?_ ?_
      · intro wx hSw; go_simp
      try simp only [Act.put, aS]
      refine tkl 17 (.agg #[.int .i64 (Z i 3), .int .i64 (Z i 4), .int .i64 (Z i 5), .int .i64 (Z i 6), .int .i64 (Z i 7)]) rfl ?_ ?_
      · intro wx hSw; go_simp
      try simp only [Act.put, aS]
      refine tkl 18 (.pointer (some ⟨(w.heap.size + 1 + 1), 5, none⟩)) rfl ?_ ?_
      · intro wx hSw; go_simp
      try simp only [Act.put, aS]
      refine tkl 19 (.agg #[.int .i64 (x 5), .int .i64 (x 6), .int .i64 (x 7), .int .i64 (x 8), .int .i64 (x 9)]) rfl ?_ ?_
      · intro wx hSw; go_simp
      try simp only [Act.put, aS]
      refine tkl 20 (.bool (!eq5 (Z i) x)) rfl ?_ ?_
      · intro wx hSw; go_simp; exact q5n (Z i) x wx
      try simp only [Act.put, aS]
      refine tkl 21 (.bool (!eq5 (Z i) x)) rfl ?_ ?_
      · intro wx hSw; go_simp
      try simp only [Act.put, aS]
      refine wpAnyH_done (by kernel_rfl) ?_ _
      clear hHeld
      clear yG0 hlG yX0 yX1 yX2 yX3 yX4 yX5 yX6 yX7 yX8 yX9 yX10 yX11 yX12 yX13 yX14 yX15 yX16 yX17 yX18 yX19 yX20 yX21 yX22 yX23 yX24 hlX
      rw [HE.out]
      clear c0 c1 c2 c3 c4 c5 c6 c7 c8 c9 lg
      have hd : Below w5.heap.size w5 w5.drew := (Below.refl _ _).drew
      obtain ⟨w6, en⟩ : ∃ y, y = w5.drew := ⟨_, rfl⟩
      rw [← en] at hd ⊢
      clear en
      have B116 := hid (bthen B114.out hd)
      have M116 := hid (M114.out.below hd)
      have K116 := hid (K114.out.below hd)
      have X116 := hid (X114.out.below hd)
      have R116 := hid (R114.out.below hd)
      have L116 : Hid (P10.RL lo gX w6 (.slice (some ⟨g, 0, none⟩) n vc) n Z) := L114.out.below hd
      have G116 : Hid (Bk w6 gX [.slice (some ⟨g, 0, none⟩) n vc]) := G114.out.below hd
      have N116 : Hid (P10.OwnK w6 g n Z n ∧ g < w6.heap.size) := ⟨P10.own_below N115.out.1 N115.out.2 hd, Nat.lt_of_lt_of_le N115.out.2 hd.size⟩
      clear B114 M114 K114 X114 R114 L114 G114 N115
      clear hd
      have c0 : w6.cell? ⟨g, i * 10, none⟩ = some (.int .i64 (Z i 0)) := N116.out.1.2 i 0 hi (by omega)
      have c1 : w6.cell? ⟨g, i * 10 + 1, none⟩ = some (.int .i64 (Z i 1)) := N116.out.1.2 i 1 hi (by omega)
      have c2 : w6.cell? ⟨g, i * 10 + 2, none⟩ = some (.bool true) := by rw [N116.out.1.2 i 2 hi (by omega)]; simp [P10.cv, hb2]
      have c3 : w6.cell? ⟨g, i * 10 + 3, none⟩ = some (.int .i64 (Z i 3)) := N116.out.1.2 i 3 hi (by omega)
      have c4 : w6.cell? ⟨g, i * 10 + 4, none⟩ = some (.int .i64 (Z i 4)) := N116.out.1.2 i 4 hi (by omega)
      have c5 : w6.cell? ⟨g, i * 10 + 5, none⟩ = some (.int .i64 (Z i 5)) := N116.out.1.2 i 5 hi (by omega)
      have c6 : w6.cell? ⟨g, i * 10 + 6, none⟩ = some (.int .i64 (Z i 6)) := N116.out.1.2 i 6 hi (by omega)
      have c7 : w6.cell? ⟨g, i * 10 + 7, none⟩ = some (.int .i64 (Z i 7)) := N116.out.1.2 i 7 hi (by omega)
      have c8 : w6.cell? ⟨g, i * 10 + 8, none⟩ = some (.int .i64 (Z i 8)) := N116.out.1.2 i 8 hi (by omega)
      have c9 : w6.cell? ⟨g, i * 10 + 9, none⟩ = some (.int .i64 (Z i 9)) := N116.out.1.2 i 9 hi (by omega)
      have lg : g < w6.heap.size := N116.out.2
      have yG0 := G116.out.a1
      have hlG : gX < w6.heap.size := G116.out.1
      obtain ⟨yX0, yX1, yX2, yX3, yX4, yX5, yX6, yX7, yX8, yX9, yX10, yX11, yX12, yX13, yX14, yX15, yX16, yX17, yX18, yX19, yX20, yX21, yX22, yX23, yX24⟩ := X116.out.a25
      have hlX : (w.heap.size + 1 + 1) < w6.heap.size := X116.out.1
      go_upto_region 8 with fail
      clear yG0 hlG yX0 yX1 yX2 yX3 yX4 yX5 yX6 yX7 yX8 yX9 yX10 yX11 yX12 yX13 yX14 yX15 yX16 yX17 yX18 yX19 yX20 yX21 yX22 yX23 yX24 hlX
      clear c0 c1 c2 c3 c4 c5 c6 c7 c8 c9 lg
      obtain ⟨gW, eW⟩ : ∃ g, g = w6.heap.size := ⟨_, rfl⟩
      obtain ⟨w7, e7⟩ : ∃ y, y = w6.alloc (.cells #[.int .i64 (Z i 0), .int .i64 (Z i 1), .bool true, .int .i64 (Z i 3), .int .i64 (Z i 4), .int .i64 (Z i 5), .int .i64 (Z i 6), .int .i64 (Z i 7), .int .i64 (Z i 8), .int .i64 (Z i 9)] 63) := ⟨_, rfl⟩
      have hb7 : Below w6.heap.size w6 w7 := by rw [e7]; exact (Below.refl _ _).alloc (Nat.le_refl _) _
      have W7 : Bk w7 gW [.int .i64 (Z i 0), .int .i64 (Z i 1), .bool true, .int .i64 (Z i 3), .int .i64 (Z i 4), .int .i64 (Z i 5), .int .i64 (Z i 6), .int .i64 (Z i 7), .int .i64 (Z i 8), .int .i64 (Z i 9)] := by rw [e7, eW]; exact bk_new w6 63 [.int .i64 (Z i 0), .int .i64 (Z i 1), .bool true, .int .i64 (Z i 3), .int .i64 (Z i 4), .int .i64 (Z i 5), .int .i64 (Z i 6), .int .i64 (Z i 7), .int .i64 (Z i 8), .int .i64 (Z i 9)]
      have gw1 : gX < gW := by rw [eW]; exact G116.out.1
      rw [← e7, ← eW]
      clear e7 eW
      have B117 := hid (bthen B116.out hb7)
      have M117 := hid (M116.out.below hb7)
      have K117 := hid (K116.out.below hb7)
      have X117 := hid (X116.out.below hb7)
      have R117 := hid (R116.out.below hb7)
      have L117 : Hid (P10.RL lo gX w7 (.slice (some ⟨g, 0, none⟩) n vc) n Z) := L116.out.below hb7
      have G117 := hid (G116.out.below hb7)
      have N117 : Hid (P10.OwnK w7 g n Z n ∧ g < w7.heap.size) := ⟨P10.own_below N116.out.1 N116.out.2 hb7, Nat.lt_of_lt_of_le N116.out.2 hb7.size⟩
      clear B116 M116 K116 X116 R116 L116 G116 N116
      have W118 : Hid (Bk w7 gW [.int .i64 (Z i 0), .int .i64 (Z i 1), .bool true, .int .i64 (Z i 3), .int .i64 (Z i 4), .int .i64 (Z i 5), .int .i64 (Z i 6), .int .i64 (Z i 7), .int .i64 (Z i 8), .int .i64 (Z i 9)]) := W7
      clear W7 hb7
      obtain ⟨yX0, yX1, yX2, yX3, yX4, yX5, yX6, yX7, yX8, yX9, yX10, yX11, yX12, yX13, yX14, yX15, yX16, yX17, yX18, yX19, yX20, yX21, yX22, yX23, yX24⟩ := X117.out.a25
      have hlX : (w.heap.size + 1 + 1) < w7.heap.size := X117.out.1
      have zg : gX ≤ w7.heap.size := Nat.le_of_lt G117.out.1
      have HL : Hid (P10.RL lo w7.heap.size w7 (.slice (some ⟨g, 0, none⟩) n vc) n Z) := rl_hi L117.out zg (Nat.le_refl _)
      have yR0 := R117.out.a1
      have zR0 := R117.out.f1
      have hlR : (w.heap.size + 1 + 1 + 1) < w7.heap.size := R117.out.1
      have yG0 := G117.out.a1
      have hlG : gX < w7.heap.size := G117.out.1
      go_wp2
      refine bodyPost_ret (v := .tuple #[.agg #[.slice (some ⟨g, 0, none⟩) n vc], .bool false]) (by simp [results, Tryz.results5, go_sem, *]) rfl ?_
      exact ⟨⟨_, rfl, rl_mono (by rw [set_size]; exact rl_set HL.out (by omega)) (by omega)⟩, B117.out.setCell (by show w.heap.size ≤ w.heap.size + 1 + 1 + 1; omega) _⟩
end Go.Proofs.YtgjapdjidighlabGreat
