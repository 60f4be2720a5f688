/- The walk of the law FnExactDskHead: it answers true; conditions: the texts lie in memory, the library's variables as they are laid. -/
import Derived.Test.YtlmoeacpkkkkcaaGreatDoorTP
import Derived.Test.YtlmoeacpkkkkcaaGreatDoorTX
import Derived.Test.YtlmoeacpkkkkcaaGreatDoorTH
namespace Go.Proofs.YtlmoeacpkkkkcaaGreatDoor
open Go.RowKit Go.Deep
set_option linter.unusedVariables false
set_option maxRecDepth 100000
/-- N walkers in a block of their own between lo and hi; or none, wherever. -/
def WI (w : World) (lo hi : Nat) (v : Value) (N : Nat) (Z : Nat → Nat → Int) : Prop :=
  (N = 0 ∧ ∃ a c, v = .slice a 0 c) ∨ (hi ≤ w.heap.size ∧ ∃ g cap, v = .slice (some ⟨g, 0, none⟩) N cap ∧ lo ≤ g ∧ g < hi ∧ Own5 w g N Z N)
theorem own5_sm {w w' : World} {g N k : Nat} {Z : Nat → Nat → Int} (h : Own5 w g N Z k) (hs : Sm w w' g) : Own5 w' g N Z k :=
  ⟨fun i hi => by rw [(hs i).1, (hs i).2]; exact h.1 i hi, fun k' j hk hj => by rw [(hs _).1]; exact h.2 k' j hk hj⟩
theorem WI.sm {w w' : World} {lo hi N : Nat} {v : Value} {Z : Nat → Nat → Int} (h : WI w lo hi v N Z) (hz : w.heap.size ≤ w'.heap.size) (hs : ∀ g, lo ≤ g → g < hi → Sm w w' g) : WI w' lo hi v N Z := by
  rcases h with h | ⟨h1, g, cap, e, a, b, c⟩
  · exact .inl h
  · exact .inr ⟨Nat.le_trans h1 hz, g, cap, e, a, b, own5_sm c (hs g a b)⟩
theorem WI.below {w w' : World} {lo hi N : Nat} {v : Value} {Z : Nat → Nat → Int} (h : WI w lo hi v N Z) (hb : Below w.heap.size w w') : WI w' lo hi v N Z := by
  rcases h with h | ⟨h1, g, cap, e, a, b, c⟩
  · exact .inl h
  · exact .inr ⟨Nat.le_trans h1 hb.size, g, cap, e, a, b, own5_sm c (sm_below hb (Nat.lt_of_lt_of_le b h1))⟩
theorem wi_of {w : World} {base N : Nat} {v : Value} {Z : Nat → Nat → Int} (h : WkR w base v N Z) : WI w base w.heap.size v N Z := by
  rcases Nat.eq_zero_or_pos N with rfl | h0
  · left
    refine ⟨rfl, ?_⟩
    rcases h.2 with ⟨e, _⟩ | ⟨g, cap, cur, e, _⟩
    · exact ⟨_, _, e⟩
    · exact ⟨_, _, e⟩
  · right
    have hw := h
    rcases h.2 with ⟨_, q⟩ | ⟨g, cap, cur, rfl, _⟩
    · omega
    · have hw2 : Walks w base (.slice (some ⟨g, 0, none⟩) N cap) (List.range N) Z := ⟨g, cap, by rw [List.length_range], by rw [List.length_range]; exact h⟩
      obtain ⟨g', cap', e, h1, h2, h3⟩ := hw2.own
      rw [List.length_range] at e h3
      injection e with e1 _ e3
      injection e1 with e1
      injection e1 with e1
      subst e1
      exact ⟨Nat.le_refl _, g, cap, rfl, h1, h2, h3.1, fun k j hk hj => by rw [h3.2 k j hk hj]; simp [hk]⟩
theorem eqNil (a1 a2 : Option Addr) (c1 c2 : Nat) (w : World) : Calls Tryz.prog 9 #[.slice a1 0 c1, .slice a2 0 c2] w fun e w' => e = .returned (.bool true) ∧ Below w.heap.size w w' := by
  go_enter Tryz.func9, Tryz.ntmps9
  go_wp2
  refine wp_loop_rounds 1 ?_
  rw [rounds_succ]
  go_wp2
  go_ret
  exact ⟨rfl, Below.refl _ _⟩
theorem markNil (a : Option Addr) (c : Nat) (w : World) : Calls Tryz.prog 12 #[.slice a 0 c, .int .i64 1] w fun e w' => e = .returned (.int .i64 1) ∧ w' = w := by
  go_enter Tryz.func12, Tryz.ntmps12
  go_wp2
  refine wp_loop_rounds 1 ?_
  rw [rounds_succ]
  go_wp2
  go_ret
  exact ⟨rfl, rfl⟩
theorem heldNil (a : Option Addr) (c : Nat) (w : World) : Calls Tryz.prog 13 #[.slice a 0 c, .int .i64 1] w fun e w' => e = .returned (.int .i64 1) ∧ Below w.heap.size w w' := by
  go_enter Tryz.func13, Tryz.ntmps13
  go_wp2
  refine wp_loop_rounds 1 ?_
  rw [rounds_succ]
  go_wp2
  go_ret
  exact ⟨rfl, Below.refl _ _⟩
theorem eqWI {l1 h1 l2 h2 N : Nat} {v1 v2 : Value} {Z : Nat → Nat → Int} {w : World} (hN : N ≤ 2000000) (a : WI w l1 h1 v1 N Z) (b : WI w l2 h2 v2 N Z) : Calls Tryz.prog 9 #[v1, v2] w fun e w' => e = .returned (.bool true) ∧ Below w.heap.size w w' := by
  rcases a with ⟨rfl, a1, c1, rfl⟩ | ⟨p1, g1, c1, rfl, q1, r1, o1⟩
  · rcases b with ⟨_, a2, c2, rfl⟩ | ⟨p2, g2, c2, rfl, q2, r2, o2⟩
    · exact eqNil _ _ _ _ w
    · exact eqNil _ _ _ _ w
  · rcases b with ⟨rfl, a2, c2, rfl⟩ | ⟨p2, g2, c2, rfl, q2, r2, o2⟩
    · exact eqNil _ _ _ _ w
    · exact eqList g1 0 c1 g2 0 c2 N Z hN w (Nat.lt_of_lt_of_le r1 p1) (Nat.lt_of_lt_of_le r2 p2) (own_row o1) (own_row o2)
/-- What marking N walkers answers. -/
def mk (N : Nat) : Int := ((1 + N * 5 : Nat) : Int)
theorem markWI {lo hi N : Nat} {v : Value} {Z : Nat → Nat → Int} {w : World} (hN : N ≤ 2000000) (a : WI w lo hi v N Z) (hlo : lo ≤ w.heap.size) : Calls Tryz.prog 12 #[v, .int .i64 1] w fun e w' => e = .returned (.int .i64 (mk N)) ∧ WI w' lo hi v N M ∧ Below lo w w' ∧ w.heap.size ≤ w'.heap.size ∧ (∀ b, b < w.heap.size → ¬ (lo ≤ b ∧ b < hi) → Sm w w' b) := by
  rcases a with ⟨rfl, a1, c1, rfl⟩ | ⟨p1, g1, c1, rfl, q1, r1, o1⟩
  · refine (markNil a1 c1 w).mono ?_
    rintro e w' ⟨rfl, rfl⟩
    exact ⟨rfl, .inl ⟨rfl, _, _, rfl⟩, Below.refl _ _, Nat.le_refl _, fun b _ _ => Sm.refl _ _⟩
  · refine (mark g1 N c1 Z hN w (Nat.lt_of_lt_of_le r1 p1) o1).mono ?_
    rintro e w' ⟨rfl, ho, hg, hz⟩
    exact ⟨rfl, .inr ⟨by omega, g1, c1, rfl, q1, r1, ho⟩, below_grown hg q1 hlo, by omega, fun b hb hn => sm_grown hg hb (by intro e; injection e with e; subst e; exact hn ⟨q1, r1⟩)⟩
theorem heldWI {lo hi N : Nat} {v : Value} {w : World} (hN : N ≤ 2000000) (a : WI w lo hi v N M) : Calls Tryz.prog 13 #[v, .int .i64 1] w fun e w' => e = .returned (.int .i64 (mk N)) ∧ Below w.heap.size w w' := by
  rcases a with ⟨rfl, a1, c1, rfl⟩ | ⟨p1, g1, c1, rfl, q1, r1, o1⟩
  · exact heldNil a1 c1 w
  · exact held g1 N c1 hN w (Nat.lt_of_lt_of_le r1 p1) o1
theorem eqMap (c d : Int) (w : World) : Calls Tryz.prog 8 #[.agg #[.int .i64 c, .int .i64 d], .agg #[.int .i64 c, .int .i64 d]] w fun e w' => e = .returned (.bool true) ∧ Below w.heap.size w w' := by
  go_enter Tryz.func8, Tryz.ntmps8
  go_wp2
  go_ret
  exact ⟨rfl, ((Below.refl _ _).alloc (Nat.le_refl _) _).alloc (by simp) _⟩
/-- The numbers of an answer, of n lines. -/
def Num (X : Nat → ByteArray) (n : Nat) (c d s f : Int) (N : Nat) : Prop :=
  (∃ k, Stop X n k ∧ c = 0 ∧ d = 0 ∧ s = 0 ∧ f = (k : Int) + 1 ∧ N = 0) ∨ (AllG X n ∧ c = hA X ∧ d = hB X ∧ s = hS X ∧ f = 0 ∧ N = n - 2)
theorem num_one {X : Nat → ByteArray} {n N N' : Nat} {c d s f c' d' s' f' : Int} (h : Num X n c d s f N) (h' : Num X n c' d' s' f' N') : c' = c ∧ d' = d ∧ s' = s ∧ f' = f ∧ N' = N := by
  rcases h with ⟨k, hk, a, b, cc, dd, ee⟩ | ⟨hk, a, b, cc, dd, ee⟩ <;> rcases h' with ⟨k', hk', a', b', cc', dd', ee'⟩ | ⟨hk', a', b', cc', dd', ee'⟩
  · obtain rfl := stop_one hk hk'
    subst_vars
    exact ⟨rfl, rfl, rfl, rfl, rfl⟩
  · exact (stop_all hk hk').elim
  · exact (stop_all hk' hk).elim
  · subst_vars
    exact ⟨rfl, rfl, rfl, rfl, rfl⟩
theorem num_of {X : Nat → ByteArray} {n base : Nat} {e : Ending} {w : World} (h : Ans X n e w base) : ∃ (c d s f : Int) (N : Nat) (v : Value), e = .returned (.tuple #[.agg #[.int .i64 c, .int .i64 d], .int .i64 s, v, .int .i64 f]) ∧ Num X n c d s f N ∧ WI w base w.heap.size v N (hZ X) := by
  rcases h with ⟨k, hk, a, c, rfl⟩ | ⟨hk, sl, rfl, hw⟩
  · exact ⟨_, _, _, _, 0, _, rfl, .inl ⟨k, hk, rfl, rfl, rfl, rfl, rfl⟩, .inl ⟨rfl, _, _, rfl⟩⟩
  · exact ⟨_, _, _, _, _, _, rfl, .inr ⟨hk, rfl, rfl, rfl, rfl, rfl⟩, wi_of hw⟩
theorem num_small {X : Nat → ByteArray} {n N : Nat} {c d s f : Int} (h : Num X n c d s f N) (hn : n ≤ 400) : N ≤ 400 := by
  rcases h with ⟨k, hk, a, b, cc, dd, ee⟩ | ⟨hk, a, b, cc, dd, ee⟩ <;> omega
theorem spec_num (b n m : Nat) (X : Nat → ByteArray) (hm : m = min n 400) (hn : n ≤ 1048576) (w : World) (hb : b < w.heap.size) (h : RowS w (some ⟨b, 0, none⟩) n X) :
    Calls Tryz.prog 5 #[.slice (some ⟨b, 0, none⟩) n n] w fun e w' => (∃ (c d s f : Int) (N : Nat) (v : Value), e = .returned (.tuple #[.agg #[.int .i64 c, .int .i64 d], .int .i64 s, v, .int .i64 f]) ∧ Num X m c d s f N ∧ WI w' (w.heap.size + 1) w'.heap.size v N (hZ X)) ∧ Below w.heap.size w w' :=
  (head_spec b n m X hm hn w hb h).mono fun e w' h => ⟨num_of h.1, h.2⟩
theorem impl_num (b n m : Nat) (X : Nat → ByteArray) (hm : m = min n 400) (hn : n ≤ 1048576) (hX : ∀ k, k < n → (X k).size ≤ 1048576) (w : World) (hE : Env w) (hH : w.cell? ⟨0, 0, none⟩ = some (.iface 77 (.agg #[.pointer (some ⟨9, 46, none⟩)]))) (hb : b < w.heap.size) (h : RowS w (some ⟨b, 0, none⟩) n X) (c d s f : Int) (N : Nat) (hN : Num X m c d s f N) :
    Calls Tryz.prog 7 #[.slice (some ⟨b, 0, none⟩) n n] w fun e w' => (∃ v : Value, e = .returned (.tuple #[.agg #[.int .i64 c, .int .i64 d], .int .i64 s, v, .int .i64 f]) ∧ WI w' (w.heap.size + 1) w'.heap.size v N (hZ X)) ∧ Below w.heap.size w w' := by
  refine (head_impl b n m X hm hn hX w hE hH hb h).mono ?_
  rintro e w' ⟨h, hb⟩
  obtain ⟨c', d', s', f', N', v, rfl, h1, h2⟩ := num_of h
  obtain ⟨rfl, rfl, rfl, rfl, rfl⟩ := num_one hN h1
  exact ⟨⟨v, rfl, h2⟩, hb⟩
set_option maxHeartbeats 8000000 in
theorem law_head (a : Option Addr) (n cap : Nat) (X : Nat → ByteArray) (hn : n ≤ maxLen) (hX : ∀ k, k < n → (X k).size ≤ maxLen) (w : World) (hE : Env w) (hw0 : 0 < w.heap.size) (hH : w.cell? ⟨0, 0, none⟩ = some (.iface 77 (.agg #[.pointer (some ⟨9, 46, none⟩)]))) (h : RowS w a n X) :
    Calls Tryz.prog 3 #[.slice a n cap] w fun e w' => e = .returned (.bool true) ∧ Below w.heap.size w w' := by
  have HE := hid hE
  have H := hid h
  have HH := hid hH
  have HS : Hid (∀ k, k < n → ((X k).size : Int) ≤ 9223372036854775807) := fun k hk => by have := hX k hk; unfold maxLen at this; omega
  have hn0 : (n : Int) ≤ 9223372036854775807 := by unfold maxLen at hn; omega
  clear hE h hH hX hn
  go_enter Tryz.func3, Tryz.ntmps3
  go_wp2_with fail
  refine (szTexts a n cap X hn0 HS.out _ H.out).mono ?_
  rintro e w1 ⟨⟨r, rfl, hr⟩, hb1⟩
  have B1 : Hid (Below w.heap.size w w) := Below.refl _ _
  have zzw1 : w.heap.size ≤ w1.heap.size := hb1.size
  have B2 : Hid (Below w.heap.size w w1) := bthen B1.out hb1
  clear B1
  clear hb1
  rcases hr with hneg | ⟨hpos, hsh⟩
  · go_wp2
    go_ret
    exact ⟨rfl, B2.out⟩
  · have hr0 : ¬ r < 0 := by omega
    have hn : n ≤ 1048576 := hsh.1
    have HX := hid hsh.2
    clear hsh
    go_wp2_with fail
    refine (toTexts a n cap X hn _ (rowS_below H.out B2.out)).mono ?_
    rintro e w2 ⟨rfl, ho, hs, hb⟩
    obtain ⟨g2, eg2⟩ : ∃ g, g = w1.heap.size := ⟨_, rfl⟩
    rw [← eg2] at ho hs ⊢
    have lg2 : w1.heap.size ≤ g2 := by omega
    have ug2 : g2 ≤ w1.heap.size := by omega
    have sg2 : g2 < w2.heap.size := hs
    clear eg2
    have zzw2 : w1.heap.size ≤ w2.heap.size := hb.size
    have B3 : Hid (Below w.heap.size w w2) := bthen B2.out hb
    clear B2
    clear hb
    go_wp2_with fail
    refine (spec_num g2 n _ X rfl hn _ hs (rowS_of_own ho hs)).mono ?_
    rintro e w3 ⟨⟨c, d, s, f, N, v1, rfl, hnum, hv⟩, hb⟩
    have HNum := hid hnum
    have hN : N ≤ 400 := num_small hnum (by omega)
    have hN2 : N ≤ 2000000 := by omega
    have z3 : w2.heap.size ≤ w3.heap.size := hb.size
    obtain ⟨h1, eh1⟩ : ∃ y, y = w3.heap.size := ⟨_, rfl⟩
    rw [← eh1] at hv
    have lh1 : w3.heap.size ≤ h1 := by omega
    have uh1 : h1 ≤ w3.heap.size := by omega
    clear eh1 hnum ho hs
    have zzw3 : w2.heap.size ≤ w3.heap.size := hb.size
    have B4 : Hid (Below w.heap.size w w3) := bthen B3.out hb
    clear B3
    have U5 : Hid (WI w3 (w2.heap.size + 1) h1 v1 N (hZ X)) := hv
    clear hv hb
    go_upto_region 6 with fail
    obtain ⟨w4, ew4⟩ : ∃ y, y = w3.alloc (.cells #[.int .i64 c, .int .i64 d] 25) := ⟨_, rfl⟩
    obtain ⟨kP, ek⟩ : ∃ g, g = w3.heap.size := ⟨_, rfl⟩
    have hbox : Bk w4 kP [.int .i64 c, .int .i64 d] := by rw [ew4, ek]; exact bk_new w3 25 _
    have hbn : Below w3.heap.size w3 w4 := by rw [ew4]; exact (Below.refl _ _).alloc (Nat.le_refl _) _
    rw [← ew4, ← ek]
    have lkP : w3.heap.size ≤ kP := by omega
    have ukP : kP ≤ w3.heap.size := by omega
    have skP : kP < w4.heap.size := hbox.1
    clear ew4 ek
    have zzw4 : w3.heap.size ≤ w4.heap.size := hbn.size
    have B6 : Hid (Below w.heap.size w w4) := bthen B4.out hbn
    have U6 : Hid (WI w4 (w2.heap.size + 1) h1 v1 N (hZ X)) := U5.out.below hbn
    clear B4 U5
    have P7 : Hid (Bk w4 kP [.int .i64 c, .int .i64 d]) := hbox
    clear hbox hbn
    go_wp2_with fail
    refine (toTexts a n cap X hn _ (rowS_below H.out B6.out)).mono ?_
    rintro e w5 ⟨rfl, ho, hs, hb⟩
    obtain ⟨g5, eg5⟩ : ∃ g, g = w4.heap.size := ⟨_, rfl⟩
    rw [← eg5] at ho hs ⊢
    have lg5 : w4.heap.size ≤ g5 := by omega
    have ug5 : g5 ≤ w4.heap.size := by omega
    have sg5 : g5 < w5.heap.size := hs
    clear eg5
    have zzw5 : w4.heap.size ≤ w5.heap.size := hb.size
    have B8 : Hid (Below w.heap.size w w5) := bthen B6.out hb
    have U8 : Hid (WI w5 (w2.heap.size + 1) h1 v1 N (hZ X)) := U6.out.below hb
    have P8 : Hid (Bk w5 kP [.int .i64 c, .int .i64 d]) := P7.out.below hb
    clear B6 U6 P7
    clear hb
    have O9 : Hid (g5 < w5.heap.size ∧ OwnS w5 g5 n X n) := ⟨hs, ho⟩
    clear ho hs
    go_wp2_with fail
    refine (impl_num g5 n _ X rfl hn HX.out _ (HE.out.on B8.out) (((B8.out).cell (p := ⟨0, 0, none⟩) (show (0 : Nat) < w.heap.size from hw0)).trans HH.out) O9.out.1 (rowS_of_own O9.out.2 O9.out.1) c d s f N HNum.out).mono ?_
    rintro e w6 ⟨⟨v2, rfl, hv⟩, hb⟩
    obtain ⟨h2, eh⟩ : ∃ y, y = w6.heap.size := ⟨_, rfl⟩
    rw [← eh] at hv
    have lh2 : w6.heap.size ≤ h2 := by omega
    have uh2 : h2 ≤ w6.heap.size := by omega
    have zw6 : w5.heap.size ≤ w6.heap.size := hb.size
    clear eh
    have zzw6 : w5.heap.size ≤ w6.heap.size := hb.size
    have B10 : Hid (Below w.heap.size w w6) := bthen B8.out hb
    have U10 : Hid (WI w6 (w2.heap.size + 1) h1 v1 N (hZ X)) := U8.out.below hb
    have P10 : Hid (Bk w6 kP [.int .i64 c, .int .i64 d]) := P8.out.below hb
    have O10 : Hid (g5 < w6.heap.size ∧ OwnS w6 g5 n X n) := ⟨Nat.lt_of_lt_of_le O9.out.1 hb.size, ownS_below O9.out.2 O9.out.1 hb⟩
    clear B8 U8 P8 O9
    have V11 : Hid (WI w6 (w5.heap.size + 1) h2 v2 N (hZ X)) := hv
    clear hv hb
    go_upto_region 8 with fail
    obtain ⟨w7, ew7⟩ : ∃ y, y = w6.alloc (.cells #[.int .i64 c, .int .i64 d] 25) := ⟨_, rfl⟩
    obtain ⟨kQ, ek⟩ : ∃ g, g = w6.heap.size := ⟨_, rfl⟩
    have hbox : Bk w7 kQ [.int .i64 c, .int .i64 d] := by rw [ew7, ek]; exact bk_new w6 25 _
    have hbn : Below w6.heap.size w6 w7 := by rw [ew7]; exact (Below.refl _ _).alloc (Nat.le_refl _) _
    rw [← ew7, ← ek]
    have lkQ : w6.heap.size ≤ kQ := by omega
    have ukQ : kQ ≤ w6.heap.size := by omega
    have skQ : kQ < w7.heap.size := hbox.1
    clear ew7 ek
    have zzw7 : w6.heap.size ≤ w7.heap.size := hbn.size
    have B12 : Hid (Below w.heap.size w w7) := bthen B10.out hbn
    have U12 : Hid (WI w7 (w2.heap.size + 1) h1 v1 N (hZ X)) := U10.out.below hbn
    have P12 : Hid (Bk w7 kP [.int .i64 c, .int .i64 d]) := P10.out.below hbn
    have O12 : Hid (g5 < w7.heap.size ∧ OwnS w7 g5 n X n) := ⟨Nat.lt_of_lt_of_le O10.out.1 hbn.size, ownS_below O10.out.2 O10.out.1 hbn⟩
    have V12 : Hid (WI w7 (w5.heap.size + 1) h2 v2 N (hZ X)) := V11.out.below hbn
    clear B10 U10 P10 O10 V11
    have Q13 : Hid (Bk w7 kQ [.int .i64 c, .int .i64 d]) := hbox
    clear hbox hbn
    have yQ0 : w7.cell? ⟨kQ, 0, none⟩ = some (.int .i64 c) := (Q13.out.2 0 (by simp)).1
    have yQ1 : w7.cell? ⟨kQ, 1, none⟩ = some (.int .i64 d) := (Q13.out.2 1 (by simp)).1
    have hlQ : kQ < w7.heap.size := Q13.out.1
    have yP0 : w7.cell? ⟨kP, 0, none⟩ = some (.int .i64 c) := (P12.out.2 0 (by simp)).1
    have yP1 : w7.cell? ⟨kP, 1, none⟩ = some (.int .i64 d) := (P12.out.2 1 (by simp)).1
    have hlP : kP < w7.heap.size := P12.out.1
    go_wp2_with fail
    refine (eqMap c d _).mono ?_
    rintro e w8 ⟨rfl, hb⟩
    clear yQ0 yQ1 hlQ yP0 yP1 hlP
    have zzw8 : w7.heap.size ≤ w8.heap.size := hb.size
    have B14 : Hid (Below w.heap.size w w8) := bthen B12.out hb
    have U14 : Hid (WI w8 (w2.heap.size + 1) h1 v1 N (hZ X)) := U12.out.below hb
    have P14 : Hid (Bk w8 kP [.int .i64 c, .int .i64 d]) := P12.out.below hb
    have O14 : Hid (g5 < w8.heap.size ∧ OwnS w8 g5 n X n) := ⟨Nat.lt_of_lt_of_le O12.out.1 hb.size, ownS_below O12.out.2 O12.out.1 hb⟩
    have V14 : Hid (WI w8 (w5.heap.size + 1) h2 v2 N (hZ X)) := V12.out.below hb
    have Q14 : Hid (Bk w8 kQ [.int .i64 c, .int .i64 d]) := Q13.out.below hb
    clear B12 U12 P12 O12 V12 Q13
    clear hb
    go_wp2_with fail
    refine (eqWI hN2 V14.out U14.out).mono ?_
    rintro e w8b ⟨rfl, hb⟩
    have zzw8b : w8.heap.size ≤ w8b.heap.size := hb.size
    have B15 : Hid (Below w.heap.size w w8b) := bthen B14.out hb
    have U15 : Hid (WI w8b (w2.heap.size + 1) h1 v1 N (hZ X)) := U14.out.below hb
    have P15 : Hid (Bk w8b kP [.int .i64 c, .int .i64 d]) := P14.out.below hb
    have O15 : Hid (g5 < w8b.heap.size ∧ OwnS w8b g5 n X n) := ⟨Nat.lt_of_lt_of_le O14.out.1 hb.size, ownS_below O14.out.2 O14.out.1 hb⟩
    have V15 : Hid (WI w8b (w5.heap.size + 1) h2 v2 N (hZ X)) := V14.out.below hb
    have Q15 : Hid (Bk w8b kQ [.int .i64 c, .int .i64 d]) := Q14.out.below hb
    clear B14 U14 P14 O14 V14 Q14
    clear hb
    go_wp2_with fail
    refine (toTexts a n cap X hn _ (rowS_below H.out B15.out)).mono ?_
    rintro e w9 ⟨rfl, ho, hs, hb⟩
    obtain ⟨g9, eg9⟩ : ∃ g, g = w8b.heap.size := ⟨_, rfl⟩
    rw [← eg9] at ho hs ⊢
    have lg9 : w8b.heap.size ≤ g9 := by omega
    have ug9 : g9 ≤ w8b.heap.size := by omega
    have sg9 : g9 < w9.heap.size := hs
    clear eg9
    have zzw9 : w8b.heap.size ≤ w9.heap.size := hb.size
    have B16 : Hid (Below w.heap.size w w9) := bthen B15.out hb
    have U16 : Hid (WI w9 (w2.heap.size + 1) h1 v1 N (hZ X)) := U15.out.below hb
    have P16 : Hid (Bk w9 kP [.int .i64 c, .int .i64 d]) := P15.out.below hb
    have O16 : Hid (g5 < w9.heap.size ∧ OwnS w9 g5 n X n) := ⟨Nat.lt_of_lt_of_le O15.out.1 hb.size, ownS_below O15.out.2 O15.out.1 hb⟩
    have V16 : Hid (WI w9 (w5.heap.size + 1) h2 v2 N (hZ X)) := V15.out.below hb
    have Q16 : Hid (Bk w9 kQ [.int .i64 c, .int .i64 d]) := Q15.out.below hb
    clear B15 U15 P15 O15 V15 Q15
    clear hb
    go_wp2_with fail
    refine (eqTexts _ _ n n n X (by omega) _ (rowS_of_own O16.out.2 O16.out.1) (rowS_of_own ho hs)).mono ?_
    rintro e w10 ⟨rfl, hb⟩
    clear ho hs
    have zzw10 : w9.heap.size ≤ w10.heap.size := hb.size
    have B17 : Hid (Below w.heap.size w w10) := bthen B16.out hb
    have U17 : Hid (WI w10 (w2.heap.size + 1) h1 v1 N (hZ X)) := U16.out.below hb
    have P17 : Hid (Bk w10 kP [.int .i64 c, .int .i64 d]) := P16.out.below hb
    have O17 : Hid (g5 < w10.heap.size ∧ OwnS w10 g5 n X n) := ⟨Nat.lt_of_lt_of_le O16.out.1 hb.size, ownS_below O16.out.2 O16.out.1 hb⟩
    have V17 : Hid (WI w10 (w5.heap.size + 1) h2 v2 N (hZ X)) := V16.out.below hb
    have Q17 : Hid (Bk w10 kQ [.int .i64 c, .int .i64 d]) := Q16.out.below hb
    clear B16 U16 P16 O16 V16 Q16
    clear hb
    go_wp2_with fail
    refine (markTexts 1 g5 n n (by omega) (by omega) (by omega) _ O17.out.1 O17.out.2.1).mono ?_
    rintro e w11 ⟨rfl, hg⟩
    have zm : w10.heap.size ≤ w11.heap.size := hg.size
    have hsm : Hid (∀ b, b < w10.heap.size → ¬ b = g5 → Sm w10 w11 b) := fun b h1 h2 => sm_grown hg h1 (by intro e; injection e with e; exact h2 e)
    clear O17
    have hz10 : h2 ≤ w10.heap.size := by omega
    have hwg : w.heap.size ≤ g5 := by omega
    have B18 : Hid (Below w.heap.size w w11) := B17.out.trans (below_grown hg hwg (B17.out.size))
    have U18 : Hid (WI w11 (w2.heap.size + 1) h1 v1 N (hZ X)) := U17.out.sm zm (fun b p1 p2 => hsm.out b (by omega) (by omega))
    have P18 : Hid (Bk w11 kP [.int .i64 c, .int .i64 d]) := P17.out.sm zm (hsm.out _ P17.out.1 (by omega))
    have V18 : Hid (WI w11 (w5.heap.size + 1) h2 v2 N (hZ X)) := V17.out.sm zm (fun b p1 p2 => hsm.out b (by omega) (by omega))
    have Q18 : Hid (Bk w11 kQ [.int .i64 c, .int .i64 d]) := Q17.out.sm zm (hsm.out _ Q17.out.1 (by omega))
    clear B17 U17 P17 V17 Q17
    clear hg hsm
    have hk1 : ¬ (((1 + n : Nat) : Int) < 0) := by omega
    have yQ0 : w11.cell? ⟨kQ, 0, none⟩ = some (.int .i64 c) := (Q18.out.2 0 (by simp)).1
    have yQ1 : w11.cell? ⟨kQ, 1, none⟩ = some (.int .i64 d) := (Q18.out.2 1 (by simp)).1
    have hlQ : kQ < w11.heap.size := Q18.out.1
    have yP0 : w11.cell? ⟨kP, 0, none⟩ = some (.int .i64 c) := (P18.out.2 0 (by simp)).1
    have yP1 : w11.cell? ⟨kP, 1, none⟩ = some (.int .i64 d) := (P18.out.2 1 (by simp)).1
    have hlP : kP < w11.heap.size := P18.out.1
    go_wp2_with fail
    refine (eqMap c d _).mono ?_
    rintro e w12 ⟨rfl, hb⟩
    clear yQ0 yQ1 hlQ yP0 yP1 hlP
    have zzw12 : w11.heap.size ≤ w12.heap.size := hb.size
    have B19 : Hid (Below w.heap.size w w12) := bthen B18.out hb
    have U19 : Hid (WI w12 (w2.heap.size + 1) h1 v1 N (hZ X)) := U18.out.below hb
    have P19 : Hid (Bk w12 kP [.int .i64 c, .int .i64 d]) := P18.out.below hb
    have V19 : Hid (WI w12 (w5.heap.size + 1) h2 v2 N (hZ X)) := V18.out.below hb
    have Q19 : Hid (Bk w12 kQ [.int .i64 c, .int .i64 d]) := Q18.out.below hb
    clear B18 U18 P18 V18 Q18
    clear hb
    go_wp2_with fail
    refine (eqWI hN2 V19.out U19.out).mono ?_
    rintro e w12b ⟨rfl, hb⟩
    have zzw12b : w12.heap.size ≤ w12b.heap.size := hb.size
    have B20 : Hid (Below w.heap.size w w12b) := bthen B19.out hb
    have U20 : Hid (WI w12b (w2.heap.size + 1) h1 v1 N (hZ X)) := U19.out.below hb
    have P20 : Hid (Bk w12b kP [.int .i64 c, .int .i64 d]) := P19.out.below hb
    have V20 : Hid (WI w12b (w5.heap.size + 1) h2 v2 N (hZ X)) := V19.out.below hb
    have Q20 : Hid (Bk w12b kQ [.int .i64 c, .int .i64 d]) := Q19.out.below hb
    clear B19 U19 P19 V19 Q19
    clear hb
    go_wp2_with fail
    refine (markWI hN2 V20.out (by omega)).mono ?_
    rintro e w13 ⟨rfl, hv, hbl, zm2, hsm⟩
    have HSM := hid hsm
    clear hsm
    clear Q20
    have B21 : Hid (Below w.heap.size w w13) := B20.out.trans (hbl.mono (by omega))
    have U21 : Hid (WI w13 (w2.heap.size + 1) h1 v1 N (hZ X)) := U20.out.sm zm2 (fun b p1 p2 => HSM.out b (by omega) (by omega))
    have P21 : Hid (Bk w13 kP [.int .i64 c, .int .i64 d]) := P20.out.sm zm2 (HSM.out _ P20.out.1 (by omega))
    have V21 : Hid (WI w13 (w5.heap.size + 1) h2 v2 N M) := hv
    clear B20 U20 P20 V20
    clear hbl hv HSM
    have hq : ¬ mk N < 0 := by unfold mk; omega
    go_wp2_with fail
    refine (heldWI hN2 V21.out).mono ?_
    rintro e w14 ⟨rfl, hb⟩
    have zw14 : w13.heap.size ≤ w14.heap.size := hb.size
    have zzw14 : w13.heap.size ≤ w14.heap.size := hb.size
    have B22 : Hid (Below w.heap.size w w14) := bthen B21.out hb
    have U22 : Hid (WI w14 (w2.heap.size + 1) h1 v1 N (hZ X)) := U21.out.below hb
    have P22 : Hid (Bk w14 kP [.int .i64 c, .int .i64 d]) := P21.out.below hb
    have V22 : Hid (WI w14 (w5.heap.size + 1) h2 v2 N M) := V21.out.below hb
    clear B21 U21 P21 V21
    clear hb
    go_wp2_with fail
    refine (toTexts a n cap X hn _ (rowS_below H.out B22.out)).mono ?_
    rintro e w15 ⟨rfl, ho, hs, hb⟩
    obtain ⟨g15, eg15⟩ : ∃ g, g = w14.heap.size := ⟨_, rfl⟩
    rw [← eg15] at ho hs ⊢
    have lg15 : w14.heap.size ≤ g15 := by omega
    have ug15 : g15 ≤ w14.heap.size := by omega
    have sg15 : g15 < w15.heap.size := hs
    clear eg15
    have zzw15 : w14.heap.size ≤ w15.heap.size := hb.size
    have B23 : Hid (Below w.heap.size w w15) := bthen B22.out hb
    have U23 : Hid (WI w15 (w2.heap.size + 1) h1 v1 N (hZ X)) := U22.out.below hb
    have P23 : Hid (Bk w15 kP [.int .i64 c, .int .i64 d]) := P22.out.below hb
    have V23 : Hid (WI w15 (w5.heap.size + 1) h2 v2 N M) := V22.out.below hb
    clear B22 U22 P22 V22
    clear hb
    go_wp2_with fail
    refine (impl_num g15 n _ X rfl hn HX.out _ (HE.out.on B23.out) (((B23.out).cell (p := ⟨0, 0, none⟩) (show (0 : Nat) < w.heap.size from hw0)).trans HH.out) hs (rowS_of_own ho hs) c d s f N HNum.out).mono ?_
    rintro e w16 ⟨⟨v3, rfl, hv⟩, hb⟩
    obtain ⟨h3, eh⟩ : ∃ y, y = w16.heap.size := ⟨_, rfl⟩
    rw [← eh] at hv
    have lh3 : w16.heap.size ≤ h3 := by omega
    have uh3 : h3 ≤ w16.heap.size := by omega
    have zw16 : w15.heap.size ≤ w16.heap.size := hb.size
    clear eh ho hs
    have zzw16 : w15.heap.size ≤ w16.heap.size := hb.size
    have B24 : Hid (Below w.heap.size w w16) := bthen B23.out hb
    have U24 : Hid (WI w16 (w2.heap.size + 1) h1 v1 N (hZ X)) := U23.out.below hb
    have P24 : Hid (Bk w16 kP [.int .i64 c, .int .i64 d]) := P23.out.below hb
    have V24 : Hid (WI w16 (w5.heap.size + 1) h2 v2 N M) := V23.out.below hb
    clear B23 U23 P23 V23
    have Y25 : Hid (WI w16 (w15.heap.size + 1) h3 v3 N (hZ X)) := hv
    clear hv hb
    go_upto_region 25 with fail
    obtain ⟨w17, ew17⟩ : ∃ y, y = w16.alloc (.cells #[.int .i64 c, .int .i64 d] 25) := ⟨_, rfl⟩
    obtain ⟨kR, ek⟩ : ∃ g, g = w16.heap.size := ⟨_, rfl⟩
    have hbox : Bk w17 kR [.int .i64 c, .int .i64 d] := by rw [ew17, ek]; exact bk_new w16 25 _
    have hbn : Below w16.heap.size w16 w17 := by rw [ew17]; exact (Below.refl _ _).alloc (Nat.le_refl _) _
    rw [← ew17, ← ek]
    have lkR : w16.heap.size ≤ kR := by omega
    have ukR : kR ≤ w16.heap.size := by omega
    have skR : kR < w17.heap.size := hbox.1
    clear ew17 ek
    have zzw17 : w16.heap.size ≤ w17.heap.size := hbn.size
    have B26 : Hid (Below w.heap.size w w17) := bthen B24.out hbn
    have U26 : Hid (WI w17 (w2.heap.size + 1) h1 v1 N (hZ X)) := U24.out.below hbn
    have P26 : Hid (Bk w17 kP [.int .i64 c, .int .i64 d]) := P24.out.below hbn
    have V26 : Hid (WI w17 (w5.heap.size + 1) h2 v2 N M) := V24.out.below hbn
    have Y26 : Hid (WI w17 (w15.heap.size + 1) h3 v3 N (hZ X)) := Y25.out.below hbn
    clear B24 U24 P24 V24 Y25
    have R27 : Hid (Bk w17 kR [.int .i64 c, .int .i64 d]) := hbox
    clear hbox hbn
    have yR0 : w17.cell? ⟨kR, 0, none⟩ = some (.int .i64 c) := (R27.out.2 0 (by simp)).1
    have yR1 : w17.cell? ⟨kR, 1, none⟩ = some (.int .i64 d) := (R27.out.2 1 (by simp)).1
    have hlR : kR < w17.heap.size := R27.out.1
    have yP0 : w17.cell? ⟨kP, 0, none⟩ = some (.int .i64 c) := (P26.out.2 0 (by simp)).1
    have yP1 : w17.cell? ⟨kP, 1, none⟩ = some (.int .i64 d) := (P26.out.2 1 (by simp)).1
    have hlP : kP < w17.heap.size := P26.out.1
    go_wp2_with fail
    refine (eqMap c d _).mono ?_
    rintro e w18 ⟨rfl, hb⟩
    clear yR0 yR1 hlR yP0 yP1 hlP
    have zzw18 : w17.heap.size ≤ w18.heap.size := hb.size
    have B28 : Hid (Below w.heap.size w w18) := bthen B26.out hb
    have U28 : Hid (WI w18 (w2.heap.size + 1) h1 v1 N (hZ X)) := U26.out.below hb
    have P28 : Hid (Bk w18 kP [.int .i64 c, .int .i64 d]) := P26.out.below hb
    have V28 : Hid (WI w18 (w5.heap.size + 1) h2 v2 N M) := V26.out.below hb
    have Y28 : Hid (WI w18 (w15.heap.size + 1) h3 v3 N (hZ X)) := Y26.out.below hb
    have R28 : Hid (Bk w18 kR [.int .i64 c, .int .i64 d]) := R27.out.below hb
    clear B26 U26 P26 V26 Y26 R27
    clear hb
    go_wp2_with fail
    refine (eqWI hN2 Y28.out U28.out).mono ?_
    rintro e w18b ⟨rfl, hb⟩
    have zzw18b : w18.heap.size ≤ w18b.heap.size := hb.size
    have B29 : Hid (Below w.heap.size w w18b) := bthen B28.out hb
    have U29 : Hid (WI w18b (w2.heap.size + 1) h1 v1 N (hZ X)) := U28.out.below hb
    have P29 : Hid (Bk w18b kP [.int .i64 c, .int .i64 d]) := P28.out.below hb
    have V29 : Hid (WI w18b (w5.heap.size + 1) h2 v2 N M) := V28.out.below hb
    have Y29 : Hid (WI w18b (w15.heap.size + 1) h3 v3 N (hZ X)) := Y28.out.below hb
    have R29 : Hid (Bk w18b kR [.int .i64 c, .int .i64 d]) := R28.out.below hb
    clear B28 U28 P28 V28 Y28 R28
    clear hb
    go_wp2_with fail
    refine (heldWI hN2 V29.out).mono ?_
    rintro e w19 ⟨rfl, hb⟩
    have zw19 : w18b.heap.size ≤ w19.heap.size := hb.size
    have zzw19 : w18b.heap.size ≤ w19.heap.size := hb.size
    have B30 : Hid (Below w.heap.size w w19) := bthen B29.out hb
    have U30 : Hid (WI w19 (w2.heap.size + 1) h1 v1 N (hZ X)) := U29.out.below hb
    have P30 : Hid (Bk w19 kP [.int .i64 c, .int .i64 d]) := P29.out.below hb
    have V30 : Hid (WI w19 (w5.heap.size + 1) h2 v2 N M) := V29.out.below hb
    have Y30 : Hid (WI w19 (w15.heap.size + 1) h3 v3 N (hZ X)) := Y29.out.below hb
    have R30 : Hid (Bk w19 kR [.int .i64 c, .int .i64 d]) := R29.out.below hb
    clear B29 U29 P29 V29 Y29 R29
    clear hb
    go_wp2
    go_ret
    exact ⟨rfl, B30.out⟩
end Go.Proofs.YtlmoeacpkkkkcaaGreatDoor
