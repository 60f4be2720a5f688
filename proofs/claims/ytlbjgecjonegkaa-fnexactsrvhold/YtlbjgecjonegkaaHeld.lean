/- What was marked is held; conditions: the lists lie in memory. -/
import Derived.Test.YtlbjgecjonegkaaCMk2
import Derived.Test.YtlbjgecjonegkaaMark8
namespace Go.Proofs.Ytlbjgecjonegkaa
open Go.RowKit Go.Deep
set_option linter.unusedVariables false
set_option maxRecDepth 20000 in
set_option maxHeartbeats 1000000 in
theorem heldW (s B n cap : Nat) (hn : n ≤ 2000000) (hs : s ≤ 2000000000) (w : World) (hB : B < w.heap.size) (h : Own5 w B n (Mk 5 s) n) :
    Calls Try.prog 58 #[.slice (some ⟨B, 0, none⟩) n cap, .int .i64 (s : Int)] w fun e w' => e = .returned (.int .i64 ((s + n * 5 : Nat) : Int)) ∧ Below w.heap.size w w' := by
  have H0 : Hid (Own5 w B n (Mk 5 s) n) := h
  clear h
  go_enter Try.func58, Try.ntmps58
  go_wp2
  go_loopw [1, 5] (fun c i wr => ∃ k : Nat, k ≤ n ∧ .int .i64 k = i ∧ .int .i64 (Mk 5 s k 0) = c ∧ w = wr) (fun _ i _ => n - (intOf i).toNat)
  case atStart => exact ⟨0, Nat.zero_le _, rfl, by simp [Mk], rfl⟩
  case round =>
    obtain ⟨k, hk, rfl, rfl, rfl⟩ := hrel
    by_cases hkn : k < n
    · have hkn' : (k : Int) < (n : Int) := by omega
      have c0 : w.cell? ⟨B, k * 5, none⟩ = some (.int .i64 (Mk 5 s k 0)) := H0.out.2 k 0 hkn (by omega)
      have c1 : w.cell? ⟨B, k * 5 + 1, none⟩ = some (.int .i64 (Mk 5 s k 1)) := H0.out.2 k 1 hkn (by omega)
      have c2 : w.cell? ⟨B, k * 5 + 2, none⟩ = some (.int .i64 (Mk 5 s k 2)) := H0.out.2 k 2 hkn (by omega)
      have c3 : w.cell? ⟨B, k * 5 + 3, none⟩ = some (.int .i64 (Mk 5 s k 3)) := H0.out.2 k 3 hkn (by omega)
      have c4 : w.cell? ⟨B, k * 5 + 4, none⟩ = some (.int .i64 (Mk 5 s k 4)) := H0.out.2 k 4 hkn (by omega)
      have m1 : IntKind.wrap .i64 ((Mk 5 s k 0) + 1) = (Mk 5 s k 1) := by unfold Mk; simp [IntKind.wrap, IntKind.bits, IntKind.signed]; omega
      have m2 : IntKind.wrap .i64 ((Mk 5 s k 1) + 1) = (Mk 5 s k 2) := by unfold Mk; simp [IntKind.wrap, IntKind.bits, IntKind.signed]; omega
      have m3 : IntKind.wrap .i64 ((Mk 5 s k 2) + 1) = (Mk 5 s k 3) := by unfold Mk; simp [IntKind.wrap, IntKind.bits, IntKind.signed]; omega
      have m4 : IntKind.wrap .i64 ((Mk 5 s k 3) + 1) = (Mk 5 s k 4) := by unfold Mk; simp [IntKind.wrap, IntKind.bits, IntKind.signed]; omega
      have m5 : IntKind.wrap .i64 ((Mk 5 s k 4) + 1) = (Mk 5 s (k + 1) 0) := by unfold Mk; simp [IntKind.wrap, IntKind.bits, IntKind.signed]; omega
      go_wp2
      go_roundw
      case rel => exact ⟨k + 1, by omega, by go_num, rfl, by trivial⟩
      case measure => simp [intOf]; omega
    · have hkn' : k = n := by omega
      subst hkn'
      go_wp2
      go_ret
      exact ⟨rfl, Below.refl _ _⟩

set_option maxRecDepth 20000 in
set_option maxHeartbeats 1000000 in
theorem heldP (s B n cap : Nat) (hn : n ≤ 2000000) (hs : s ≤ 2000000000) (w : World) (hB : B < w.heap.size) (h : P8.Own8 w B n (Mk 8 s) n) :
    Calls Try.prog 84 #[.slice (some ⟨B, 0, none⟩) n cap, .int .i64 (s : Int)] w fun e w' => e = .returned (.int .i64 ((s + n * 8 : Nat) : Int)) ∧ Below w.heap.size w w' := by
  have H0 : Hid (P8.Own8 w B n (Mk 8 s) n) := h
  clear h
  go_enter Try.func84, Try.ntmps84
  go_wp2
  go_loopw [1, 5] (fun c i wr => ∃ k : Nat, k ≤ n ∧ .int .i64 k = i ∧ .int .i64 (Mk 8 s k 0) = c ∧ w = wr) (fun _ i _ => n - (intOf i).toNat)
  case atStart => exact ⟨0, Nat.zero_le _, rfl, by simp [Mk], rfl⟩
  case round =>
    obtain ⟨k, hk, rfl, rfl, rfl⟩ := hrel
    by_cases hkn : k < n
    · have hkn' : (k : Int) < (n : Int) := by omega
      have c0 : w.cell? ⟨B, k * 8, none⟩ = some (.int .i64 (Mk 8 s k 0)) := H0.out.2 k 0 hkn (by omega)
      have c1 : w.cell? ⟨B, k * 8 + 1, none⟩ = some (.int .i64 (Mk 8 s k 1)) := H0.out.2 k 1 hkn (by omega)
      have c2 : w.cell? ⟨B, k * 8 + 2, none⟩ = some (.int .i64 (Mk 8 s k 2)) := H0.out.2 k 2 hkn (by omega)
      have c3 : w.cell? ⟨B, k * 8 + 3, none⟩ = some (.int .i64 (Mk 8 s k 3)) := H0.out.2 k 3 hkn (by omega)
      have c4 : w.cell? ⟨B, k * 8 + 4, none⟩ = some (.int .i64 (Mk 8 s k 4)) := H0.out.2 k 4 hkn (by omega)
      have c5 : w.cell? ⟨B, k * 8 + 5, none⟩ = some (.int .i64 (Mk 8 s k 5)) := H0.out.2 k 5 hkn (by omega)
      have c6 : w.cell? ⟨B, k * 8 + 6, none⟩ = some (.int .i64 (Mk 8 s k 6)) := H0.out.2 k 6 hkn (by omega)
      have c7 : w.cell? ⟨B, k * 8 + 7, none⟩ = some (.int .i64 (Mk 8 s k 7)) := H0.out.2 k 7 hkn (by omega)
      have m1 : IntKind.wrap .i64 ((Mk 8 s k 0) + 1) = (Mk 8 s k 1) := by unfold Mk; simp [IntKind.wrap, IntKind.bits, IntKind.signed]; omega
      have m2 : IntKind.wrap .i64 ((Mk 8 s k 1) + 1) = (Mk 8 s k 2) := by unfold Mk; simp [IntKind.wrap, IntKind.bits, IntKind.signed]; omega
      have m3 : IntKind.wrap .i64 ((Mk 8 s k 2) + 1) = (Mk 8 s k 3) := by unfold Mk; simp [IntKind.wrap, IntKind.bits, IntKind.signed]; omega
      have m4 : IntKind.wrap .i64 ((Mk 8 s k 3) + 1) = (Mk 8 s k 4) := by unfold Mk; simp [IntKind.wrap, IntKind.bits, IntKind.signed]; omega
      have m5 : IntKind.wrap .i64 ((Mk 8 s k 4) + 1) = (Mk 8 s k 5) := by unfold Mk; simp [IntKind.wrap, IntKind.bits, IntKind.signed]; omega
      have m6 : IntKind.wrap .i64 ((Mk 8 s k 5) + 1) = (Mk 8 s k 6) := by unfold Mk; simp [IntKind.wrap, IntKind.bits, IntKind.signed]; omega
      have m7 : IntKind.wrap .i64 ((Mk 8 s k 6) + 1) = (Mk 8 s k 7) := by unfold Mk; simp [IntKind.wrap, IntKind.bits, IntKind.signed]; omega
      have m8 : IntKind.wrap .i64 ((Mk 8 s k 7) + 1) = (Mk 8 s (k + 1) 0) := by unfold Mk; simp [IntKind.wrap, IntKind.bits, IntKind.signed]; omega
      go_wp2
      go_roundw
      case rel => exact ⟨k + 1, by omega, by go_num, rfl, by trivial⟩
      case measure => simp [intOf]; omega
    · have hkn' : k = n := by omega
      subst hkn'
      go_wp2
      go_ret
      exact ⟨rfl, Below.refl _ _⟩

set_option maxHeartbeats 1000000 in
theorem heldI (s B n cap : Nat) (hn : n ≤ 2000000) (hs : s ≤ 2000000000) (w : World) (hB : B < w.heap.size) (h : Own1 w B n (M1 s) n) :
    Calls Try.prog 60 #[.slice (some ⟨B, 0, none⟩) n cap, .int .i64 (s : Int)] w fun e w' => e = .returned (.int .i64 ((s + n : Nat) : Int)) ∧ Below w.heap.size w w' := by
  have H0 : Hid (Own1 w B n (M1 s) n) := h
  clear h
  go_enter Try.func60, Try.ntmps60
  go_wp2
  go_loopw [1, 5] (fun c i wr => ∃ k : Nat, k ≤ n ∧ .int .i64 k = i ∧ .int .i64 (M1 s k) = c ∧ w = wr) (fun _ i _ => n - (intOf i).toNat)
  case atStart => exact ⟨0, Nat.zero_le _, rfl, by simp [M1], rfl⟩
  case round =>
    obtain ⟨k, hk, rfl, rfl, rfl⟩ := hrel
    by_cases hkn : k < n
    · have hkn' : (k : Int) < (n : Int) := by omega
      have c0 : w.cell? ⟨B, k, none⟩ = some (.int .i64 (M1 s k)) := H0.out.2 k hkn
      have m1 : IntKind.wrap .i64 (M1 s k + 1) = M1 s (k + 1) := by unfold M1; simp [IntKind.wrap, IntKind.bits, IntKind.signed]; omega
      go_wp2
      go_roundw
      case rel => exact ⟨k + 1, by omega, by go_num, rfl, by trivial⟩
      case measure => simp [intOf]; omega
    · have hkn' : k = n := by omega
      subst hkn'
      go_wp2
      go_ret
      exact ⟨rfl, Below.refl _ _⟩

theorem heldW0 (s : Nat) (a : Option Addr) (c : Nat) (w : World) :
    Calls Try.prog 58 #[.slice a 0 c, .int .i64 (s : Int)] w fun e w' => e = .returned (.int .i64 (s : Int)) ∧ Below w.heap.size w w' := by
  go_enter Try.func58, Try.ntmps58
  go_wp2
  refine wp_loop_rounds 1 ?_
  rw [rounds_succ]
  go_wp2
  go_ret
  exact ⟨rfl, Below.refl _ _⟩

theorem heldP0 (s : Nat) (a : Option Addr) (c : Nat) (w : World) :
    Calls Try.prog 84 #[.slice a 0 c, .int .i64 (s : Int)] w fun e w' => e = .returned (.int .i64 (s : Int)) ∧ Below w.heap.size w w' := by
  go_enter Try.func84, Try.ntmps84
  go_wp2
  refine wp_loop_rounds 1 ?_
  rw [rounds_succ]
  go_wp2
  go_ret
  exact ⟨rfl, Below.refl _ _⟩

theorem heldI0 (s : Nat) (a : Option Addr) (c : Nat) (w : World) :
    Calls Try.prog 60 #[.slice a 0 c, .int .i64 (s : Int)] w fun e w' => e = .returned (.int .i64 (s : Int)) ∧ Below w.heap.size w w' := by
  go_enter Try.func60, Try.ntmps60
  go_wp2
  refine wp_loop_rounds 1 ?_
  rw [rounds_succ]
  go_wp2
  go_ret
  exact ⟨rfl, Below.refl _ _⟩

theorem heldW_any (lo hi s : Nat) (v : Value) (n : Nat) (g : Nat) (hn : n ≤ 2000000) (hs : s ≤ 2000000000) (w : World) (h : RW lo hi w v n (Mk 5 s) g) :
    Calls Try.prog 58 #[v, .int .i64 (s : Int)] w fun e w' => e = .returned (.int .i64 ((s + n * 5 : Nat) : Int)) ∧ Below w.heap.size w w' := by
  rcases h with ⟨rfl, a, c, rfl⟩ | ⟨c, rfl, h2, h3, h4, h5⟩
  · refine (heldW0 s a c w).mono ?_
    rintro e w' ⟨rfl, hb⟩
    exact ⟨by simp, hb⟩
  · exact heldW s g n c hn hs w (by omega) h5

theorem heldP_any (lo hi s : Nat) (v : Value) (n : Nat) (g : Nat) (hn : n ≤ 2000000) (hs : s ≤ 2000000000) (w : World) (h : RP lo hi w v n (Mk 8 s) g) :
    Calls Try.prog 84 #[v, .int .i64 (s : Int)] w fun e w' => e = .returned (.int .i64 ((s + n * 8 : Nat) : Int)) ∧ Below w.heap.size w w' := by
  rcases h with ⟨rfl, a, c, rfl⟩ | ⟨c, rfl, h2, h3, h4, h5⟩
  · refine (heldP0 s a c w).mono ?_
    rintro e w' ⟨rfl, hb⟩
    exact ⟨by simp, hb⟩
  · exact heldP s g n c hn hs w (by omega) h5

theorem heldI_any (lo hi s : Nat) (v : Value) (n : Nat) (g : Nat) (hn : n ≤ 2000000) (hs : s ≤ 2000000000) (w : World) (h : RI lo hi w v n (M1 s) g) :
    Calls Try.prog 60 #[v, .int .i64 (s : Int)] w fun e w' => e = .returned (.int .i64 ((s + n : Nat) : Int)) ∧ Below w.heap.size w w' := by
  rcases h with ⟨rfl, a, c, rfl⟩ | ⟨c, rfl, h2, h3, h4, h5⟩
  · refine (heldI0 s a c w).mono ?_
    rintro e w' ⟨rfl, hb⟩
    exact ⟨by simp, hb⟩
  · exact heldI s g n c hn hs w (by omega) h5

set_option maxHeartbeats 2000000 in
theorem heldO (lo hi s : Nat) (v : Value) (n : Nat) (N : Nat → Nat) (g : Nat) (sl : Nat → Value) (xs : Nat → Nat) (hn : n ≤ 1048576) (hN : ∀ k, k < n → N k ≤ 1048576) (hst : ∀ k, k ≤ n → st s N k ≤ 2000000000)
    (w : World) (h : RO lo hi w v n N (fun k => Mk 8 (st s N k)) g sl xs) :
    Calls Try.prog 59 #[v, .int .i64 (s : Int)] w fun e w' => e = .returned (.int .i64 ((st s N n : Nat) : Int)) ∧ Below w.heap.size w w' := by
  have HN : Hid (∀ k, k < n → N k ≤ 1048576) := hN
  have HT : Hid (∀ k, k ≤ n → st s N k ≤ 2000000000) := hst
  clear hN hst
  rcases h with ⟨rfl, a, c, rfl⟩ | ⟨c, rfl, h2, h3, h4, h5⟩
  · go_enter Try.func59, Try.ntmps59
    go_wp2
    refine wp_loop_rounds 1 ?_
    rw [rounds_succ]
    go_wp2
    go_ret
    exact ⟨rfl, Below.refl _ _⟩
  · have H5 : Hid (∀ k, k < n → w.cell? ⟨g, k, none⟩ = some (sl k) ∧ RP lo hi w (sl k) (N k) (Mk 8 (st s N k)) (xs k)) := h5
    clear h5
    go_enter Try.func59, Try.ntmps59
    go_wp2
    go_loopw [1, 5] (fun cc i wr => ∃ k : Nat, k ≤ n ∧ i = .int .i64 k ∧ cc = .int .i64 ((st s N k : Nat) : Int) ∧ Below w.heap.size w wr) (fun _ i _ => n - (intOf i).toNat)
    case atStart => exact ⟨0, Nat.zero_le _, rfl, rfl, Below.refl _ _⟩
    case round =>
      obtain ⟨k, hk, rfl, rfl, hbel⟩ := hrel
      have BL : Hid (Below w.heap.size w wr) := hbel
      have hz := hbel.size
      clear hbel
      by_cases hkn : k < n
      · have hkn' : (k : Int) < n := by omega
        have hc : wr.cell? ⟨g, k, none⟩ = some (sl k) := (BL.out.cell (p := ⟨g, k, none⟩) (by show g < _; omega)).trans (H5.out k hkn).1
        have hgw : g < wr.heap.size := by omega
        obtain ⟨slk, esl⟩ : ∃ x, x = sl k := ⟨_, rfl⟩
        rw [← esl] at hc
        have hRP : Hid (RP lo hi wr slk (N k) (Mk 8 (st s N k)) (xs k)) := by
          rw [esl]
          rcases (H5.out k hkn).2 with h | ⟨c', q1, q2, q3, q4, q5⟩
          · exact .inl h
          · exact .inr ⟨c', q1, q2, q3, by omega, own8_sm q5 (sm_below BL.out (by omega))⟩
        clear esl
        have hshape : ∃ a ln cp, slk = .slice a ln cp := by
          rcases hRP.out with ⟨_, a, c, e⟩ | ⟨c, e, _⟩
          · exact ⟨_, _, _, e⟩
          · exact ⟨_, _, _, e⟩
        obtain ⟨xa, xl, xc, rfl⟩ := hshape
        have hnn : ¬ ((st s N (k + 1) : Nat) : Int) < 0 := by omega
        go_wp2_with fail
        refine (heldP_any lo hi (st s N k) _ (N k) (xs k) (by have := HN.out k hkn; omega) (HT.out k hk) _ hRP.out).mono ?_
        rintro e w1 ⟨rfl, hb1⟩
        have B1 : Hid (Below w.heap.size w w1) := bthen BL.out hb1
        rw [show st s N k + N k * 8 = st s N (k + 1) from rfl]
        clear hb1 BL hc hRP
        obtain ⟨sk, hsk⟩ : ∃ x, x = st s N (k + 1) := ⟨_, rfl⟩
        rw [← hsk] at hnn ⊢
        have HSK : Hid (sk = st s N (k + 1)) := hsk
        clear hsk
        go_wp2
        go_roundw
        case rel => exact ⟨k + 1, by omega, by go_num, by rw [HSK.out], B1.out⟩
        case measure => simp [intOf]; omega
      · have hkk : k = n := by omega
        subst hkk
        go_wp2
        go_ret
        exact ⟨rfl, BL.out⟩

set_option maxHeartbeats 4000000 in
theorem heldC (lo hi : Nat) (v : Value) (V : CV) (hs : V.few) (w : World) (hhi : hi ≤ w.heap.size) (h : OwnC lo hi w v V.marked) :
    Calls Try.prog 35 #[v, .int .i64 1] w fun e w' => e = .returned (.int .i64 ((V.s4 : Nat) : Int)) ∧ Below w.heap.size w w' := by
  obtain ⟨vW, vO, vX, vI, gW, gO, gX, gI, sl, xs, rfl, rW, rO, rX, rI, ⟨d1, d2, d3, d4, d5, d6⟩, hx1, hx2⟩ := h
  obtain ⟨⟨tW, tO, tN, tX, tI⟩, tS⟩ := hs
  have HN : Hid (∀ k, k < V.nO → V.N k ≤ 1048576) := tN
  have HT : Hid (∀ k, k ≤ V.nO → st V.s1 V.N k ≤ 2000000000) := fun k hk => by have := tS k hk; omega
  have e2 : V.s2 ≤ 1000000000 := tS V.nO (Nat.le_refl _)
  have RW0 : Hid (RW lo hi w vW V.nW (Mk 5 1) gW) := rW
  have RO0 : Hid (RO lo hi w vO V.nO V.N (fun k => Mk 8 (st V.s1 V.N k)) gO sl xs) := rO
  have RX0 : Hid (RI lo hi w vX V.nX (M1 V.s2) gX) := rX
  have RI0 : Hid (RI lo hi w vI V.nI (M1 V.s3) gI) := rI
  clear rW rO rX rI hx1 hx2 tN tS
  show Calls Try.prog 35 #[.agg #[.int .i64 V.c, vW, .int .i64 V.g, vO, vX, vI], .int .i64 1] w _
  go_enter Try.func35, Try.ntmps35
  go_wp2_with fail
  obtain ⟨w0, e0⟩ : ∃ w0, w0 = w.alloc (.cells #[.int .i64 V.c, vW, .int .i64 V.g, vO, vX, vI] 43) := ⟨_, rfl⟩
  have z0 : w.heap.size < w0.heap.size := by rw [e0]; simp
  have B0 : Hid (Below w.heap.size w w0) := by rw [e0]; exact (Below.refl _ _).alloc (by simp) _
  have X0 : Hid (Six w0 w.heap.size [.int .i64 V.c, vW, .int .i64 V.g, vO, vX, vI]) := by rw [e0]; exact six_new w 43 (.int .i64 V.c) vW (.int .i64 V.g) vO vX vI
  rw [← e0]
  clear e0
  refine (heldW_any lo hi 1 vW V.nW gW (by omega) (by omega) _ (RW0.out.sm (by omega) (fun _ h => sm_below B0.out (by omega)))).mono ?_
  rintro e w1 ⟨rfl, hb⟩
  have B1 : Hid (Below w.heap.size w w1) := bthen B0.out hb
  have z1 : w.heap.size < w1.heap.size := Nat.lt_of_lt_of_le z0 hb.size
  have X1 : Hid (Six w1 w.heap.size [.int .i64 V.c, vW, .int .i64 V.g, vO, vX, vI]) := X0.out.below (by omega) hb
  clear hb B0 X0
  have nn1 : ¬ ((V.s1 : Nat) : Int) < 0 := by omega
  have ee1 : True := trivial
  have a0 : w1.cell? ⟨w.heap.size, 0, none⟩ = some (.int .i64 V.c) := (X1.out 0 (by decide)).1
  have a1 : w1.cell? ⟨w.heap.size, 1, none⟩ = some (vW) := (X1.out 1 (by decide)).1
  have a2 : w1.cell? ⟨w.heap.size, 2, none⟩ = some (.int .i64 V.g) := (X1.out 2 (by decide)).1
  have a3 : w1.cell? ⟨w.heap.size, 3, none⟩ = some (vO) := (X1.out 3 (by decide)).1
  have a4 : w1.cell? ⟨w.heap.size, 4, none⟩ = some (vX) := (X1.out 4 (by decide)).1
  have a5 : w1.cell? ⟨w.heap.size, 5, none⟩ = some (vI) := (X1.out 5 (by decide)).1
  go_wp2_with fail
  clear a0 a1 a2 a3 a4 a5
  refine (heldO lo hi V.s1 vO V.nO V.N gO sl xs tO HN.out HT.out _ (RO0.out.sm (by omega) (fun _ h => sm_below B1.out (by omega)) (fun i _ _ h => sm_below B1.out (by omega)))).mono ?_
  rintro e w2 ⟨rfl, hb⟩
  have B2 : Hid (Below w.heap.size w w2) := bthen B1.out hb
  have z2 : w.heap.size < w2.heap.size := Nat.lt_of_lt_of_le z1 hb.size
  have X2 : Hid (Six w2 w.heap.size [.int .i64 V.c, vW, .int .i64 V.g, vO, vX, vI]) := X1.out.below (by omega) hb
  clear hb B1 X1
  have nn2 : ¬ ((V.s2 : Nat) : Int) < 0 := by omega
  have ee2 : True := trivial
  have a0 : w2.cell? ⟨w.heap.size, 0, none⟩ = some (.int .i64 V.c) := (X2.out 0 (by decide)).1
  have a1 : w2.cell? ⟨w.heap.size, 1, none⟩ = some (vW) := (X2.out 1 (by decide)).1
  have a2 : w2.cell? ⟨w.heap.size, 2, none⟩ = some (.int .i64 V.g) := (X2.out 2 (by decide)).1
  have a3 : w2.cell? ⟨w.heap.size, 3, none⟩ = some (vO) := (X2.out 3 (by decide)).1
  have a4 : w2.cell? ⟨w.heap.size, 4, none⟩ = some (vX) := (X2.out 4 (by decide)).1
  have a5 : w2.cell? ⟨w.heap.size, 5, none⟩ = some (vI) := (X2.out 5 (by decide)).1
  go_wp2_with fail
  clear a0 a1 a2 a3 a4 a5
  refine (heldI_any lo hi V.s2 vX V.nX gX (by omega) (by omega) _ (RX0.out.sm (by omega) (fun _ h => sm_below B2.out (by omega)))).mono ?_
  rintro e w3 ⟨rfl, hb⟩
  have B3 : Hid (Below w.heap.size w w3) := bthen B2.out hb
  have z3 : w.heap.size < w3.heap.size := Nat.lt_of_lt_of_le z2 hb.size
  have X3 : Hid (Six w3 w.heap.size [.int .i64 V.c, vW, .int .i64 V.g, vO, vX, vI]) := X2.out.below (by omega) hb
  clear hb B2 X2
  have nn3 : ¬ ((V.s3 : Nat) : Int) < 0 := by omega
  have ee3 : True := trivial
  have a0 : w3.cell? ⟨w.heap.size, 0, none⟩ = some (.int .i64 V.c) := (X3.out 0 (by decide)).1
  have a1 : w3.cell? ⟨w.heap.size, 1, none⟩ = some (vW) := (X3.out 1 (by decide)).1
  have a2 : w3.cell? ⟨w.heap.size, 2, none⟩ = some (.int .i64 V.g) := (X3.out 2 (by decide)).1
  have a3 : w3.cell? ⟨w.heap.size, 3, none⟩ = some (vO) := (X3.out 3 (by decide)).1
  have a4 : w3.cell? ⟨w.heap.size, 4, none⟩ = some (vX) := (X3.out 4 (by decide)).1
  have a5 : w3.cell? ⟨w.heap.size, 5, none⟩ = some (vI) := (X3.out 5 (by decide)).1
  go_wp2_with fail
  clear a0 a1 a2 a3 a4 a5
  refine (heldI_any lo hi V.s3 vI V.nI gI (by omega) (by simp only [CV.s3]; omega) _ (RI0.out.sm (by omega) (fun _ h => sm_below B3.out (by omega)))).mono ?_
  rintro e w4 ⟨rfl, hb⟩
  have B4 : Hid (Below w.heap.size w w4) := bthen B3.out hb
  have z4 : w.heap.size < w4.heap.size := Nat.lt_of_lt_of_le z3 hb.size
  have X4 : Hid (Six w4 w.heap.size [.int .i64 V.c, vW, .int .i64 V.g, vO, vX, vI]) := X3.out.below (by omega) hb
  clear hb B3 X3
  have nn4 : ¬ ((V.s4 : Nat) : Int) < 0 := by omega
  have ee4 : True := trivial
  go_wp2
  go_ret
  exact ⟨rfl, B4.out⟩

end Go.Proofs.Ytlbjgecjonegkaa
