/- What stays where only the reader turns; the law's own comparison of numbers; conditions: those typed. -/
import Derived.Test.YtodmfbbicdbjdaaMapB
namespace Go.Proofs.Ytodmfbbicdbjdaa
open Go.RowKit Go.Deep
set_option linter.unusedVariables false

theorem Kept.sm {r b : Nat} {w w' : World} (K : Kept r w w') (hb : b < w.heap.size) (hn : ¬ b = r) : Sm w w' b := fun o => ⟨(kcell K).1 b o hb hn, (kcell K).2 b o hb hn⟩
theorem Bk.kp {r b : Nat} {w w' : World} {l : List Value} (h : Bk w b l) (K : Kept r w w') (hn : ¬ b = r) : Bk w' b l := h.sm K.size (K.sm h.1 hn)
theorem OwnT.kp {r lo hi : Nat} {w w' : World} {v : Value} {T : TV} (h : OwnT lo hi w v T) (K : Kept r w w') (hn : r < lo) (hh : hi ≤ w.heap.size) : OwnT lo hi w' v T := h.sm K.size (fun b h1 h2 => K.sm (by omega) (by omega))
theorem RdB.more {w : World} {r : Nat} {a : Option Addr} {len cap : Nat} {m m' : Int} (h : RdB w r a len cap m) (hm : m ≤ m') : RdB w r a len cap m' := by
  obtain ⟨p, h0, h1, h⟩ := h; exact ⟨p, h0, by omega, h⟩
theorem RdB.below {w w' : World} {r : Nat} {a : Option Addr} {len cap : Nat} {m : Int} (h : RdB w r a len cap m) (hb : Below (r + 1) w w') : RdB w' r a len cap m := by
  obtain ⟨p, h0, h1, h⟩ := h; exact ⟨p, h0, h1, h.below hb⟩
theorem RdB.on {w w' : World} {r : Nat} {a : Option Addr} {len cap : Nat} {m : Int} (h : RdB w r a len cap m) (hb : Below w.heap.size w w') : RdB w' r a len cap m := h.below (hb.mono h.lt)

set_option maxRecDepth 20000 in
set_option maxHeartbeats 2000000 in
theorem maInts_row (g1 o1 c1 g2 o2 c2 n : Nat) (X : Nat → Int) (hn : n ≤ 1000) (w : World) (l1 : g1 < w.heap.size) (l2 : g2 < w.heap.size)
    (h1 : ∀ k, k < n → w.cell? ⟨g1, o1 + k, none⟩ = some (.int .i64 (X k))) (h2 : ∀ k, k < n → w.cell? ⟨g2, o2 + k, none⟩ = some (.int .i64 (X k))) :
    Calls Try.prog 7 #[.slice (some ⟨g1, o1, none⟩) n c1, .slice (some ⟨g2, o2, none⟩) n c2] w fun e w' => e = .returned (.bool true) ∧ Below w.heap.size w w' := by
  have H1 : Hid (∀ k, k < n → w.cell? ⟨g1, o1 + k, none⟩ = some (.int .i64 (X k))) := h1
  have H2 : Hid (∀ k, k < n → w.cell? ⟨g2, o2 + k, none⟩ = some (.int .i64 (X k))) := h2
  clear h1 h2
  go_enter Try.func7, Try.ntmps7
  go_wp2
  go_loopw [5] (fun i wr => ∃ k q : Nat, k ≤ n ∧ .int .i64 k = i ∧ wr = w.drewN q) (fun i _ => n - (intOf i).toNat)
  case atStart => exact ⟨0, 0, Nat.zero_le _, rfl, rfl⟩
  case round =>
    obtain ⟨k, q, hk, rfl, rfl⟩ := hrel
    by_cases hkn : k < n
    · have hkn' : (k : Int) < (n : Int) := by omega
      have a0 := H1.out k hkn
      have b0 := H2.out k hkn
      go_wp2_with fail
      go_quiet (fail)
      go_wp2
      go_roundw
      case rel => exact ⟨k + 1, q + nq, by omega, by go_num, by simp [World.drewN]⟩
      case measure => simp [intOf]; omega
    · have hkn' : k = n := by omega
      subst hkn'
      go_wp2
      go_ret
      exact ⟨rfl, bdrewN (Below.refl _ _) q⟩
theorem maInts_nil (a1 a2 : Option Addr) (c1 c2 : Nat) (w : World) : Calls Try.prog 7 #[.slice a1 0 c1, .slice a2 0 c2] w fun e w' => e = .returned (.bool true) ∧ Below w.heap.size w w' := by
  go_enter Try.func7, Try.ntmps7
  go_wp2
  go_loopw [5] (fun i wr => .int .i64 0 = i ∧ wr = w) (fun i _ => 0)
  case atStart => exact ⟨rfl, rfl⟩
  case round =>
    obtain ⟨rfl, rfl⟩ := hrel
    go_wp2
    go_ret
    exact ⟨rfl, Below.refl _ _⟩
theorem maInts {w : World} {a1 a2 : Option Addr} {n c1 c2 : Nat} {X : Nat → Int} (h1 : Row1 w a1 n X) (h2 : Row1 w a2 n X) (hn : n ≤ 1000) : Calls Try.prog 7 #[.slice a1 n c1, .slice a2 n c2] w fun e w' => e = .returned (.bool true) ∧ Below w.heap.size w w' := by
  by_cases h0 : n = 0
  · subst h0; exact maInts_nil a1 a2 c1 c2 w
  · rcases h1 with h | ⟨b1, o1, rfl, l1, k1⟩
    · exact absurd h h0
    · rcases h2 with h | ⟨b2, o2, rfl, l2, k2⟩
      · exact absurd h h0
      · exact maInts_row b1 o1 c1 b2 o2 c2 n X hn w l1 l2 k1 k2
/-- n integers from a on, in a block from lo on. -/
def RowIn (lo : Nat) (w : World) (a : Option Addr) (n : Nat) (X : Nat → Int) : Prop := n = 0 ∨ ∃ b o, a = some ⟨b, o, none⟩ ∧ lo ≤ b ∧ b < w.heap.size ∧ ∀ k, k < n → w.cell? ⟨b, o + k, none⟩ = some (.int .i64 (X k))
def TabIn (lo : Nat) (w : World) (v : Value) (T : TV) : Prop := ∃ aS kS aA kA, v = .agg #[.slice aS T.nS kS, .slice aA T.nA kA] ∧ RowIn lo w aS T.nS T.S ∧ RowIn lo w aA T.nA T.A
theorem RowIn.sm {lo : Nat} {w w' : World} {a : Option Addr} {n : Nat} {X : Nat → Int} (h : RowIn lo w a n X) (hz : w.heap.size ≤ w'.heap.size) (k : ∀ b, lo ≤ b → b < w.heap.size → Sm w w' b) : RowIn lo w' a n X := by
  rcases h with h | ⟨b, o, e, h1, h2, h3⟩
  · exact .inl h
  · exact .inr ⟨b, o, e, h1, by omega, fun j hj => by rw [(k b h1 h2 _).1]; exact h3 j hj⟩
theorem TabIn.sm {lo : Nat} {w w' : World} {v : Value} {T : TV} (h : TabIn lo w v T) (hz : w.heap.size ≤ w'.heap.size) (k : ∀ b, lo ≤ b → b < w.heap.size → Sm w w' b) : TabIn lo w' v T := by
  obtain ⟨aS, kS, aA, kA, e, h1, h2⟩ := h
  exact ⟨aS, kS, aA, kA, e, h1.sm hz k, h2.sm hz k⟩
theorem TabIn.kp {r lo : Nat} {w w' : World} {v : Value} {T : TV} (h : TabIn lo w v T) (K : Kept r w w') (hn : r < lo) : TabIn lo w' v T := h.sm K.size (fun b h1 h2 => K.sm h2 (by omega))
theorem RowIn.mono {lo lo' : Nat} {w : World} {a : Option Addr} {n : Nat} {X : Nat → Int} (h : RowIn lo w a n X) (hl : lo' ≤ lo) : RowIn lo' w a n X := by
  rcases h with h | ⟨b, o, e, h1, h2, h3⟩
  · exact .inl h
  · exact .inr ⟨b, o, e, by omega, h2, h3⟩
theorem TabIn.mono {lo lo' : Nat} {w : World} {v : Value} {T : TV} (h : TabIn lo w v T) (hl : lo' ≤ lo) : TabIn lo' w v T := by
  obtain ⟨aS, kS, aA, kA, e, h1, h2⟩ := h
  exact ⟨aS, kS, aA, kA, e, h1.mono hl, h2.mono hl⟩
theorem RowIn.row {lo : Nat} {w : World} {a : Option Addr} {n : Nat} {X : Nat → Int} (h : RowIn lo w a n X) : Row1 w a n X := by
  rcases h with h | ⟨b, o, e, h1, h2, h3⟩
  · exact .inl h
  · exact .inr ⟨b, o, e, h2, h3⟩
theorem TabIn.at {lo : Nat} {w : World} {v : Value} {T : TV} (h : TabIn lo w v T) : TabAt w v T := by
  obtain ⟨aS, kS, aA, kA, e, h1, h2⟩ := h
  exact ⟨aS, kS, aA, kA, e, h1.row, h2.row⟩
theorem RI.rowIn {lo hi : Nat} {w : World} {v : Value} {n : Nat} {X : Nat → Int} {g : Nat} (h : RI lo hi w v n X g) : ∃ a c, v = .slice a n c ∧ RowIn lo w a n X := by
  rcases h with ⟨rfl, a, c, rfl⟩ | ⟨c, rfl, h1, h2, h3, h4⟩
  · exact ⟨a, c, rfl, .inl rfl⟩
  · exact ⟨_, c, rfl, .inr ⟨g, 0, rfl, h1, by omega, fun k hk => by rw [Nat.zero_add]; exact h4.2 k hk⟩⟩
theorem OwnT.tabIn {lo hi : Nat} {w : World} {v : Value} {T : TV} (h : OwnT lo hi w v T) : TabIn lo w v T := by
  obtain ⟨v0, v1, g0, g1, rfl, h1, h2, _⟩ := h
  obtain ⟨a, c, rfl, r1⟩ := h1.rowIn
  obtain ⟨b, d, rfl, r2⟩ := h2.rowIn
  exact ⟨a, c, b, d, rfl, r1, r2⟩
theorem maOk_any (w : World) : Calls Try.prog 10 #[] w fun e w' => e = .returned (.bool true) ∧ Below w.heap.size w w' := by
  have hok : okB 2 2 = true := by decide
  have hcon := ok_impl 2 2 w
  rw [hok] at hcon
  clear hok
  go_enter Try.func10, Try.ntmps10
  go_wp2_with (go_at_call 21; refine hcon.mono ?_; rintro e w' ⟨rfl, hb⟩)
  go_ret
  exact ⟨rfl, hb⟩
end Go.Proofs.Ytodmfbbicdbjdaa
