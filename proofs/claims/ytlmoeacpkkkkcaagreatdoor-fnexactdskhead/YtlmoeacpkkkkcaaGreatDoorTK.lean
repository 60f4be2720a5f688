/- readOpening of the program; conditions: those typed. -/
import Derived.Test.YtlmoeacpkkkkcaaGreatDoorTJ
import Derived.Test.YtlmoeacpkkkkcaaGreatDoorTX
import Derived.OwnWalk
namespace Go.Proofs.YtlmoeacpkkkkcaaGreatDoor
open Go.RowKit Go.Deep
set_option linter.unusedVariables false
set_option maxRecDepth 100000
/-- Of n lines the first one that is wrong, or is not there, is the one at k. -/
def Stop (X : Nat → ByteArray) (n k : Nat) : Prop := k < max n 2 ∧ (∀ j, j < k → j < n ∧ good X j) ∧ (n ≤ k ∨ ¬ good X k)
/-- All n lines are what has to stand there. -/
def AllG (X : Nat → ByteArray) (n : Nat) : Prop := 2 ≤ n ∧ ∀ j, j < n → good X j
theorem stop_one {X : Nat → ByteArray} {n k k' : Nat} (h : Stop X n k) (h' : Stop X n k') : k = k' := by
  rcases Nat.lt_trichotomy k k' with q | q | q
  · have := h'.2.1 k q
    rcases h.2.2 with r | r
    · omega
    · exact absurd this.2 r
  · exact q
  · have := h.2.1 k' q
    rcases h'.2.2 with r | r
    · omega
    · exact absurd this.2 r
theorem stop_all {X : Nat → ByteArray} {n k : Nat} (h : Stop X n k) (h' : AllG X n) : False := by
  rcases h.2.2 with r | r
  · have := h.1; have := h'.1; omega
  · by_cases q : k < n
    · exact r (h'.2 k q)
    · have := h.1; have := h'.1; omega
theorem takeK (X : Nat → ByteArray) (k o base : Nat) (hk : k ≤ 1000) (hl : (X k).size ≤ 1048576) (w : World) (hE : Env w) (hO : Opn X w o base k) (hob : o < base) (hbw : base ≤ w.heap.size) :
    Calls Tryz.prog 27 #[.pointer (some ⟨o, 0, none⟩), .int .i64 (k : Int), .string (X k)] w fun e w' => ((good X k ∧ e = .returned (.bool true) ∧ Opn X w' o base (k + 1)) ∨ (¬ good X k ∧ e = .returned (.bool false))) ∧ Below o w w' := by
  match k, hk, hl, hO with
  | 0, _, hl, hO => exact take0 X o base hl w hE hO hob
  | 1, _, hl, hO => exact take1 X o base hl w hE hO hob
  | k + 2, hk, _, hO => exact takeN X k o base (by omega) w hE hO hob hbw
set_option maxHeartbeats 2000000 in
theorem opening_impl (a : Option Addr) (n cap : Nat) (X : Nat → ByteArray) (hn : n ≤ 400) (hX : ∀ k, k < n → (X k).size ≤ 1048576) (w : World) (hE : Env w) (h : RowS w a n X) :
    Calls Tryz.prog 20 #[.slice a n cap] w fun e w' => ((∃ k, Stop X n k ∧ e = .returned (.tuple #[.agg #[.int .i64 0, .int .i64 0, .int .i64 0, .slice none 0 0], .iface 50 (.agg #[.int .i64 ((k : Int) + 1)])])) ∨ (AllG X n ∧ ∃ sl, e = .returned (.tuple #[.agg #[.int .i64 (hA X), .int .i64 (hB X), .int .i64 (hS X), sl], .nilIface]) ∧ WkR w' (w.heap.size + 2) sl (n - 2) (hZ X))) ∧ Below w.heap.size w w' := by
  have HE := hid hE
  have HR := hid h
  have HX := hid hX
  clear hE h hX
  obtain ⟨m, hm⟩ : ∃ m : Nat, m = max n 2 := ⟨_, rfl⟩
  have hmx : (max (n : Int) 2) = (m : Int) := by omega
  have hm1 : m ≤ 400 := by omega
  have hm2 : n ≤ m := by omega
  have HM := hid hm
  clear hm
  go_enter Tryz.func20, Tryz.ntmps20
  go_wp2_with fail
  obtain ⟨w0, e0⟩ : ∃ y, y = (w.alloc (.cells #[.int .i64 0, .int .i64 0, .int .i64 0, .slice none 0 0] 44)).alloc (.cells #[.int .i64 0, .int .i64 0, .int .i64 0, .slice none 0 0] 44) := ⟨_, rfl⟩
  rw [← e0]
  have HB := hid (show Below w.heap.size w w0 by rw [e0]; exact ((Below.refl _ _).alloc (by simp) _).alloc (by simp) _)
  have HR0 : Hid (Bk w0 w.heap.size [.int .i64 0, .int .i64 0, .int .i64 0, .slice none 0 0]) := by rw [e0]; exact (bk_new w 44 [.int .i64 0, .int .i64 0, .int .i64 0, .slice none 0 0]).below ((Below.refl _ _).alloc (Nat.le_refl _) _)
  have HOp : Hid (Opn X w0 (w.heap.size + 1) (w.heap.size + 2) 0) := by
    rw [e0]
    refine ⟨0, 0, 0, .slice none 0 0, ?_, ⟨by simp, .inl ⟨rfl, rfl⟩⟩, fun h => absurd h (by omega), fun h => absurd h (by omega)⟩
    have := bk_new (w.alloc (.cells #[.int .i64 0, .int .i64 0, .int .i64 0, .slice none 0 0] 44)) 44 [.int .i64 0, .int .i64 0, .int .i64 0, .slice none 0 0]
    rwa [show (w.alloc (.cells #[.int .i64 0, .int .i64 0, .int .i64 0, .slice none 0 0] 44)).heap.size = w.heap.size + 1 by simp] at this
  have hsz0 : w.heap.size + 2 ≤ w0.heap.size := by rw [e0]; simp
  clear e0
  go_loopw [9] (fun i wr => ∃ k : Nat, k ≤ m ∧ .int .i64 k = i ∧ Hid (∀ j, j < k → j < n ∧ good X j) ∧ Hid (Bk wr w.heap.size [.int .i64 0, .int .i64 0, .int .i64 0, .slice none 0 0]) ∧ Hid (Opn X wr (w.heap.size + 1) (w.heap.size + 2) k) ∧ Hid (Below w.heap.size w wr) ∧ w.heap.size + 2 ≤ wr.heap.size) (fun i _ => m - (intOf i).toNat)
  case atStart => exact ⟨0, Nat.zero_le _, rfl, fun _ h => absurd h (by omega), HR0, HOp, HB, hsz0⟩
  case round =>
    clear HB HR0 HOp hsz0
    obtain ⟨k, hk, rfl, hgd, hr, hop, hb, hsz⟩ := hrel
    by_cases hkm : k < m
    · have hkm' : (k : Int) < (m : Int) := by omega
      by_cases hkn : k < n
      · have hge : ¬ (n : Int) ≤ (k : Int) := by omega
        have hlt : (k : Int) < (n : Int) := by omega
        obtain ⟨b, o, rfl, hbb, hrow⟩ : ∃ b o, a = some ⟨b, o, none⟩ ∧ b < w.heap.size ∧ ∀ k, k < n → w.cell? ⟨b, o + k, none⟩ = some (.string (X k)) := by
          rcases HR.out with h | h
          · omega
          · exact h
        have hc : wr.cell? ⟨b, o + k, none⟩ = some (.string (X k)) := (hb.out.cell (p := ⟨b, o + k, none⟩) hbb).trans (hrow k hkn)
        have HT := hid (takeK X k (w.heap.size + 1) (w.heap.size + 2) (by omega) (HX.out k hkn) wr (HE.out.on hb.out) hop.out (by omega) hsz)
        clear hrow
        go_wp2_with fail
        refine HT.out.mono ?_
        rintro e w1 ⟨h, hb1⟩
        have HR1 := hid (hr.out.sm hb1.size (sm_below hb1 (Nat.lt_succ_self _)))
        have HB1 := hid (hb.out.trans (hb1.mono (Nat.le_succ _)))
        have hsz1 : wr.heap.size ≤ w1.heap.size := hb1.size
        clear hb1 hc HT hop hb hr
        rcases h with ⟨hg, rfl, ho⟩ | ⟨hg, rfl⟩
        · have HG := hid hg
          have HO := hid ho
          clear hg ho
          go_wp2
          go_roundw
          case rel => exact ⟨k + 1, by omega, by go_num, fun j hj => (by
            by_cases e : j = k
            · subst e; exact ⟨hkn, HG.out⟩
            · exact hgd.out j (by omega)), HR1, HO, HB1, by omega⟩
          case measure => simp [intOf]; omega
        · have HG := hid hg
          clear hg
          have y0 := (HR1.out.2 0 (by simp)).1
          have z0 := (HR1.out.2 0 (by simp)).2
          have y1 := (HR1.out.2 1 (by simp)).1
          have z1 := (HR1.out.2 1 (by simp)).2
          have y2 := (HR1.out.2 2 (by simp)).1
          have z2 := (HR1.out.2 2 (by simp)).2
          have y3 := (HR1.out.2 3 (by simp)).1
          have z3 := (HR1.out.2 3 (by simp)).2
          simp only [List.getD, List.getElem?_cons_zero, List.getElem?_cons_succ, Option.getD_some] at y0 y1 y2 y3
          have hlr := HR1.out.1
          go_wp2
          refine bodyPost_ret (v := .tuple #[.agg #[.int .i64 0, .int .i64 0, .int .i64 0, .slice none 0 0], .iface 50 (.agg #[.int .i64 ((k : Int) + 1)])]) (by simp [results, Tryz.results20, go_sem, *]) rfl ⟨.inl ⟨k, ⟨HM.out ▸ hkm, hgd.out, .inr HG.out⟩, rfl⟩, ?_⟩
          repeat (first | exact HB1.out | refine Below.setCell ?_ (by first | simp | omega) _)
      · have hge : (n : Int) ≤ (k : Int) := by omega
        have y0 := (hr.out.2 0 (by simp)).1
        have z0 := (hr.out.2 0 (by simp)).2
        have y1 := (hr.out.2 1 (by simp)).1
        have z1 := (hr.out.2 1 (by simp)).2
        have y2 := (hr.out.2 2 (by simp)).1
        have z2 := (hr.out.2 2 (by simp)).2
        have y3 := (hr.out.2 3 (by simp)).1
        have z3 := (hr.out.2 3 (by simp)).2
        simp only [List.getD, List.getElem?_cons_zero, List.getElem?_cons_succ, Option.getD_some] at y0 y1 y2 y3
        have hlr := hr.out.1
        go_wp2
        refine bodyPost_ret (v := .tuple #[.agg #[.int .i64 0, .int .i64 0, .int .i64 0, .slice none 0 0], .iface 50 (.agg #[.int .i64 ((k : Int) + 1)])]) (by simp [results, Tryz.results20, go_sem, *]) rfl ⟨.inl ⟨k, ⟨HM.out ▸ hkm, hgd.out, .inl (by omega)⟩, rfl⟩, ?_⟩
        repeat (first | exact hb.out | refine Below.setCell ?_ (by first | simp | omega) _)
    · obtain rfl : k = m := by omega
      have hm3 : 2 ≤ k := by have := HM.out; omega
      have hnk : n = k := by
        have := (hgd.out (k - 1) (by omega)).1
        omega
      obtain ⟨c, d, s, sl, hOb, hWb, hcd, hss⟩ := hop.out
      obtain ⟨rfl, rfl⟩ := hcd (by omega)
      obtain rfl := hss hm3
      obtain ⟨a0, l0, c0, rfl⟩ := own_shape hWb
      have HW := hid hWb
      have x0 := (hOb.2 0 (by simp)).1
      have x1 := (hOb.2 1 (by simp)).1
      have x2 := (hOb.2 2 (by simp)).1
      have x3 := (hOb.2 3 (by simp)).1
      simp only [List.getD, List.getElem?_cons_zero, List.getElem?_cons_succ, Option.getD_some] at x0 x1 x2 x3
      have hlo := hOb.1
      clear hop hOb hWb hcd hss
      have y0 := (hr.out.2 0 (by simp)).1
      have z0 := (hr.out.2 0 (by simp)).2
      have y1 := (hr.out.2 1 (by simp)).1
      have z1 := (hr.out.2 1 (by simp)).2
      have y2 := (hr.out.2 2 (by simp)).1
      have z2 := (hr.out.2 2 (by simp)).2
      have y3 := (hr.out.2 3 (by simp)).1
      have z3 := (hr.out.2 3 (by simp)).2
      simp only [List.getD, List.getElem?_cons_zero, List.getElem?_cons_succ, Option.getD_some] at y0 y1 y2 y3
      have hlr := hr.out.1
      have hkk : ¬ (k : Int) < (k : Int) := by omega
      go_wp2
      refine bodyPost_ret (v := .tuple #[.agg #[.int .i64 (hA X), .int .i64 (hB X), .int .i64 (hS X), .slice a0 l0 c0], .nilIface]) (by simp [results, Tryz.results20, go_sem, *]) rfl ⟨.inr ⟨⟨by omega, fun j hj => (hgd.out j (by omega)).2⟩, _, rfl, ?_⟩, ?_⟩
      · have hx : ¬ (w.heap.size + 2 = w.heap.size) := by omega
        unfold WkR
        repeat (first | exact HW.out | refine own_far ?_ (by omega))
      · repeat (first | exact hb.out | refine Below.setCell ?_ (by first | simp | omega) _)
end Go.Proofs.YtlmoeacpkkkkcaaGreatDoor
