/- OneOk of the program; conditions: those typed. -/
import Derived.Test.YtoickljpjlhkoaaOW
import Derived.Test.YtoickljpjlhkoaaListOk2
import Derived.Laws.MakeOwn
namespace Go.Proofs.Ytoickljpjlhkoaa
open Go.RowKit Go.Deep
set_option linter.unusedVariables false


def allIn (X : Nat → Int) (m : Int) : Nat → Bool
  | 0 => true
  | k + 1 => allIn X m k && inB (X k) 0 m
theorem allIn_at {X : Nat → Int} {m : Int} {n : Nat} (h : allIn X m n = true) : ∀ k, k < n → inB (X k) 0 m = true := by
  induction n with
  | zero => intro k hk; omega
  | succ n ih =>
    simp only [allIn, Bool.and_eq_true] at h
    intro k hk
    by_cases e : k = n
    · subst e; exact h.2
    · exact ih h.1 k (by omega)
theorem allIn_of {X : Nat → Int} {m : Int} {n : Nat} (h : ∀ k, k < n → inB (X k) 0 m = true) : allIn X m n = true := by
  induction n with
  | zero => rfl
  | succ n ih => simp only [allIn, Bool.and_eq_true]; exact ⟨ih fun k hk => h k (by omega), h n (by omega)⟩
theorem allIn_stop {X : Nat → Int} {m : Int} {n k : Nat} (hk : k < n) (h : inB (X k) 0 m = false) : allIn X m n = false := by
  cases e : allIn X m n with
  | false => rfl
  | true => rw [allIn_at e k hk] at h; cases h
def cntB (X : Nat → Int) (n : Nat) (c m : Int) : Bool := allIn X m n && ((n : Int) == c)
def airB (N : Nat → Nat) (A : Nat → Nat → Int) : Nat → Bool
  | 0 => true
  | k + 1 => airB N A k && cntB (A k) (N k) 2 100000
theorem airB_at {N : Nat → Nat} {A : Nat → Nat → Int} {n : Nat} (h : airB N A n = true) : ∀ k, k < n → cntB (A k) (N k) 2 100000 = true := by
  induction n with
  | zero => intro k hk; omega
  | succ n ih =>
    simp only [airB, Bool.and_eq_true] at h
    intro k hk
    by_cases e : k = n
    · subst e; exact h.2
    · exact ih h.1 k (by omega)
theorem airB_of {N : Nat → Nat} {A : Nat → Nat → Int} {n : Nat} (h : ∀ k, k < n → cntB (A k) (N k) 2 100000 = true) : airB N A n = true := by
  induction n with
  | zero => rfl
  | succ n ih => simp only [airB, Bool.and_eq_true]; exact ⟨ih fun k hk => h k (by omega), h n (by omega)⟩
theorem airB_stop {N : Nat → Nat} {A : Nat → Nat → Int} {n k : Nat} (hk : k < n) (h : cntB (A k) (N k) 2 100000 = false) : airB N A n = false := by
  cases e : airB N A n with
  | false => rfl
  | true => rw [airB_at e k hk] at h; cases h
/-- The one world is ok. -/
def OV.ok (V : OV) : Bool := okB V.c V.d && (cntB V.G V.nG V.c 900 && ((airB V.N V.A V.nA && ((V.nA : Int) == V.c)) && allB V.c V.d V.W V.nW))

set_option maxHeartbeats 1000000 in
theorem counts_impl (a : Option Addr) (n cap : Nat) (X : Nat → Int) (c m : Int) (hn : n ≤ 2000000) (w : World) (h : Row1 w a n X) :
    Calls Try.prog 31 #[.slice a n cap, .int .i64 c, .int .i64 m] w fun e w' => e = .returned (.bool (cntB X n c m)) ∧ Below w.heap.size w w' := by
  have H1 : Hid (Row1 w a n X) := h
  clear h
  go_enter Try.func31, Try.ntmps31
  go_wp2
  go_loopw [11] (fun i wr => ∃ k : Nat, k ≤ n ∧ i = .int .i64 k ∧ allIn X m k = true ∧ Below w.heap.size w wr) (fun i _ => n - (intOf i).toNat)
  case atStart => exact ⟨0, Nat.zero_le _, rfl, rfl, Below.refl _ _⟩
  case round =>
    obtain ⟨k, hk, rfl, hall, hbel⟩ := hrel
    have HA : Hid (allIn X m k = true) := hall
    clear hall
    by_cases hkn : k < n
    · have hkn' : (k : Int) < n := by omega
      obtain ⟨b1, o1, rfl, hb1, hr1⟩ : ∃ b o, a = some ⟨b, o, none⟩ ∧ b < w.heap.size ∧ ∀ k, k < n → w.cell? ⟨b, o + k, none⟩ = some (.int .i64 (X k)) := by
        rcases H1.out with h | h
        · omega
        · exact h
      have d1 : wr.cell? ⟨b1, o1 + k, none⟩ = some (.int .i64 (X k)) := (hbel.cell (p := ⟨b1, o1 + k, none⟩) hb1).trans (hr1 k hkn)
      clear hr1
      go_wp2_with fail
      refine (in_impl _ _ _ _).mono ?_
      rintro e w1 ⟨rfl, rfl⟩
      cases hq : inB (X k) 0 m
      · go_wp2
        go_ret
        exact ⟨by rw [cntB, allIn_stop hkn hq]; rfl, hbel⟩
      · go_wp2
        go_roundw
        case rel => exact ⟨k + 1, by omega, by go_num, by simp [allIn, HA.out, hq], hbel⟩
        case measure => simp [intOf]; omega
    · have : k = n := by omega
      subst this
      go_wp2
      go_ret
      exact ⟨by rw [cntB, HA.out]; simp, hbel⟩

set_option maxHeartbeats 2000000 in
theorem air_impl (v : Value) (V : OV) (hs : V.short 2000000) (w : World) (h : OneAt w v V) :
    Calls Try.prog 32 #[v] w fun e w' => e = .returned (.bool (airB V.N V.A V.nA && ((V.nA : Int) == V.c))) ∧ Below w.heap.size w w' := by
  obtain ⟨aW, kW, aG, kG, aA, kA, rfl, rW, rG, rA⟩ := h
  obtain ⟨c, d, nW, Z, nG, G, nA, N, O⟩ := V
  simp only at rA
  obtain ⟨sW, sG, sA, sN⟩ := hs
  simp only at sW sG sA sN
  have HA : Hid (RowO w aA nA N O) := rA
  have HN : Hid (∀ k, k < nA → N k ≤ 2000000) := sN
  clear rW rG rA sN sW sG
  simp only
  go_enter Try.func32, Try.ntmps32
  go_wp2_with fail
  obtain ⟨w0, e0⟩ : ∃ w0, w0 = w.alloc (.cells #[.int .i64 c, .int .i64 d, .slice aW nW kW, .slice aG nG kG, .slice aA nA kA] 34) := ⟨_, rfl⟩
  have B1 : Hid (Below w.heap.size w w0) := by rw [e0]; exact (Below.refl _ _).alloc (by simp) _
  have A2 : Hid (Bk w0 w.heap.size [.int .i64 c, .int .i64 d, .slice aW nW kW, .slice aG nG kG, .slice aA nA kA]) := by rw [e0]; exact bk_new w 34 [.int .i64 c, .int .i64 d, .slice aW nW kW, .slice aG nG kG, .slice aA nA kA]
  rw [← e0]
  clear e0
  go_loopw [8] (fun i wr => ∃ k : Nat, k ≤ nA ∧ i = .int .i64 k ∧ airB N O k = true ∧ Below w.heap.size w wr ∧ Bk wr w.heap.size [.int .i64 c, .int .i64 d, .slice aW nW kW, .slice aG nG kG, .slice aA nA kA]) (fun i _ => nA - (intOf i).toNat)
  case atStart => exact ⟨0, Nat.zero_le _, rfl, rfl, B1.out, A2.out⟩
  case round =>
    clear B1 A2
    obtain ⟨k, hk, rfl, hall, hbel, hbox⟩ := hrel
    have HL : Hid (airB N O k = true) := hall
    clear hall
    have B3 : Hid (Below w.heap.size w wr) := hbel
    have A4 : Hid (Bk wr w.heap.size [.int .i64 c, .int .i64 d, .slice aW nW kW, .slice aG nG kG, .slice aA nA kA]) := hbox
    clear hbel hbox
    by_cases hkn : k < nA
    · have hkn' : (k : Int) < nA := by omega
      obtain ⟨b1, o1, rfl, hb1, hr1⟩ : ∃ b o, aA = some ⟨b, o, none⟩ ∧ b < w.heap.size ∧ ∀ k, k < nA → ∃ x c, w.cell? ⟨b, o + k, none⟩ = some (.slice x (N k) c) ∧ Row1 w x (N k) (O k) := by
        rcases HA.out with h | h
        · omega
        · exact h
      obtain ⟨xa, xc, hc, hx⟩ := hr1 k hkn
      have hc1 : wr.cell? ⟨b1, o1 + k, none⟩ = some (.slice xa (N k) xc) := (B3.out.cell (p := ⟨b1, o1 + k, none⟩) hb1).trans hc
      have HX : Hid (Row1 wr xa (N k) (O k)) := row1_keep hx (keepS ⟨fun _ _ _ => rfl, Nat.le_refl _⟩ B3.out)
      clear hr1 hc hx
      have yA0 : wr.cell? ⟨w.heap.size, 0, none⟩ = some (.int .i64 c) := (A4.out.2 0 (by simp)).1
      have yA1 : wr.cell? ⟨w.heap.size, 1, none⟩ = some (.int .i64 d) := (A4.out.2 1 (by simp)).1
      have yA2 : wr.cell? ⟨w.heap.size, 2, none⟩ = some (.slice aW nW kW) := (A4.out.2 2 (by simp)).1
      have yA3 : wr.cell? ⟨w.heap.size, 3, none⟩ = some (.slice aG nG kG) := (A4.out.2 3 (by simp)).1
      have yA4 : wr.cell? ⟨w.heap.size, 4, none⟩ = some (.slice (some ⟨b1, o1, none⟩) nA kA) := (A4.out.2 4 (by simp)).1
      have hlA : w.heap.size < wr.heap.size := A4.out.1
      go_wp2_with fail
      refine (counts_impl xa (N k) xc (O k) 2 100000 (HN.out k hkn) _ HX.out).mono ?_
      rintro e w1 ⟨rfl, hb1'⟩
      clear yA0 yA1 yA2 yA3 yA4 hlA
      have B5 : Hid (Below w.heap.size w w1) := bthen B3.out hb1'
      have A5 : Hid (Bk w1 w.heap.size [.int .i64 c, .int .i64 d, .slice aW nW kW, .slice aG nG kG, .slice (some ⟨b1, o1, none⟩) nA kA]) := A4.out.below hb1'
      clear B3 A4
      clear hb1' hc1 HX
      have yA0 : w1.cell? ⟨w.heap.size, 0, none⟩ = some (.int .i64 c) := (A5.out.2 0 (by simp)).1
      have yA1 : w1.cell? ⟨w.heap.size, 1, none⟩ = some (.int .i64 d) := (A5.out.2 1 (by simp)).1
      have yA2 : w1.cell? ⟨w.heap.size, 2, none⟩ = some (.slice aW nW kW) := (A5.out.2 2 (by simp)).1
      have yA3 : w1.cell? ⟨w.heap.size, 3, none⟩ = some (.slice aG nG kG) := (A5.out.2 3 (by simp)).1
      have yA4 : w1.cell? ⟨w.heap.size, 4, none⟩ = some (.slice (some ⟨b1, o1, none⟩) nA kA) := (A5.out.2 4 (by simp)).1
      have hlA : w.heap.size < w1.heap.size := A5.out.1
      cases hq : cntB (O k) (N k) 2 100000
      · go_wp2
        go_ret
        exact ⟨by rw [airB_stop hkn hq]; rfl, B5.out⟩
      · go_wp2
        go_roundw
        case rel => exact ⟨k + 1, by omega, by go_num, by simp [airB, HL.out, hq], B5.out, A5.out⟩
        case measure => simp [intOf]; omega
    · have : k = nA := by omega
      subst this
      have yA0 : wr.cell? ⟨w.heap.size, 0, none⟩ = some (.int .i64 c) := (A4.out.2 0 (by simp)).1
      have yA1 : wr.cell? ⟨w.heap.size, 1, none⟩ = some (.int .i64 d) := (A4.out.2 1 (by simp)).1
      have yA2 : wr.cell? ⟨w.heap.size, 2, none⟩ = some (.slice aW nW kW) := (A4.out.2 2 (by simp)).1
      have yA3 : wr.cell? ⟨w.heap.size, 3, none⟩ = some (.slice aG nG kG) := (A4.out.2 3 (by simp)).1
      have yA4 : wr.cell? ⟨w.heap.size, 4, none⟩ = some (.slice aA k kA) := (A4.out.2 4 (by simp)).1
      have hlA : w.heap.size < wr.heap.size := A4.out.1
      go_wp2
      go_ret
      exact ⟨by rw [HL.out]; simp, B3.out⟩

theorem info_parts {t : TypeId} {z : Value} {s b : Nat} (h : (Try.prog.info? t).map (fun i => (i.zero, i.size, i.bytes)) = some (some z, s, b)) : ∃ i, Try.prog.info? t = some i ∧ i.zero = some z ∧ i.size = s ∧ i.bytes = b := by
  obtain ⟨i, hi, hzz⟩ := Option.map_eq_some_iff.1 h
  simp only [Prod.mk.injEq] at hzz
  exact ⟨i, hi, hzz.1, hzz.2.1, hzz.2.2⟩
def five5 (Z : Nat → Nat → Int) (k : Nat) : List Value := [.int .i64 (Z k 0), .int .i64 (Z k 1), .int .i64 (Z k 2), .int .i64 (Z k 3), .int .i64 (Z k 4)]
theorem r5_of_own {w : World} {base n : Nat} {v : Value} {Z : Nat → Nat → Int} (h : w.ownsRow base 50 5 v n ((List.range n).flatMap (five5 Z))) : ∃ a c, v = .slice a n c ∧ (n = 0 ∨ ∃ g, a = some ⟨g, 0, none⟩ ∧ g < w.heap.size ∧ ∀ k j, k < n → j < 5 → w.cell? ⟨g, 0 + k * 5 + j, none⟩ = some (.int .i64 (Z k j))) := by
  rcases h.2 with ⟨e, hl⟩ | ⟨g, cap, cur, hv, _⟩
  · subst e; subst hl
    exact ⟨none, 0, rfl, .inl rfl⟩
  · have ho : w.ownsRow base 50 5 (.slice (some ⟨g, 0, none⟩) n cap) n ((List.range n).flatMap (five5 Z)) := by rw [← hv]; exact h
    refine ⟨_, cap, hv, .inr ⟨g, rfl, (ho.lt g rfl).2, fun k j hk hj => ?_⟩⟩
    have hlt : k * 5 + j < n * 5 := by omega
    rw [Nat.zero_add, ho.cellAt (k * 5 + j) hlt, flat_get (five5 Z) (fun _ => rfl) (by decide) n _ hlt, show (k * 5 + j) / 5 = k by omega, show (k * 5 + j) % 5 = j by omega]
    match j, hj with
    | 0, _ => rfl
    | 1, _ => rfl
    | 2, _ => rfl
    | 3, _ => rfl
    | 4, _ => rfl
    | j + 5, hj => omega
theorem r5_below {w w' : World} {a : Option Addr} {n : Nat} {Z : Nat → Nat → Int} (h : n = 0 ∨ ∃ g, a = some ⟨g, 0, none⟩ ∧ g < w.heap.size ∧ ∀ k j, k < n → j < 5 → w.cell? ⟨g, 0 + k * 5 + j, none⟩ = some (.int .i64 (Z k j))) (hb : Below w.heap.size w w') :
    n = 0 ∨ ∃ g, a = some ⟨g, 0, none⟩ ∧ g < w'.heap.size ∧ ∀ k j, k < n → j < 5 → w'.cell? ⟨g, 0 + k * 5 + j, none⟩ = some (.int .i64 (Z k j)) := by
  rcases h with h | ⟨g, e, hg, hr⟩
  · exact .inl h
  · exact .inr ⟨g, e, Nat.lt_of_lt_of_le hg hb.size, fun k j hk hj => (hb.cell (p := ⟨g, _, none⟩) hg).trans (hr k j hk hj)⟩
theorem gb {w w' : World} (h : Below w.heap.size w w') : w.grownBy w' none := ⟨h.os, h.tape, h.output, h.size, fun k hk _ => h.block k hk⟩

set_option maxHeartbeats 2000000 in
theorem plain_impl (a : Option Addr) (n cap : Nat) (Z : Nat → Nat → Int) (hn : n ≤ 1048576) (w : World) (h : P6.RowK w a n Z) :
    Calls Try.prog 34 #[.slice a n cap] w fun e w' => (∃ a' c, e = .returned (.slice a' n c) ∧ (n = 0 ∨ ∃ g, a' = some ⟨g, 0, none⟩ ∧ g < w'.heap.size ∧ ∀ k j, k < n → j < 5 → w'.cell? ⟨g, 0 + k * 5 + j, none⟩ = some (.int .i64 (Z k j)))) ∧ Below w.heap.size w w' := by
  have HR : Hid (P6.RowK w a n Z) := h
  obtain ⟨i5, hi5, hz50, hz51, hz52⟩ := info_parts Try.info50
  obtain ⟨w1, hmk, hrow1, hg1⟩ := run_make_own (P := Try.prog) w w.heap.size 60 50 i5 _ 5 Try.underlying60 hi5 hz50 hz51 .i64 .i64 n (by rw [hz52]; omega) (by unfold maxLen; omega) (Nat.le_refl _)
  have hb1 : Below w.heap.size w w1 := ⟨hg1.os, hg1.tape, hg1.output, hg1.size, fun k hk => hg1.block k hk (by simp)⟩
  clear h hg1
  go_enter Try.func34, Try.ntmps34
  go_wp2_with fail
  have HR1 : Hid (w1.ownsRow w.heap.size 50 5 (.slice (some ⟨w.heap.size, 0, none⟩) 0 n) 0 []) := hrow1
  have HB1 : Hid (Below w.heap.size w w1) := hb1
  clear hmk hrow1 hb1
  go_loopw [3, 11] (fun s i wr => ∃ (k : Nat) (v : Value), k ≤ n ∧ .int .i64 k = i ∧ v = s ∧ wr.ownsRow w.heap.size 50 5 v k ((List.range k).flatMap (five5 Z)) ∧ Below w.heap.size w wr) (fun _ i _ => n - (intOf i).toNat)
  case atStart => exact ⟨0, _, Nat.zero_le _, rfl, rfl, HR1.out, HB1.out⟩
  case round =>
    obtain ⟨k, v, hk, rfl, rfl, ho, hbel⟩ := hrel
    have HBL : Hid (Below w.heap.size w wr) := hbel
    clear hbel HR1 HB1
    by_cases hkn : k < n
    · have hkn' : (k : Int) < (n : Int) := by omega
      obtain ⟨b, o, rfl, hb, hr⟩ : ∃ b o, a = some ⟨b, o, none⟩ ∧ b < w.heap.size ∧ ∀ k j, k < n → j < 6 → w.cell? ⟨b, o + k * 6 + j, none⟩ = some (P6.cv j (Z k j)) := by
        rcases HR.out with h | h
        · omega
        · exact h
      have c0 : wr.cell? ⟨b, o + k * 6, none⟩ = some (.int .i64 (Z k 0)) := (HBL.out.cell (by exact hb)).trans (hr k 0 hkn (by omega))
      have c1 : wr.cell? ⟨b, o + k * 6 + 1, none⟩ = some (.int .i64 (Z k 1)) := (HBL.out.cell (by exact hb)).trans (hr k 1 hkn (by omega))
      have c2 : wr.cell? ⟨b, o + k * 6 + 2, none⟩ = some (.int .i64 (Z k 2)) := (HBL.out.cell (by exact hb)).trans (hr k 2 hkn (by omega))
      have c3 : wr.cell? ⟨b, o + k * 6 + 3, none⟩ = some (.int .i64 (Z k 3)) := (HBL.out.cell (by exact hb)).trans (hr k 3 hkn (by omega))
      have c4 : wr.cell? ⟨b, o + k * 6 + 4, none⟩ = some (.int .i64 (Z k 4)) := (HBL.out.cell (by exact hb)).trans (hr k 4 hkn (by omega))
      have c5 : wr.cell? ⟨b, o + k * 6 + 5, none⟩ = some (.bool (P6.tr (Z k 5))) := (HBL.out.cell (by exact hb)).trans (hr k 5 hkn (by omega))
      clear hr
      obtain ⟨va, vl, vc, ev⟩ : ∃ a l c, v = .slice a l c := by rcases ho.2 with ⟨e, _⟩ | ⟨g, cap, cur, hv, _⟩; exact ⟨_, _, _, e⟩; exact ⟨_, _, _, hv⟩
      subst ev
      go_wp2_with (at_builtin; refine wpList_append_own _ rfl _ _ 60 rfl w.heap.size 50 i5 (.agg #[.int .i64 0, .int .i64 0, .int .i64 0, .int .i64 0, .int .i64 0]) 5 40 Try.underlying60 hi5 hz50 hz51 hz52 rfl (by decide) _ _ _ rfl ((ho.alloc _).alloc _) ⟨wr.heap.size + 1, 0, none⟩ 1 1 (five5 Z k) rfl rfl ?d1 ?d2 ?d3 ?d4 ?d5 ?_)
      case d1 =>
        have hN := bk_new (wr.alloc (.cells #[.int .i64 (Z k 0), .int .i64 (Z k 1), .int .i64 (Z k 2), .int .i64 (Z k 3), .int .i64 (Z k 4), .bool (P6.tr (Z k 5))] 52)) 50 (five5 Z k)
        rw [show (wr.alloc (.cells #[.int .i64 (Z k 0), .int .i64 (Z k 1), .int .i64 (Z k 2), .int .i64 (Z k 3), .int .i64 (Z k 4), .bool (P6.tr (Z k 5))] 52)).heap.size = wr.heap.size + 1 by simp] at hN
        intro j u hj
        have hj' := (List.getElem?_eq_some_iff.1 hj).1
        rw [add_none, Nat.zero_add]
        exact ((hN.2 j hj').1).trans (by rw [List.getD_eq_getElem?_getD, hj]; rfl)
      case d2 => intro u hu; simp [five5] at hu; rcases hu with rfl | rfl | rfl | rfl | rfl <;> rfl
      case d3 => unfold maxLen; omega
      case d4 => omega
      case d5 => have := HBL.out.size; simp; omega
      · intro v' w5 hown' hgrow hnil
        have hall := ((World.grownBy_alloc wr _ _).trans (World.grownBy_alloc _ _ _)).trans hgrow
        have HO : Hid (w5.ownsRow w.heap.size 50 5 v' (k + 1) ((List.range (k + 1)).flatMap (five5 Z))) := by
          unfold Hid
          rw [List.range_succ, List.flatMap_append]
          simpa using hown'
        have hb5 : Hid (Below w.heap.size w w5) := HBL.out.grown hall HBL.out.size (fun kk e => (ho.lt kk e).1)
        clear hown' hgrow hnil hall ho HBL c0 c1 c2 c3 c4 c5
        go_wp2
        go_roundw
        case rel => exact ⟨k + 1, _, by omega, by go_num, rfl, HO.out, hb5.out⟩
        case measure => simp [intOf]; omega
    · have hkn' : k = n := by omega
      subst hkn'
      obtain ⟨a', c', e, hh⟩ := r5_of_own ho
      subst e
      go_wp2
      go_ret
      exact ⟨⟨a', c', rfl, hh⟩, HBL.out⟩

theorem listOk0 (c d : Int) (a : Option Addr) (cap : Nat) (w : World) :
    Calls Try.prog 33 #[.agg #[.int .i64 c, .int .i64 d], .slice a 0 cap] w fun e w' => e = .returned (.bool true) ∧ Below w.heap.size w w' := by
  go_enter Try.func33, Try.ntmps33
  go_wp2
  refine wp_loop_rounds 1 ?_
  rw [rounds_succ]
  go_wp2
  go_ret
  exact ⟨rfl, (Below.refl _ _).alloc (by simp) _⟩
theorem listOk_any (c d : Int) (a : Option Addr) (n cap : Nat) (Z : Nat → Nat → Int) (hn : n ≤ 1048576) (w : World) (h : n = 0 ∨ ∃ g, a = some ⟨g, 0, none⟩ ∧ g < w.heap.size ∧ ∀ k j, k < n → j < 5 → w.cell? ⟨g, 0 + k * 5 + j, none⟩ = some (.int .i64 (Z k j))) :
    Calls Try.prog 33 #[.agg #[.int .i64 c, .int .i64 d], .slice a n cap] w fun e w' => e = .returned (.bool (allB c d Z n)) ∧ Below w.heap.size w w' := by
  rcases h with rfl | ⟨g, rfl, hg, hr⟩
  · exact listOk0 c d a cap w
  · exact listOk_impl c d g 0 n cap Z hn w hg hr

set_option maxHeartbeats 4000000 in
theorem oneOk_impl (v : Value) (V : OV) (hs : V.short 1048576) (w : World) (h : OneAt w v V) :
    Calls Try.prog 10 #[v] w fun e w' => e = .returned (.bool V.ok) ∧ Below w.heap.size w w' := by
  obtain ⟨aW, kW, aG, kG, aA, kA, rfl, rW, rG, rA⟩ := h
  obtain ⟨c, d, nW, Z, nG, G, nA, N, O⟩ := V
  simp only at rW rG rA
  have HO : Hid (OneAt w (.agg #[.int .i64 c, .int .i64 d, .slice aW nW kW, .slice aG nG kG, .slice aA nA kA]) ⟨c, d, nW, Z, nG, G, nA, N, O⟩) := ⟨aW, kW, aG, kG, aA, kA, rfl, rW, rG, rA⟩
  obtain ⟨sW, sG, sA, sN⟩ := hs
  simp only at sW sG sA sN
  have HW : Hid (P6.RowK w aW nW Z) := rW
  have HG : Hid (Row1 w aG nG G) := rG
  have HN : Hid (∀ k, k < nA → N k ≤ 2000000) := fun k hk => by have := sN k hk; omega
  clear rW rG rA sN
  have hv : OV.ok ⟨c, d, nW, Z, nG, G, nA, N, O⟩ = (okB c d && (cntB G nG c 900 && ((airB N O nA && ((nA : Int) == c)) && allB c d Z nW))) := rfl
  cases h1 : okB c d
  · rw [h1] at hv
    replace hv : OV.ok ⟨c, d, nW, Z, nG, G, nA, N, O⟩ = false := by rw [hv]; simp
    go_enter Try.func10, Try.ntmps10
    go_wp2_with fail
    obtain ⟨w0, e0⟩ : ∃ w0, w0 = w.alloc (.cells #[.int .i64 c, .int .i64 d, .slice aW nW kW, .slice aG nG kG, .slice aA nA kA] 34) := ⟨_, rfl⟩
    have B1 : Hid (Below w.heap.size w w0) := by rw [e0]; exact (Below.refl _ _).alloc (by simp) _
    have A2 : Hid (Bk w0 w.heap.size [.int .i64 c, .int .i64 d, .slice aW nW kW, .slice aG nG kG, .slice aA nA kA]) := by rw [e0]; exact bk_new w 34 [.int .i64 c, .int .i64 d, .slice aW nW kW, .slice aG nG kG, .slice aA nA kA]
    rw [← e0]
    clear e0
    have yA0 : w0.cell? ⟨w.heap.size, 0, none⟩ = some (.int .i64 c) := (A2.out.2 0 (by simp)).1
    have yA1 : w0.cell? ⟨w.heap.size, 1, none⟩ = some (.int .i64 d) := (A2.out.2 1 (by simp)).1
    have yA2 : w0.cell? ⟨w.heap.size, 2, none⟩ = some (.slice aW nW kW) := (A2.out.2 2 (by simp)).1
    have yA3 : w0.cell? ⟨w.heap.size, 3, none⟩ = some (.slice aG nG kG) := (A2.out.2 3 (by simp)).1
    have yA4 : w0.cell? ⟨w.heap.size, 4, none⟩ = some (.slice aA nA kA) := (A2.out.2 4 (by simp)).1
    have hlA : w.heap.size < w0.heap.size := A2.out.1
    refine wp_region_held_drew (S := fun w' => (∀ b o, b < w0.heap.size → w'.cell? ⟨b, o, none⟩ = w0.cell? ⟨b, o, none⟩) ∧ w0.heap.size ≤ w'.heap.size) (by kernel_rfl) ⟨fun _ _ _ => rfl, Nat.le_refl _⟩ ?_
    intro hHeld
    refine wpAnyH_take (i := 0) (v := .pointer (some ⟨w.heap.size, 0, none⟩)) rfl (by kernel_rfl) (by kernel_rfl) (by kernel_rfl) (fun _ _ _ h => h) (Or.inl ⟨by rfl, ?_⟩) (by assumption) ?_
    · intro wx hSw; go_simp
    try simp only [Act.put, List.setIfInBounds_toArray, List.set_cons_zero, List.set_cons_succ, List.getElem_toArray, List.getElem_cons_zero]
    refine wpAnyH_take (i := 1) (v := .agg #[.int .i64 c, .int .i64 d]) rfl (by kernel_rfl) (by kernel_rfl) (by kernel_rfl) (fun _ _ _ h => h) (Or.inl ⟨by rfl, ?_⟩) (by assumption) ?_
    · intro wx hSw; go_simp
    try simp only [Act.put, List.setIfInBounds_toArray, List.set_cons_zero, List.set_cons_succ, List.getElem_toArray, List.getElem_cons_zero, List.getElem_cons_succ]
    refine wpAnyH_ready (rs := [2]) (by kernel_rfl) (by simp) ?_
    refine AllReadyH.cons rfl (fun K hK => ?_) AllReadyH.nil
    go_simp
    go_wp2_with fail
    refine (ok_impl _ _ _).mono ?_
    rintro e w1 ⟨rfl, hb1⟩
    rw [h1]
    refine hK.out _ _ (keepS (by assumption) hb1) (fun hNew => ?_)
    clear hK K hHeld
    have hHeld := hNew
    clear hNew
    try simp only [Act.put, List.setIfInBounds_toArray, List.set_cons_zero, List.set_cons_succ, List.getElem_toArray, List.getElem_cons_zero, List.getElem_cons_succ]
    refine wpAnyH_take (i := 3) (v := .bool false) rfl (by kernel_rfl) (by kernel_rfl) (by kernel_rfl) (fun _ _ _ h => h) (Or.inl ⟨by rfl, ?_⟩) (by assumption) ?_
    · intro wx hSw; go_simp
    try simp only [Act.put, List.setIfInBounds_toArray, List.set_cons_zero, List.set_cons_succ, List.getElem_toArray, List.getElem_cons_zero, List.getElem_cons_succ]
    refine wpAnyH_take (i := 4) (v := undef) rfl (by kernel_rfl) (by kernel_rfl) (by kernel_rfl) (fun _ _ _ h => h) (Or.inr ⟨by rfl, rfl⟩) (by assumption) ?_
    try simp only [Act.put, List.setIfInBounds_toArray, List.set_cons_zero, List.set_cons_succ, List.getElem_toArray, List.getElem_cons_zero, List.getElem_cons_succ]
    refine wpAnyH_take (i := 5) (v := undef) rfl (by kernel_rfl) (by kernel_rfl) (by kernel_rfl) (fun _ _ _ h => h) (Or.inr ⟨by rfl, rfl⟩) (by assumption) ?_
    try simp only [Act.put, List.setIfInBounds_toArray, List.set_cons_zero, List.set_cons_succ, List.getElem_toArray, List.getElem_cons_zero, List.getElem_cons_succ]
    refine wpAnyH_take (i := 6) (v := undef) rfl (by kernel_rfl) (by kernel_rfl) (by kernel_rfl) (fun _ _ _ h => h) (Or.inr ⟨by rfl, rfl⟩) (by assumption) ?_
    try simp only [Act.put, List.setIfInBounds_toArray, List.set_cons_zero, List.set_cons_succ, List.getElem_toArray, List.getElem_cons_zero, List.getElem_cons_succ]
    refine wpAnyH_take (i := 7) (v := undef) rfl (by kernel_rfl) (by kernel_rfl) (by kernel_rfl) (fun _ _ _ h => h) (Or.inr ⟨by rfl, rfl⟩) (by assumption) ?_
    try simp only [Act.put, List.setIfInBounds_toArray, List.set_cons_zero, List.set_cons_succ, List.getElem_toArray, List.getElem_cons_zero, List.getElem_cons_succ]
    refine wpAnyH_take (i := 8) (v := undef) rfl (by kernel_rfl) (by kernel_rfl) (by kernel_rfl) (fun _ _ _ h => h) (Or.inr ⟨by rfl, rfl⟩) (by assumption) ?_
    try simp only [Act.put, List.setIfInBounds_toArray, List.set_cons_zero, List.set_cons_succ, List.getElem_toArray, List.getElem_cons_zero, List.getElem_cons_succ]
    refine wpAnyH_take (i := 9) (v := undef) rfl (by kernel_rfl) (by kernel_rfl) (by kernel_rfl) (fun _ _ _ h => h) (Or.inr ⟨by rfl, rfl⟩) (by assumption) ?_
    try simp only [Act.put, List.setIfInBounds_toArray, List.set_cons_zero, List.set_cons_succ, List.getElem_toArray, List.getElem_cons_zero, List.getElem_cons_succ]
    refine wpAnyH_take (i := 10) (v := .bool false) rfl (by kernel_rfl) (by kernel_rfl) (by kernel_rfl) (fun _ _ _ h => h) (Or.inl ⟨by rfl, ?_⟩) (by assumption) ?_
    · intro wx hSw; go_simp
    try simp only [Act.put, List.setIfInBounds_toArray, List.set_cons_zero, List.set_cons_succ, List.getElem_toArray, List.getElem_cons_zero, List.getElem_cons_succ]
    refine wpAnyH_take (i := 11) (v := .bool false) rfl (by kernel_rfl) (by kernel_rfl) (by kernel_rfl) (fun _ _ _ h => h) (Or.inl ⟨by rfl, ?_⟩) (by assumption) ?_
    · intro wx hSw; go_simp
    try simp only [Act.put, List.setIfInBounds_toArray, List.set_cons_zero, List.set_cons_succ, List.getElem_toArray, List.getElem_cons_zero, List.getElem_cons_succ]
    refine wpAnyH_take (i := 12) (v := undef) rfl (by kernel_rfl) (by kernel_rfl) (by kernel_rfl) (fun _ _ _ h => h) (Or.inr ⟨by rfl, rfl⟩) (by assumption) ?_
    try simp only [Act.put, List.setIfInBounds_toArray, List.set_cons_zero, List.set_cons_succ, List.getElem_toArray, List.getElem_cons_zero, List.getElem_cons_succ]
    refine wpAnyH_take (i := 13) (v := undef) rfl (by kernel_rfl) (by kernel_rfl) (by kernel_rfl) (fun _ _ _ h => h) (Or.inr ⟨by rfl, rfl⟩) (by assumption) ?_
    try simp only [Act.put, List.setIfInBounds_toArray, List.set_cons_zero, List.set_cons_succ, List.getElem_toArray, List.getElem_cons_zero, List.getElem_cons_succ]
    refine wpAnyH_take (i := 14) (v := .bool false) rfl (by kernel_rfl) (by kernel_rfl) (by kernel_rfl) (fun _ _ _ h => h) (Or.inl ⟨by rfl, ?_⟩) (by assumption) ?_
    · intro wx hSw; go_simp
    try simp only [Act.put, List.setIfInBounds_toArray, List.set_cons_zero, List.set_cons_succ, List.getElem_toArray, List.getElem_cons_zero, List.getElem_cons_succ]
    refine wpAnyH_take (i := 15) (v := .bool false) rfl (by kernel_rfl) (by kernel_rfl) (by kernel_rfl) (fun _ _ _ h => h) (Or.inl ⟨by rfl, ?_⟩) (by assumption) ?_
    · intro wx hSw; go_simp
    try simp only [Act.put, List.setIfInBounds_toArray, List.set_cons_zero, List.set_cons_succ, List.getElem_toArray, List.getElem_cons_zero, List.getElem_cons_succ]
    refine wpAnyH_take (i := 16) (v := undef) rfl (by kernel_rfl) (by kernel_rfl) (by kernel_rfl) (fun _ _ _ h => h) (Or.inr ⟨by rfl, rfl⟩) (by assumption) ?_
    try simp only [Act.put, List.setIfInBounds_toArray, List.set_cons_zero, List.set_cons_succ, List.getElem_toArray, List.getElem_cons_zero, List.getElem_cons_succ]
    refine wpAnyH_take (i := 17) (v := undef) rfl (by kernel_rfl) (by kernel_rfl) (by kernel_rfl) (fun _ _ _ h => h) (Or.inr ⟨by rfl, rfl⟩) (by assumption) ?_
    try simp only [Act.put, List.setIfInBounds_toArray, List.set_cons_zero, List.set_cons_succ, List.getElem_toArray, List.getElem_cons_zero, List.getElem_cons_succ]
    refine wpAnyH_take (i := 18) (v := undef) rfl (by kernel_rfl) (by kernel_rfl) (by kernel_rfl) (fun _ _ _ h => h) (Or.inr ⟨by rfl, rfl⟩) (by assumption) ?_
    try simp only [Act.put, List.setIfInBounds_toArray, List.set_cons_zero, List.set_cons_succ, List.getElem_toArray, List.getElem_cons_zero, List.getElem_cons_succ]
    refine wpAnyH_take (i := 19) (v := undef) rfl (by kernel_rfl) (by kernel_rfl) (by kernel_rfl) (fun _ _ _ h => h) (Or.inr ⟨by rfl, rfl⟩) (by assumption) ?_
    try simp only [Act.put, List.setIfInBounds_toArray, List.set_cons_zero, List.set_cons_succ, List.getElem_toArray, List.getElem_cons_zero, List.getElem_cons_succ]
    refine wpAnyH_take (i := 20) (v := undef) rfl (by kernel_rfl) (by kernel_rfl) (by kernel_rfl) (fun _ _ _ h => h) (Or.inr ⟨by rfl, rfl⟩) (by assumption) ?_
    try simp only [Act.put, List.setIfInBounds_toArray, List.set_cons_zero, List.set_cons_succ, List.getElem_toArray, List.getElem_cons_zero, List.getElem_cons_succ]
    refine wpAnyH_take (i := 21) (v := undef) rfl (by kernel_rfl) (by kernel_rfl) (by kernel_rfl) (fun _ _ _ h => h) (Or.inr ⟨by rfl, rfl⟩) (by assumption) ?_
    try simp only [Act.put, List.setIfInBounds_toArray, List.set_cons_zero, List.set_cons_succ, List.getElem_toArray, List.getElem_cons_zero, List.getElem_cons_succ]
    refine wpAnyH_take (i := 22) (v := .bool false) rfl (by kernel_rfl) (by kernel_rfl) (by kernel_rfl) (fun _ _ _ h => h) (Or.inl ⟨by rfl, ?_⟩) (by assumption) ?_
    · intro wx hSw; go_simp
    try simp only [Act.put, List.setIfInBounds_toArray, List.set_cons_zero, List.set_cons_succ, List.getElem_toArray, List.getElem_cons_zero, List.getElem_cons_succ]
    refine wpAnyH_take (i := 23) (v := .bool false) rfl (by kernel_rfl) (by kernel_rfl) (by kernel_rfl) (fun _ _ _ h => h) (Or.inl ⟨by rfl, ?_⟩) (by assumption) ?_
    · intro wx hSw; go_simp
    try simp only [Act.put, List.setIfInBounds_toArray, List.set_cons_zero, List.set_cons_succ, List.getElem_toArray, List.getElem_cons_zero, List.getElem_cons_succ]
    refine wpAnyH_done (by kernel_rfl) ?_ _
    clear hHeld
    go_wp2
    go_ret
    exact ⟨by rw [hv] <;> rfl, (by repeat (first | exact B1.out | refine bthen ?_ (by assumption) | apply Below.drew))⟩
  rw [h1] at hv
  cases h2 : cntB G nG c 900
  · rw [h2] at hv
    replace hv : OV.ok ⟨c, d, nW, Z, nG, G, nA, N, O⟩ = false := by rw [hv]; simp
    go_enter Try.func10, Try.ntmps10
    go_wp2_with fail
    obtain ⟨w0, e0⟩ : ∃ w0, w0 = w.alloc (.cells #[.int .i64 c, .int .i64 d, .slice aW nW kW, .slice aG nG kG, .slice aA nA kA] 34) := ⟨_, rfl⟩
    have B1 : Hid (Below w.heap.size w w0) := by rw [e0]; exact (Below.refl _ _).alloc (by simp) _
    have A2 : Hid (Bk w0 w.heap.size [.int .i64 c, .int .i64 d, .slice aW nW kW, .slice aG nG kG, .slice aA nA kA]) := by rw [e0]; exact bk_new w 34 [.int .i64 c, .int .i64 d, .slice aW nW kW, .slice aG nG kG, .slice aA nA kA]
    rw [← e0]
    clear e0
    have yA0 : w0.cell? ⟨w.heap.size, 0, none⟩ = some (.int .i64 c) := (A2.out.2 0 (by simp)).1
    have yA1 : w0.cell? ⟨w.heap.size, 1, none⟩ = some (.int .i64 d) := (A2.out.2 1 (by simp)).1
    have yA2 : w0.cell? ⟨w.heap.size, 2, none⟩ = some (.slice aW nW kW) := (A2.out.2 2 (by simp)).1
    have yA3 : w0.cell? ⟨w.heap.size, 3, none⟩ = some (.slice aG nG kG) := (A2.out.2 3 (by simp)).1
    have yA4 : w0.cell? ⟨w.heap.size, 4, none⟩ = some (.slice aA nA kA) := (A2.out.2 4 (by simp)).1
    have hlA : w.heap.size < w0.heap.size := A2.out.1
    refine wp_region_held_drew (S := fun w' => (∀ b o, b < w0.heap.size → w'.cell? ⟨b, o, none⟩ = w0.cell? ⟨b, o, none⟩) ∧ w0.heap.size ≤ w'.heap.size) (by kernel_rfl) ⟨fun _ _ _ => rfl, Nat.le_refl _⟩ ?_
    intro hHeld
    refine wpAnyH_take (i := 0) (v := .pointer (some ⟨w.heap.size, 0, none⟩)) rfl (by kernel_rfl) (by kernel_rfl) (by kernel_rfl) (fun _ _ _ h => h) (Or.inl ⟨by rfl, ?_⟩) (by assumption) ?_
    · intro wx hSw; go_simp
    try simp only [Act.put, List.setIfInBounds_toArray, List.set_cons_zero, List.set_cons_succ, List.getElem_toArray, List.getElem_cons_zero]
    refine wpAnyH_take (i := 1) (v := .agg #[.int .i64 c, .int .i64 d]) rfl (by kernel_rfl) (by kernel_rfl) (by kernel_rfl) (fun _ _ _ h => h) (Or.inl ⟨by rfl, ?_⟩) (by assumption) ?_
    · intro wx hSw; go_simp
    try simp only [Act.put, List.setIfInBounds_toArray, List.set_cons_zero, List.set_cons_succ, List.getElem_toArray, List.getElem_cons_zero, List.getElem_cons_succ]
    refine wpAnyH_ready (rs := [2]) (by kernel_rfl) (by simp) ?_
    refine AllReadyH.cons rfl (fun K hK => ?_) AllReadyH.nil
    go_simp
    go_wp2_with fail
    refine (ok_impl _ _ _).mono ?_
    rintro e w1 ⟨rfl, hb1⟩
    rw [h1]
    refine hK.out _ _ (keepS (by assumption) hb1) (fun hNew => ?_)
    clear hK K hHeld
    have hHeld := hNew
    clear hNew
    try simp only [Act.put, List.setIfInBounds_toArray, List.set_cons_zero, List.set_cons_succ, List.getElem_toArray, List.getElem_cons_zero, List.getElem_cons_succ]
    refine wpAnyH_take (i := 3) (v := .bool true) rfl (by kernel_rfl) (by kernel_rfl) (by kernel_rfl) (fun _ _ _ h => h) (Or.inl ⟨by rfl, ?_⟩) (by assumption) ?_
    · intro wx hSw; go_simp
    try simp only [Act.put, List.setIfInBounds_toArray, List.set_cons_zero, List.set_cons_succ, List.getElem_toArray, List.getElem_cons_zero, List.getElem_cons_succ]
    refine wpAnyH_take (i := 4) (v := .pointer (some ⟨w.heap.size, 3, none⟩)) rfl (by kernel_rfl) (by kernel_rfl) (by kernel_rfl) (fun _ _ _ h => h) (Or.inl ⟨by rfl, ?_⟩) (by assumption) ?_
    · intro wx hSw; go_simp
    try simp only [Act.put, List.setIfInBounds_toArray, List.set_cons_zero, List.set_cons_succ, List.getElem_toArray, List.getElem_cons_zero, List.getElem_cons_succ]
    refine wpAnyH_take (i := 5) (v := .slice aG nG kG) rfl (by kernel_rfl) (by kernel_rfl) (by kernel_rfl) (fun _ _ _ h => h) (Or.inl ⟨by rfl, ?_⟩) (by assumption) ?_
    · intro wx hSw; go_simp
    try simp only [Act.put, List.setIfInBounds_toArray, List.set_cons_zero, List.set_cons_succ, List.getElem_toArray, List.getElem_cons_zero, List.getElem_cons_succ]
    refine wpAnyH_take (i := 6) (v := .pointer (some ⟨w.heap.size, 0, none⟩)) rfl (by kernel_rfl) (by kernel_rfl) (by kernel_rfl) (fun _ _ _ h => h) (Or.inl ⟨by rfl, ?_⟩) (by assumption) ?_
    · intro wx hSw; go_simp
    try simp only [Act.put, List.setIfInBounds_toArray, List.set_cons_zero, List.set_cons_succ, List.getElem_toArray, List.getElem_cons_zero, List.getElem_cons_succ]
    refine wpAnyH_take (i := 7) (v := .pointer (some ⟨w.heap.size, 0, none⟩)) rfl (by kernel_rfl) (by kernel_rfl) (by kernel_rfl) (fun _ _ _ h => h) (Or.inl ⟨by rfl, ?_⟩) (by assumption) ?_
    · intro wx hSw; go_simp
    try simp only [Act.put, List.setIfInBounds_toArray, List.set_cons_zero, List.set_cons_succ, List.getElem_toArray, List.getElem_cons_zero, List.getElem_cons_succ]
    refine wpAnyH_take (i := 8) (v := .int .i64 c) rfl (by kernel_rfl) (by kernel_rfl) (by kernel_rfl) (fun _ _ _ h => h) (Or.inl ⟨by rfl, ?_⟩) (by assumption) ?_
    · intro wx hSw; go_simp
    try simp only [Act.put, List.setIfInBounds_toArray, List.set_cons_zero, List.set_cons_succ, List.getElem_toArray, List.getElem_cons_zero, List.getElem_cons_succ]
    refine wpAnyH_ready (rs := [9]) (by kernel_rfl) (by simp) ?_
    refine AllReadyH.cons rfl (fun K hK => ?_) AllReadyH.nil
    go_simp
    go_wp2_with fail
    refine (counts_impl aG nG kG G c 900 (by omega) _ (row1_below HG.out (by repeat (first | exact B1.out | refine bthen ?_ (by assumption) | apply Below.drew)))).mono ?_
    rintro e w2 ⟨rfl, hb2⟩
    rw [h2]
    refine hK.out _ _ (keepS (by assumption) hb2) (fun hNew => ?_)
    clear hK K hHeld
    have hHeld := hNew
    clear hNew
    try simp only [Act.put, List.setIfInBounds_toArray, List.set_cons_zero, List.set_cons_succ, List.getElem_toArray, List.getElem_cons_zero, List.getElem_cons_succ]
    refine wpAnyH_take (i := 10) (v := .bool false) rfl (by kernel_rfl) (by kernel_rfl) (by kernel_rfl) (fun _ _ _ h => h) (Or.inl ⟨by rfl, ?_⟩) (by assumption) ?_
    · intro wx hSw; go_simp
    try simp only [Act.put, List.setIfInBounds_toArray, List.set_cons_zero, List.set_cons_succ, List.getElem_toArray, List.getElem_cons_zero, List.getElem_cons_succ]
    refine wpAnyH_take (i := 11) (v := .bool false) rfl (by kernel_rfl) (by kernel_rfl) (by kernel_rfl) (fun _ _ _ h => h) (Or.inl ⟨by rfl, ?_⟩) (by assumption) ?_
    · intro wx hSw; go_simp
    try simp only [Act.put, List.setIfInBounds_toArray, List.set_cons_zero, List.set_cons_succ, List.getElem_toArray, List.getElem_cons_zero, List.getElem_cons_succ]
    refine wpAnyH_take (i := 12) (v := undef) rfl (by kernel_rfl) (by kernel_rfl) (by kernel_rfl) (fun _ _ _ h => h) (Or.inr ⟨by rfl, rfl⟩) (by assumption) ?_
    try simp only [Act.put, List.setIfInBounds_toArray, List.set_cons_zero, List.set_cons_succ, List.getElem_toArray, List.getElem_cons_zero, List.getElem_cons_succ]
    refine wpAnyH_take (i := 13) (v := undef) rfl (by kernel_rfl) (by kernel_rfl) (by kernel_rfl) (fun _ _ _ h => h) (Or.inr ⟨by rfl, rfl⟩) (by assumption) ?_
    try simp only [Act.put, List.setIfInBounds_toArray, List.set_cons_zero, List.set_cons_succ, List.getElem_toArray, List.getElem_cons_zero, List.getElem_cons_succ]
    refine wpAnyH_take (i := 14) (v := .bool false) rfl (by kernel_rfl) (by kernel_rfl) (by kernel_rfl) (fun _ _ _ h => h) (Or.inl ⟨by rfl, ?_⟩) (by assumption) ?_
    · intro wx hSw; go_simp
    try simp only [Act.put, List.setIfInBounds_toArray, List.set_cons_zero, List.set_cons_succ, List.getElem_toArray, List.getElem_cons_zero, List.getElem_cons_succ]
    refine wpAnyH_take (i := 15) (v := .bool false) rfl (by kernel_rfl) (by kernel_rfl) (by kernel_rfl) (fun _ _ _ h => h) (Or.inl ⟨by rfl, ?_⟩) (by assumption) ?_
    · intro wx hSw; go_simp
    try simp only [Act.put, List.setIfInBounds_toArray, List.set_cons_zero, List.set_cons_succ, List.getElem_toArray, List.getElem_cons_zero, List.getElem_cons_succ]
    refine wpAnyH_take (i := 16) (v := undef) rfl (by kernel_rfl) (by kernel_rfl) (by kernel_rfl) (fun _ _ _ h => h) (Or.inr ⟨by rfl, rfl⟩) (by assumption) ?_
    try simp only [Act.put, List.setIfInBounds_toArray, List.set_cons_zero, List.set_cons_succ, List.getElem_toArray, List.getElem_cons_zero, List.getElem_cons_succ]
    refine wpAnyH_take (i := 17) (v := undef) rfl (by kernel_rfl) (by kernel_rfl) (by kernel_rfl) (fun _ _ _ h => h) (Or.inr ⟨by rfl, rfl⟩) (by assumption) ?_
    try simp only [Act.put, List.setIfInBounds_toArray, List.set_cons_zero, List.set_cons_succ, List.getElem_toArray, List.getElem_cons_zero, List.getElem_cons_succ]
    refine wpAnyH_take (i := 18) (v := undef) rfl (by kernel_rfl) (by kernel_rfl) (by kernel_rfl) (fun _ _ _ h => h) (Or.inr ⟨by rfl, rfl⟩) (by assumption) ?_
    try simp only [Act.put, List.setIfInBounds_toArray, List.set_cons_zero, List.set_cons_succ, List.getElem_toArray, List.getElem_cons_zero, List.getElem_cons_succ]
    refine wpAnyH_take (i := 19) (v := undef) rfl (by kernel_rfl) (by kernel_rfl) (by kernel_rfl) (fun _ _ _ h => h) (Or.inr ⟨by rfl, rfl⟩) (by assumption) ?_
    try simp only [Act.put, List.setIfInBounds_toArray, List.set_cons_zero, List.set_cons_succ, List.getElem_toArray, List.getElem_cons_zero, List.getElem_cons_succ]
    refine wpAnyH_take (i := 20) (v := undef) rfl (by kernel_rfl) (by kernel_rfl) (by kernel_rfl) (fun _ _ _ h => h) (Or.inr ⟨by rfl, rfl⟩) (by assumption) ?_
    try simp only [Act.put, List.setIfInBounds_toArray, List.set_cons_zero, List.set_cons_succ, List.getElem_toArray, List.getElem_cons_zero, List.getElem_cons_succ]
    refine wpAnyH_take (i := 21) (v := undef) rfl (by kernel_rfl) (by kernel_rfl) (by kernel_rfl) (fun _ _ _ h => h) (Or.inr ⟨by rfl, rfl⟩) (by assumption) ?_
    try simp only [Act.put, List.setIfInBounds_toArray, List.set_cons_zero, List.set_cons_succ, List.getElem_toArray, List.getElem_cons_zero, List.getElem_cons_succ]
    refine wpAnyH_take (i := 22) (v := .bool false) rfl (by kernel_rfl) (by kernel_rfl) (by kernel_rfl) (fun _ _ _ h => h) (Or.inl ⟨by rfl, ?_⟩) (by assumption) ?_
    · intro wx hSw; go_simp
    try simp only [Act.put, List.setIfInBounds_toArray, List.set_cons_zero, List.set_cons_succ, List.getElem_toArray, List.getElem_cons_zero, List.getElem_cons_succ]
    refine wpAnyH_take (i := 23) (v := .bool false) rfl (by kernel_rfl) (by kernel_rfl) (by kernel_rfl) (fun _ _ _ h => h) (Or.inl ⟨by rfl, ?_⟩) (by assumption) ?_
    · intro wx hSw; go_simp
    try simp only [Act.put, List.setIfInBounds_toArray, List.set_cons_zero, List.set_cons_succ, List.getElem_toArray, List.getElem_cons_zero, List.getElem_cons_succ]
    refine wpAnyH_done (by kernel_rfl) ?_ _
    clear hHeld
    go_wp2
    go_ret
    exact ⟨by rw [hv] <;> rfl, (by repeat (first | exact B1.out | refine bthen ?_ (by assumption) | apply Below.drew))⟩
  rw [h2] at hv
  cases h3 : (airB N O nA && ((nA : Int) == c))
  · rw [h3] at hv
    replace hv : OV.ok ⟨c, d, nW, Z, nG, G, nA, N, O⟩ = false := by rw [hv]; simp
    go_enter Try.func10, Try.ntmps10
    go_wp2_with fail
    obtain ⟨w0, e0⟩ : ∃ w0, w0 = w.alloc (.cells #[.int .i64 c, .int .i64 d, .slice aW nW kW, .slice aG nG kG, .slice aA nA kA] 34) := ⟨_, rfl⟩
    have B1 : Hid (Below w.heap.size w w0) := by rw [e0]; exact (Below.refl _ _).alloc (by simp) _
    have A2 : Hid (Bk w0 w.heap.size [.int .i64 c, .int .i64 d, .slice aW nW kW, .slice aG nG kG, .slice aA nA kA]) := by rw [e0]; exact bk_new w 34 [.int .i64 c, .int .i64 d, .slice aW nW kW, .slice aG nG kG, .slice aA nA kA]
    rw [← e0]
    clear e0
    have yA0 : w0.cell? ⟨w.heap.size, 0, none⟩ = some (.int .i64 c) := (A2.out.2 0 (by simp)).1
    have yA1 : w0.cell? ⟨w.heap.size, 1, none⟩ = some (.int .i64 d) := (A2.out.2 1 (by simp)).1
    have yA2 : w0.cell? ⟨w.heap.size, 2, none⟩ = some (.slice aW nW kW) := (A2.out.2 2 (by simp)).1
    have yA3 : w0.cell? ⟨w.heap.size, 3, none⟩ = some (.slice aG nG kG) := (A2.out.2 3 (by simp)).1
    have yA4 : w0.cell? ⟨w.heap.size, 4, none⟩ = some (.slice aA nA kA) := (A2.out.2 4 (by simp)).1
    have hlA : w.heap.size < w0.heap.size := A2.out.1
    refine wp_region_held_drew (S := fun w' => (∀ b o, b < w0.heap.size → w'.cell? ⟨b, o, none⟩ = w0.cell? ⟨b, o, none⟩) ∧ w0.heap.size ≤ w'.heap.size) (by kernel_rfl) ⟨fun _ _ _ => rfl, Nat.le_refl _⟩ ?_
    intro hHeld
    refine wpAnyH_take (i := 0) (v := .pointer (some ⟨w.heap.size, 0, none⟩)) rfl (by kernel_rfl) (by kernel_rfl) (by kernel_rfl) (fun _ _ _ h => h) (Or.inl ⟨by rfl, ?_⟩) (by assumption) ?_
    · intro wx hSw; go_simp
    try simp only [Act.put, List.setIfInBounds_toArray, List.set_cons_zero, List.set_cons_succ, List.getElem_toArray, List.getElem_cons_zero]
    refine wpAnyH_take (i := 1) (v := .agg #[.int .i64 c, .int .i64 d]) rfl (by kernel_rfl) (by kernel_rfl) (by kernel_rfl) (fun _ _ _ h => h) (Or.inl ⟨by rfl, ?_⟩) (by assumption) ?_
    · intro wx hSw; go_simp
    try simp only [Act.put, List.setIfInBounds_toArray, List.set_cons_zero, List.set_cons_succ, List.getElem_toArray, List.getElem_cons_zero, List.getElem_cons_succ]
    refine wpAnyH_ready (rs := [2]) (by kernel_rfl) (by simp) ?_
    refine AllReadyH.cons rfl (fun K hK => ?_) AllReadyH.nil
    go_simp
    go_wp2_with fail
    refine (ok_impl _ _ _).mono ?_
    rintro e w1 ⟨rfl, hb1⟩
    rw [h1]
    refine hK.out _ _ (keepS (by assumption) hb1) (fun hNew => ?_)
    clear hK K hHeld
    have hHeld := hNew
    clear hNew
    try simp only [Act.put, List.setIfInBounds_toArray, List.set_cons_zero, List.set_cons_succ, List.getElem_toArray, List.getElem_cons_zero, List.getElem_cons_succ]
    refine wpAnyH_take (i := 3) (v := .bool true) rfl (by kernel_rfl) (by kernel_rfl) (by kernel_rfl) (fun _ _ _ h => h) (Or.inl ⟨by rfl, ?_⟩) (by assumption) ?_
    · intro wx hSw; go_simp
    try simp only [Act.put, List.setIfInBounds_toArray, List.set_cons_zero, List.set_cons_succ, List.getElem_toArray, List.getElem_cons_zero, List.getElem_cons_succ]
    refine wpAnyH_take (i := 4) (v := .pointer (some ⟨w.heap.size, 3, none⟩)) rfl (by kernel_rfl) (by kernel_rfl) (by kernel_rfl) (fun _ _ _ h => h) (Or.inl ⟨by rfl, ?_⟩) (by assumption) ?_
    · intro wx hSw; go_simp
    try simp only [Act.put, List.setIfInBounds_toArray, List.set_cons_zero, List.set_cons_succ, List.getElem_toArray, List.getElem_cons_zero, List.getElem_cons_succ]
    refine wpAnyH_take (i := 5) (v := .slice aG nG kG) rfl (by kernel_rfl) (by kernel_rfl) (by kernel_rfl) (fun _ _ _ h => h) (Or.inl ⟨by rfl, ?_⟩) (by assumption) ?_
    · intro wx hSw; go_simp
    try simp only [Act.put, List.setIfInBounds_toArray, List.set_cons_zero, List.set_cons_succ, List.getElem_toArray, List.getElem_cons_zero, List.getElem_cons_succ]
    refine wpAnyH_take (i := 6) (v := .pointer (some ⟨w.heap.size, 0, none⟩)) rfl (by kernel_rfl) (by kernel_rfl) (by kernel_rfl) (fun _ _ _ h => h) (Or.inl ⟨by rfl, ?_⟩) (by assumption) ?_
    · intro wx hSw; go_simp
    try simp only [Act.put, List.setIfInBounds_toArray, List.set_cons_zero, List.set_cons_succ, List.getElem_toArray, List.getElem_cons_zero, List.getElem_cons_succ]
    refine wpAnyH_take (i := 7) (v := .pointer (some ⟨w.heap.size, 0, none⟩)) rfl (by kernel_rfl) (by kernel_rfl) (by kernel_rfl) (fun _ _ _ h => h) (Or.inl ⟨by rfl, ?_⟩) (by assumption) ?_
    · intro wx hSw; go_simp
    try simp only [Act.put, List.setIfInBounds_toArray, List.set_cons_zero, List.set_cons_succ, List.getElem_toArray, List.getElem_cons_zero, List.getElem_cons_succ]
    refine wpAnyH_take (i := 8) (v := .int .i64 c) rfl (by kernel_rfl) (by kernel_rfl) (by kernel_rfl) (fun _ _ _ h => h) (Or.inl ⟨by rfl, ?_⟩) (by assumption) ?_
    · intro wx hSw; go_simp
    try simp only [Act.put, List.setIfInBounds_toArray, List.set_cons_zero, List.set_cons_succ, List.getElem_toArray, List.getElem_cons_zero, List.getElem_cons_succ]
    refine wpAnyH_ready (rs := [9]) (by kernel_rfl) (by simp) ?_
    refine AllReadyH.cons rfl (fun K hK => ?_) AllReadyH.nil
    go_simp
    go_wp2_with fail
    refine (counts_impl aG nG kG G c 900 (by omega) _ (row1_below HG.out (by repeat (first | exact B1.out | refine bthen ?_ (by assumption) | apply Below.drew)))).mono ?_
    rintro e w2 ⟨rfl, hb2⟩
    rw [h2]
    refine hK.out _ _ (keepS (by assumption) hb2) (fun hNew => ?_)
    clear hK K hHeld
    have hHeld := hNew
    clear hNew
    try simp only [Act.put, List.setIfInBounds_toArray, List.set_cons_zero, List.set_cons_succ, List.getElem_toArray, List.getElem_cons_zero, List.getElem_cons_succ]
    refine wpAnyH_take (i := 10) (v := .bool true) rfl (by kernel_rfl) (by kernel_rfl) (by kernel_rfl) (fun _ _ _ h => h) (Or.inl ⟨by rfl, ?_⟩) (by assumption) ?_
    · intro wx hSw; go_simp
    try simp only [Act.put, List.setIfInBounds_toArray, List.set_cons_zero, List.set_cons_succ, List.getElem_toArray, List.getElem_cons_zero, List.getElem_cons_succ]
    refine wpAnyH_take (i := 11) (v := .bool true) rfl (by kernel_rfl) (by kernel_rfl) (by kernel_rfl) (fun _ _ _ h => h) (Or.inl ⟨by rfl, ?_⟩) (by assumption) ?_
    · intro wx hSw; go_simp
    try simp only [Act.put, List.setIfInBounds_toArray, List.set_cons_zero, List.set_cons_succ, List.getElem_toArray, List.getElem_cons_zero, List.getElem_cons_succ]
    refine wpAnyH_take (i := 12) (v := .agg #[.int .i64 c, .int .i64 d, .slice aW nW kW, .slice aG nG kG, .slice aA nA kA]) rfl (by kernel_rfl) (by kernel_rfl) (by kernel_rfl) (fun _ _ _ h => h) (Or.inl ⟨by rfl, ?_⟩) (by assumption) ?_
    · intro wx hSw; go_simp
    try simp only [Act.put, List.setIfInBounds_toArray, List.set_cons_zero, List.set_cons_succ, List.getElem_toArray, List.getElem_cons_zero, List.getElem_cons_succ]
    refine wpAnyH_ready (rs := [13]) (by kernel_rfl) (by simp) ?_
    refine AllReadyH.cons rfl (fun K hK => ?_) AllReadyH.nil
    go_simp
    go_wp2_with fail
    refine (air_impl _ ⟨c, d, nW, Z, nG, G, nA, N, O⟩ ⟨by show nW ≤ _; omega, by show nG ≤ _; omega, by show nA ≤ _; omega, HN.out⟩ _ (oneAt_below HO.out (by repeat (first | exact B1.out | refine bthen ?_ (by assumption) | apply Below.drew)))).mono ?_
    rintro e w3 ⟨rfl, hb3⟩
    rw [show (airB (OV.N ⟨c, d, nW, Z, nG, G, nA, N, O⟩) (OV.A ⟨c, d, nW, Z, nG, G, nA, N, O⟩) (OV.nA ⟨c, d, nW, Z, nG, G, nA, N, O⟩) && (((OV.nA ⟨c, d, nW, Z, nG, G, nA, N, O⟩ : Nat) : Int) == (OV.c ⟨c, d, nW, Z, nG, G, nA, N, O⟩))) = _ from h3]
    refine hK.out _ _ (keepS (by assumption) hb3) (fun hNew => ?_)
    clear hK K hHeld
    have hHeld := hNew
    clear hNew
    try simp only [Act.put, List.setIfInBounds_toArray, List.set_cons_zero, List.set_cons_succ, List.getElem_toArray, List.getElem_cons_zero, List.getElem_cons_succ]
    refine wpAnyH_take (i := 14) (v := .bool false) rfl (by kernel_rfl) (by kernel_rfl) (by kernel_rfl) (fun _ _ _ h => h) (Or.inl ⟨by rfl, ?_⟩) (by assumption) ?_
    · intro wx hSw; go_simp
    try simp only [Act.put, List.setIfInBounds_toArray, List.set_cons_zero, List.set_cons_succ, List.getElem_toArray, List.getElem_cons_zero, List.getElem_cons_succ]
    refine wpAnyH_take (i := 15) (v := .bool false) rfl (by kernel_rfl) (by kernel_rfl) (by kernel_rfl) (fun _ _ _ h => h) (Or.inl ⟨by rfl, ?_⟩) (by assumption) ?_
    · intro wx hSw; go_simp
    try simp only [Act.put, List.setIfInBounds_toArray, List.set_cons_zero, List.set_cons_succ, List.getElem_toArray, List.getElem_cons_zero, List.getElem_cons_succ]
    refine wpAnyH_take (i := 16) (v := undef) rfl (by kernel_rfl) (by kernel_rfl) (by kernel_rfl) (fun _ _ _ h => h) (Or.inr ⟨by rfl, rfl⟩) (by assumption) ?_
    try simp only [Act.put, List.setIfInBounds_toArray, List.set_cons_zero, List.set_cons_succ, List.getElem_toArray, List.getElem_cons_zero, List.getElem_cons_succ]
    refine wpAnyH_take (i := 17) (v := undef) rfl (by kernel_rfl) (by kernel_rfl) (by kernel_rfl) (fun _ _ _ h => h) (Or.inr ⟨by rfl, rfl⟩) (by assumption) ?_
    try simp only [Act.put, List.setIfInBounds_toArray, List.set_cons_zero, List.set_cons_succ, List.getElem_toArray, List.getElem_cons_zero, List.getElem_cons_succ]
    refine wpAnyH_take (i := 18) (v := undef) rfl (by kernel_rfl) (by kernel_rfl) (by kernel_rfl) (fun _ _ _ h => h) (Or.inr ⟨by rfl, rfl⟩) (by assumption) ?_
    try simp only [Act.put, List.setIfInBounds_toArray, List.set_cons_zero, List.set_cons_succ, List.getElem_toArray, List.getElem_cons_zero, List.getElem_cons_succ]
    refine wpAnyH_take (i := 19) (v := undef) rfl (by kernel_rfl) (by kernel_rfl) (by kernel_rfl) (fun _ _ _ h => h) (Or.inr ⟨by rfl, rfl⟩) (by assumption) ?_
    try simp only [Act.put, List.setIfInBounds_toArray, List.set_cons_zero, List.set_cons_succ, List.getElem_toArray, List.getElem_cons_zero, List.getElem_cons_succ]
    refine wpAnyH_take (i := 20) (v := undef) rfl (by kernel_rfl) (by kernel_rfl) (by kernel_rfl) (fun _ _ _ h => h) (Or.inr ⟨by rfl, rfl⟩) (by assumption) ?_
    try simp only [Act.put, List.setIfInBounds_toArray, List.set_cons_zero, List.set_cons_succ, List.getElem_toArray, List.getElem_cons_zero, List.getElem_cons_succ]
    refine wpAnyH_take (i := 21) (v := undef) rfl (by kernel_rfl) (by kernel_rfl) (by kernel_rfl) (fun _ _ _ h => h) (Or.inr ⟨by rfl, rfl⟩) (by assumption) ?_
    try simp only [Act.put, List.setIfInBounds_toArray, List.set_cons_zero, List.set_cons_succ, List.getElem_toArray, List.getElem_cons_zero, List.getElem_cons_succ]
    refine wpAnyH_take (i := 22) (v := .bool false) rfl (by kernel_rfl) (by kernel_rfl) (by kernel_rfl) (fun _ _ _ h => h) (Or.inl ⟨by rfl, ?_⟩) (by assumption) ?_
    · intro wx hSw; go_simp
    try simp only [Act.put, List.setIfInBounds_toArray, List.set_cons_zero, List.set_cons_succ, List.getElem_toArray, List.getElem_cons_zero, List.getElem_cons_succ]
    refine wpAnyH_take (i := 23) (v := .bool false) rfl (by kernel_rfl) (by kernel_rfl) (by kernel_rfl) (fun _ _ _ h => h) (Or.inl ⟨by rfl, ?_⟩) (by assumption) ?_
    · intro wx hSw; go_simp
    try simp only [Act.put, List.setIfInBounds_toArray, List.set_cons_zero, List.set_cons_succ, List.getElem_toArray, List.getElem_cons_zero, List.getElem_cons_succ]
    refine wpAnyH_done (by kernel_rfl) ?_ _
    clear hHeld
    go_wp2
    go_ret
    exact ⟨by rw [hv] <;> rfl, (by repeat (first | exact B1.out | refine bthen ?_ (by assumption) | apply Below.drew))⟩
  rw [h3] at hv
  cases h4 : allB c d Z nW
  · rw [h4] at hv
    replace hv : OV.ok ⟨c, d, nW, Z, nG, G, nA, N, O⟩ = false := by rw [hv]; simp
    go_enter Try.func10, Try.ntmps10
    go_wp2_with fail
    obtain ⟨w0, e0⟩ : ∃ w0, w0 = w.alloc (.cells #[.int .i64 c, .int .i64 d, .slice aW nW kW, .slice aG nG kG, .slice aA nA kA] 34) := ⟨_, rfl⟩
    have B1 : Hid (Below w.heap.size w w0) := by rw [e0]; exact (Below.refl _ _).alloc (by simp) _
    have A2 : Hid (Bk w0 w.heap.size [.int .i64 c, .int .i64 d, .slice aW nW kW, .slice aG nG kG, .slice aA nA kA]) := by rw [e0]; exact bk_new w 34 [.int .i64 c, .int .i64 d, .slice aW nW kW, .slice aG nG kG, .slice aA nA kA]
    rw [← e0]
    clear e0
    have yA0 : w0.cell? ⟨w.heap.size, 0, none⟩ = some (.int .i64 c) := (A2.out.2 0 (by simp)).1
    have yA1 : w0.cell? ⟨w.heap.size, 1, none⟩ = some (.int .i64 d) := (A2.out.2 1 (by simp)).1
    have yA2 : w0.cell? ⟨w.heap.size, 2, none⟩ = some (.slice aW nW kW) := (A2.out.2 2 (by simp)).1
    have yA3 : w0.cell? ⟨w.heap.size, 3, none⟩ = some (.slice aG nG kG) := (A2.out.2 3 (by simp)).1
    have yA4 : w0.cell? ⟨w.heap.size, 4, none⟩ = some (.slice aA nA kA) := (A2.out.2 4 (by simp)).1
    have hlA : w.heap.size < w0.heap.size := A2.out.1
    refine wp_region_held_drew (S := fun w' => (∀ b o, b < w0.heap.size → w'.cell? ⟨b, o, none⟩ = w0.cell? ⟨b, o, none⟩) ∧ w0.heap.size ≤ w'.heap.size) (by kernel_rfl) ⟨fun _ _ _ => rfl, Nat.le_refl _⟩ ?_
    intro hHeld
    refine wpAnyH_take (i := 0) (v := .pointer (some ⟨w.heap.size, 0, none⟩)) rfl (by kernel_rfl) (by kernel_rfl) (by kernel_rfl) (fun _ _ _ h => h) (Or.inl ⟨by rfl, ?_⟩) (by assumption) ?_
    · intro wx hSw; go_simp
    try simp only [Act.put, List.setIfInBounds_toArray, List.set_cons_zero, List.set_cons_succ, List.getElem_toArray, List.getElem_cons_zero]
    refine wpAnyH_take (i := 1) (v := .agg #[.int .i64 c, .int .i64 d]) rfl (by kernel_rfl) (by kernel_rfl) (by kernel_rfl) (fun _ _ _ h => h) (Or.inl ⟨by rfl, ?_⟩) (by assumption) ?_
    · intro wx hSw; go_simp
    try simp only [Act.put, List.setIfInBounds_toArray, List.set_cons_zero, List.set_cons_succ, List.getElem_toArray, List.getElem_cons_zero, List.getElem_cons_succ]
    refine wpAnyH_ready (rs := [2]) (by kernel_rfl) (by simp) ?_
    refine AllReadyH.cons rfl (fun K hK => ?_) AllReadyH.nil
    go_simp
    go_wp2_with fail
    refine (ok_impl _ _ _).mono ?_
    rintro e w1 ⟨rfl, hb1⟩
    rw [h1]
    refine hK.out _ _ (keepS (by assumption) hb1) (fun hNew => ?_)
    clear hK K hHeld
    have hHeld := hNew
    clear hNew
    try simp only [Act.put, List.setIfInBounds_toArray, List.set_cons_zero, List.set_cons_succ, List.getElem_toArray, List.getElem_cons_zero, List.getElem_cons_succ]
    refine wpAnyH_take (i := 3) (v := .bool true) rfl (by kernel_rfl) (by kernel_rfl) (by kernel_rfl) (fun _ _ _ h => h) (Or.inl ⟨by rfl, ?_⟩) (by assumption) ?_
    · intro wx hSw; go_simp
    try simp only [Act.put, List.setIfInBounds_toArray, List.set_cons_zero, List.set_cons_succ, List.getElem_toArray, List.getElem_cons_zero, List.getElem_cons_succ]
    refine wpAnyH_take (i := 4) (v := .pointer (some ⟨w.heap.size, 3, none⟩)) rfl (by kernel_rfl) (by kernel_rfl) (by kernel_rfl) (fun _ _ _ h => h) (Or.inl ⟨by rfl, ?_⟩) (by assumption) ?_
    · intro wx hSw; go_simp
    try simp only [Act.put, List.setIfInBounds_toArray, List.set_cons_zero, List.set_cons_succ, List.getElem_toArray, List.getElem_cons_zero, List.getElem_cons_succ]
    refine wpAnyH_take (i := 5) (v := .slice aG nG kG) rfl (by kernel_rfl) (by kernel_rfl) (by kernel_rfl) (fun _ _ _ h => h) (Or.inl ⟨by rfl, ?_⟩) (by assumption) ?_
    · intro wx hSw; go_simp
    try simp only [Act.put, List.setIfInBounds_toArray, List.set_cons_zero, List.set_cons_succ, List.getElem_toArray, List.getElem_cons_zero, List.getElem_cons_succ]
    refine wpAnyH_take (i := 6) (v := .pointer (some ⟨w.heap.size, 0, none⟩)) rfl (by kernel_rfl) (by kernel_rfl) (by kernel_rfl) (fun _ _ _ h => h) (Or.inl ⟨by rfl, ?_⟩) (by assumption) ?_
    · intro wx hSw; go_simp
    try simp only [Act.put, List.setIfInBounds_toArray, List.set_cons_zero, List.set_cons_succ, List.getElem_toArray, List.getElem_cons_zero, List.getElem_cons_succ]
    refine wpAnyH_take (i := 7) (v := .pointer (some ⟨w.heap.size, 0, none⟩)) rfl (by kernel_rfl) (by kernel_rfl) (by kernel_rfl) (fun _ _ _ h => h) (Or.inl ⟨by rfl, ?_⟩) (by assumption) ?_
    · intro wx hSw; go_simp
    try simp only [Act.put, List.setIfInBounds_toArray, List.set_cons_zero, List.set_cons_succ, List.getElem_toArray, List.getElem_cons_zero, List.getElem_cons_succ]
    refine wpAnyH_take (i := 8) (v := .int .i64 c) rfl (by kernel_rfl) (by kernel_rfl) (by kernel_rfl) (fun _ _ _ h => h) (Or.inl ⟨by rfl, ?_⟩) (by assumption) ?_
    · intro wx hSw; go_simp
    try simp only [Act.put, List.setIfInBounds_toArray, List.set_cons_zero, List.set_cons_succ, List.getElem_toArray, List.getElem_cons_zero, List.getElem_cons_succ]
    refine wpAnyH_ready (rs := [9]) (by kernel_rfl) (by simp) ?_
    refine AllReadyH.cons rfl (fun K hK => ?_) AllReadyH.nil
    go_simp
    go_wp2_with fail
    refine (counts_impl aG nG kG G c 900 (by omega) _ (row1_below HG.out (by repeat (first | exact B1.out | refine bthen ?_ (by assumption) | apply Below.drew)))).mono ?_
    rintro e w2 ⟨rfl, hb2⟩
    rw [h2]
    refine hK.out _ _ (keepS (by assumption) hb2) (fun hNew => ?_)
    clear hK K hHeld
    have hHeld := hNew
    clear hNew
    try simp only [Act.put, List.setIfInBounds_toArray, List.set_cons_zero, List.set_cons_succ, List.getElem_toArray, List.getElem_cons_zero, List.getElem_cons_succ]
    refine wpAnyH_take (i := 10) (v := .bool true) rfl (by kernel_rfl) (by kernel_rfl) (by kernel_rfl) (fun _ _ _ h => h) (Or.inl ⟨by rfl, ?_⟩) (by assumption) ?_
    · intro wx hSw; go_simp
    try simp only [Act.put, List.setIfInBounds_toArray, List.set_cons_zero, List.set_cons_succ, List.getElem_toArray, List.getElem_cons_zero, List.getElem_cons_succ]
    refine wpAnyH_take (i := 11) (v := .bool true) rfl (by kernel_rfl) (by kernel_rfl) (by kernel_rfl) (fun _ _ _ h => h) (Or.inl ⟨by rfl, ?_⟩) (by assumption) ?_
    · intro wx hSw; go_simp
    try simp only [Act.put, List.setIfInBounds_toArray, List.set_cons_zero, List.set_cons_succ, List.getElem_toArray, List.getElem_cons_zero, List.getElem_cons_succ]
    refine wpAnyH_take (i := 12) (v := .agg #[.int .i64 c, .int .i64 d, .slice aW nW kW, .slice aG nG kG, .slice aA nA kA]) rfl (by kernel_rfl) (by kernel_rfl) (by kernel_rfl) (fun _ _ _ h => h) (Or.inl ⟨by rfl, ?_⟩) (by assumption) ?_
    · intro wx hSw; go_simp
    try simp only [Act.put, List.setIfInBounds_toArray, List.set_cons_zero, List.set_cons_succ, List.getElem_toArray, List.getElem_cons_zero, List.getElem_cons_succ]
    refine wpAnyH_ready (rs := [13]) (by kernel_rfl) (by simp) ?_
    refine AllReadyH.cons rfl (fun K hK => ?_) AllReadyH.nil
    go_simp
    go_wp2_with fail
    refine (air_impl _ ⟨c, d, nW, Z, nG, G, nA, N, O⟩ ⟨by show nW ≤ _; omega, by show nG ≤ _; omega, by show nA ≤ _; omega, HN.out⟩ _ (oneAt_below HO.out (by repeat (first | exact B1.out | refine bthen ?_ (by assumption) | apply Below.drew)))).mono ?_
    rintro e w3 ⟨rfl, hb3⟩
    rw [show (airB (OV.N ⟨c, d, nW, Z, nG, G, nA, N, O⟩) (OV.A ⟨c, d, nW, Z, nG, G, nA, N, O⟩) (OV.nA ⟨c, d, nW, Z, nG, G, nA, N, O⟩) && (((OV.nA ⟨c, d, nW, Z, nG, G, nA, N, O⟩ : Nat) : Int) == (OV.c ⟨c, d, nW, Z, nG, G, nA, N, O⟩))) = _ from h3]
    refine hK.out _ _ (keepS (by assumption) hb3) (fun hNew => ?_)
    clear hK K hHeld
    have hHeld := hNew
    clear hNew
    try simp only [Act.put, List.setIfInBounds_toArray, List.set_cons_zero, List.set_cons_succ, List.getElem_toArray, List.getElem_cons_zero, List.getElem_cons_succ]
    refine wpAnyH_take (i := 14) (v := .bool true) rfl (by kernel_rfl) (by kernel_rfl) (by kernel_rfl) (fun _ _ _ h => h) (Or.inl ⟨by rfl, ?_⟩) (by assumption) ?_
    · intro wx hSw; go_simp
    try simp only [Act.put, List.setIfInBounds_toArray, List.set_cons_zero, List.set_cons_succ, List.getElem_toArray, List.getElem_cons_zero, List.getElem_cons_succ]
    refine wpAnyH_take (i := 15) (v := .bool true) rfl (by kernel_rfl) (by kernel_rfl) (by kernel_rfl) (fun _ _ _ h => h) (Or.inl ⟨by rfl, ?_⟩) (by assumption) ?_
    · intro wx hSw; go_simp
    try simp only [Act.put, List.setIfInBounds_toArray, List.set_cons_zero, List.set_cons_succ, List.getElem_toArray, List.getElem_cons_zero, List.getElem_cons_succ]
    refine wpAnyH_take (i := 16) (v := .pointer (some ⟨w.heap.size, 0, none⟩)) rfl (by kernel_rfl) (by kernel_rfl) (by kernel_rfl) (fun _ _ _ h => h) (Or.inl ⟨by rfl, ?_⟩) (by assumption) ?_
    · intro wx hSw; go_simp
    try simp only [Act.put, List.setIfInBounds_toArray, List.set_cons_zero, List.set_cons_succ, List.getElem_toArray, List.getElem_cons_zero, List.getElem_cons_succ]
    refine wpAnyH_take (i := 17) (v := .agg #[.int .i64 c, .int .i64 d]) rfl (by kernel_rfl) (by kernel_rfl) (by kernel_rfl) (fun _ _ _ h => h) (Or.inl ⟨by rfl, ?_⟩) (by assumption) ?_
    · intro wx hSw; go_simp
    try simp only [Act.put, List.setIfInBounds_toArray, List.set_cons_zero, List.set_cons_succ, List.getElem_toArray, List.getElem_cons_zero, List.getElem_cons_succ]
    refine wpAnyH_take (i := 18) (v := .pointer (some ⟨w.heap.size, 2, none⟩)) rfl (by kernel_rfl) (by kernel_rfl) (by kernel_rfl) (fun _ _ _ h => h) (Or.inl ⟨by rfl, ?_⟩) (by assumption) ?_
    · intro wx hSw; go_simp
    try simp only [Act.put, List.setIfInBounds_toArray, List.set_cons_zero, List.set_cons_succ, List.getElem_toArray, List.getElem_cons_zero, List.getElem_cons_succ]
    refine wpAnyH_take (i := 19) (v := .slice aW nW kW) rfl (by kernel_rfl) (by kernel_rfl) (by kernel_rfl) (fun _ _ _ h => h) (Or.inl ⟨by rfl, ?_⟩) (by assumption) ?_
    · intro wx hSw; go_simp
    try simp only [Act.put, List.setIfInBounds_toArray, List.set_cons_zero, List.set_cons_succ, List.getElem_toArray, List.getElem_cons_zero, List.getElem_cons_succ]
    refine wpAnyH_ready (rs := [20]) (by kernel_rfl) (by simp) ?_
    refine AllReadyH.cons rfl (fun K hK => ?_) AllReadyH.nil
    go_simp
    go_wp2_with fail
    refine (plain_impl aW nW kW Z sW _ (P6.row_below HW.out (by repeat (first | exact B1.out | refine bthen ?_ (by assumption) | apply Below.drew)))).mono ?_
    rintro e w4 ⟨⟨a4, c4, rfl, hr4⟩, hb4⟩
    refine hK.out _ _ (keepS (by assumption) hb4) (fun hNew => ?_)
    clear hK K hHeld
    have hHeld := hNew
    clear hNew
    try simp only [Act.put, List.setIfInBounds_toArray, List.set_cons_zero, List.set_cons_succ, List.getElem_toArray, List.getElem_cons_zero, List.getElem_cons_succ]
    refine wpAnyH_ready (rs := [21]) (by kernel_rfl) (by simp) ?_
    refine AllReadyH.cons rfl (fun K hK => ?_) AllReadyH.nil
    go_simp
    go_wp2_with fail
    refine (listOk_any c d a4 nW c4 Z sW _ (r5_below hr4 (by repeat (first | exact Below.refl _ _ | apply Below.drew)))).mono ?_
    rintro e w5 ⟨rfl, hb5⟩
    rw [h4]
    refine hK.out _ _ (keepS (by assumption) hb5) (fun hNew => ?_)
    clear hK K hHeld
    have hHeld := hNew
    clear hNew
    try simp only [Act.put, List.setIfInBounds_toArray, List.set_cons_zero, List.set_cons_succ, List.getElem_toArray, List.getElem_cons_zero, List.getElem_cons_succ]
    refine wpAnyH_take (i := 22) (v := .bool false) rfl (by kernel_rfl) (by kernel_rfl) (by kernel_rfl) (fun _ _ _ h => h) (Or.inl ⟨by rfl, ?_⟩) (by assumption) ?_
    · intro wx hSw; go_simp
    try simp only [Act.put, List.setIfInBounds_toArray, List.set_cons_zero, List.set_cons_succ, List.getElem_toArray, List.getElem_cons_zero, List.getElem_cons_succ]
    refine wpAnyH_take (i := 23) (v := .bool false) rfl (by kernel_rfl) (by kernel_rfl) (by kernel_rfl) (fun _ _ _ h => h) (Or.inl ⟨by rfl, ?_⟩) (by assumption) ?_
    · intro wx hSw; go_simp
    try simp only [Act.put, List.setIfInBounds_toArray, List.set_cons_zero, List.set_cons_succ, List.getElem_toArray, List.getElem_cons_zero, List.getElem_cons_succ]
    refine wpAnyH_done (by kernel_rfl) ?_ _
    clear hHeld
    go_wp2
    go_ret
    exact ⟨by rw [hv] <;> rfl, (by repeat (first | exact B1.out | refine bthen ?_ (by assumption) | apply Below.drew))⟩
  rw [h4] at hv
  simp only [Bool.true_and] at hv
  go_enter Try.func10, Try.ntmps10
  go_wp2_with fail
  obtain ⟨w0, e0⟩ : ∃ w0, w0 = w.alloc (.cells #[.int .i64 c, .int .i64 d, .slice aW nW kW, .slice aG nG kG, .slice aA nA kA] 34) := ⟨_, rfl⟩
  have B1 : Hid (Below w.heap.size w w0) := by rw [e0]; exact (Below.refl _ _).alloc (by simp) _
  have A2 : Hid (Bk w0 w.heap.size [.int .i64 c, .int .i64 d, .slice aW nW kW, .slice aG nG kG, .slice aA nA kA]) := by rw [e0]; exact bk_new w 34 [.int .i64 c, .int .i64 d, .slice aW nW kW, .slice aG nG kG, .slice aA nA kA]
  rw [← e0]
  clear e0
  have yA0 : w0.cell? ⟨w.heap.size, 0, none⟩ = some (.int .i64 c) := (A2.out.2 0 (by simp)).1
  have yA1 : w0.cell? ⟨w.heap.size, 1, none⟩ = some (.int .i64 d) := (A2.out.2 1 (by simp)).1
  have yA2 : w0.cell? ⟨w.heap.size, 2, none⟩ = some (.slice aW nW kW) := (A2.out.2 2 (by simp)).1
  have yA3 : w0.cell? ⟨w.heap.size, 3, none⟩ = some (.slice aG nG kG) := (A2.out.2 3 (by simp)).1
  have yA4 : w0.cell? ⟨w.heap.size, 4, none⟩ = some (.slice aA nA kA) := (A2.out.2 4 (by simp)).1
  have hlA : w.heap.size < w0.heap.size := A2.out.1
  refine wp_region_held_drew (S := fun w' => (∀ b o, b < w0.heap.size → w'.cell? ⟨b, o, none⟩ = w0.cell? ⟨b, o, none⟩) ∧ w0.heap.size ≤ w'.heap.size) (by kernel_rfl) ⟨fun _ _ _ => rfl, Nat.le_refl _⟩ ?_
  intro hHeld
  refine wpAnyH_take (i := 0) (v := .pointer (some ⟨w.heap.size, 0, none⟩)) rfl (by kernel_rfl) (by kernel_rfl) (by kernel_rfl) (fun _ _ _ h => h) (Or.inl ⟨by rfl, ?_⟩) (by assumption) ?_
  · intro wx hSw; go_simp
  try simp only [Act.put, List.setIfInBounds_toArray, List.set_cons_zero, List.set_cons_succ, List.getElem_toArray, List.getElem_cons_zero]
  refine wpAnyH_take (i := 1) (v := .agg #[.int .i64 c, .int .i64 d]) rfl (by kernel_rfl) (by kernel_rfl) (by kernel_rfl) (fun _ _ _ h => h) (Or.inl ⟨by rfl, ?_⟩) (by assumption) ?_
  · intro wx hSw; go_simp
  try simp only [Act.put, List.setIfInBounds_toArray, List.set_cons_zero, List.set_cons_succ, List.getElem_toArray, List.getElem_cons_zero, List.getElem_cons_succ]
  refine wpAnyH_ready (rs := [2]) (by kernel_rfl) (by simp) ?_
  refine AllReadyH.cons rfl (fun K hK => ?_) AllReadyH.nil
  go_simp
  go_wp2_with fail
  refine (ok_impl _ _ _).mono ?_
  rintro e w1 ⟨rfl, hb1⟩
  rw [h1]
  refine hK.out _ _ (keepS (by assumption) hb1) (fun hNew => ?_)
  clear hK K hHeld
  have hHeld := hNew
  clear hNew
  try simp only [Act.put, List.setIfInBounds_toArray, List.set_cons_zero, List.set_cons_succ, List.getElem_toArray, List.getElem_cons_zero, List.getElem_cons_succ]
  refine wpAnyH_take (i := 3) (v := .bool true) rfl (by kernel_rfl) (by kernel_rfl) (by kernel_rfl) (fun _ _ _ h => h) (Or.inl ⟨by rfl, ?_⟩) (by assumption) ?_
  · intro wx hSw; go_simp
  try simp only [Act.put, List.setIfInBounds_toArray, List.set_cons_zero, List.set_cons_succ, List.getElem_toArray, List.getElem_cons_zero, List.getElem_cons_succ]
  refine wpAnyH_take (i := 4) (v := .pointer (some ⟨w.heap.size, 3, none⟩)) rfl (by kernel_rfl) (by kernel_rfl) (by kernel_rfl) (fun _ _ _ h => h) (Or.inl ⟨by rfl, ?_⟩) (by assumption) ?_
  · intro wx hSw; go_simp
  try simp only [Act.put, List.setIfInBounds_toArray, List.set_cons_zero, List.set_cons_succ, List.getElem_toArray, List.getElem_cons_zero, List.getElem_cons_succ]
  refine wpAnyH_take (i := 5) (v := .slice aG nG kG) rfl (by kernel_rfl) (by kernel_rfl) (by kernel_rfl) (fun _ _ _ h => h) (Or.inl ⟨by rfl, ?_⟩) (by assumption) ?_
  · intro wx hSw; go_simp
  try simp only [Act.put, List.setIfInBounds_toArray, List.set_cons_zero, List.set_cons_succ, List.getElem_toArray, List.getElem_cons_zero, List.getElem_cons_succ]
  refine wpAnyH_take (i := 6) (v := .pointer (some ⟨w.heap.size, 0, none⟩)) rfl (by kernel_rfl) (by kernel_rfl) (by kernel_rfl) (fun _ _ _ h => h) (Or.inl ⟨by rfl, ?_⟩) (by assumption) ?_
  · intro wx hSw; go_simp
  try simp only [Act.put, List.setIfInBounds_toArray, List.set_cons_zero, List.set_cons_succ, List.getElem_toArray, List.getElem_cons_zero, List.getElem_cons_succ]
  refine wpAnyH_take (i := 7) (v := .pointer (some ⟨w.heap.size, 0, none⟩)) rfl (by kernel_rfl) (by kernel_rfl) (by kernel_rfl) (fun _ _ _ h => h) (Or.inl ⟨by rfl, ?_⟩) (by assumption) ?_
  · intro wx hSw; go_simp
  try simp only [Act.put, List.setIfInBounds_toArray, List.set_cons_zero, List.set_cons_succ, List.getElem_toArray, List.getElem_cons_zero, List.getElem_cons_succ]
  refine wpAnyH_take (i := 8) (v := .int .i64 c) rfl (by kernel_rfl) (by kernel_rfl) (by kernel_rfl) (fun _ _ _ h => h) (Or.inl ⟨by rfl, ?_⟩) (by assumption) ?_
  · intro wx hSw; go_simp
  try simp only [Act.put, List.setIfInBounds_toArray, List.set_cons_zero, List.set_cons_succ, List.getElem_toArray, List.getElem_cons_zero, List.getElem_cons_succ]
  refine wpAnyH_ready (rs := [9]) (by kernel_rfl) (by simp) ?_
  refine AllReadyH.cons rfl (fun K hK => ?_) AllReadyH.nil
  go_simp
  go_wp2_with fail
  refine (counts_impl aG nG kG G c 900 (by omega) _ (row1_below HG.out (by repeat (first | exact B1.out | refine bthen ?_ (by assumption) | apply Below.drew)))).mono ?_
  rintro e w2 ⟨rfl, hb2⟩
  rw [h2]
  refine hK.out _ _ (keepS (by assumption) hb2) (fun hNew => ?_)
  clear hK K hHeld
  have hHeld := hNew
  clear hNew
  try simp only [Act.put, List.setIfInBounds_toArray, List.set_cons_zero, List.set_cons_succ, List.getElem_toArray, List.getElem_cons_zero, List.getElem_cons_succ]
  refine wpAnyH_take (i := 10) (v := .bool true) rfl (by kernel_rfl) (by kernel_rfl) (by kernel_rfl) (fun _ _ _ h => h) (Or.inl ⟨by rfl, ?_⟩) (by assumption) ?_
  · intro wx hSw; go_simp
  try simp only [Act.put, List.setIfInBounds_toArray, List.set_cons_zero, List.set_cons_succ, List.getElem_toArray, List.getElem_cons_zero, List.getElem_cons_succ]
  refine wpAnyH_take (i := 11) (v := .bool true) rfl (by kernel_rfl) (by kernel_rfl) (by kernel_rfl) (fun _ _ _ h => h) (Or.inl ⟨by rfl, ?_⟩) (by assumption) ?_
  · intro wx hSw; go_simp
  try simp only [Act.put, List.setIfInBounds_toArray, List.set_cons_zero, List.set_cons_succ, List.getElem_toArray, List.getElem_cons_zero, List.getElem_cons_succ]
  refine wpAnyH_take (i := 12) (v := .agg #[.int .i64 c, .int .i64 d, .slice aW nW kW, .slice aG nG kG, .slice aA nA kA]) rfl (by kernel_rfl) (by kernel_rfl) (by kernel_rfl) (fun _ _ _ h => h) (Or.inl ⟨by rfl, ?_⟩) (by assumption) ?_
  · intro wx hSw; go_simp
  try simp only [Act.put, List.setIfInBounds_toArray, List.set_cons_zero, List.set_cons_succ, List.getElem_toArray, List.getElem_cons_zero, List.getElem_cons_succ]
  refine wpAnyH_ready (rs := [13]) (by kernel_rfl) (by simp) ?_
  refine AllReadyH.cons rfl (fun K hK => ?_) AllReadyH.nil
  go_simp
  go_wp2_with fail
  refine (air_impl _ ⟨c, d, nW, Z, nG, G, nA, N, O⟩ ⟨by show nW ≤ _; omega, by show nG ≤ _; omega, by show nA ≤ _; omega, HN.out⟩ _ (oneAt_below HO.out (by repeat (first | exact B1.out | refine bthen ?_ (by assumption) | apply Below.drew)))).mono ?_
  rintro e w3 ⟨rfl, hb3⟩
  rw [show (airB (OV.N ⟨c, d, nW, Z, nG, G, nA, N, O⟩) (OV.A ⟨c, d, nW, Z, nG, G, nA, N, O⟩) (OV.nA ⟨c, d, nW, Z, nG, G, nA, N, O⟩) && (((OV.nA ⟨c, d, nW, Z, nG, G, nA, N, O⟩ : Nat) : Int) == (OV.c ⟨c, d, nW, Z, nG, G, nA, N, O⟩))) = _ from h3]
  refine hK.out _ _ (keepS (by assumption) hb3) (fun hNew => ?_)
  clear hK K hHeld
  have hHeld := hNew
  clear hNew
  try simp only [Act.put, List.setIfInBounds_toArray, List.set_cons_zero, List.set_cons_succ, List.getElem_toArray, List.getElem_cons_zero, List.getElem_cons_succ]
  refine wpAnyH_take (i := 14) (v := .bool true) rfl (by kernel_rfl) (by kernel_rfl) (by kernel_rfl) (fun _ _ _ h => h) (Or.inl ⟨by rfl, ?_⟩) (by assumption) ?_
  · intro wx hSw; go_simp
  try simp only [Act.put, List.setIfInBounds_toArray, List.set_cons_zero, List.set_cons_succ, List.getElem_toArray, List.getElem_cons_zero, List.getElem_cons_succ]
  refine wpAnyH_take (i := 15) (v := .bool true) rfl (by kernel_rfl) (by kernel_rfl) (by kernel_rfl) (fun _ _ _ h => h) (Or.inl ⟨by rfl, ?_⟩) (by assumption) ?_
  · intro wx hSw; go_simp
  try simp only [Act.put, List.setIfInBounds_toArray, List.set_cons_zero, List.set_cons_succ, List.getElem_toArray, List.getElem_cons_zero, List.getElem_cons_succ]
  refine wpAnyH_take (i := 16) (v := .pointer (some ⟨w.heap.size, 0, none⟩)) rfl (by kernel_rfl) (by kernel_rfl) (by kernel_rfl) (fun _ _ _ h => h) (Or.inl ⟨by rfl, ?_⟩) (by assumption) ?_
  · intro wx hSw; go_simp
  try simp only [Act.put, List.setIfInBounds_toArray, List.set_cons_zero, List.set_cons_succ, List.getElem_toArray, List.getElem_cons_zero, List.getElem_cons_succ]
  refine wpAnyH_take (i := 17) (v := .agg #[.int .i64 c, .int .i64 d]) rfl (by kernel_rfl) (by kernel_rfl) (by kernel_rfl) (fun _ _ _ h => h) (Or.inl ⟨by rfl, ?_⟩) (by assumption) ?_
  · intro wx hSw; go_simp
  try simp only [Act.put, List.setIfInBounds_toArray, List.set_cons_zero, List.set_cons_succ, List.getElem_toArray, List.getElem_cons_zero, List.getElem_cons_succ]
  refine wpAnyH_take (i := 18) (v := .pointer (some ⟨w.heap.size, 2, none⟩)) rfl (by kernel_rfl) (by kernel_rfl) (by kernel_rfl) (fun _ _ _ h => h) (Or.inl ⟨by rfl, ?_⟩) (by assumption) ?_
  · intro wx hSw; go_simp
  try simp only [Act.put, List.setIfInBounds_toArray, List.set_cons_zero, List.set_cons_succ, List.getElem_toArray, List.getElem_cons_zero, List.getElem_cons_succ]
  refine wpAnyH_take (i := 19) (v := .slice aW nW kW) rfl (by kernel_rfl) (by kernel_rfl) (by kernel_rfl) (fun _ _ _ h => h) (Or.inl ⟨by rfl, ?_⟩) (by assumption) ?_
  · intro wx hSw; go_simp
  try simp only [Act.put, List.setIfInBounds_toArray, List.set_cons_zero, List.set_cons_succ, List.getElem_toArray, List.getElem_cons_zero, List.getElem_cons_succ]
  refine wpAnyH_ready (rs := [20]) (by kernel_rfl) (by simp) ?_
  refine AllReadyH.cons rfl (fun K hK => ?_) AllReadyH.nil
  go_simp
  go_wp2_with fail
  refine (plain_impl aW nW kW Z sW _ (P6.row_below HW.out (by repeat (first | exact B1.out | refine bthen ?_ (by assumption) | apply Below.drew)))).mono ?_
  rintro e w4 ⟨⟨a4, c4, rfl, hr4⟩, hb4⟩
  refine hK.out _ _ (keepS (by assumption) hb4) (fun hNew => ?_)
  clear hK K hHeld
  have hHeld := hNew
  clear hNew
  try simp only [Act.put, List.setIfInBounds_toArray, List.set_cons_zero, List.set_cons_succ, List.getElem_toArray, List.getElem_cons_zero, List.getElem_cons_succ]
  refine wpAnyH_ready (rs := [21]) (by kernel_rfl) (by simp) ?_
  refine AllReadyH.cons rfl (fun K hK => ?_) AllReadyH.nil
  go_simp
  go_wp2_with fail
  refine (listOk_any c d a4 nW c4 Z sW _ (r5_below hr4 (by repeat (first | exact Below.refl _ _ | apply Below.drew)))).mono ?_
  rintro e w5 ⟨rfl, hb5⟩
  rw [h4]
  refine hK.out _ _ (keepS (by assumption) hb5) (fun hNew => ?_)
  clear hK K hHeld
  have hHeld := hNew
  clear hNew
  try simp only [Act.put, List.setIfInBounds_toArray, List.set_cons_zero, List.set_cons_succ, List.getElem_toArray, List.getElem_cons_zero, List.getElem_cons_succ]
  refine wpAnyH_take (i := 22) (v := .bool true) rfl (by kernel_rfl) (by kernel_rfl) (by kernel_rfl) (fun _ _ _ h => h) (Or.inl ⟨by rfl, ?_⟩) (by assumption) ?_
  · intro wx hSw; go_simp
  try simp only [Act.put, List.setIfInBounds_toArray, List.set_cons_zero, List.set_cons_succ, List.getElem_toArray, List.getElem_cons_zero, List.getElem_cons_succ]
  refine wpAnyH_take (i := 23) (v := .bool true) rfl (by kernel_rfl) (by kernel_rfl) (by kernel_rfl) (fun _ _ _ h => h) (Or.inl ⟨by rfl, ?_⟩) (by assumption) ?_
  · intro wx hSw; go_simp
  try simp only [Act.put, List.setIfInBounds_toArray, List.set_cons_zero, List.set_cons_succ, List.getElem_toArray, List.getElem_cons_zero, List.getElem_cons_succ]
  refine wpAnyH_done (by kernel_rfl) ?_ _
  clear hHeld
  go_wp2
  go_ret
  exact ⟨by rw [hv] <;> rfl, (by repeat (first | exact B1.out | refine bthen ?_ (by assumption) | apply Below.drew))⟩
end Go.Proofs.Ytoickljpjlhkoaa
