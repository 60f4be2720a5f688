/- DskHead of the model; conditions: those typed. -/
import Derived.Test.YtlmoeacpkkkkcaaGreatDoorTO
import Derived.Test.YtlmoeacpkkkkcaaGreatDoorTN
namespace Go.Proofs.YtlmoeacpkkkkcaaGreatDoor
open Go.RowKit Go.Deep
set_option linter.unusedVariables false
set_option maxRecDepth 100000
theorem words_any (s : ByteArray) (w : World) : Calls Tryz.prog 14 #[.string s] w fun e w' => ∃ v, e = .returned v ∧ Below w.heap.size w w' := by
  refine (wordsLook s w).mono ?_
  rintro e w' ⟨v, h, _, hb⟩
  exact ⟨v, h, hb⟩
set_option maxHeartbeats 4000000 in
theorem head_spec (b n m : Nat) (X : Nat → ByteArray) (hm : m = min n 400) (hn : n ≤ 1048576) (w : World) (hb : b < w.heap.size) (h : RowS w (some ⟨b, 0, none⟩) n X) :
    Calls Tryz.prog 5 #[.slice (some ⟨b, 0, none⟩) n n] w fun e w' => Ans X m e w' (w.heap.size + 1) ∧ Below w.heap.size w w' := by
  have HR : Hid (∀ k, k < n → w.cell? ⟨b, k, none⟩ = some (.string (X k))) := by
    intro k hk
    rcases h with h | ⟨b', o', e, h1, h2⟩
    · omega
    · injection e with e
      injection e with e1 e2
      subst e1
      subst e2
      have := h2 k hk
      rwa [Nat.zero_add] at this
  have hm1 : m ≤ 400 := by omega
  have hm2 : m ≤ n := by omega
  have HM := hid hm
  obtain ⟨i5, hi5, hzz⟩ := Option.map_eq_some_iff.1 infoW39
  simp only [Prod.mk.injEq] at hzz
  obtain ⟨hz50, hz51, hz52⟩ := hzz
  clear h hm
  go_enter Tryz.func5, Tryz.ntmps5
  go_wp2_with fail
  obtain ⟨w0, e0⟩ : ∃ y, y = ((w.alloc (.cells #[.int .i64 0, .int .i64 0] 25)).alloc (.cells #[.int .i64 0, .int .i64 0] 25)).alloc (.cells #[] 39) := ⟨_, rfl⟩
  rw [← e0]
  have HB : Hid (Below w.heap.size w w0) := by rw [e0]; exact (((Below.refl _ _).alloc (Nat.le_refl _) _).alloc (by simp) _).alloc (by first | (simp; done) | (simp; omega)) _
  have HR0 : Hid (Bk w0 w.heap.size [.int .i64 0, .int .i64 0]) := by rw [e0]; exact ((bk_new w 25 [.int .i64 0, .int .i64 0]).below ((Below.refl _ _).alloc (Nat.le_refl _) _)).below ((Below.refl _ _).alloc (Nat.le_refl _) _)
  have HM0 : Hid (Bk w0 (w.heap.size + 1) [.int .i64 0, .int .i64 0]) := by
    rw [e0]
    have := bk_new (w.alloc (.cells #[.int .i64 0, .int .i64 0] 25)) 25 [.int .i64 0, .int .i64 0]
    rw [show (w.alloc (.cells #[.int .i64 0, .int .i64 0] 25)).heap.size = w.heap.size + 1 by simp] at this
    exact this.below ((Below.refl _ _).alloc (Nat.le_refl _) _)
  have HK0 : Hid (WkR w0 (w.heap.size + 1 + 1) (.slice (some ⟨w.heap.size + 1 + 1, 0, none⟩) 0 0) 0 (hZ X)) := by
    rw [e0]
    have := World.ownsRow_made ((w.alloc (.cells #[.int .i64 0, .int .i64 0] 25)).alloc (.cells #[.int .i64 0, .int .i64 0] 25)) (base := w.heap.size + 1 + 1) (e := 39) (size := 5) #[] 0 (by simp) (by simp) (by simp)
    unfold Hid WkR
    simpa using this
  have hsz0 : w.heap.size + 1 < w0.heap.size := HM0.out.1
  clear e0
  go_loopw [7, 8, 9] (fun sv li i wr => ∃ (k : Nat) (c d s : Int) (lv : Value), k ≤ m ∧ lv = li ∧ .int .i64 s = sv ∧ .int .i64 k = i ∧ Hid (∀ j, j < k → good X j) ∧ Hid (Bk wr w.heap.size [.int .i64 0, .int .i64 0]) ∧ Hid (Bk wr (w.heap.size + 1) [.int .i64 c, .int .i64 d]) ∧ Hid (WkR wr (w.heap.size + 1 + 1) lv (k - 2) (hZ X)) ∧ Hid (1 ≤ k → c = hA X ∧ d = hB X) ∧ Hid (2 ≤ k → s = hS X) ∧ Hid (Below w.heap.size w wr)) (fun _ _ i _ => m - (intOf i).toNat)
  case atStart => exact ⟨0, 0, 0, 0, _, Nat.zero_le _, rfl, rfl, rfl, fun _ h => absurd h (by omega), HR0, HM0, HK0, fun h => absurd h (by omega), fun h => absurd h (by omega), HB⟩
  case round =>
    clear HB HR0 HM0 HK0 hsz0
    obtain ⟨k, c, d, s, lv, hk, rfl, rfl, rfl, hgd, hr, hmb, hw, hcd, hss, hb0⟩ := hrel
    have hszr : w.heap.size + 1 < wr.heap.size := hmb.out.1
    by_cases hkm : k < m
    · have hkx := hkm
      have hkn : k < n := by omega
      have hk1 : (k : Int) < (n : Int) := by omega
      have hk2 : (k : Int) < 400 := by omega
      have hc : wr.cell? ⟨b, k, none⟩ = some (.string (X k)) := (hb0.out.cell (p := ⟨b, k, none⟩) hb).trans (HR.out k hkn)
      by_cases hk0 : k = 0
      · subst hk0
        by_cases hs : (X 0).size ≤ 100
        · go_wp2_with fail
          refine (words_spec (X 0) (by omega) _).mono ?_
          rintro e w1 ⟨v, rfl, ho, hb1⟩
          rcases ho.2 with ⟨rfl, hn0⟩ | ⟨g, cap, cur, rfl, _⟩
          · obtain ⟨a, r, e⟩ := words_cons (X 0).data.toList
            rw [e] at hn0
            cases hn0
          have HO := hid ho
          clear ho
          have hz1 : wr.heap.size ≤ w1.heap.size := hb1.size
          have B1 := hid (bthen hb0.out hb1)
          have R1 := hid (hr.out.below hb1)
          have M1 := hid (hmb.out.below hb1)
          have K1 := hid (WkR.below hw.out hb1)
          clear hb1 hc hr hmb hw hb0
          have yR0 := (R1.out.2 0 (by simp)).1
          have yR1 := (R1.out.2 1 (by simp)).1
          have zR0 := (R1.out.2 0 (by simp)).2
          have zR1 := (R1.out.2 1 (by simp)).2
          simp only [List.getD, List.getElem?_cons_zero, List.getElem?_cons_succ, Option.getD_some] at yR0 yR1
          have hlR := R1.out.1
          have yM0 := (M1.out.2 0 (by simp)).1
          have yM1 := (M1.out.2 1 (by simp)).1
          have zM0 := (M1.out.2 0 (by simp)).2
          have zM1 := (M1.out.2 1 (by simp)).2
          simp only [List.getD, List.getElem?_cons_zero, List.getElem?_cons_succ, Option.getD_some] at yM0 yM1
          have hlM := M1.out.1
          have hne : ¬ w.heap.size + 1 = w.heap.size := by omega
          go_wp2_with fail
          refine (at1 (X 0) (by omega) _ _ _ HO.out).mono ?_
          rintro e w2 ⟨rfl, e2⟩
          obtain rfl := e2.symm
          go_wp2_with fail
          refine (at2 (X 0) (by omega) _ _ _ HO.out).mono ?_
          rintro e w2 ⟨rfl, e2⟩
          obtain rfl := e2.symm
          by_cases hl : (words (X 0).data.toList).length = 3
          · obtain ⟨x0, r0, ex⟩ := words_cons (X 0).data.toList
            have hx0 : (words (X 0).data.toList)[0]? = some x0 := by rw [ex]; rfl
            obtain ⟨hgl, hgc⟩ := word0 HO.out hx0
            have hl1 : (((words (X 0).data.toList).length : Int) == 3) = true := by rw [hl]; rfl
            have hl2 : (0 : Int) < ((words (X 0).data.toList).length : Int) := by omega
            have HX := hid hx0
            have HL := hid hl
            clear hx0 ex hl
            by_cases hx : x0 = [109, 97, 112]
            · have hxl : ((⟨x0.toArray⟩ : ByteArray).toList == [109, 97, 112]) = true := by rw [hx]; exact is_lit _
              have HX2 := hid hx
              clear hx
              go_wp2_with fail
              obtain ⟨w3, e3⟩ : ∃ y, y = (w1.setCell ⟨w.heap.size + 1, 0, none⟩ (.int .i64 (atF (words (X 0).data.toList) 1))).setCell ⟨w.heap.size + 1, 1, none⟩ (.int .i64 (atF (words (X 0).data.toList) 2)) := ⟨_, rfl⟩
              rw [← e3]
              have B3 : Hid (Below w.heap.size w w3) := by rw [e3]; exact (B1.out.setCell (by first | simp | omega) _).setCell (by first | simp | omega) _
              have R3 : Hid (Bk w3 w.heap.size [.int .i64 0, .int .i64 0]) := by rw [e3]; exact (R1.out.far (by omega)).far (by omega)
              have M3 : Hid (Bk w3 (w.heap.size + 1) [.int .i64 (atF (words (X 0).data.toList) 1), .int .i64 (atF (words (X 0).data.toList) 2)]) := by rw [e3]; exact Bk.set (j := 1) (Bk.set (j := 0) M1.out (by simp)) (by simp)
              have K3 : Hid (WkR w3 (w.heap.size + 1 + 1) lv (0 - 2) (hZ X)) := by rw [e3]; exact own_far (own_far K1.out (by omega)) (by omega)
              have hz3 : w1.heap.size ≤ w3.heap.size := by rw [e3]; simp [World.setCell]
              clear e3 B1 R1 M1 K1 yR0 yR1 zR0 zR1 hlR yM0 yM1 zM0 zM1 hlM hgl hgc HO
              refine (ok_spec (atF (words (X 0).data.toList) 1) (atF (words (X 0).data.toList) 2) _).mono ?_
              rintro e w4 ⟨rfl, hb4⟩
              have B4 := hid (bthen B3.out hb4)
              have R4 := hid (R3.out.below hb4)
              have M4 := hid (M3.out.below hb4)
              have K4 := hid (WkR.below K3.out hb4)
              clear B3 R3 M3 K3
              obtain ⟨q, hq⟩ : ∃ q, q = okB (atF (words (X 0).data.toList) 1) (atF (words (X 0).data.toList) 2) := ⟨_, rfl⟩
              rw [← hq]
              have HQ := hid hq
              clear hq
              cases q
              · have yR0 := (R4.out.2 0 (by simp)).1
                have yR1 := (R4.out.2 1 (by simp)).1
                have zR0 := (R4.out.2 0 (by simp)).2
                have zR1 := (R4.out.2 1 (by simp)).2
                simp only [List.getD, List.getElem?_cons_zero, List.getElem?_cons_succ, Option.getD_some] at yR0 yR1
                have hlR := R4.out.1
                go_wp2
                refine bodyPost_ret (v := .tuple #[.agg #[.int .i64 0, .int .i64 0], .int .i64 0, .slice (some ⟨w4.heap.size, 0, none⟩) 0 0, .int .i64 (((0 : Nat) : Int) + 1)]) (by simp [results, Tryz.results5, go_sem, *]) rfl ⟨.inl ⟨0, ⟨by omega, fun j hj => ⟨by omega, hgd.out j hj⟩, .inr (W0.no (fun q => (by have := q.2.2.2; rw [← HQ.out] at this; cases this)))⟩, _, _, rfl⟩, ?_⟩
                repeat (first | exact B4.out | refine Below.setCell ?_ (by first | simp | omega) _ | refine Below.alloc ?_ (by first | (simp; done) | (simp; omega)) _)
              · have HY := hid (W0.yes (X := X) ⟨hs, HL.out, by rw [HX.out, HX2.out], HQ.out.symm⟩)
                go_wp2
                go_roundw
                case rel => exact ⟨1, _, _, s, lv, by omega, rfl, rfl, by go_num, fun j hj => (by obtain rfl : j = 0 := (by omega); exact HY.out.1), R4, M4, K4, fun _ => HY.out.2, fun h => absurd h (by omega), B4⟩
                case measure => simp [intOf]; omega
            · have hxl : ((⟨x0.toArray⟩ : ByteArray).toList == [109, 97, 112]) = false := not_lit hx
              have HX2 := hid hx
              clear hx
              go_wp2
              refine bodyPost_ret (v := .tuple #[.agg #[.int .i64 0, .int .i64 0], .int .i64 0, .slice (some ⟨w1.heap.size, 0, none⟩) 0 0, .int .i64 (((0 : Nat) : Int) + 1)]) (by simp [results, Tryz.results5, go_sem, *]) rfl ⟨.inl ⟨0, ⟨by omega, fun j hj => ⟨by omega, hgd.out j hj⟩, .inr (W0.no (fun q => HX2.out (by have := q.2.2.1; rw [HX.out] at this; injection this)))⟩, _, _, rfl⟩, ?_⟩
              repeat (first | exact B1.out | refine Below.setCell ?_ (by first | simp | omega) _ | refine Below.alloc ?_ (by first | (simp; done) | (simp; omega)) _)
          · have hl1 : (((words (X 0).data.toList).length : Int) == 3) = false := by rw [beq_eq_false_iff_ne]; omega
            have HL := hid hl
            clear hl
            go_wp2
            refine bodyPost_ret (v := .tuple #[.agg #[.int .i64 0, .int .i64 0], .int .i64 0, .slice (some ⟨w1.heap.size, 0, none⟩) 0 0, .int .i64 (((0 : Nat) : Int) + 1)]) (by simp [results, Tryz.results5, go_sem, *]) rfl ⟨.inl ⟨0, ⟨by omega, fun j hj => ⟨by omega, hgd.out j hj⟩, .inr (W0.no (fun q => HL.out q.2.1))⟩, _, _, rfl⟩, ?_⟩
            repeat (first | exact B1.out | refine Below.setCell ?_ (by first | simp | omega) _ | refine Below.alloc ?_ (by first | (simp; done) | (simp; omega)) _)
        · go_wp2_with fail
          refine (words_long (X 0) (by omega) _).mono ?_
          rintro e w1 ⟨rfl, hb1⟩
          have hz1 : wr.heap.size ≤ w1.heap.size := hb1.size
          have B1 := hid (bthen hb0.out hb1)
          have R1 := hid (hr.out.below hb1)
          have M1 := hid (hmb.out.below hb1)
          have K1 := hid (WkR.below hw.out hb1)
          clear hb1 hc hr hmb hw hb0
          have yR0 := (R1.out.2 0 (by simp)).1
          have yR1 := (R1.out.2 1 (by simp)).1
          have zR0 := (R1.out.2 0 (by simp)).2
          have zR1 := (R1.out.2 1 (by simp)).2
          simp only [List.getD, List.getElem?_cons_zero, List.getElem?_cons_succ, Option.getD_some] at yR0 yR1
          have hlR := R1.out.1
          have yM0 := (M1.out.2 0 (by simp)).1
          have yM1 := (M1.out.2 1 (by simp)).1
          have zM0 := (M1.out.2 0 (by simp)).2
          have zM1 := (M1.out.2 1 (by simp)).2
          simp only [List.getD, List.getElem?_cons_zero, List.getElem?_cons_succ, Option.getD_some] at yM0 yM1
          have hlM := M1.out.1
          have hne : ¬ w.heap.size + 1 = w.heap.size := by omega
          go_wp2_with fail
          refine (none1 _ _ _).mono ?_
          rintro e w2 ⟨rfl, e2⟩
          obtain rfl := e2.symm
          go_wp2_with fail
          refine (none2 _ _ _).mono ?_
          rintro e w2 ⟨rfl, e2⟩
          obtain rfl := e2.symm
          go_wp2
          refine bodyPost_ret (v := .tuple #[.agg #[.int .i64 0, .int .i64 0], .int .i64 0, .slice (some ⟨w1.heap.size, 0, none⟩) 0 0, .int .i64 (((0 : Nat) : Int) + 1)]) (by simp [results, Tryz.results5, go_sem, *]) rfl ⟨.inl ⟨0, ⟨by omega, fun j hj => ⟨by omega, hgd.out j hj⟩, .inr (W0.no (fun q => hs q.1))⟩, _, _, rfl⟩, ?_⟩
          repeat (first | exact B1.out | refine Below.setCell ?_ (by first | simp | omega) _ | refine Below.alloc ?_ (by first | (simp; done) | (simp; omega)) _)
      by_cases hk3 : k = 1
      · subst hk3
        by_cases hs : (X 1).size ≤ 100
        · go_wp2_with fail
          refine (words_spec (X 1) (by omega) _).mono ?_
          rintro e w1 ⟨v, rfl, ho, hb1⟩
          rcases ho.2 with ⟨rfl, hn0⟩ | ⟨g, cap, cur, rfl, _⟩
          · obtain ⟨a, r, e⟩ := words_cons (X 1).data.toList
            rw [e] at hn0
            cases hn0
          have HO := hid ho
          clear ho
          have hz1 : wr.heap.size ≤ w1.heap.size := hb1.size
          have B1 := hid (bthen hb0.out hb1)
          have R1 := hid (hr.out.below hb1)
          have M1 := hid (hmb.out.below hb1)
          have K1 := hid (WkR.below hw.out hb1)
          clear hb1 hc hr hmb hw hb0
          have yR0 := (R1.out.2 0 (by simp)).1
          have yR1 := (R1.out.2 1 (by simp)).1
          have zR0 := (R1.out.2 0 (by simp)).2
          have zR1 := (R1.out.2 1 (by simp)).2
          simp only [List.getD, List.getElem?_cons_zero, List.getElem?_cons_succ, Option.getD_some] at yR0 yR1
          have hlR := R1.out.1
          have yM0 := (M1.out.2 0 (by simp)).1
          have yM1 := (M1.out.2 1 (by simp)).1
          have zM0 := (M1.out.2 0 (by simp)).2
          have zM1 := (M1.out.2 1 (by simp)).2
          simp only [List.getD, List.getElem?_cons_zero, List.getElem?_cons_succ, Option.getD_some] at yM0 yM1
          have hlM := M1.out.1
          have hne : ¬ w.heap.size + 1 = w.heap.size := by omega
          go_wp2_with fail
          refine (at1 (X 1) (by omega) _ _ _ HO.out).mono ?_
          rintro e w2 ⟨rfl, e2⟩
          obtain rfl := e2.symm
          by_cases hl : (words (X 1).data.toList).length = 2
          · obtain ⟨x0, r0, ex⟩ := words_cons (X 1).data.toList
            have hx0 : (words (X 1).data.toList)[0]? = some x0 := by rw [ex]; rfl
            obtain ⟨hgl, hgc⟩ := word0 HO.out hx0
            have hl1 : (((words (X 1).data.toList).length : Int) == 2) = true := by rw [hl]; rfl
            have hl2 : (0 : Int) < ((words (X 1).data.toList).length : Int) := by omega
            have HX := hid hx0
            have HL := hid hl
            clear hx0 ex hl
            by_cases hx : x0 = [115, 101, 114, 118, 101, 114, 115]
            · have hxl : ((⟨x0.toArray⟩ : ByteArray).toList == [115, 101, 114, 118, 101, 114, 115]) = true := by rw [hx]; exact is_lit _
              have HX2 := hid hx
              clear hx
              go_wp2_with fail
              refine (in_spec (atF (words (X 1).data.toList) 1) 1 3 _).mono ?_
              rintro e w4 ⟨rfl, e4⟩
              obtain rfl := e4.symm
              clear HO hgl hgc
              obtain ⟨q, hq⟩ : ∃ q, q = inB (atF (words (X 1).data.toList) 1) 1 3 := ⟨_, rfl⟩
              rw [← hq]
              have HQ := hid hq
              clear hq
              cases q
              · go_wp2
                refine bodyPost_ret (v := .tuple #[.agg #[.int .i64 0, .int .i64 0], .int .i64 0, .slice (some ⟨w1.heap.size, 0, none⟩) 0 0, .int .i64 (((1 : Nat) : Int) + 1)]) (by simp [results, Tryz.results5, go_sem, *]) rfl ⟨.inl ⟨1, ⟨by omega, fun j hj => ⟨by omega, hgd.out j hj⟩, .inr (W1.no (fun q => (by have := q.2.2.2; rw [← HQ.out] at this; cases this)))⟩, _, _, rfl⟩, ?_⟩
                repeat (first | exact B1.out | refine Below.setCell ?_ (by first | simp | omega) _ | refine Below.alloc ?_ (by first | (simp; done) | (simp; omega)) _)
              · have HY := hid (W1.yes (X := X) ⟨hs, HL.out, by rw [HX.out, HX2.out], HQ.out.symm⟩)
                go_wp2
                go_roundw
                case rel => exact ⟨2, c, d, _, lv, by omega, rfl, rfl, by go_num, fun j hj => (by rcases (show j = 0 ∨ j = 1 by omega) with rfl | rfl; exact hgd.out 0 (by omega); exact HY.out.1), R1, M1, K1, fun _ => hcd.out (by omega), fun _ => HY.out.2, B1⟩
                case measure => simp [intOf]; omega
            · have hxl : ((⟨x0.toArray⟩ : ByteArray).toList == [115, 101, 114, 118, 101, 114, 115]) = false := not_lit hx
              have HX2 := hid hx
              clear hx
              go_wp2
              refine bodyPost_ret (v := .tuple #[.agg #[.int .i64 0, .int .i64 0], .int .i64 0, .slice (some ⟨w1.heap.size, 0, none⟩) 0 0, .int .i64 (((1 : Nat) : Int) + 1)]) (by simp [results, Tryz.results5, go_sem, *]) rfl ⟨.inl ⟨1, ⟨by omega, fun j hj => ⟨by omega, hgd.out j hj⟩, .inr (W1.no (fun q => HX2.out (by have := q.2.2.1; rw [HX.out] at this; injection this)))⟩, _, _, rfl⟩, ?_⟩
              repeat (first | exact B1.out | refine Below.setCell ?_ (by first | simp | omega) _ | refine Below.alloc ?_ (by first | (simp; done) | (simp; omega)) _)
          · have hl1 : (((words (X 1).data.toList).length : Int) == 2) = false := by rw [beq_eq_false_iff_ne]; omega
            have HL := hid hl
            clear hl
            go_wp2
            refine bodyPost_ret (v := .tuple #[.agg #[.int .i64 0, .int .i64 0], .int .i64 0, .slice (some ⟨w1.heap.size, 0, none⟩) 0 0, .int .i64 (((1 : Nat) : Int) + 1)]) (by simp [results, Tryz.results5, go_sem, *]) rfl ⟨.inl ⟨1, ⟨by omega, fun j hj => ⟨by omega, hgd.out j hj⟩, .inr (W1.no (fun q => HL.out q.2.1))⟩, _, _, rfl⟩, ?_⟩
            repeat (first | exact B1.out | refine Below.setCell ?_ (by first | simp | omega) _ | refine Below.alloc ?_ (by first | (simp; done) | (simp; omega)) _)
        · go_wp2_with fail
          refine (words_long (X 1) (by omega) _).mono ?_
          rintro e w1 ⟨rfl, hb1⟩
          have hz1 : wr.heap.size ≤ w1.heap.size := hb1.size
          have B1 := hid (bthen hb0.out hb1)
          have R1 := hid (hr.out.below hb1)
          have M1 := hid (hmb.out.below hb1)
          have K1 := hid (WkR.below hw.out hb1)
          clear hb1 hc hr hmb hw hb0
          have yR0 := (R1.out.2 0 (by simp)).1
          have yR1 := (R1.out.2 1 (by simp)).1
          have zR0 := (R1.out.2 0 (by simp)).2
          have zR1 := (R1.out.2 1 (by simp)).2
          simp only [List.getD, List.getElem?_cons_zero, List.getElem?_cons_succ, Option.getD_some] at yR0 yR1
          have hlR := R1.out.1
          have yM0 := (M1.out.2 0 (by simp)).1
          have yM1 := (M1.out.2 1 (by simp)).1
          have zM0 := (M1.out.2 0 (by simp)).2
          have zM1 := (M1.out.2 1 (by simp)).2
          simp only [List.getD, List.getElem?_cons_zero, List.getElem?_cons_succ, Option.getD_some] at yM0 yM1
          have hlM := M1.out.1
          have hne : ¬ w.heap.size + 1 = w.heap.size := by omega
          go_wp2_with fail
          refine (none1 _ _ _).mono ?_
          rintro e w2 ⟨rfl, e2⟩
          obtain rfl := e2.symm
          go_wp2
          refine bodyPost_ret (v := .tuple #[.agg #[.int .i64 0, .int .i64 0], .int .i64 0, .slice (some ⟨w1.heap.size, 0, none⟩) 0 0, .int .i64 (((1 : Nat) : Int) + 1)]) (by simp [results, Tryz.results5, go_sem, *]) rfl ⟨.inl ⟨1, ⟨by omega, fun j hj => ⟨by omega, hgd.out j hj⟩, .inr (W1.no (fun q => hs q.1))⟩, _, _, rfl⟩, ?_⟩
          repeat (first | exact B1.out | refine Below.setCell ?_ (by first | simp | omega) _ | refine Below.alloc ?_ (by first | (simp; done) | (simp; omega)) _)
      obtain ⟨k, rfl⟩ : ∃ k', k = k' + 2 := ⟨k - 2, by omega⟩
      have hc0 : ¬ ((k + 2 : Nat) : Int) = 0 := by omega
      have hc1 : ¬ ((k + 2 : Nat) : Int) = 1 := by omega
      by_cases hv : vOk (X (k + 2))
      · have HV := hid hv
        clear hv
        have HI := hid (spec_yes (X (k + 2)) wr HV.out)
        rw [show vF (X (k + 2)) 1 = hZ X k 0 from rfl, show vF (X (k + 2)) 3 = hZ X k 1 from rfl, show vF (X (k + 2)) 5 = hZ X k 2 from rfl, show vF (X (k + 2)) 7 = hZ X k 3 from rfl, show vF (X (k + 2)) 9 = hZ X k 4 from rfl] at HI
        go_wp2_with fail
        refine (words_any (X (k + 2)) _).mono ?_
        rintro e wq ⟨v, rfl, hbq⟩
        have hcq := (hbq.cell (p := ⟨b, k + 2, none⟩) (Nat.lt_of_lt_of_le hb hb0.out.size)).trans hc
        have hzq : wr.heap.size ≤ wq.heap.size := hbq.size
        have Bq := hid (bthen hb0.out hbq)
        have Rq := hid (hr.out.below hbq)
        have Mq := hid (hmb.out.below hbq)
        have Kq := hid (WkR.below hw.out hbq)
        clear hbq hc hr hmb hw hb0 HI
        have HI := hid (spec_yes (X (k + 2)) wq HV.out)
        rw [show vF (X (k + 2)) 1 = hZ X k 0 from rfl, show vF (X (k + 2)) 3 = hZ X k 1 from rfl, show vF (X (k + 2)) 5 = hZ X k 2 from rfl, show vF (X (k + 2)) 7 = hZ X k 3 from rfl, show vF (X (k + 2)) 9 = hZ X k 4 from rfl] at HI
        go_wp2_with fail
        refine HI.out.mono ?_
        rintro e w1 ⟨rfl, hb1⟩
        have hz1 : wq.heap.size ≤ w1.heap.size := hb1.size
        have B1 := hid (bthen Bq.out hb1)
        have R1 := hid (Rq.out.below hb1)
        have M1 := hid (Mq.out.below hb1)
        have K1 := hid (WkR.below Kq.out hb1)
        clear hb1 hcq Bq Rq Mq Kq HI
        go_upto_region 10 with fail
        obtain ⟨w2, e2⟩ : ∃ y, y = w1.alloc (.cells #[.int .i64 (hZ X k 0), .int .i64 (hZ X k 1), .int .i64 (hZ X k 2), .int .i64 (hZ X k 3), .int .i64 (hZ X k 4)] 39) := ⟨_, rfl⟩
        rw [← e2]
        have hb2 : Below w1.heap.size w1 w2 := by rw [e2]; exact (Below.refl _ _).alloc (Nat.le_refl _) _
        have hW : Bk w2 w1.heap.size [.int .i64 (hZ X k 0), .int .i64 (hZ X k 1), .int .i64 (hZ X k 2), .int .i64 (hZ X k 3), .int .i64 (hZ X k 4)] := by rw [e2]; exact bk_new w1 39 [.int .i64 (hZ X k 0), .int .i64 (hZ X k 1), .int .i64 (hZ X k 2), .int .i64 (hZ X k 3), .int .i64 (hZ X k 4)]
        have hz2 : w1.heap.size ≤ w2.heap.size := hb2.size
        have B2 := hid (bthen B1.out hb2)
        have R2 := hid (R1.out.below hb2)
        have M2 := hid (M1.out.below hb2)
        have K2 := hid (WkR.below K1.out hb2)
        have hlM : w.heap.size + 1 < w1.heap.size := M1.out.1
        obtain ⟨g5, eg⟩ : ∃ g, g = w1.heap.size := ⟨_, rfl⟩
        rw [← eg] at hW ⊢
        clear e2 hb2 B1 R1 M1 K1 eg
        have y0 := (hW.2 0 (by simp)).1
        have y1 := (hW.2 1 (by simp)).1
        have y2 := (hW.2 2 (by simp)).1
        have y3 := (hW.2 3 (by simp)).1
        have y4 := (hW.2 4 (by simp)).1
        simp only [List.getD, List.getElem?_cons_zero, List.getElem?_cons_succ, Option.getD_some] at y0 y1 y2 y3 y4
        have hl5 := hW.1
        have hkk : k + 2 - 2 = k := by omega
        rw [hkk] at K2
        go_wp2_with (at_builtin; refine wpList_append_own _ rfl _ _ 26 rfl (w.heap.size + 1 + 1) 39 i5 (.agg #[.int .i64 0, .int .i64 0, .int .i64 0, .int .i64 0, .int .i64 0]) 5 40 Tryz.underlying26 hi5 hz50 hz51 hz52 rfl (by decide) _ _ _ rfl (World.ownsRow.alloc K2.out _) ⟨w2.heap.size, 0, none⟩ 1 1 (five (hZ X) k) rfl rfl (bk_news (bk_new w2 39 (five (hZ X) k))) (one_five _ _) ?d3 ?d4 ?d5 ?_)
        case d3 => unfold maxLen; omega
        case d4 => omega
        case d5 => simp; omega
        · intro v' w3 hown hg3 hnil
          have hA : Below w2.heap.size w2 (w2.alloc (.cells (five (hZ X) k).toArray 39)) := (Below.refl _ _).alloc (Nat.le_refl _) _
          have hoA := World.ownsRow.alloc K2.out (.cells (five (hZ X) k).toArray 39)
          have hsA : w2.heap.size ≤ (w2.alloc (.cells (five (hZ X) k).toArray 39)).heap.size := hA.size
          have B3 := hid (below_row (bthen B2.out hA) hoA hg3 (by omega) (by omega))
          have R3 := hid (bk_grown (R2.out.below hA) hoA hg3 (by omega))
          have M3 := hid (bk_grown (M2.out.below hA) hoA hg3 (by omega))
          clear hA hoA hsA hg3 y0 y1 y2 y3 y4 hl5 hnil B2 R2 M2 K2 hW
          have K3 : WkR w3 (w.heap.size + 1 + 1) v' (k + 1) (hZ X) := by unfold WkR; rw [rows5_succ]; exact hown
          clear hown
          obtain ⟨g, cap, rfl, hgb, hgl, hrow⟩ := K3.cells (by omega)
          have HW3 := hid hrow
          have HK3 := hid K3
          clear hrow K3
          obtain ⟨rfl, rfl⟩ := hcd.out (by omega)
          have yM0 := (M3.out.2 0 (by simp)).1
          have yM1 := (M3.out.2 1 (by simp)).1
          simp only [List.getD, List.getElem?_cons_zero, List.getElem?_cons_succ, Option.getD_some] at yM0 yM1
          have hlM := M3.out.1
          go_wp2_with fail
          refine (listOk_spec (hA X) (hB X) g 0 (k + 1) cap (hZ X) (by omega) _ hgl HW3.out).mono ?_
          rintro e w4 ⟨rfl, hb4⟩
          have B4 := hid (bthen B3.out hb4)
          have R4 := hid (R3.out.below hb4)
          have M4 := hid (M3.out.below hb4)
          have K4 := hid (WkR.below HK3.out hb4)
          have hz4 : w3.heap.size ≤ w4.heap.size := hb4.size
          clear hb4 B3 R3 M3 HW3 HK3 yM0 yM1 hlM
          obtain ⟨q, hq⟩ : ∃ q, q = allB (hA X) (hB X) (hZ X) (k + 1) := ⟨_, rfl⟩
          rw [← hq]
          have HQ := hid hq
          clear hq
          have hne : ¬ w.heap.size + 1 = w.heap.size := by omega
          cases q
          · have yR0 := (R4.out.2 0 (by simp)).1
            have yR1 := (R4.out.2 1 (by simp)).1
            have zR0 := (R4.out.2 0 (by simp)).2
            have zR1 := (R4.out.2 1 (by simp)).2
            simp only [List.getD, List.getElem?_cons_zero, List.getElem?_cons_succ, Option.getD_some] at yR0 yR1
            have hlR := R4.out.1
            go_wp2
            refine bodyPost_ret (v := .tuple #[.agg #[.int .i64 0, .int .i64 0], .int .i64 0, .slice (some ⟨w4.heap.size, 0, none⟩) 0 0, .int .i64 ((((k + 2) : Nat) : Int) + 1)]) (by simp [results, Tryz.results5, go_sem, *]) rfl ⟨.inl ⟨(k + 2), ⟨by omega, fun j hj => ⟨by omega, hgd.out j hj⟩, .inr (fun q => (by have := q.2; rw [← HQ.out] at this; cases this))⟩, _, _, rfl⟩, ?_⟩
            repeat (first | exact B4.out | refine Below.setCell ?_ (by first | simp | omega) _ | refine Below.alloc ?_ (by first | (simp; done) | (simp; omega)) _)
          · go_wp2
            go_roundw
            case rel => exact ⟨k + 2 + 1, hA X, hB X, s, _, by omega, rfl, rfl, by go_num, fun j hj => (by
              by_cases e : j = k + 2
              · subst e; exact ⟨HV.out, HQ.out.symm⟩
              · exact hgd.out j (by omega)), R4, M4, (by rw [show k + 2 + 1 - 2 = k + 1 by omega]; exact K4), fun _ => ⟨rfl, rfl⟩, fun _ => hss.out (by omega), B4⟩
            case measure => simp [intOf]; omega
      · have HV := hid hv
        clear hv
        have HI := hid (spec_no (X (k + 2)) wr HV.out)
        go_wp2_with fail
        refine (words_any (X (k + 2)) _).mono ?_
        rintro e wq ⟨v, rfl, hbq⟩
        have hcq := (hbq.cell (p := ⟨b, k + 2, none⟩) (Nat.lt_of_lt_of_le hb hb0.out.size)).trans hc
        have hzq : wr.heap.size ≤ wq.heap.size := hbq.size
        have Bq := hid (bthen hb0.out hbq)
        have Rq := hid (hr.out.below hbq)
        have Mq := hid (hmb.out.below hbq)
        have Kq := hid (WkR.below hw.out hbq)
        clear hbq hc hr hmb hw hb0 HI
        have HI := hid (spec_no (X (k + 2)) wq HV.out)
        go_wp2_with fail
        refine HI.out.mono ?_
        rintro e w1 ⟨rfl, hb1⟩
        have hz1 : wq.heap.size ≤ w1.heap.size := hb1.size
        have B1 := hid (bthen Bq.out hb1)
        have R1 := hid (Rq.out.below hb1)
        have M1 := hid (Mq.out.below hb1)
        have K1 := hid (WkR.below Kq.out hb1)
        clear hb1 hcq Bq Rq Mq Kq HI
        go_upto_region 10 with fail
        obtain ⟨w2, e2⟩ : ∃ y, y = w1.alloc (.cells #[.int .i64 0, .int .i64 0, .int .i64 0, .int .i64 0, .int .i64 0] 39) := ⟨_, rfl⟩
        rw [← e2]
        have hb2 : Below w1.heap.size w1 w2 := by rw [e2]; exact (Below.refl _ _).alloc (Nat.le_refl _) _
        have hW : Bk w2 w1.heap.size [.int .i64 0, .int .i64 0, .int .i64 0, .int .i64 0, .int .i64 0] := by rw [e2]; exact bk_new w1 39 [.int .i64 0, .int .i64 0, .int .i64 0, .int .i64 0, .int .i64 0]
        have hz2 : w1.heap.size ≤ w2.heap.size := hb2.size
        have B2 := hid (bthen B1.out hb2)
        have R2 := hid (R1.out.below hb2)
        have M2 := hid (M1.out.below hb2)
        have K2 := hid (WkR.below K1.out hb2)
        have hlM : w.heap.size + 1 < w1.heap.size := M1.out.1
        obtain ⟨g5, eg⟩ : ∃ g, g = w1.heap.size := ⟨_, rfl⟩
        rw [← eg] at hW ⊢
        clear e2 hb2 B1 R1 M1 K1 eg
        have y0 := (hW.2 0 (by simp)).1
        have y1 := (hW.2 1 (by simp)).1
        have y2 := (hW.2 2 (by simp)).1
        have y3 := (hW.2 3 (by simp)).1
        have y4 := (hW.2 4 (by simp)).1
        simp only [List.getD, List.getElem?_cons_zero, List.getElem?_cons_succ, Option.getD_some] at y0 y1 y2 y3 y4
        have hl5 := hW.1
        have hkk : k + 2 - 2 = k := by omega
        rw [hkk] at K2
        go_wp2_with (at_builtin; refine wpList_append_own _ rfl _ _ 26 rfl (w.heap.size + 1 + 1) 39 i5 (.agg #[.int .i64 0, .int .i64 0, .int .i64 0, .int .i64 0, .int .i64 0]) 5 40 Tryz.underlying26 hi5 hz50 hz51 hz52 rfl (by decide) _ _ _ rfl (World.ownsRow.alloc K2.out _) ⟨w2.heap.size, 0, none⟩ 1 1 (five (fun _ _ => 0) 0) rfl rfl (bk_news (bk_new w2 39 (five (fun _ _ => 0) 0))) (one_five _ _) ?d3 ?d4 ?d5 ?_)
        case d3 => unfold maxLen; omega
        case d4 => omega
        case d5 => simp; omega
        · intro v' w3 hown hg3 hnil
          have hA : Below w2.heap.size w2 (w2.alloc (.cells (five (fun _ _ => 0) 0).toArray 39)) := (Below.refl _ _).alloc (Nat.le_refl _) _
          have hoA := World.ownsRow.alloc K2.out (.cells (five (fun _ _ => 0) 0).toArray 39)
          have hsA : w2.heap.size ≤ (w2.alloc (.cells (five (fun _ _ => 0) 0).toArray 39)).heap.size := hA.size
          have B3 := hid (below_row (bthen B2.out hA) hoA hg3 (by omega) (by omega))
          have R3 := hid (bk_grown (R2.out.below hA) hoA hg3 (by omega))
          have M3 := hid (bk_grown (M2.out.below hA) hoA hg3 (by omega))
          clear hA hoA hsA hg3 y0 y1 y2 y3 y4 hl5 hnil B2 R2 M2 K2 hW
          obtain ⟨a0, l0, c0, rfl⟩ := own_shape hown
          clear hown
          have hne : ¬ w.heap.size + 1 = w.heap.size := by omega
          have yR0 := (R3.out.2 0 (by simp)).1
          have yR1 := (R3.out.2 1 (by simp)).1
          have zR0 := (R3.out.2 0 (by simp)).2
          have zR1 := (R3.out.2 1 (by simp)).2
          simp only [List.getD, List.getElem?_cons_zero, List.getElem?_cons_succ, Option.getD_some] at yR0 yR1
          have hlR := R3.out.1
          go_wp2
          refine bodyPost_ret (v := .tuple #[.agg #[.int .i64 0, .int .i64 0], .int .i64 0, .slice (some ⟨w3.heap.size, 0, none⟩) 0 0, .int .i64 ((((k + 2) : Nat) : Int) + 1)]) (by simp [results, Tryz.results5, go_sem, *]) rfl ⟨.inl ⟨(k + 2), ⟨by omega, fun j hj => ⟨by omega, hgd.out j hj⟩, .inr (fun q => HV.out q.1)⟩, _, _, rfl⟩, ?_⟩
          repeat (first | exact B3.out | refine Below.setCell ?_ (by first | simp | omega) _ | refine Below.alloc ?_ (by first | (simp; done) | (simp; omega)) _)
    · obtain rfl : k = m := by omega
      have HM2 := HM.out
      by_cases h2 : 2 ≤ k
      · have hn2 : ¬ (n : Int) < 2 := by omega
        by_cases hnk : n ≤ k
        · have hf : ¬ (k : Int) < (n : Int) := by omega
          clear HM2
          obtain ⟨rfl, rfl⟩ := hcd.out (by omega)
          obtain rfl := hss.out h2
          obtain ⟨a0, l0, c0, rfl⟩ := own_shape hw.out
          have yR0 := (hr.out.2 0 (by simp)).1
          have yR1 := (hr.out.2 1 (by simp)).1
          have zR0 := (hr.out.2 0 (by simp)).2
          have zR1 := (hr.out.2 1 (by simp)).2
          simp only [List.getD, List.getElem?_cons_zero, List.getElem?_cons_succ, Option.getD_some] at yR0 yR1
          have hlR := hr.out.1
          have yM0 := (hmb.out.2 0 (by simp)).1
          have yM1 := (hmb.out.2 1 (by simp)).1
          simp only [List.getD, List.getElem?_cons_zero, List.getElem?_cons_succ, Option.getD_some] at yM0 yM1
          have hlM := hmb.out.1
          have hne : ¬ w.heap.size + 1 = w.heap.size := by omega
          go_wp2
          refine bodyPost_ret (v := .tuple #[.agg #[.int .i64 (hA X), .int .i64 (hB X)], .int .i64 (hS X), .slice a0 l0 c0, .int .i64 0]) (by simp [results, Tryz.results5, go_sem, *]) rfl ⟨.inr ⟨⟨h2, hgd.out⟩, _, rfl, ?_⟩, ?_⟩
          · refine own_far (own_far ?_ (Nat.lt_succ_self _)) (Nat.lt_succ_self _)
            have hW := hw.out
            refine ⟨hW.1, ?_⟩
            rcases hW.2 with h | ⟨g, cap, cur, e1, e2, e3⟩
            · exact .inl h
            · exact .inr ⟨g, cap, cur, e1, by omega, e3⟩
          · exact Below.setCell (Below.setCell hb0.out (Nat.le_refl _) _) (Nat.le_refl _) _
        · have hf : (k : Int) < (n : Int) := by omega
          have hf2 : ¬ (k : Int) < 400 := by omega
          clear HM2
          obtain ⟨rfl, rfl⟩ := hcd.out (by omega)
          obtain rfl := hss.out h2
          obtain ⟨a0, l0, c0, rfl⟩ := own_shape hw.out
          have yR0 := (hr.out.2 0 (by simp)).1
          have yR1 := (hr.out.2 1 (by simp)).1
          have zR0 := (hr.out.2 0 (by simp)).2
          have zR1 := (hr.out.2 1 (by simp)).2
          simp only [List.getD, List.getElem?_cons_zero, List.getElem?_cons_succ, Option.getD_some] at yR0 yR1
          have hlR := hr.out.1
          have yM0 := (hmb.out.2 0 (by simp)).1
          have yM1 := (hmb.out.2 1 (by simp)).1
          simp only [List.getD, List.getElem?_cons_zero, List.getElem?_cons_succ, Option.getD_some] at yM0 yM1
          have hlM := hmb.out.1
          have hne : ¬ w.heap.size + 1 = w.heap.size := by omega
          go_wp2
          refine bodyPost_ret (v := .tuple #[.agg #[.int .i64 (hA X), .int .i64 (hB X)], .int .i64 (hS X), .slice a0 l0 c0, .int .i64 0]) (by simp [results, Tryz.results5, go_sem, *]) rfl ⟨.inr ⟨⟨h2, hgd.out⟩, _, rfl, ?_⟩, ?_⟩
          · refine own_far (own_far ?_ (Nat.lt_succ_self _)) (Nat.lt_succ_self _)
            have hW := hw.out
            refine ⟨hW.1, ?_⟩
            rcases hW.2 with h | ⟨g, cap, cur, e1, e2, e3⟩
            · exact .inl h
            · exact .inr ⟨g, cap, cur, e1, by omega, e3⟩
          · exact Below.setCell (Below.setCell hb0.out (Nat.le_refl _) _) (Nat.le_refl _) _
      · obtain rfl : n = k := by omega
        have hf : ¬ (n : Int) < (n : Int) := by omega
        have hn2 : (n : Int) < 2 := by omega
        clear HM2
        have yR0 := (hr.out.2 0 (by simp)).1
        have yR1 := (hr.out.2 1 (by simp)).1
        have zR0 := (hr.out.2 0 (by simp)).2
        have zR1 := (hr.out.2 1 (by simp)).2
        simp only [List.getD, List.getElem?_cons_zero, List.getElem?_cons_succ, Option.getD_some] at yR0 yR1
        have hlR := hr.out.1
        have hne : ¬ w.heap.size + 1 = w.heap.size := by omega
        go_wp2
        refine bodyPost_ret (v := .tuple #[.agg #[.int .i64 0, .int .i64 0], .int .i64 0, .slice (some ⟨wr.heap.size, 0, none⟩) 0 0, .int .i64 ((n : Int) + 1)]) (by simp [results, Tryz.results5, go_sem, *]) rfl ⟨.inl ⟨n, ⟨by omega, fun j hj => ⟨hj, hgd.out j hj⟩, .inl (Nat.le_refl _)⟩, _, _, rfl⟩, ?_⟩
        repeat (first | exact hb0.out | refine Below.setCell ?_ (by first | simp | omega) _ | refine Below.alloc ?_ (by first | (simp; done) | (simp; omega)) _)
end Go.Proofs.YtlmoeacpkkkkcaaGreatDoor
