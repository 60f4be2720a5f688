/- byKey: what stands in a map, told in the order of the keys; conditions: the map lies in memory. -/
import Derived.Test.YtgjapdjidighlabGreatGM2
import Derived.Test.YtgjapdjidighlabGreatGN1
import Derived.Laws.MakeOwn
namespace Go.Proofs.YtgjapdjidighlabGreat
open Go.RowKit Go.Deep Go.Maps
set_option linter.unusedVariables false
theorem gb {w w' : World} (h : Below w.heap.size w w') : w.grownBy w' none := ⟨h.os, h.tape, h.output, h.size, fun k hk _ => h.block k hk⟩
theorem Wm.wf {w : World} {b n : Nat} {M : Int → Option Nat} (h : Wm w b n M) {z : Int} (hz : (M z).isSome = true) : (Lit.int .i64 z).wf = true := by
  obtain ⟨es, clock, hb, hs, hn, hent, hno⟩ := h
  obtain ⟨Y, hY⟩ := Option.isSome_iff_exists.1 hz
  obtain ⟨x, hx, hk⟩ := hno z Y hY
  obtain ⟨z', Z', hk', hw, _⟩ := hent x hx
  have : z' = z := kI_inj (hk'.symm.trans hk)
  subst this
  exact hw
theorem info_parts {P : Program} {t : TypeId} {z : Value} {a b : Nat} (h : (P.info? t).map (fun i => (i.zero, i.size, i.bytes)) = some (some z, a, b)) : ∃ i, P.info? t = some i ∧ i.zero = some z ∧ i.size = a ∧ i.bytes = b := by
  obtain ⟨i, hi, hzz⟩ := Option.map_eq_some_iff.1 h
  simp only [Prod.mk.injEq] at hzz
  exact ⟨i, hi, hzz⟩
theorem info93 : (Tryz.prog.info? 94).map (fun i => (i.zero, i.size, i.bytes)) = some (some (.pointer none), 1, 8) := by kernel_rfl
def rowP (Z : Nat → Nat) (k : Nat) : List Value := [.pointer (some ⟨Z k, 0, none⟩)]
set_option maxRecDepth 20000 in
set_option maxHeartbeats 2000000 in
theorem byKey (b n : Nat) (M : Int → Option Nat) (L : List Int) (Z : Nat → Nat) (hn : n ≤ 1048576) (hL : L.Pairwise (· < ·)) (hm : ∀ z, z ∈ L ↔ (M z).isSome = true) (hZ0 : ∀ k, k < L.length → M L[k]! = some (Z k)) (hln : L.length ≤ 1048576) (w : World) (h : Wm w b n M) :
    Calls Tryz.prog 48 #[.map (some b)] w fun e w' => (∃ v, e = .returned v ∧ w'.ownsRow w.heap.size 94 1 v L.length ((List.range L.length).flatMap (rowP Z))) ∧ Below w.heap.size w w' := by
  obtain ⟨D, hown, _, _, hszD⟩ := h.own (Nat.le_trans hn (by decide))
  have hlen := hown.len Tryz.underlying68 3
  have hbl := h.lt
  have HW : Hid (Wm w b n M) := h
  have HL : Hid (L.Pairwise (· < ·)) := hL
  have HM : Hid (∀ z, z ∈ L ↔ (M z).isSome = true) := hm
  have HZ : Hid (∀ k, k < L.length → M L[k]! = some (Z k)) := hZ0
  generalize Maps.size D = m at *
  obtain ⟨i5, hi5, hz50, hz51, hz52⟩ := info_parts info93
  obtain ⟨w1, hmk, hrow1, hg1⟩ := run_make_own (P := Tryz.prog) w w.heap.size 101 94 i5 _ 1 Tryz.underlying101 hi5 hz50 hz51 .i64 .i64 m (by rw [hz52]; omega) (by unfold maxLen; omega) (Nat.le_refl _)
  have hb1 : Below w.heap.size w w1 := ⟨hg1.os, hg1.tape, hg1.output, hg1.size, fun k hk => hg1.block k hk (by simp)⟩
  have hz1 : w.heap.size < w1.heap.size := (hrow1.lt w.heap.size rfl).2
  clear hown h hL hm hZ0 hg1
  go_enter Tryz.func48, Tryz.ntmps48
  go_wp2_with fail
  clear hlen hmk
  refine (keys_call _ _).mono ?_
  rintro e w2 ⟨rfl, rfl⟩
  go_wp2_with fail
  refine (sortedKeys b n M L hn HL.out HM.out w1 (HW.out.below hbl hb1)).mono ?_
  rintro e w3 ⟨⟨v3, rfl, hrow3⟩, hb3⟩
  obtain ⟨a3, c3, gk, e3, hgk, hck⟩ : ∃ a c gk, v3 = .slice a L.length c ∧ ((a = some ⟨gk, 0, none⟩ ∧ w1.heap.size < gk) ∨ L.length = 0) ∧ ∀ j, j < L.length → w3.cell? ⟨gk, j, none⟩ = some (.int .i64 L[j]!) ∧ gk < w3.heap.size := by
    rcases hrow3.2 with ⟨e, h0⟩ | ⟨g, cap, cur, e, hbg, hcur, hle⟩
    · exact ⟨none, 0, 0, by rw [e, h0], .inr h0, fun j hj => absurd hj (by omega)⟩
    · refine ⟨_, cap, g, e, .inl ⟨rfl, by omega⟩, fun j hj => ⟨?_, (Array.getElem?_eq_some_iff.1 hcur).1⟩⟩
      have := hrow3.cells (g := g) (by rw [e]; rfl) j (.int .i64 L[j]!) (by simp [hj, encZ])
      rw [add_none, Nat.zero_add] at this
      exact this
  subst e3
  have hb3' : Below w.heap.size w w3 := hb1.trans ((((Below.refl _ w1).alloc (Nat.le_refl _) _).trans (hb3.mono (by omega))).mono (by omega))
  have hr3 : w3.ownsRow w.heap.size 94 1 (.slice (some ⟨w.heap.size, 0, none⟩) 0 m) 0 [] := hrow1.kept (gb (((Below.refl _ w1).alloc (Nat.le_refl _) _).trans (hb3.mono (by omega)))) (by simp [Value.ownBlock])
  have HB3 : Hid (Below w.heap.size w w3) := hb3'
  have HR3 : Hid (w3.ownsRow w.heap.size 94 1 (.slice (some ⟨w.heap.size, 0, none⟩) 0 m) 0 []) := hr3
  have HCK : Hid (∀ j, j < L.length → w3.cell? ⟨gk, j, none⟩ = some (.int .i64 L[j]!) ∧ gk < w3.heap.size) := hck
  have hz3 : w1.heap.size ≤ w3.heap.size := by have := hb3.size; simp at this; omega
  clear hb3' hr3 hck hb3 hrow3 hrow1 hb1
  go_wp2_with fail
  go_loopw [3, 13] (fun s i wr => ∃ (k : Nat) (v : Value), k ≤ L.length ∧ .int .i64 k = i ∧ v = s ∧ wr.ownsRow w.heap.size 94 1 v k ((List.range k).flatMap (rowP Z)) ∧ w3.heap.size ≤ wr.heap.size ∧ Below w.heap.size w wr ∧ (∀ j, j < L.length → wr.cell? ⟨gk, j, none⟩ = some (.int .i64 L[j]!) ∧ gk < wr.heap.size ∧ ¬ v.ownBlock = some gk)) (fun _ i _ => L.length - (intOf i).toNat)
  case atStart => exact ⟨0, _, Nat.zero_le _, rfl, rfl, HR3.out, Nat.le_refl _, HB3.out, fun j hj => ⟨(HCK.out j hj).1, (HCK.out j hj).2, by rcases hgk with h | h; simp [Value.ownBlock]; omega; omega⟩⟩
  case round =>
    obtain ⟨k, v, hk, rfl, rfl, ho, hsz, hbel, hks⟩ := hrel
    have HK : Hid (∀ j, j < L.length → wr.cell? ⟨gk, j, none⟩ = some (.int .i64 L[j]!) ∧ gk < wr.heap.size ∧ ¬ v.ownBlock = some gk) := hks
    have HBL : Hid (Below w.heap.size w wr) := hbel
    clear hks hbel
    by_cases hkn : k < L.length
    · have hkn' : (k : Int) < (L.length : Int) := by omega
      obtain ⟨rfl, hg2⟩ : a3 = some ⟨gk, 0, none⟩ ∧ w1.heap.size < gk := by rcases hgk with h | h; exact h; omega
      have ck : wr.cell? ⟨gk, k, none⟩ = some (.int .i64 L[k]!) := (HK.out k hkn).1
      have lgk : gk < wr.heap.size := (HK.out k hkn).2.1
      have hMs : (M L[k]!).isSome = true := (HM.out _).1 (by simp [hkn])
      have hl : (Instr.lookup 68 (.map (some b)) (.int .i64 L[k]!) false).run Tryz.prog wr = .ok (.pointer (some ⟨Z k, 0, none⟩)) wr := by
        rw [(HW.out.below hbl HBL.out).look1 (HW.out.wf hMs), HZ.out k hkn]; rfl
      obtain ⟨va, vl, vc, ev⟩ : ∃ a l c, v = .slice a l c := by rcases ho.2 with ⟨e, _⟩ | ⟨g, cap, cur, hv, _⟩; exact ⟨_, _, _, e⟩; exact ⟨_, _, _, hv⟩
      subst ev
      clear hMs
      generalize hq : L[k]! = qk at *
      clear hq
      go_wp2_with (at_builtin; refine wpList_append_own_at _ rfl _ _ 101 rfl w.heap.size 94 i5 (.pointer none) 1 8 Tryz.underlying101 hi5 hz50 hz51 hz52 rfl (by decide) _ _ _ rfl (ho.alloc _) ⟨wr.heap.size, 0, none⟩ 1 1 (rowP Z k) rfl rfl ?d1 ?d2 ?d3 ?d4 ?d5 ?_)
      case d1 =>
        intro j u hj
        match j, hj with
        | 0, hj => simp [rowP] at hj; subst hj; simp
        | j + 1, hj => simp [rowP] at hj
      case d2 => intro u hu; simp [rowP] at hu; subst hu; rfl
      case d3 => unfold maxLen; omega
      case d4 => omega
      case d5 => have := HBL.out.size; simp; omega
      · intro v' w5 hown' hgrow hnil hloc
        have hall := (World.grownBy_alloc wr _ _).trans hgrow
        have HO : Hid (w5.ownsRow w.heap.size 94 1 v' (k + 1) ((List.range (k + 1)).flatMap (rowP Z))) := by
          unfold Hid
          rw [List.range_succ, List.flatMap_append]
          simpa using hown'
        have hs5 : w3.heap.size ≤ w5.heap.size := Nat.le_trans hsz hall.size
        have hb5 : Hid (Below w.heap.size w w5) := HBL.out.grown hall HBL.out.size (fun kk e => (ho.lt kk e).1)
        have HK5 : Hid (∀ j, j < L.length → w5.cell? ⟨gk, j, none⟩ = some (.int .i64 L[j]!) ∧ gk < w5.heap.size ∧ ¬ v'.ownBlock = some gk) := fun j hj => by
          obtain ⟨h1, h2, h3⟩ := HK.out j hj
          refine ⟨((sm_grown hall (b := gk) h2 (fun e => h3 e.symm)) j).1.trans h1, Nat.lt_of_lt_of_le h2 hall.size, ?_⟩
          rcases hloc with h | h
          · rw [h]; exact h3
          · intro e
            rw [h] at e
            simp at e
            omega
        clear hown' hgrow hnil hall hloc ho HK HBL ck lgk hl
        go_wp2
        go_roundw
        case rel => exact ⟨k + 1, _, by omega, by go_num, rfl, HO.out, hs5, hb5.out, HK5.out⟩
        case measure => simp [intOf]; omega
    · have hkn' : k = L.length := by omega
      subst hkn'
      go_wp2
      go_ret
      exact ⟨⟨_, rfl, ho⟩, HBL.out⟩
end Go.Proofs.YtgjapdjidighlabGreat
