/- The walks of the two readers of a word: the program's looseNumber (Atoi) and the model's l2Number; conditions: those typed. -/
import Derived.Test.YtpfemjenhnnfmaaDoorPlain2
import Derived.Lib.AtoiErrMem
import Derived.LoopTactic
namespace Go.Proofs.YtpfemjenhnnfmaaDoor
open Go.RowKit
set_option linter.unusedVariables false

/-- What the library's functions ask of its own variables, in every world that has only grown. -/
def Env (w : World) : Prop := ∀ w', Below w.heap.size w w' → (∃ m, w'.cell? ⟨0, 0, none⟩ = some (.int .i64 m)) ∧ (∃ t p, w'.cell? ⟨2, 0, none⟩ = some (.iface t p)) ∧ (∃ t p, w'.cell? ⟨3, 0, none⟩ = some (.iface t p)) ∧ Lib.TabIs Tryd.prog w' "internal/strconv.uint64pow10" .u64 Lib.pow10Tab
theorem Env.on {w w1 : World} (h : Env w) (hb : Below w.heap.size w w1) : Env w1 := fun w' h' => h w' (bthen hb h')
theorem Env.tab {w : World} (h : Env w) : Lib.TabBelow Tryd.prog w.heap.size w "internal/strconv.uint64pow10" .u64 Lib.pow10Tab := fun w' h' => (h w' h').2.2.2

theorem loose (s : ByteArray) (hs : s.size ≤ 1000) (w : World) (hE : Env w) :
    Calls Tryd.prog 18 #[.string s] w fun e w' => e = .returned (.int .i64 (atoiV s.data.toList)) ∧ Below w.heap.size w w' := by
  obtain ⟨_, ⟨t1, p1, c1⟩, ⟨t2, p2, c2⟩, _⟩ := hE w (Below.refl _ _)
  cases h : Lib.atoiAll s.data.toList with
  | ok v =>
    have E : Hid (atoiV s.data.toList = v) := by show atoiV s.data.toList = v; unfold atoiV; rw [h]
    clear c1 c2 hE
    go_enter Tryd.func18, Tryd.ntmps18
    go_wp2_with fail
    refine (Tryd.strconv_Atoi_ok s (by omega) v h w).mono ?_
    rintro e w' ⟨rfl, hw⟩
    have hb : Below w.heap.size w w' := by
      rcases hw with rfl | ⟨t, rfl⟩
      · exact Below.refl _ _
      · exact Lib.bytesWorld_below _ _ _
    clear hw
    go_wp2
    go_ret
    exact ⟨by rw [E.out]; rfl, hb⟩
  | «syntax» =>
    have E : Hid (atoiV s.data.toList = 0) := by show atoiV s.data.toList = 0; unfold atoiV; rw [h]
    go_enter Tryd.func18, Tryd.ntmps18
    go_wp2_with fail
    refine (Tryd.strconv_Atoi_syntax s (by omega) h _ w c1 (.inr ⟨_, _, rfl⟩)).mono ?_
    rintro e w' ⟨N, rfl, _, _, hb⟩
    clear c1 c2 hE
    go_wp2
    go_ret
    exact ⟨by rw [E.out]; rfl, hb⟩
  | range =>
    have E : Hid (atoiV s.data.toList = Lib.atoiSat s.data.toList) := by show atoiV s.data.toList = _; unfold atoiV; rw [h]
    go_enter Tryd.func18, Tryd.ntmps18
    go_wp2_with fail
    refine (Tryd.strconv_Atoi_range s (by omega) h _ w c2 (.inr ⟨_, _, rfl⟩)).mono ?_
    rintro e w' ⟨N, rfl, _, _, hb⟩
    clear c1 c2 hE
    go_wp2
    go_ret
    exact ⟨by rw [E.out]; rfl, hb⟩

theorem numF_nil : numF [] = -1 := rfl
theorem numF_long {l : List UInt8} (h : 5 < l.length) : numF l = -1 := by
  unfold numF; rw [if_pos (.inr (.inl h))]
theorem numF_zero {r : List UInt8} (h : 0 < r.length) : numF (48 :: r) = -1 := by
  unfold numF; rw [if_pos (.inr (.inr ⟨by simpa using h, rfl⟩))]
theorem numF_go {b : UInt8} {r : List UInt8} (h : r.length ≤ 4) (h0 : ¬ (0 < r.length ∧ b = 48)) : numF (b :: r) = (numGo 0 (b :: r)).getD (-1) := by
  unfold numF
  rw [if_neg]
  rintro (h1 | h1 | ⟨h1, h2⟩)
  · simp at h1
  · simp at h1; omega
  · simp at h1 h2; exact h0 ⟨by omega, h2⟩
theorem numGo_step {l : List UInt8} {k : Nat} (hk : k < l.length) (z : Int) (h0 : ¬ l[k].toNat < 48) (h1 : ¬ 57 < l[k].toNat) : numGo z (l.drop k) = numGo (z * 10 + (l[k].toNat - 48 : Nat)) (l.drop (k + 1)) := by
  rw [List.drop_eq_getElem_cons hk]
  conv => lhs; unfold numGo
  rw [if_neg (by omega)]
theorem numGo_bad {l : List UInt8} {k : Nat} (hk : k < l.length) (z : Int) (h : l[k].toNat < 48 ∨ 57 < l[k].toNat) : numGo z (l.drop k) = none := by
  rw [List.drop_eq_getElem_cons hk]
  unfold numGo
  rw [if_pos h]

theorem size_len (s : ByteArray) : s.data.toList.length = s.size := Array.length_toList
theorem at_list (s : ByteArray) {k : Nat} (h : k < s.size) : s.data.toList[k]'(by rw [size_len]; exact h) = s[k]'h := rfl

/-- What k digits can spell. -/
def Bd (k : Nat) (z : Int) : Prop := 0 ≤ z ∧ (k = 0 → z = 0) ∧ (k = 1 → z ≤ 9) ∧ (k = 2 → z ≤ 99) ∧ (k = 3 → z ≤ 999) ∧ (k = 4 → z ≤ 9999) ∧ z ≤ 99999
theorem Bd.low {k : Nat} {z : Int} (h : Bd k z) (hk : k < 5) : 0 ≤ z ∧ z ≤ 9999 := by
  obtain ⟨a0, a1, a2, a3, a4, a5, a6⟩ := h
  have : k = 0 ∨ k = 1 ∨ k = 2 ∨ k = 3 ∨ k = 4 := by omega
  rcases this with rfl | rfl | rfl | rfl | rfl <;> simp_all <;> omega
theorem Bd.step {k : Nat} {z : Int} (h : Bd k z) (hk : k < 5) (c : Int) (c0 : 0 ≤ c) (c1 : c ≤ 9) : Bd (k + 1) (z * 10 + c) := by
  obtain ⟨a0, a1, a2, a3, a4, a5, a6⟩ := h
  have : k = 0 ∨ k = 1 ∨ k = 2 ∨ k = 3 ∨ k = 4 := by omega
  unfold Bd
  rcases this with rfl | rfl | rfl | rfl | rfl <;> simp_all <;> omega

set_option maxHeartbeats 1000000 in
theorem number (s : ByteArray) (w : World) (hmax : s.size ≤ 1000) :
    Calls Tryd.prog 35 #[.string s] w fun e w' => e = .returned (.int .i64 (numF s.data.toList)) ∧ w' = w := by
  have hsl := size_len s
  by_cases hn : (s.size : Int) = 0
  · have E : Hid (numF s.data.toList = -1) := by
      have : s.data.toList = [] := List.eq_nil_of_length_eq_zero (by rw [hsl]; omega)
      show numF s.data.toList = -1
      rw [this]; rfl
    clear hsl
    go_enter Tryd.func35, Tryd.ntmps35
    go_wp2
    go_ret
    exact ⟨by rw [E.out]; rfl, rfl⟩
  · have hpos : 0 < s.size := by omega
    have hp0 : ((s.size : Int) == 0) = false := beq_eq_false_iff_ne.2 hn
    by_cases h5 : (5 : Int) < (s.size : Int)
    · have E : Hid (numF s.data.toList = -1) := numF_long (by rw [hsl]; omega)
      clear hsl hn
      go_enter Tryd.func35, Tryd.ntmps35
      go_wp2
      go_ret
      exact ⟨by rw [E.out]; rfl, rfl⟩
    · have h5' : (s.size : Int) ≤ 5 := by omega
      by_cases h1 : (1 : Int) < (s.size : Int)
      · by_cases hz : (s[0]'hpos).toNat = 48
        · have E : Hid (numF s.data.toList = -1) := by
            show numF s.data.toList = -1
            have e0 : s.data.toList[0]? = some (s[0]'hpos) := by rw [List.getElem?_eq_getElem (by omega), at_list s hpos]
            revert e0 hsl
            generalize s.data.toList = l
            intro hsl e0
            rcases l with _ | ⟨b, r⟩
            · simp at hsl; omega
            · have e1 : b = s[0] := by simpa using e0
              have : b = 48 := by apply UInt8.toNat_inj.1; rw [e1, hz]; rfl
              subst this
              exact numF_zero (by simp at hsl; omega)
          have hz' : (((s[0]'hpos).toNat : Int) == 48) = true := by simp [hz]
          clear hz hn h5 hsl
          go_enter Tryd.func35, Tryd.ntmps35
          go_wp2
          go_ret
          exact ⟨by rw [E.out]; rfl, rfl⟩
        · have hz' : (((s[0]'hpos).toNat : Int) == 48) = false := by simp; omega
          have E : Hid (numF s.data.toList = (numGo 0 s.data.toList).getD (-1)) := by
            show numF s.data.toList = _
            have e0 : s.data.toList[0]? = some (s[0]'hpos) := by rw [List.getElem?_eq_getElem (by omega), at_list s hpos]
            revert e0 hsl
            generalize s.data.toList = l
            intro hsl e0
            rcases l with _ | ⟨b, r⟩
            · simp at hsl; omega
            · have e1 : b = s[0] := by simpa using e0
              exact numF_go (by simp at hsl; omega) (fun h => hz (by rw [← e1, h.2]; rfl))
          clear hz hn h5 hsl
          go_enter Tryd.func35, Tryd.ntmps35
          go_wp2
          go_loopw [3, 4] (fun n i wr => ∃ (k : Nat) (z : Int), k ≤ s.size ∧ n = .int .i64 z ∧ i = .int .i64 k ∧ Bd k z ∧ numGo 0 s.data.toList = numGo z (s.data.toList.drop k) ∧ wr = w) (fun _ i _ => s.size - (intOf i).toNat)
          case atStart => exact ⟨0, 0, Nat.zero_le _, rfl, rfl, by simp [Bd], rfl, rfl⟩
          case round =>
            obtain ⟨k, z, hk, rfl, rfl, hbd, hgo, rfl⟩ := hrel
            have HG : Hid (numGo 0 s.data.toList = numGo z (s.data.toList.drop k)) := hgo
            have HB : Hid (Bd k z) := hbd
            clear hgo hbd
            by_cases hks : k < s.size
            · have hlt : k < s.data.toList.length := by rw [size_len]; exact hks
              obtain ⟨z0, z1⟩ := HB.out.low (by omega)
              by_cases hc0 : ((s[k]'hks).toNat : Int) < 48
              · have HE : Hid (numF s.data.toList = -1) := by
                  show numF s.data.toList = -1
                  rw [E.out, HG.out, numGo_bad hlt z (.inl (by rw [at_list s hks]; omega))]; rfl
                clear hlt
                go_wp2
                go_ret
                exact ⟨by rw [HE.out]; rfl, rfl⟩
              · by_cases hc1 : (57 : Int) < ((s[k]'hks).toNat : Int)
                · have HE : Hid (numF s.data.toList = -1) := by
                    show numF s.data.toList = -1
                    rw [E.out, HG.out, numGo_bad hlt z (.inr (by rw [at_list s hks]; omega))]; rfl
                  clear hlt
                  go_wp2
                  go_ret
                  exact ⟨by rw [HE.out]; rfl, rfl⟩
                · have hc0' : (48 : Int) ≤ ((s[k]'hks).toNat : Int) := by omega
                  have hc1' : ((s[k]'hks).toNat : Int) ≤ 57 := by omega
                  have HE : Hid (numGo 0 s.data.toList = numGo (z * 10 + (((s[k]'hks).toNat : Int) - 48)) (s.data.toList.drop (k + 1))) := by
                    show numGo 0 s.data.toList = _
                    rw [HG.out, numGo_step hlt z (by rw [at_list s hks]; omega) (by rw [at_list s hks]; omega), at_list s hks]
                    congr 2
                    omega
                  have HB' : Hid (Bd (k + 1) (z * 10 + (((s[k]'hks).toNat : Int) - 48))) := HB.out.step (by omega) _ (by omega) (by omega)
                  clear hlt HG HB hc0 hc1
                  go_wp2
                  go_roundw
                  case rel => exact ⟨k + 1, _, by omega, rfl, by go_num, HB'.out, HE.out, trivial⟩
                  case measure => simp [intOf]; omega
            · have hks' : k = s.size := by omega
              have HE : Hid (numF s.data.toList = z) := by
                show numF s.data.toList = z
                rw [E.out, HG.out, List.drop_eq_nil_of_le (by rw [size_len]; omega)]; rfl
              clear hks' HG
              go_wp2
              go_ret
              exact ⟨by rw [HE.out]; rfl, rfl⟩
      · have E : Hid (numF s.data.toList = (numGo 0 s.data.toList).getD (-1)) := by
          show numF s.data.toList = _
          revert hsl
          generalize s.data.toList = l
          intro hsl
          rcases l with _ | ⟨b, r⟩
          · simp at hsl; omega
          · exact numF_go (by simp at hsl; omega) (fun h => by have := h.1; simp at hsl; omega)
        clear hn h5 hsl
        go_enter Tryd.func35, Tryd.ntmps35
        go_wp2
        go_loopw [3, 4] (fun n i wr => ∃ (k : Nat) (z : Int), k ≤ s.size ∧ n = .int .i64 z ∧ i = .int .i64 k ∧ Bd k z ∧ numGo 0 s.data.toList = numGo z (s.data.toList.drop k) ∧ wr = w) (fun _ i _ => s.size - (intOf i).toNat)
        case atStart => exact ⟨0, 0, Nat.zero_le _, rfl, rfl, by simp [Bd], rfl, rfl⟩
        case round =>
          obtain ⟨k, z, hk, rfl, rfl, hbd, hgo, rfl⟩ := hrel
          have HG : Hid (numGo 0 s.data.toList = numGo z (s.data.toList.drop k)) := hgo
          have HB : Hid (Bd k z) := hbd
          clear hgo hbd
          by_cases hks : k < s.size
          · have hlt : k < s.data.toList.length := by rw [size_len]; exact hks
            obtain ⟨z0, z1⟩ := HB.out.low (by omega)
            by_cases hc0 : ((s[k]'hks).toNat : Int) < 48
            · have HE : Hid (numF s.data.toList = -1) := by
                show numF s.data.toList = -1
                rw [E.out, HG.out, numGo_bad hlt z (.inl (by rw [at_list s hks]; omega))]; rfl
              clear hlt
              go_wp2
              go_ret
              exact ⟨by rw [HE.out]; rfl, rfl⟩
            · by_cases hc1 : (57 : Int) < ((s[k]'hks).toNat : Int)
              · have HE : Hid (numF s.data.toList = -1) := by
                  show numF s.data.toList = -1
                  rw [E.out, HG.out, numGo_bad hlt z (.inr (by rw [at_list s hks]; omega))]; rfl
                clear hlt
                go_wp2
                go_ret
                exact ⟨by rw [HE.out]; rfl, rfl⟩
              · have hc0' : (48 : Int) ≤ ((s[k]'hks).toNat : Int) := by omega
                have hc1' : ((s[k]'hks).toNat : Int) ≤ 57 := by omega
                have HE : Hid (numGo 0 s.data.toList = numGo (z * 10 + (((s[k]'hks).toNat : Int) - 48)) (s.data.toList.drop (k + 1))) := by
                  show numGo 0 s.data.toList = _
                  rw [HG.out, numGo_step hlt z (by rw [at_list s hks]; omega) (by rw [at_list s hks]; omega), at_list s hks]
                  congr 2
                  omega
                have HB' : Hid (Bd (k + 1) (z * 10 + (((s[k]'hks).toNat : Int) - 48))) := HB.out.step (by omega) _ (by omega) (by omega)
                clear hlt HG HB hc0 hc1
                go_wp2
                go_roundw
                case rel => exact ⟨k + 1, _, by omega, rfl, by go_num, HB'.out, HE.out, trivial⟩
                case measure => simp [intOf]; omega
          · have hks' : k = s.size := by omega
            have HE : Hid (numF s.data.toList = z) := by
              show numF s.data.toList = z
              rw [E.out, HG.out, List.drop_eq_nil_of_le (by rw [size_len]; omega)]; rfl
            clear hks' HG
            go_wp2
            go_ret
            exact ⟨by rw [HE.out]; rfl, rfl⟩
end Go.Proofs.YtpfemjenhnnfmaaDoor
