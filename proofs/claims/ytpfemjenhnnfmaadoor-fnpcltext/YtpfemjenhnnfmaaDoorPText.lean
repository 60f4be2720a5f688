/- The walks of one parcel's text, the program's and the model's; conditions: the table of powers of ten lies as the text lays it (the program's). -/
import Derived.Test.YtpfemjenhnnfmaaDoorText
import Derived.Test.YtpfemjenhnnfmaaDoorOrd1
namespace Go.Proofs.YtpfemjenhnnfmaaDoor
open Go.RowKit
set_option linter.unusedVariables false

abbrev SP : ByteArray := ⟨#[32]⟩
def noWalker (i a n s l : Int) : Bool := (i == 0 && (a == 0 && (n == 0 && (s == 0 && l == 0))))
def cargoV (pn pk i a n s l pc : Int) : Value :=
  if pk = 1 ∧ pc = 0 then .iface 66 (.agg #[.int .i64 pn, .int .i64 i, .int .i64 a, .int .i64 n, .int .i64 s, .int .i64 l]) else if pk = 2 ∧ noWalker i a n s l = true then .iface 68 (.agg #[.int .i64 pn, .int .i64 pc]) else .nilIface
/-- The text of coins. -/
def coinsText (pc : Int) : ByteArray := if inB pc 1 9 = true then (⟨#[99, 111, 105, 110, 115, 32]⟩ : ByteArray) ++ DD pc else ⟨#[]⟩
/-- What stands behind a parcel's number and a blank; empty, where there is none. -/
def cargoText (pk i a n s l pc : Int) : ByteArray := if pk = 1 ∧ pc = 0 then textOf i a n s l else if pk = 2 ∧ noWalker i a n s l = true then coinsText pc else ⟨#[]⟩
def pclText (pn pk i a n s l pc : Int) : ByteArray := if inB pn 0 4999 = true ∧ (cargoText pk i a n s l pc).toList ≠ [] then (DD pn ++ SP) ++ cargoText pk i a n s l pc else ⟨#[]⟩

theorem cargoOf (pn pk i a n s l pc : Int) (w : World) :
    Calls Tryd.prog 12 #[.agg #[.int .i64 pn, .int .i64 pk, .int .i64 i, .int .i64 a, .int .i64 n, .int .i64 s, .int .i64 l, .int .i64 pc]] w fun e w' => e = .returned (cargoV pn pk i a n s l pc) ∧ Below w.heap.size w w' := by
  go_enter Tryd.func12, Tryd.ntmps12
  go_wp2
  all_goals (go_ret; exact ⟨by simp_all [cargoV, noWalker], by repeat (first | exact Below.refl _ _ | refine Below.alloc ?_ (by simp <;> omega) _)⟩)

theorem number_impl (n : Int) (w : World) :
    Calls Tryd.prog 98 #[.agg #[.int .i64 n]] w fun e w' => e = .returned (.bool (inB n 0 4999)) ∧ Below w.heap.size w w' := by
  go_enter Tryd.func98, Tryd.ntmps98
  go_wp2_with (go_at_call 55; refine (in_impl _ _ _ _).mono ?_; rintro e w' ⟨rfl, rfl⟩)
  go_ret
  exact ⟨rfl, by repeat (first | exact Below.refl _ _ | refine Below.alloc ?_ (by simp <;> omega) _)⟩

theorem words_coins (pn pc : Int) (w : World) :
    Calls Tryd.prog 102 #[.agg #[.int .i64 pn, .int .i64 pc]] w fun e w' => e = .returned (.string (coinsText pc)) ∧ Below w.heap.size w w' := by
  cases h : inB pc 1 9
  · go_enter Tryd.func102, Tryd.ntmps102
    go_wp2_with (go_at_call 103; refine (amount_impl _ _).mono ?_; rintro e w' ⟨rfl, rfl⟩; rw [h])
    go_ret
    exact ⟨by simp [coinsText, h], by repeat (first | exact Below.refl _ _ | refine bthen ?_ (by assumption) | apply Below.drew | apply bdrewN | refine Below.alloc ?_ (by simp <;> omega) _)⟩
  · have hb : 1 ≤ pc ∧ pc ≤ 9 := by simpa [inB] using h
    have zc : (DD pc).size ≤ 6 := DD_size pc (by omega)
    have c1 : ∀ w : World, (Op.stringOp .add (⟨#[99, 111, 105, 110, 115, 32]⟩ : ByteArray) (DD pc)).run Tryd.prog w = .ok (.string ((⟨#[99, 111, 105, 110, 115, 32]⟩ : ByteArray) ++ DD pc)) w := cat _ _ (by decide +kernel) (by omega)
    go_enter Tryd.func102, Tryd.ntmps102
    go_wp2_with (first | (go_at_call 103; refine (amount_impl _ _).mono ?_; rintro e w' ⟨rfl, rfl⟩; rw [h]) | (go_at_call 13; refine (itoa_small _ (by omega) (by omega) _).mono ?_; rintro e w' ⟨rfl, hb⟩))
    go_ret
    exact ⟨by simp [coinsText, h], by repeat (first | exact Below.refl _ _ | refine bthen ?_ (by assumption) | apply Below.drew | apply bdrewN | refine Below.alloc ?_ (by simp <;> omega) _)⟩

theorem words_walker (pn i a n s l : Int) (w : World) (ht : Lib.TabBelow Tryd.prog w.heap.size w "internal/strconv.uint64pow10" .u64 Lib.pow10Tab) :
    Calls Tryd.prog 100 #[.agg #[.int .i64 pn, .int .i64 i, .int .i64 a, .int .i64 n, .int .i64 s, .int .i64 l]] w fun e w' => e = .returned (.string (textOf i a n s l)) ∧ Below w.heap.size w w' := by
  have HT : Hid (Lib.TabBelow Tryd.prog w.heap.size w "internal/strconv.uint64pow10" .u64 Lib.pow10Tab) := ht
  clear ht
  have T1 : Hid (Lib.TabBelow Tryd.prog (w.alloc (.cells #[.int .i64 pn, .int .i64 i, .int .i64 a, .int .i64 n, .int .i64 s, .int .i64 l] 66)).heap.size (w.alloc (.cells #[.int .i64 pn, .int .i64 i, .int .i64 a, .int .i64 n, .int .i64 s, .int .i64 l] 66)) "internal/strconv.uint64pow10" .u64 Lib.pow10Tab) := fun w' h' => HT.out w' (bthen ((Below.refl _ _).alloc (by simp) _) h')
  go_enter Tryd.func100, Tryd.ntmps100
  go_wp2_with fail
  refine (text_impl _ _ _ _ _ _ T1.out).mono ?_
  rintro e w1 ⟨rfl, hb⟩
  go_wp2
  go_ret
  exact ⟨rfl, by repeat (first | exact Below.refl _ _ | refine bthen ?_ (by assumption) | apply Below.drew | apply bdrewN | refine Below.alloc ?_ (by simp <;> omega) _)⟩

theorem text_size (i a n s l : Int) : (textOf i a n s l).size ≤ 180 := by
  unfold textOf
  split
  · rename_i h
    have hb := h.1
    have ha := h.2
    simp [boundsB, inB] at hb
    simp [inB] at ha
    exact X9_size i a n s l (DD_size i (by omega)) (DD_size a (by omega)) (DD_size n (by omega)) (DD_size s (by omega)) (DD_size l (by omega))
  · decide +kernel
theorem coins_size (pc : Int) : (coinsText pc).size ≤ 180 := by
  unfold coinsText
  split
  · rename_i h
    simp [inB] at h
    have := DD_size pc (by omega)
    have : (⟨#[99, 111, 105, 110, 115, 32]⟩ : ByteArray).size = 6 := by decide +kernel
    rw [ByteArray.size_append]
    omega
  · decide +kernel
theorem cargo_size (pk i a n s l pc : Int) : (cargoText pk i a n s l pc).size ≤ 180 := by
  unfold cargoText
  split
  · exact text_size i a n s l
  · split
    · exact coins_size pc
    · decide +kernel

set_option maxRecDepth 100000 in
set_option maxHeartbeats 2000000 in
theorem ptext_gen (pn pk i a n s l pc : Int) (t : TypeId) (V : Value) (ff : Nat) (hd : cargoV pn pk i a n s l pc = .iface t V)
    (hm1 : ∀ (w : World), (method 240 t V "loop.example/landmarch/impl.hasNumber").run Tryd.prog w = .ok (98, .agg #[.int .i64 pn]) w)
    (hm2 : ∀ (w : World), (method 240 t V "loop.example/landmarch/impl.words").run Tryd.prog w = .ok (ff, V) w)
    (hcf : ∀ (a : Array Value) (w : World), (callFunc ff a).run Tryd.prog w = .ok (.enter ff a) w) (w : World) (ht : Lib.TabBelow Tryd.prog w.heap.size w "internal/strconv.uint64pow10" .u64 Lib.pow10Tab)
    (hwords : ∀ w' : World, Below w.heap.size w w' → Calls Tryd.prog ff #[V] w' fun e w'' => e = .returned (.string (cargoText pk i a n s l pc)) ∧ Below w'.heap.size w' w'') :
    Calls Tryd.prog 5 #[.agg #[.int .i64 pn, .int .i64 pk, .int .i64 i, .int .i64 a, .int .i64 n, .int .i64 s, .int .i64 l, .int .i64 pc]] w fun e w' => e = .returned (.string (pclText pn pk i a n s l pc)) ∧ Below w.heap.size w w' := by
  have HT : Hid (Lib.TabBelow Tryd.prog w.heap.size w "internal/strconv.uint64pow10" .u64 Lib.pow10Tab) := ht
  clear ht
  have zc := cargo_size pk i a n s l pc
  have HP : Hid (pclText pn pk i a n s l pc = if inB pn 0 4999 = true ∧ (cargoText pk i a n s l pc).toList ≠ [] then (DD pn ++ SP) ++ cargoText pk i a n s l pc else ⟨#[]⟩) := rfl
  generalize cargoText pk i a n s l pc = C at *
  generalize pclText pn pk i a n s l pc = Q at *
  have B0 : Below w.heap.size w (w.alloc (.cells #[.int .i64 pn, .int .i64 pk, .int .i64 i, .int .i64 a, .int .i64 n, .int .i64 s, .int .i64 l, .int .i64 pc] 26)) := (Below.refl _ _).alloc (by simp) _
  cases h1 : inB pn 0 4999
  · go_enter Tryd.func5, Tryd.ntmps5
    go_wp2_with (first
      | (go_at_call 12; refine (cargoOf _ _ _ _ _ _ _ _ _).mono ?_; rintro e w1 ⟨rfl, hb1⟩; rw [hd])
      | (go_at_call 98; refine (number_impl _ _).mono ?_; rintro e w2 ⟨rfl, hb2⟩; rw [h1]))
    go_ret
    exact ⟨by rw [HP.out, h1]; simp, bthen (bthen B0 hb1) hb2⟩
  · have hpn : 0 ≤ pn ∧ pn ≤ 4999 := by simpa [inB] using h1
    cases h2 : C.toList.isEmpty
    · have zd : (DD pn).size ≤ 6 := DD_size pn (by omega)
      have zsp : SP.size = 1 := by decide +kernel
      have HC : Hid (Q = (DD pn ++ SP) ++ C) := by
        show Q = _
        rw [HP.out, h1, if_pos ⟨rfl, by simpa using h2⟩]
      have c1 : ∀ w : World, (Op.stringOp .add (DD pn) SP).run Tryd.prog w = .ok (.string (DD pn ++ SP)) w := cat _ _ (by omega) (by omega)
      have c2 : ∀ w : World, (Op.stringOp .add (DD pn ++ SP) C).run Tryd.prog w = .ok (.string ((DD pn ++ SP) ++ C)) w := cat _ _ (by rw [ByteArray.size_append]; omega) (by omega)
      go_enter Tryd.func5, Tryd.ntmps5
      go_wp2_with (first
        | (go_at_call 12; refine (cargoOf _ _ _ _ _ _ _ _ _).mono ?_; rintro e w1 ⟨rfl, hb1⟩; rw [hd])
        | (go_at_call 98; refine (number_impl _ _).mono ?_; rintro e w2 ⟨rfl, hb2⟩; rw [h1]))
      have B2 : Below w.heap.size w w2 := bthen (bthen B0 hb1) hb2
      refine (hwords _ B2).mono ?_
      rintro e w3 ⟨rfl, hb3⟩
      have B3 := bthen (bthen hb1 hb2) hb3
      obtain ⟨hc3, hf3⟩ := bcell B3
      have BW3 : Below w.heap.size w w3 := bthen B2 hb3
      go_wp2_with fail
      refine (itoa_tab _ (by omega) (by omega) _ (HT.out _ BW3)).mono ?_
      rintro e w4 ⟨rfl, hb4⟩
      have BW4 : Below w.heap.size w w4 := bthen BW3 hb4
      go_wp2_with fail
      refine (hwords _ BW4).mono ?_
      rintro e w5 ⟨rfl, hb5⟩
      go_wp2
      go_ret
      exact ⟨by rw [HC.out]; rfl, bthen BW4 hb5⟩
    · have HC : Hid (Q = ⟨#[]⟩) := by
        show Q = _
        rw [HP.out, if_neg (fun h => h.2 (by simpa using h2))]
      go_enter Tryd.func5, Tryd.ntmps5
      go_wp2_with (first
        | (go_at_call 12; refine (cargoOf _ _ _ _ _ _ _ _ _).mono ?_; rintro e w1 ⟨rfl, hb1⟩; rw [hd])
        | (go_at_call 98; refine (number_impl _ _).mono ?_; rintro e w2 ⟨rfl, hb2⟩; rw [h1]))
      have B2 : Below w.heap.size w w2 := bthen (bthen B0 hb1) hb2
      refine (hwords _ B2).mono ?_
      rintro e w3 ⟨rfl, hb3⟩
      go_wp2
      go_ret
      exact ⟨by rw [HC.out]; rfl, bthen B2 hb3⟩

theorem ptext_none (pn pk i a n s l pc : Int) (hd : cargoV pn pk i a n s l pc = .nilIface) (w : World) :
    Calls Tryd.prog 5 #[.agg #[.int .i64 pn, .int .i64 pk, .int .i64 i, .int .i64 a, .int .i64 n, .int .i64 s, .int .i64 l, .int .i64 pc]] w fun e w' => e = .returned (.string ⟨#[]⟩) ∧ Below w.heap.size w w' := by
  go_enter Tryd.func5, Tryd.ntmps5
  go_wp2_with (go_at_call 12; refine (cargoOf _ _ _ _ _ _ _ _ _).mono ?_; rintro e w1 ⟨rfl, hb1⟩; rw [hd])
  go_ret
  exact ⟨rfl, by repeat (first | exact Below.refl _ _ | refine bthen ?_ (by assumption) | apply Below.drew | apply bdrewN | refine Below.alloc ?_ (by simp <;> omega) _)⟩

theorem pclText_impl (pn pk i a n s l pc : Int) (w : World) (ht : Lib.TabBelow Tryd.prog w.heap.size w "internal/strconv.uint64pow10" .u64 Lib.pow10Tab) :
    Calls Tryd.prog 5 #[.agg #[.int .i64 pn, .int .i64 pk, .int .i64 i, .int .i64 a, .int .i64 n, .int .i64 s, .int .i64 l, .int .i64 pc]] w fun e w' => e = .returned (.string (pclText pn pk i a n s l pc)) ∧ Below w.heap.size w w' := by
  by_cases h1 : pk = 1 ∧ pc = 0
  · have hc : cargoText pk i a n s l pc = textOf i a n s l := by simp [cargoText, h1]
    refine ptext_gen pn pk i a n s l pc 66 (.agg #[.int .i64 pn, .int .i64 i, .int .i64 a, .int .i64 n, .int .i64 s, .int .i64 l]) 100 (by simp [cargoV, h1]) (fun _ => by kernel_rfl) (fun _ => by kernel_rfl) (fun _ _ => by kernel_rfl) w ht (fun w' hb => ?_)
    rw [hc]
    exact words_walker pn i a n s l w' (fun w'' h'' => ht w'' (bthen hb h''))
  · by_cases h2 : pk = 2 ∧ noWalker i a n s l = true
    · have hc : cargoText pk i a n s l pc = coinsText pc := by simp [cargoText, h2]
      refine ptext_gen pn pk i a n s l pc 68 (.agg #[.int .i64 pn, .int .i64 pc]) 102 (by simp [cargoV, h2]) (fun _ => by kernel_rfl) (fun _ => by kernel_rfl) (fun _ _ => by kernel_rfl) w ht (fun w' _ => ?_)
      rw [hc]
      exact words_coins pn pc w'
    · refine (ptext_none pn pk i a n s l pc (by simp [cargoV, h1, h2]) w).mono ?_
      rintro e w' ⟨rfl, hb⟩
      refine ⟨?_, hb⟩
      have hc : cargoText pk i a n s l pc = ⟨#[]⟩ := by simp [cargoText, h1, h2]
      have he : (⟨#[]⟩ : ByteArray).toList = [] := by decide +kernel
      simp [pclText, hc, he]

end Go.Proofs.YtpfemjenhnnfmaaDoor
