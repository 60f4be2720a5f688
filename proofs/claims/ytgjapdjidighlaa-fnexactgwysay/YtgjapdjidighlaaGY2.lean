/- GwySay of the program; conditions: those typed. -/
import Derived.Test.YtgjapdjidighlaaGA2
import Derived.Test.YtgjapdjidighlaaGY1
import Derived.Test.YtgjapdjidighlaaArb3
namespace Go.Proofs.Ytgjapdjidighlaa
open Go.RowKit Go.Deep
set_option linter.unusedVariables false

/-- Whose order is said. -/
def sayI (c d : Int) (n : Nat) (Z : Nat → Nat → Int) (TT : TV) (sv who : Int) : Option Nat :=
  if bookB c d n Z = true ∧ tabB c d TT sv = true then (match seek n Z who with | none => none | some i => if P10.tr (Z i 2) = true ∧ ¬ srvI TT (Z i 1) = -1 then some i else none) else none
/-- What is said, cell by cell. -/
def sayM (Z : Nat → Nat → Int) (TT : TV) (o : Option Nat) (j : Nat) : Int := match o with
  | none => 0
  | some i => match j with | 0 => 2 | 1 => srvI TT (Z i 1) | 2 => Z i 1 | 5 => Z i 3 | 6 => Z i 4 | 7 => Z i 5 | 8 => Z i 6 | 9 => Z i 7 | _ => 0
theorem Rd.put {l : List (Nat × Nat × Value)} {w : World} {b k : Nat} {L : List Value} (h : Rd l w) (hg : ∀ p ∈ l, ¬ p.1 = b) : Rd l (putL b L k w) := fun p hp =>
  ⟨((sm_put (hg p hp) L k w) p.2.1).1.trans (h p hp).1, by rw [size_put]; exact (h p hp).2⟩
theorem sent_ask (to ce p q r s t : Int) (w : World) :
    Calls Try.prog 56 #[.int .i64 to, .int .i64 ce, .iface 97 (.agg #[.int .i64 p, .int .i64 q, .int .i64 r, .int .i64 s, .int .i64 t])] w fun e w' => e = .returned (.agg #[.int .i64 2, .int .i64 to, .int .i64 ce, .int .i64 0, .int .i64 0, .int .i64 p, .int .i64 q, .int .i64 r, .int .i64 s, .int .i64 t, .int .i64 0, .int .i64 0, .int .i64 0, .int .i64 0, .int .i64 0, .int .i64 0, .int .i64 0, .int .i64 0, .int .i64 0, .int .i64 0, .int .i64 0, .int .i64 0, .int .i64 0, .int .i64 0, .int .i64 0]) ∧ Below w.heap.size w w' :=
  sent_gen 2 to ce (fun j => match j with | 5 => p | 6 => q | 7 => r | 8 => s | 9 => t | _ => 0) 97 _ 123 (fun w => by kernel_rfl) (fun a w => by kernel_rfl) (fun w => message2 (fun j => match j with | 5 => p | 6 => q | 7 => r | 8 => s | 9 => t | _ => 0) w) w
theorem results_mid2 {P : Program} {fn : Func} {p q : Tmp} {ty : TypeId} (h : fn.results = #[.cell p ty, .tmp q]) (tmps : Array Value) (w : World) (b : Nat) (cs : List Value) (d : TypeDesc) (u : Value)
    (hp : tmps.getD p undef = .pointer (some ⟨b, 0, none⟩)) (hq : tmps.getD q undef = u) (hc : w.rangeAt b 0 cs) (hu : P.underlying ty = some d) (hd : d.isRow = true) (hi : (P.info? ty).map (·.size) = some cs.length) :
    (results fn tmps).run P w = .ok (.tuple #[.agg cs.toArray, u]) w := by
  have hp' : tmps[p]?.getD undef = .pointer (some ⟨b, 0, none⟩) := by simpa using hp
  have hq' : tmps[q]?.getD undef = u := by simpa using hq
  simp [results, h, hp', hq', asAddr, run_loadVar_mid w b 0 ty cs d hc hu hd hi]

attribute [local go_sem ↓] store62_eq load62_eq
set_option maxRecDepth 100000 in
set_option maxHeartbeats 4000000 in
theorem say_impl (c d : Int) (a : Option Addr) (n cap : Nat) (Z : Nat → Nat → Int) (aS : Option Addr) (kS : Nat) (aA : Option Addr) (kA : Nat) (TT : TV) (sv who : Int) (hwf : (Lit.int .i64 who).wf = true) (hn : n ≤ 1048576) (hT : TT.short 1048576) (w : World) (h : P10.RowK w a n Z) (ht : TabAt w (.agg #[.slice aS TT.nS kS, .slice aA TT.nA kA]) TT) :
    Calls Try.prog 26 #[.agg #[.int .i64 c, .int .i64 d], .agg #[.slice a n cap], .agg #[.slice aS TT.nS kS, .slice aA TT.nA kA], .int .i64 sv, .int .i64 who] w fun e w' => e = .returned (.tuple #[.agg #[.int .i64 (sayM Z TT (sayI c d n Z TT sv who) 0), .int .i64 (sayM Z TT (sayI c d n Z TT sv who) 1), .int .i64 (sayM Z TT (sayI c d n Z TT sv who) 2), .int .i64 (sayM Z TT (sayI c d n Z TT sv who) 3), .int .i64 (sayM Z TT (sayI c d n Z TT sv who) 4), .int .i64 (sayM Z TT (sayI c d n Z TT sv who) 5), .int .i64 (sayM Z TT (sayI c d n Z TT sv who) 6), .int .i64 (sayM Z TT (sayI c d n Z TT sv who) 7), .int .i64 (sayM Z TT (sayI c d n Z TT sv who) 8), .int .i64 (sayM Z TT (sayI c d n Z TT sv who) 9), .int .i64 (sayM Z TT (sayI c d n Z TT sv who) 10), .int .i64 (sayM Z TT (sayI c d n Z TT sv who) 11), .int .i64 (sayM Z TT (sayI c d n Z TT sv who) 12), .int .i64 (sayM Z TT (sayI c d n Z TT sv who) 13), .int .i64 (sayM Z TT (sayI c d n Z TT sv who) 14), .int .i64 (sayM Z TT (sayI c d n Z TT sv who) 15), .int .i64 (sayM Z TT (sayI c d n Z TT sv who) 16), .int .i64 (sayM Z TT (sayI c d n Z TT sv who) 17), .int .i64 (sayM Z TT (sayI c d n Z TT sv who) 18), .int .i64 (sayM Z TT (sayI c d n Z TT sv who) 19), .int .i64 (sayM Z TT (sayI c d n Z TT sv who) 20), .int .i64 (sayM Z TT (sayI c d n Z TT sv who) 21), .int .i64 (sayM Z TT (sayI c d n Z TT sv who) 22), .int .i64 (sayM Z TT (sayI c d n Z TT sv who) 23), .int .i64 (sayM Z TT (sayI c d n Z TT sv who) 24)], .bool (sayI c d n Z TT sv who).isSome]) ∧ Below w.heap.size w w' := by
  have HR : Hid (P10.RowK w a n Z) := h
  have HT : Hid (TabAt w (.agg #[.slice aS TT.nS kS, .slice aA TT.nA kA]) TT) := ht
  clear h ht
  cases hk : bookB c d n Z
  · have hs : sayI c d n Z TT sv who = none := by simp [sayI, hk]
    rw [hs]
    clear hs
    go_enter Try.func26, Try.ntmps26
    go_wp2_with fail
    obtain ⟨w0, e0⟩ : ∃ w0, w0 = ((((w.alloc (.cells #[.int .i64 c, .int .i64 d] 30)).alloc (.cells #[.slice a n cap] 28)).alloc (.cells #[.slice aS TT.nS kS, .slice aA TT.nA kA] 65)).alloc (.cells #[.int .i64 0, .int .i64 0, .int .i64 0, .int .i64 0, .int .i64 0, .int .i64 0, .int .i64 0, .int .i64 0, .int .i64 0, .int .i64 0, .int .i64 0, .int .i64 0, .int .i64 0, .int .i64 0, .int .i64 0, .int .i64 0, .int .i64 0, .int .i64 0, .int .i64 0, .int .i64 0, .int .i64 0, .int .i64 0, .int .i64 0, .int .i64 0, .int .i64 0] 62)) := ⟨_, rfl⟩
    have B1 : Hid (Below w.heap.size w w0) := by rw [e0]; exact ((((Below.refl _ _).alloc (by simp) _).alloc (by simp) _).alloc (by simp; omega) _).alloc (by simp; omega) _
    have M2 : Hid (Bk w0 w.heap.size [.int .i64 c, .int .i64 d]) := by rw [e0]; exact (((bk_new w 30 [.int .i64 c, .int .i64 d]).below ((Below.refl _ _).alloc (Nat.le_refl _) _)).below ((Below.refl _ _).alloc (Nat.le_refl _) _)).below ((Below.refl _ _).alloc (Nat.le_refl _) _)
    have K3 : Hid (Bk w0 (w.heap.size + 1) [.slice a n cap]) := by rw [e0]; have := ((bk_new (w.alloc (.cells #[.int .i64 c, .int .i64 d] 30)) 28 [.slice a n cap]).below ((Below.refl _ _).alloc (Nat.le_refl _) (.cells #[.slice aS TT.nS kS, .slice aA TT.nA kA] 65))).below ((Below.refl _ _).alloc (Nat.le_refl _) (.cells #[.int .i64 0, .int .i64 0, .int .i64 0, .int .i64 0, .int .i64 0, .int .i64 0, .int .i64 0, .int .i64 0, .int .i64 0, .int .i64 0, .int .i64 0, .int .i64 0, .int .i64 0, .int .i64 0, .int .i64 0, .int .i64 0, .int .i64 0, .int .i64 0, .int .i64 0, .int .i64 0, .int .i64 0, .int .i64 0, .int .i64 0, .int .i64 0, .int .i64 0] 62)); rwa [show (w.alloc (.cells #[.int .i64 c, .int .i64 d] 30)).heap.size = w.heap.size + 1 by simp] at this
    have T4 : Hid (Bk w0 (w.heap.size + 1 + 1) [.slice aS TT.nS kS, .slice aA TT.nA kA]) := by rw [e0]; have := (bk_new ((w.alloc (.cells #[.int .i64 c, .int .i64 d] 30)).alloc (.cells #[.slice a n cap] 28)) 65 [.slice aS TT.nS kS, .slice aA TT.nA kA]).below ((Below.refl _ _).alloc (Nat.le_refl _) (.cells #[.int .i64 0, .int .i64 0, .int .i64 0, .int .i64 0, .int .i64 0, .int .i64 0, .int .i64 0, .int .i64 0, .int .i64 0, .int .i64 0, .int .i64 0, .int .i64 0, .int .i64 0, .int .i64 0, .int .i64 0, .int .i64 0, .int .i64 0, .int .i64 0, .int .i64 0, .int .i64 0, .int .i64 0, .int .i64 0, .int .i64 0, .int .i64 0, .int .i64 0] 62)); rwa [show ((w.alloc (.cells #[.int .i64 c, .int .i64 d] 30)).alloc (.cells #[.slice a n cap] 28)).heap.size = w.heap.size + 1 + 1 by simp] at this
    have R5 : Hid (Bk w0 (w.heap.size + 1 + 1 + 1) [.int .i64 0, .int .i64 0, .int .i64 0, .int .i64 0, .int .i64 0, .int .i64 0, .int .i64 0, .int .i64 0, .int .i64 0, .int .i64 0, .int .i64 0, .int .i64 0, .int .i64 0, .int .i64 0, .int .i64 0, .int .i64 0, .int .i64 0, .int .i64 0, .int .i64 0, .int .i64 0, .int .i64 0, .int .i64 0, .int .i64 0, .int .i64 0, .int .i64 0]) := by rw [e0]; have := bk_new (((w.alloc (.cells #[.int .i64 c, .int .i64 d] 30)).alloc (.cells #[.slice a n cap] 28)).alloc (.cells #[.slice aS TT.nS kS, .slice aA TT.nA kA] 65)) 62 [.int .i64 0, .int .i64 0, .int .i64 0, .int .i64 0, .int .i64 0, .int .i64 0, .int .i64 0, .int .i64 0, .int .i64 0, .int .i64 0, .int .i64 0, .int .i64 0, .int .i64 0, .int .i64 0, .int .i64 0, .int .i64 0, .int .i64 0, .int .i64 0, .int .i64 0, .int .i64 0, .int .i64 0, .int .i64 0, .int .i64 0, .int .i64 0, .int .i64 0]; rwa [show (((w.alloc (.cells #[.int .i64 c, .int .i64 d] 30)).alloc (.cells #[.slice a n cap] 28)).alloc (.cells #[.slice aS TT.nS kS, .slice aA TT.nA kA] 65)).heap.size = w.heap.size + 1 + 1 + 1 by simp] at this
    rw [← e0]
    clear e0
    refine (book_impl c d a n cap Z hn _ (P10.row_below HR.out B1.out)).mono ?_
    rintro e w1 ⟨rfl, hb1⟩
    have B6 : Hid (Below w.heap.size w w1) := bthen B1.out hb1
    have M6 : Hid (Bk w1 w.heap.size [.int .i64 c, .int .i64 d]) := M2.out.below hb1
    have K6 : Hid (Bk w1 (w.heap.size + 1) [.slice a n cap]) := K3.out.below hb1
    have T6 : Hid (Bk w1 (w.heap.size + 1 + 1) [.slice aS TT.nS kS, .slice aA TT.nA kA]) := T4.out.below hb1
    have R6 : Hid (Bk w1 (w.heap.size + 1 + 1 + 1) [.int .i64 0, .int .i64 0, .int .i64 0, .int .i64 0, .int .i64 0, .int .i64 0, .int .i64 0, .int .i64 0, .int .i64 0, .int .i64 0, .int .i64 0, .int .i64 0, .int .i64 0, .int .i64 0, .int .i64 0, .int .i64 0, .int .i64 0, .int .i64 0, .int .i64 0, .int .i64 0, .int .i64 0, .int .i64 0, .int .i64 0, .int .i64 0, .int .i64 0]) := R5.out.below hb1
    clear B1 M2 K3 T4 R5
    clear hb1
    rw [hk]
    go_wp2
    rw [store62_bk (R6.out) rfl _ rfl (by kernel_rfl)]
    obtain ⟨w9, e9⟩ : ∃ y, y = putL (w.heap.size + 1 + 1 + 1) ((#[.int .i64 0, .int .i64 0, .int .i64 0, .int .i64 0, .int .i64 0, .int .i64 0, .int .i64 0, .int .i64 0, .int .i64 0, .int .i64 0, .int .i64 0, .int .i64 0, .int .i64 0, .int .i64 0, .int .i64 0, .int .i64 0, .int .i64 0, .int .i64 0, .int .i64 0, .int .i64 0, .int .i64 0, .int .i64 0, .int .i64 0, .int .i64 0, .int .i64 0] : Array Value).toList) 0 w1 := ⟨_, rfl⟩
    have R9 : Hid (Bk w9 (w.heap.size + 1 + 1 + 1) [.int .i64 0, .int .i64 0, .int .i64 0, .int .i64 0, .int .i64 0, .int .i64 0, .int .i64 0, .int .i64 0, .int .i64 0, .int .i64 0, .int .i64 0, .int .i64 0, .int .i64 0, .int .i64 0, .int .i64 0, .int .i64 0, .int .i64 0, .int .i64 0, .int .i64 0, .int .i64 0, .int .i64 0, .int .i64 0, .int .i64 0, .int .i64 0, .int .i64 0]) := by unfold Hid; rw [e9]; exact bk_put (R6.out) rfl
    have B9 : Hid (Below w.heap.size w w9) := by unfold Hid; rw [e9]; exact below_put (by omega) _ _ (B6.out)
    rw [← e9]
    clear e9
    go_wp2
    have hr := fun tmps hp hq => results_mid2 (P := Try.prog) (fn := Try.f26) Try.results26 tmps w9 (w.heap.size + 1 + 1 + 1) [.int .i64 0, .int .i64 0, .int .i64 0, .int .i64 0, .int .i64 0, .int .i64 0, .int .i64 0, .int .i64 0, .int .i64 0, .int .i64 0, .int .i64 0, .int .i64 0, .int .i64 0, .int .i64 0, .int .i64 0, .int .i64 0, .int .i64 0, .int .i64 0, .int .i64 0, .int .i64 0, .int .i64 0, .int .i64 0, .int .i64 0, .int .i64 0, .int .i64 0] _ (.bool false) hp hq (Bk.range R9.out) Try.underlying62 rfl (by kernel_rfl)
    exact bodyPost_ret (v := .tuple #[.agg #[.int .i64 0, .int .i64 0, .int .i64 0, .int .i64 0, .int .i64 0, .int .i64 0, .int .i64 0, .int .i64 0, .int .i64 0, .int .i64 0, .int .i64 0, .int .i64 0, .int .i64 0, .int .i64 0, .int .i64 0, .int .i64 0, .int .i64 0, .int .i64 0, .int .i64 0, .int .i64 0, .int .i64 0, .int .i64 0, .int .i64 0, .int .i64 0, .int .i64 0], .bool false]) (hr _ rfl rfl) rfl ⟨rfl, B9.out⟩
  cases ht : tabB c d TT sv
  · have hs : sayI c d n Z TT sv who = none := by simp [sayI, ht]
    rw [hs]
    clear hs
    go_enter Try.func26, Try.ntmps26
    go_wp2_with fail
    obtain ⟨w0, e0⟩ : ∃ w0, w0 = ((((w.alloc (.cells #[.int .i64 c, .int .i64 d] 30)).alloc (.cells #[.slice a n cap] 28)).alloc (.cells #[.slice aS TT.nS kS, .slice aA TT.nA kA] 65)).alloc (.cells #[.int .i64 0, .int .i64 0, .int .i64 0, .int .i64 0, .int .i64 0, .int .i64 0, .int .i64 0, .int .i64 0, .int .i64 0, .int .i64 0, .int .i64 0, .int .i64 0, .int .i64 0, .int .i64 0, .int .i64 0, .int .i64 0, .int .i64 0, .int .i64 0, .int .i64 0, .int .i64 0, .int .i64 0, .int .i64 0, .int .i64 0, .int .i64 0, .int .i64 0] 62)) := ⟨_, rfl⟩
    have B7 : Hid (Below w.heap.size w w0) := by rw [e0]; exact ((((Below.refl _ _).alloc (by simp) _).alloc (by simp) _).alloc (by simp; omega) _).alloc (by simp; omega) _
    have M8 : Hid (Bk w0 w.heap.size [.int .i64 c, .int .i64 d]) := by rw [e0]; exact (((bk_new w 30 [.int .i64 c, .int .i64 d]).below ((Below.refl _ _).alloc (Nat.le_refl _) _)).below ((Below.refl _ _).alloc (Nat.le_refl _) _)).below ((Below.refl _ _).alloc (Nat.le_refl _) _)
    have K9 : Hid (Bk w0 (w.heap.size + 1) [.slice a n cap]) := by rw [e0]; have := ((bk_new (w.alloc (.cells #[.int .i64 c, .int .i64 d] 30)) 28 [.slice a n cap]).below ((Below.refl _ _).alloc (Nat.le_refl _) (.cells #[.slice aS TT.nS kS, .slice aA TT.nA kA] 65))).below ((Below.refl _ _).alloc (Nat.le_refl _) (.cells #[.int .i64 0, .int .i64 0, .int .i64 0, .int .i64 0, .int .i64 0, .int .i64 0, .int .i64 0, .int .i64 0, .int .i64 0, .int .i64 0, .int .i64 0, .int .i64 0, .int .i64 0, .int .i64 0, .int .i64 0, .int .i64 0, .int .i64 0, .int .i64 0, .int .i64 0, .int .i64 0, .int .i64 0, .int .i64 0, .int .i64 0, .int .i64 0, .int .i64 0] 62)); rwa [show (w.alloc (.cells #[.int .i64 c, .int .i64 d] 30)).heap.size = w.heap.size + 1 by simp] at this
    have T10 : Hid (Bk w0 (w.heap.size + 1 + 1) [.slice aS TT.nS kS, .slice aA TT.nA kA]) := by rw [e0]; have := (bk_new ((w.alloc (.cells #[.int .i64 c, .int .i64 d] 30)).alloc (.cells #[.slice a n cap] 28)) 65 [.slice aS TT.nS kS, .slice aA TT.nA kA]).below ((Below.refl _ _).alloc (Nat.le_refl _) (.cells #[.int .i64 0, .int .i64 0, .int .i64 0, .int .i64 0, .int .i64 0, .int .i64 0, .int .i64 0, .int .i64 0, .int .i64 0, .int .i64 0, .int .i64 0, .int .i64 0, .int .i64 0, .int .i64 0, .int .i64 0, .int .i64 0, .int .i64 0, .int .i64 0, .int .i64 0, .int .i64 0, .int .i64 0, .int .i64 0, .int .i64 0, .int .i64 0, .int .i64 0] 62)); rwa [show ((w.alloc (.cells #[.int .i64 c, .int .i64 d] 30)).alloc (.cells #[.slice a n cap] 28)).heap.size = w.heap.size + 1 + 1 by simp] at this
    have R11 : Hid (Bk w0 (w.heap.size + 1 + 1 + 1) [.int .i64 0, .int .i64 0, .int .i64 0, .int .i64 0, .int .i64 0, .int .i64 0, .int .i64 0, .int .i64 0, .int .i64 0, .int .i64 0, .int .i64 0, .int .i64 0, .int .i64 0, .int .i64 0, .int .i64 0, .int .i64 0, .int .i64 0, .int .i64 0, .int .i64 0, .int .i64 0, .int .i64 0, .int .i64 0, .int .i64 0, .int .i64 0, .int .i64 0]) := by rw [e0]; have := bk_new (((w.alloc (.cells #[.int .i64 c, .int .i64 d] 30)).alloc (.cells #[.slice a n cap] 28)).alloc (.cells #[.slice aS TT.nS kS, .slice aA TT.nA kA] 65)) 62 [.int .i64 0, .int .i64 0, .int .i64 0, .int .i64 0, .int .i64 0, .int .i64 0, .int .i64 0, .int .i64 0, .int .i64 0, .int .i64 0, .int .i64 0, .int .i64 0, .int .i64 0, .int .i64 0, .int .i64 0, .int .i64 0, .int .i64 0, .int .i64 0, .int .i64 0, .int .i64 0, .int .i64 0, .int .i64 0, .int .i64 0, .int .i64 0, .int .i64 0]; rwa [show (((w.alloc (.cells #[.int .i64 c, .int .i64 d] 30)).alloc (.cells #[.slice a n cap] 28)).alloc (.cells #[.slice aS TT.nS kS, .slice aA TT.nA kA] 65)).heap.size = w.heap.size + 1 + 1 + 1 by simp] at this
    rw [← e0]
    clear e0
    refine (book_impl c d a n cap Z hn _ (P10.row_below HR.out B7.out)).mono ?_
    rintro e w1 ⟨rfl, hb1⟩
    have B12 : Hid (Below w.heap.size w w1) := bthen B7.out hb1
    have M12 : Hid (Bk w1 w.heap.size [.int .i64 c, .int .i64 d]) := M8.out.below hb1
    have K12 : Hid (Bk w1 (w.heap.size + 1) [.slice a n cap]) := K9.out.below hb1
    have T12 : Hid (Bk w1 (w.heap.size + 1 + 1) [.slice aS TT.nS kS, .slice aA TT.nA kA]) := T10.out.below hb1
    have R12 : Hid (Bk w1 (w.heap.size + 1 + 1 + 1) [.int .i64 0, .int .i64 0, .int .i64 0, .int .i64 0, .int .i64 0, .int .i64 0, .int .i64 0, .int .i64 0, .int .i64 0, .int .i64 0, .int .i64 0, .int .i64 0, .int .i64 0, .int .i64 0, .int .i64 0, .int .i64 0, .int .i64 0, .int .i64 0, .int .i64 0, .int .i64 0, .int .i64 0, .int .i64 0, .int .i64 0, .int .i64 0, .int .i64 0]) := R11.out.below hb1
    clear B7 M8 K9 T10 R11
    clear hb1
    rw [hk]
    have yM0 : w1.cell? ⟨w.heap.size, 0, none⟩ = some (.int .i64 c) := (M12.out.2 0 (by simp)).1
    have yM1 : w1.cell? ⟨w.heap.size, 1, none⟩ = some (.int .i64 d) := (M12.out.2 1 (by simp)).1
    have hlM : w.heap.size < w1.heap.size := M12.out.1
    have yK0 : w1.cell? ⟨(w.heap.size + 1), 0, none⟩ = some (.slice a n cap) := (K12.out.2 0 (by simp)).1
    have hlK : (w.heap.size + 1) < w1.heap.size := K12.out.1
    have yT0 : w1.cell? ⟨(w.heap.size + 1 + 1), 0, none⟩ = some (.slice aS TT.nS kS) := (T12.out.2 0 (by simp)).1
    have yT1 : w1.cell? ⟨(w.heap.size + 1 + 1), 1, none⟩ = some (.slice aA TT.nA kA) := (T12.out.2 1 (by simp)).1
    have hlT : (w.heap.size + 1 + 1) < w1.heap.size := T12.out.1
    go_wp2_with fail
    refine (arbOk_impl c d _ TT sv hT _ (HT.out.below B12.out)).mono ?_
    rintro e w2 ⟨rfl, hb2⟩
    clear yM0 yM1 hlM yK0 hlK yT0 yT1 hlT
    have B13 : Hid (Below w.heap.size w w2) := bthen B12.out hb2
    have M13 : Hid (Bk w2 w.heap.size [.int .i64 c, .int .i64 d]) := M12.out.below hb2
    have K13 : Hid (Bk w2 (w.heap.size + 1) [.slice a n cap]) := K12.out.below hb2
    have T13 : Hid (Bk w2 (w.heap.size + 1 + 1) [.slice aS TT.nS kS, .slice aA TT.nA kA]) := T12.out.below hb2
    have R13 : Hid (Bk w2 (w.heap.size + 1 + 1 + 1) [.int .i64 0, .int .i64 0, .int .i64 0, .int .i64 0, .int .i64 0, .int .i64 0, .int .i64 0, .int .i64 0, .int .i64 0, .int .i64 0, .int .i64 0, .int .i64 0, .int .i64 0, .int .i64 0, .int .i64 0, .int .i64 0, .int .i64 0, .int .i64 0, .int .i64 0, .int .i64 0, .int .i64 0, .int .i64 0, .int .i64 0, .int .i64 0, .int .i64 0]) := R12.out.below hb2
    clear B12 M12 K12 T12 R12
    clear hb2
    rw [ht]
    go_wp2
    rw [store62_bk (R13.out) rfl _ rfl (by kernel_rfl)]
    obtain ⟨w9, e9⟩ : ∃ y, y = putL (w.heap.size + 1 + 1 + 1) ((#[.int .i64 0, .int .i64 0, .int .i64 0, .int .i64 0, .int .i64 0, .int .i64 0, .int .i64 0, .int .i64 0, .int .i64 0, .int .i64 0, .int .i64 0, .int .i64 0, .int .i64 0, .int .i64 0, .int .i64 0, .int .i64 0, .int .i64 0, .int .i64 0, .int .i64 0, .int .i64 0, .int .i64 0, .int .i64 0, .int .i64 0, .int .i64 0, .int .i64 0] : Array Value).toList) 0 w2 := ⟨_, rfl⟩
    have R9 : Hid (Bk w9 (w.heap.size + 1 + 1 + 1) [.int .i64 0, .int .i64 0, .int .i64 0, .int .i64 0, .int .i64 0, .int .i64 0, .int .i64 0, .int .i64 0, .int .i64 0, .int .i64 0, .int .i64 0, .int .i64 0, .int .i64 0, .int .i64 0, .int .i64 0, .int .i64 0, .int .i64 0, .int .i64 0, .int .i64 0, .int .i64 0, .int .i64 0, .int .i64 0, .int .i64 0, .int .i64 0, .int .i64 0]) := by unfold Hid; rw [e9]; exact bk_put (R13.out) rfl
    have B9 : Hid (Below w.heap.size w w9) := by unfold Hid; rw [e9]; exact below_put (by omega) _ _ (B13.out)
    rw [← e9]
    clear e9
    go_wp2
    have hr := fun tmps hp hq => results_mid2 (P := Try.prog) (fn := Try.f26) Try.results26 tmps w9 (w.heap.size + 1 + 1 + 1) [.int .i64 0, .int .i64 0, .int .i64 0, .int .i64 0, .int .i64 0, .int .i64 0, .int .i64 0, .int .i64 0, .int .i64 0, .int .i64 0, .int .i64 0, .int .i64 0, .int .i64 0, .int .i64 0, .int .i64 0, .int .i64 0, .int .i64 0, .int .i64 0, .int .i64 0, .int .i64 0, .int .i64 0, .int .i64 0, .int .i64 0, .int .i64 0, .int .i64 0] _ (.bool false) hp hq (Bk.range R9.out) Try.underlying62 rfl (by kernel_rfl)
    exact bodyPost_ret (v := .tuple #[.agg #[.int .i64 0, .int .i64 0, .int .i64 0, .int .i64 0, .int .i64 0, .int .i64 0, .int .i64 0, .int .i64 0, .int .i64 0, .int .i64 0, .int .i64 0, .int .i64 0, .int .i64 0, .int .i64 0, .int .i64 0, .int .i64 0, .int .i64 0, .int .i64 0, .int .i64 0, .int .i64 0, .int .i64 0, .int .i64 0, .int .i64 0, .int .i64 0, .int .i64 0], .bool false]) (hr _ rfl rfl) rfl ⟨rfl, B9.out⟩
  cases hs : seek n Z who with
  | none =>
    have hs : sayI c d n Z TT sv who = none := by simp [sayI, hs]
    rw [hs]
    clear hs
    go_enter Try.func26, Try.ntmps26
    go_wp2_with fail
    obtain ⟨w0, e0⟩ : ∃ w0, w0 = ((((w.alloc (.cells #[.int .i64 c, .int .i64 d] 30)).alloc (.cells #[.slice a n cap] 28)).alloc (.cells #[.slice aS TT.nS kS, .slice aA TT.nA kA] 65)).alloc (.cells #[.int .i64 0, .int .i64 0, .int .i64 0, .int .i64 0, .int .i64 0, .int .i64 0, .int .i64 0, .int .i64 0, .int .i64 0, .int .i64 0, .int .i64 0, .int .i64 0, .int .i64 0, .int .i64 0, .int .i64 0, .int .i64 0, .int .i64 0, .int .i64 0, .int .i64 0, .int .i64 0, .int .i64 0, .int .i64 0, .int .i64 0, .int .i64 0, .int .i64 0] 62)) := ⟨_, rfl⟩
    have B14 : Hid (Below w.heap.size w w0) := by rw [e0]; exact ((((Below.refl _ _).alloc (by simp) _).alloc (by simp) _).alloc (by simp; omega) _).alloc (by simp; omega) _
    have M15 : Hid (Bk w0 w.heap.size [.int .i64 c, .int .i64 d]) := by rw [e0]; exact (((bk_new w 30 [.int .i64 c, .int .i64 d]).below ((Below.refl _ _).alloc (Nat.le_refl _) _)).below ((Below.refl _ _).alloc (Nat.le_refl _) _)).below ((Below.refl _ _).alloc (Nat.le_refl _) _)
    have K16 : Hid (Bk w0 (w.heap.size + 1) [.slice a n cap]) := by rw [e0]; have := ((bk_new (w.alloc (.cells #[.int .i64 c, .int .i64 d] 30)) 28 [.slice a n cap]).below ((Below.refl _ _).alloc (Nat.le_refl _) (.cells #[.slice aS TT.nS kS, .slice aA TT.nA kA] 65))).below ((Below.refl _ _).alloc (Nat.le_refl _) (.cells #[.int .i64 0, .int .i64 0, .int .i64 0, .int .i64 0, .int .i64 0, .int .i64 0, .int .i64 0, .int .i64 0, .int .i64 0, .int .i64 0, .int .i64 0, .int .i64 0, .int .i64 0, .int .i64 0, .int .i64 0, .int .i64 0, .int .i64 0, .int .i64 0, .int .i64 0, .int .i64 0, .int .i64 0, .int .i64 0, .int .i64 0, .int .i64 0, .int .i64 0] 62)); rwa [show (w.alloc (.cells #[.int .i64 c, .int .i64 d] 30)).heap.size = w.heap.size + 1 by simp] at this
    have T17 : Hid (Bk w0 (w.heap.size + 1 + 1) [.slice aS TT.nS kS, .slice aA TT.nA kA]) := by rw [e0]; have := (bk_new ((w.alloc (.cells #[.int .i64 c, .int .i64 d] 30)).alloc (.cells #[.slice a n cap] 28)) 65 [.slice aS TT.nS kS, .slice aA TT.nA kA]).below ((Below.refl _ _).alloc (Nat.le_refl _) (.cells #[.int .i64 0, .int .i64 0, .int .i64 0, .int .i64 0, .int .i64 0, .int .i64 0, .int .i64 0, .int .i64 0, .int .i64 0, .int .i64 0, .int .i64 0, .int .i64 0, .int .i64 0, .int .i64 0, .int .i64 0, .int .i64 0, .int .i64 0, .int .i64 0, .int .i64 0, .int .i64 0, .int .i64 0, .int .i64 0, .int .i64 0, .int .i64 0, .int .i64 0] 62)); rwa [show ((w.alloc (.cells #[.int .i64 c, .int .i64 d] 30)).alloc (.cells #[.slice a n cap] 28)).heap.size = w.heap.size + 1 + 1 by simp] at this
    have R18 : Hid (Bk w0 (w.heap.size + 1 + 1 + 1) [.int .i64 0, .int .i64 0, .int .i64 0, .int .i64 0, .int .i64 0, .int .i64 0, .int .i64 0, .int .i64 0, .int .i64 0, .int .i64 0, .int .i64 0, .int .i64 0, .int .i64 0, .int .i64 0, .int .i64 0, .int .i64 0, .int .i64 0, .int .i64 0, .int .i64 0, .int .i64 0, .int .i64 0, .int .i64 0, .int .i64 0, .int .i64 0, .int .i64 0]) := by rw [e0]; have := bk_new (((w.alloc (.cells #[.int .i64 c, .int .i64 d] 30)).alloc (.cells #[.slice a n cap] 28)).alloc (.cells #[.slice aS TT.nS kS, .slice aA TT.nA kA] 65)) 62 [.int .i64 0, .int .i64 0, .int .i64 0, .int .i64 0, .int .i64 0, .int .i64 0, .int .i64 0, .int .i64 0, .int .i64 0, .int .i64 0, .int .i64 0, .int .i64 0, .int .i64 0, .int .i64 0, .int .i64 0, .int .i64 0, .int .i64 0, .int .i64 0, .int .i64 0, .int .i64 0, .int .i64 0, .int .i64 0, .int .i64 0, .int .i64 0, .int .i64 0]; rwa [show (((w.alloc (.cells #[.int .i64 c, .int .i64 d] 30)).alloc (.cells #[.slice a n cap] 28)).alloc (.cells #[.slice aS TT.nS kS, .slice aA TT.nA kA] 65)).heap.size = w.heap.size + 1 + 1 + 1 by simp] at this
    rw [← e0]
    clear e0
    refine (book_impl c d a n cap Z hn _ (P10.row_below HR.out B14.out)).mono ?_
    rintro e w1 ⟨rfl, hb1⟩
    have B19 : Hid (Below w.heap.size w w1) := bthen B14.out hb1
    have M19 : Hid (Bk w1 w.heap.size [.int .i64 c, .int .i64 d]) := M15.out.below hb1
    have K19 : Hid (Bk w1 (w.heap.size + 1) [.slice a n cap]) := K16.out.below hb1
    have T19 : Hid (Bk w1 (w.heap.size + 1 + 1) [.slice aS TT.nS kS, .slice aA TT.nA kA]) := T17.out.below hb1
    have R19 : Hid (Bk w1 (w.heap.size + 1 + 1 + 1) [.int .i64 0, .int .i64 0, .int .i64 0, .int .i64 0, .int .i64 0, .int .i64 0, .int .i64 0, .int .i64 0, .int .i64 0, .int .i64 0, .int .i64 0, .int .i64 0, .int .i64 0, .int .i64 0, .int .i64 0, .int .i64 0, .int .i64 0, .int .i64 0, .int .i64 0, .int .i64 0, .int .i64 0, .int .i64 0, .int .i64 0, .int .i64 0, .int .i64 0]) := R18.out.below hb1
    clear B14 M15 K16 T17 R18
    clear hb1
    rw [hk]
    have yM0 : w1.cell? ⟨w.heap.size, 0, none⟩ = some (.int .i64 c) := (M19.out.2 0 (by simp)).1
    have yM1 : w1.cell? ⟨w.heap.size, 1, none⟩ = some (.int .i64 d) := (M19.out.2 1 (by simp)).1
    have hlM : w.heap.size < w1.heap.size := M19.out.1
    have yK0 : w1.cell? ⟨(w.heap.size + 1), 0, none⟩ = some (.slice a n cap) := (K19.out.2 0 (by simp)).1
    have hlK : (w.heap.size + 1) < w1.heap.size := K19.out.1
    have yT0 : w1.cell? ⟨(w.heap.size + 1 + 1), 0, none⟩ = some (.slice aS TT.nS kS) := (T19.out.2 0 (by simp)).1
    have yT1 : w1.cell? ⟨(w.heap.size + 1 + 1), 1, none⟩ = some (.slice aA TT.nA kA) := (T19.out.2 1 (by simp)).1
    have hlT : (w.heap.size + 1 + 1) < w1.heap.size := T19.out.1
    go_wp2_with fail
    refine (arbOk_impl c d _ TT sv hT _ (HT.out.below B19.out)).mono ?_
    rintro e w2 ⟨rfl, hb2⟩
    clear yM0 yM1 hlM yK0 hlK yT0 yT1 hlT
    have B20 : Hid (Below w.heap.size w w2) := bthen B19.out hb2
    have M20 : Hid (Bk w2 w.heap.size [.int .i64 c, .int .i64 d]) := M19.out.below hb2
    have K20 : Hid (Bk w2 (w.heap.size + 1) [.slice a n cap]) := K19.out.below hb2
    have T20 : Hid (Bk w2 (w.heap.size + 1 + 1) [.slice aS TT.nS kS, .slice aA TT.nA kA]) := T19.out.below hb2
    have R20 : Hid (Bk w2 (w.heap.size + 1 + 1 + 1) [.int .i64 0, .int .i64 0, .int .i64 0, .int .i64 0, .int .i64 0, .int .i64 0, .int .i64 0, .int .i64 0, .int .i64 0, .int .i64 0, .int .i64 0, .int .i64 0, .int .i64 0, .int .i64 0, .int .i64 0, .int .i64 0, .int .i64 0, .int .i64 0, .int .i64 0, .int .i64 0, .int .i64 0, .int .i64 0, .int .i64 0, .int .i64 0, .int .i64 0]) := R19.out.below hb2
    clear B19 M19 K19 T19 R19
    clear hb2
    rw [ht]
    have k3 : w.heap.size + 1 + 1 + 1 < w2.heap.size := R20.out.1
    have yM0 : w2.cell? ⟨w.heap.size, 0, none⟩ = some (.int .i64 c) := (M20.out.2 0 (by simp)).1
    have yM1 : w2.cell? ⟨w.heap.size, 1, none⟩ = some (.int .i64 d) := (M20.out.2 1 (by simp)).1
    have hlM : w.heap.size < w2.heap.size := M20.out.1
    have yK0 : w2.cell? ⟨(w.heap.size + 1), 0, none⟩ = some (.slice a n cap) := (K20.out.2 0 (by simp)).1
    have hlK : (w.heap.size + 1) < w2.heap.size := K20.out.1
    have yT0 : w2.cell? ⟨(w.heap.size + 1 + 1), 0, none⟩ = some (.slice aS TT.nS kS) := (T20.out.2 0 (by simp)).1
    have yT1 : w2.cell? ⟨(w.heap.size + 1 + 1), 1, none⟩ = some (.slice aA TT.nA kA) := (T20.out.2 1 (by simp)).1
    have hlT : (w.heap.size + 1 + 1) < w2.heap.size := T20.out.1
    go_wp2_with fail
    refine (opened a n cap Z hn (book_key hk) _ (P10.row_below HR.out B20.out)).mono ?_
    rintro e w3 ⟨⟨mb, Bs, rfl, hO3⟩, hb3⟩
    clear yM0 yM1 hlM yK0 hlK yT0 yT1 hlT
    have B21 : Hid (Below w.heap.size w w3) := bthen B20.out hb3
    have M21 : Hid (Bk w3 w.heap.size [.int .i64 c, .int .i64 d]) := M20.out.below hb3
    have K21 : Hid (Bk w3 (w.heap.size + 1) [.slice a n cap]) := K20.out.below hb3
    have T21 : Hid (Bk w3 (w.heap.size + 1 + 1) [.slice aS TT.nS kS, .slice aA TT.nA kA]) := T20.out.below hb3
    have R21 : Hid (Bk w3 (w.heap.size + 1 + 1 + 1) [.int .i64 0, .int .i64 0, .int .i64 0, .int .i64 0, .int .i64 0, .int .i64 0, .int .i64 0, .int .i64 0, .int .i64 0, .int .i64 0, .int .i64 0, .int .i64 0, .int .i64 0, .int .i64 0, .int .i64 0, .int .i64 0, .int .i64 0, .int .i64 0, .int .i64 0, .int .i64 0, .int .i64 0, .int .i64 0, .int .i64 0, .int .i64 0, .int .i64 0]) := R20.out.below hb3
    clear B20 M20 K20 T20 R20
    have z3 := hb3.size
    obtain ⟨lo, elo⟩ : ∃ g, g = w2.heap.size := ⟨_, rfl⟩
    rw [← elo] at hO3 z3 k3
    clear hb3 elo
    have lk := hO3.2.1.look (z := who) hwf
    rw [mapP_none n (seek_none hs)] at lk
    simp only [pvo, Option.isSome_none] at lk
    go_wp2
    rw [store62_bk (R21.out) rfl _ rfl (by kernel_rfl)]
    obtain ⟨w9, e9⟩ : ∃ y, y = putL (w.heap.size + 1 + 1 + 1) ((#[.int .i64 0, .int .i64 0, .int .i64 0, .int .i64 0, .int .i64 0, .int .i64 0, .int .i64 0, .int .i64 0, .int .i64 0, .int .i64 0, .int .i64 0, .int .i64 0, .int .i64 0, .int .i64 0, .int .i64 0, .int .i64 0, .int .i64 0, .int .i64 0, .int .i64 0, .int .i64 0, .int .i64 0, .int .i64 0, .int .i64 0, .int .i64 0, .int .i64 0] : Array Value).toList) 0 w3 := ⟨_, rfl⟩
    have R9 : Hid (Bk w9 (w.heap.size + 1 + 1 + 1) [.int .i64 0, .int .i64 0, .int .i64 0, .int .i64 0, .int .i64 0, .int .i64 0, .int .i64 0, .int .i64 0, .int .i64 0, .int .i64 0, .int .i64 0, .int .i64 0, .int .i64 0, .int .i64 0, .int .i64 0, .int .i64 0, .int .i64 0, .int .i64 0, .int .i64 0, .int .i64 0, .int .i64 0, .int .i64 0, .int .i64 0, .int .i64 0, .int .i64 0]) := by unfold Hid; rw [e9]; exact bk_put (R21.out) rfl
    have B9 : Hid (Below w.heap.size w w9) := by unfold Hid; rw [e9]; exact below_put (by omega) _ _ (B21.out)
    rw [← e9]
    clear e9
    go_wp2
    have hr := fun tmps hp hq => results_mid2 (P := Try.prog) (fn := Try.f26) Try.results26 tmps w9 (w.heap.size + 1 + 1 + 1) [.int .i64 0, .int .i64 0, .int .i64 0, .int .i64 0, .int .i64 0, .int .i64 0, .int .i64 0, .int .i64 0, .int .i64 0, .int .i64 0, .int .i64 0, .int .i64 0, .int .i64 0, .int .i64 0, .int .i64 0, .int .i64 0, .int .i64 0, .int .i64 0, .int .i64 0, .int .i64 0, .int .i64 0, .int .i64 0, .int .i64 0, .int .i64 0, .int .i64 0] _ (.bool false) hp hq (Bk.range R9.out) Try.underlying62 rfl (by kernel_rfl)
    exact bodyPost_ret (v := .tuple #[.agg #[.int .i64 0, .int .i64 0, .int .i64 0, .int .i64 0, .int .i64 0, .int .i64 0, .int .i64 0, .int .i64 0, .int .i64 0, .int .i64 0, .int .i64 0, .int .i64 0, .int .i64 0, .int .i64 0, .int .i64 0, .int .i64 0, .int .i64 0, .int .i64 0, .int .i64 0, .int .i64 0, .int .i64 0, .int .i64 0, .int .i64 0, .int .i64 0, .int .i64 0], .bool false]) (hr _ rfl rfl) rfl ⟨rfl, B9.out⟩
  | some i =>
    obtain ⟨hi, hz, _⟩ := seek_some hs
    cases hb : P10.tr (Z i 2)
    · have hs : sayI c d n Z TT sv who = none := by simp [sayI, hs, hb]
      rw [hs]
      clear hs
      go_enter Try.func26, Try.ntmps26
      go_wp2_with fail
      obtain ⟨w0, e0⟩ : ∃ w0, w0 = ((((w.alloc (.cells #[.int .i64 c, .int .i64 d] 30)).alloc (.cells #[.slice a n cap] 28)).alloc (.cells #[.slice aS TT.nS kS, .slice aA TT.nA kA] 65)).alloc (.cells #[.int .i64 0, .int .i64 0, .int .i64 0, .int .i64 0, .int .i64 0, .int .i64 0, .int .i64 0, .int .i64 0, .int .i64 0, .int .i64 0, .int .i64 0, .int .i64 0, .int .i64 0, .int .i64 0, .int .i64 0, .int .i64 0, .int .i64 0, .int .i64 0, .int .i64 0, .int .i64 0, .int .i64 0, .int .i64 0, .int .i64 0, .int .i64 0, .int .i64 0] 62)) := ⟨_, rfl⟩
      have B22 : Hid (Below w.heap.size w w0) := by rw [e0]; exact ((((Below.refl _ _).alloc (by simp) _).alloc (by simp) _).alloc (by simp; omega) _).alloc (by simp; omega) _
      have M23 : Hid (Bk w0 w.heap.size [.int .i64 c, .int .i64 d]) := by rw [e0]; exact (((bk_new w 30 [.int .i64 c, .int .i64 d]).below ((Below.refl _ _).alloc (Nat.le_refl _) _)).below ((Below.refl _ _).alloc (Nat.le_refl _) _)).below ((Below.refl _ _).alloc (Nat.le_refl _) _)
      have K24 : Hid (Bk w0 (w.heap.size + 1) [.slice a n cap]) := by rw [e0]; have := ((bk_new (w.alloc (.cells #[.int .i64 c, .int .i64 d] 30)) 28 [.slice a n cap]).below ((Below.refl _ _).alloc (Nat.le_refl _) (.cells #[.slice aS TT.nS kS, .slice aA TT.nA kA] 65))).below ((Below.refl _ _).alloc (Nat.le_refl _) (.cells #[.int .i64 0, .int .i64 0, .int .i64 0, .int .i64 0, .int .i64 0, .int .i64 0, .int .i64 0, .int .i64 0, .int .i64 0, .int .i64 0, .int .i64 0, .int .i64 0, .int .i64 0, .int .i64 0, .int .i64 0, .int .i64 0, .int .i64 0, .int .i64 0, .int .i64 0, .int .i64 0, .int .i64 0, .int .i64 0, .int .i64 0, .int .i64 0, .int .i64 0] 62)); rwa [show (w.alloc (.cells #[.int .i64 c, .int .i64 d] 30)).heap.size = w.heap.size + 1 by simp] at this
      have T25 : Hid (Bk w0 (w.heap.size + 1 + 1) [.slice aS TT.nS kS, .slice aA TT.nA kA]) := by rw [e0]; have := (bk_new ((w.alloc (.cells #[.int .i64 c, .int .i64 d] 30)).alloc (.cells #[.slice a n cap] 28)) 65 [.slice aS TT.nS kS, .slice aA TT.nA kA]).below ((Below.refl _ _).alloc (Nat.le_refl _) (.cells #[.int .i64 0, .int .i64 0, .int .i64 0, .int .i64 0, .int .i64 0, .int .i64 0, .int .i64 0, .int .i64 0, .int .i64 0, .int .i64 0, .int .i64 0, .int .i64 0, .int .i64 0, .int .i64 0, .int .i64 0, .int .i64 0, .int .i64 0, .int .i64 0, .int .i64 0, .int .i64 0, .int .i64 0, .int .i64 0, .int .i64 0, .int .i64 0, .int .i64 0] 62)); rwa [show ((w.alloc (.cells #[.int .i64 c, .int .i64 d] 30)).alloc (.cells #[.slice a n cap] 28)).heap.size = w.heap.size + 1 + 1 by simp] at this
      have R26 : Hid (Bk w0 (w.heap.size + 1 + 1 + 1) [.int .i64 0, .int .i64 0, .int .i64 0, .int .i64 0, .int .i64 0, .int .i64 0, .int .i64 0, .int .i64 0, .int .i64 0, .int .i64 0, .int .i64 0, .int .i64 0, .int .i64 0, .int .i64 0, .int .i64 0, .int .i64 0, .int .i64 0, .int .i64 0, .int .i64 0, .int .i64 0, .int .i64 0, .int .i64 0, .int .i64 0, .int .i64 0, .int .i64 0]) := by rw [e0]; have := bk_new (((w.alloc (.cells #[.int .i64 c, .int .i64 d] 30)).alloc (.cells #[.slice a n cap] 28)).alloc (.cells #[.slice aS TT.nS kS, .slice aA TT.nA kA] 65)) 62 [.int .i64 0, .int .i64 0, .int .i64 0, .int .i64 0, .int .i64 0, .int .i64 0, .int .i64 0, .int .i64 0, .int .i64 0, .int .i64 0, .int .i64 0, .int .i64 0, .int .i64 0, .int .i64 0, .int .i64 0, .int .i64 0, .int .i64 0, .int .i64 0, .int .i64 0, .int .i64 0, .int .i64 0, .int .i64 0, .int .i64 0, .int .i64 0, .int .i64 0]; rwa [show (((w.alloc (.cells #[.int .i64 c, .int .i64 d] 30)).alloc (.cells #[.slice a n cap] 28)).alloc (.cells #[.slice aS TT.nS kS, .slice aA TT.nA kA] 65)).heap.size = w.heap.size + 1 + 1 + 1 by simp] at this
      rw [← e0]
      clear e0
      refine (book_impl c d a n cap Z hn _ (P10.row_below HR.out B22.out)).mono ?_
      rintro e w1 ⟨rfl, hb1⟩
      have B27 : Hid (Below w.heap.size w w1) := bthen B22.out hb1
      have M27 : Hid (Bk w1 w.heap.size [.int .i64 c, .int .i64 d]) := M23.out.below hb1
      have K27 : Hid (Bk w1 (w.heap.size + 1) [.slice a n cap]) := K24.out.below hb1
      have T27 : Hid (Bk w1 (w.heap.size + 1 + 1) [.slice aS TT.nS kS, .slice aA TT.nA kA]) := T25.out.below hb1
      have R27 : Hid (Bk w1 (w.heap.size + 1 + 1 + 1) [.int .i64 0, .int .i64 0, .int .i64 0, .int .i64 0, .int .i64 0, .int .i64 0, .int .i64 0, .int .i64 0, .int .i64 0, .int .i64 0, .int .i64 0, .int .i64 0, .int .i64 0, .int .i64 0, .int .i64 0, .int .i64 0, .int .i64 0, .int .i64 0, .int .i64 0, .int .i64 0, .int .i64 0, .int .i64 0, .int .i64 0, .int .i64 0, .int .i64 0]) := R26.out.below hb1
      clear B22 M23 K24 T25 R26
      clear hb1
      rw [hk]
      have yM0 : w1.cell? ⟨w.heap.size, 0, none⟩ = some (.int .i64 c) := (M27.out.2 0 (by simp)).1
      have yM1 : w1.cell? ⟨w.heap.size, 1, none⟩ = some (.int .i64 d) := (M27.out.2 1 (by simp)).1
      have hlM : w.heap.size < w1.heap.size := M27.out.1
      have yK0 : w1.cell? ⟨(w.heap.size + 1), 0, none⟩ = some (.slice a n cap) := (K27.out.2 0 (by simp)).1
      have hlK : (w.heap.size + 1) < w1.heap.size := K27.out.1
      have yT0 : w1.cell? ⟨(w.heap.size + 1 + 1), 0, none⟩ = some (.slice aS TT.nS kS) := (T27.out.2 0 (by simp)).1
      have yT1 : w1.cell? ⟨(w.heap.size + 1 + 1), 1, none⟩ = some (.slice aA TT.nA kA) := (T27.out.2 1 (by simp)).1
      have hlT : (w.heap.size + 1 + 1) < w1.heap.size := T27.out.1
      go_wp2_with fail
      refine (arbOk_impl c d _ TT sv hT _ (HT.out.below B27.out)).mono ?_
      rintro e w2 ⟨rfl, hb2⟩
      clear yM0 yM1 hlM yK0 hlK yT0 yT1 hlT
      have B28 : Hid (Below w.heap.size w w2) := bthen B27.out hb2
      have M28 : Hid (Bk w2 w.heap.size [.int .i64 c, .int .i64 d]) := M27.out.below hb2
      have K28 : Hid (Bk w2 (w.heap.size + 1) [.slice a n cap]) := K27.out.below hb2
      have T28 : Hid (Bk w2 (w.heap.size + 1 + 1) [.slice aS TT.nS kS, .slice aA TT.nA kA]) := T27.out.below hb2
      have R28 : Hid (Bk w2 (w.heap.size + 1 + 1 + 1) [.int .i64 0, .int .i64 0, .int .i64 0, .int .i64 0, .int .i64 0, .int .i64 0, .int .i64 0, .int .i64 0, .int .i64 0, .int .i64 0, .int .i64 0, .int .i64 0, .int .i64 0, .int .i64 0, .int .i64 0, .int .i64 0, .int .i64 0, .int .i64 0, .int .i64 0, .int .i64 0, .int .i64 0, .int .i64 0, .int .i64 0, .int .i64 0, .int .i64 0]) := R27.out.below hb2
      clear B27 M27 K27 T27 R27
      clear hb2
      rw [ht]
      have k3 : w.heap.size + 1 + 1 + 1 < w2.heap.size := R28.out.1
      have yM0 : w2.cell? ⟨w.heap.size, 0, none⟩ = some (.int .i64 c) := (M28.out.2 0 (by simp)).1
      have yM1 : w2.cell? ⟨w.heap.size, 1, none⟩ = some (.int .i64 d) := (M28.out.2 1 (by simp)).1
      have hlM : w.heap.size < w2.heap.size := M28.out.1
      have yK0 : w2.cell? ⟨(w.heap.size + 1), 0, none⟩ = some (.slice a n cap) := (K28.out.2 0 (by simp)).1
      have hlK : (w.heap.size + 1) < w2.heap.size := K28.out.1
      have yT0 : w2.cell? ⟨(w.heap.size + 1 + 1), 0, none⟩ = some (.slice aS TT.nS kS) := (T28.out.2 0 (by simp)).1
      have yT1 : w2.cell? ⟨(w.heap.size + 1 + 1), 1, none⟩ = some (.slice aA TT.nA kA) := (T28.out.2 1 (by simp)).1
      have hlT : (w.heap.size + 1 + 1) < w2.heap.size := T28.out.1
      go_wp2_with fail
      refine (opened a n cap Z hn (book_key hk) _ (P10.row_below HR.out B28.out)).mono ?_
      rintro e w3 ⟨⟨mb, Bs, rfl, hO3⟩, hb3⟩
      clear yM0 yM1 hlM yK0 hlK yT0 yT1 hlT
      have B29 : Hid (Below w.heap.size w w3) := bthen B28.out hb3
      have M29 : Hid (Bk w3 w.heap.size [.int .i64 c, .int .i64 d]) := M28.out.below hb3
      have K29 : Hid (Bk w3 (w.heap.size + 1) [.slice a n cap]) := K28.out.below hb3
      have T29 : Hid (Bk w3 (w.heap.size + 1 + 1) [.slice aS TT.nS kS, .slice aA TT.nA kA]) := T28.out.below hb3
      have R29 : Hid (Bk w3 (w.heap.size + 1 + 1 + 1) [.int .i64 0, .int .i64 0, .int .i64 0, .int .i64 0, .int .i64 0, .int .i64 0, .int .i64 0, .int .i64 0, .int .i64 0, .int .i64 0, .int .i64 0, .int .i64 0, .int .i64 0, .int .i64 0, .int .i64 0, .int .i64 0, .int .i64 0, .int .i64 0, .int .i64 0, .int .i64 0, .int .i64 0, .int .i64 0, .int .i64 0, .int .i64 0, .int .i64 0]) := R28.out.below hb3
      clear B28 M28 K28 T28 R28
      have z3 := hb3.size
      obtain ⟨lo, elo⟩ : ∃ g, g = w2.heap.size := ⟨_, rfl⟩
      rw [← elo] at hO3 z3 k3
      clear hb3 elo
      have lk := hO3.2.1.look (z := who) hwf
      have hmp : mapP (fun k => Z k 0) Bs n who = some (Bs i) := by rw [← hz]; exact mapP_some (Kf := fun k => Z k 0) n hi (book_rise hk)
      rw [hmp] at lk
      clear hmp
      simp only [pvo, pv, Option.isSome_some] at lk
      have P3 := (hO3.2.2.1 i hi).2
      have c0 : w3.cell? ⟨Bs i, 0, none⟩ = some (.int .i64 (Z i 0)) := (P3.2 0 (by simp [P10.rowK])).1
      have c1 : w3.cell? ⟨Bs i, 1, none⟩ = some (.int .i64 (Z i 1)) := (P3.2 1 (by simp [P10.rowK])).1
      have c2 : w3.cell? ⟨Bs i, 2, none⟩ = some (.bool false) := by rw [(P3.2 2 (by simp [P10.rowK])).1]; simp [P10.rowK, hb]
      have c3 : w3.cell? ⟨Bs i, 3, none⟩ = some (.int .i64 (Z i 3)) := (P3.2 3 (by simp [P10.rowK])).1
      have c4 : w3.cell? ⟨Bs i, 4, none⟩ = some (.int .i64 (Z i 4)) := (P3.2 4 (by simp [P10.rowK])).1
      have c5 : w3.cell? ⟨Bs i, 5, none⟩ = some (.int .i64 (Z i 5)) := (P3.2 5 (by simp [P10.rowK])).1
      have c6 : w3.cell? ⟨Bs i, 6, none⟩ = some (.int .i64 (Z i 6)) := (P3.2 6 (by simp [P10.rowK])).1
      have c7 : w3.cell? ⟨Bs i, 7, none⟩ = some (.int .i64 (Z i 7)) := (P3.2 7 (by simp [P10.rowK])).1
      have c8 : w3.cell? ⟨Bs i, 8, none⟩ = some (.int .i64 (Z i 8)) := (P3.2 8 (by simp [P10.rowK])).1
      have c9 : w3.cell? ⟨Bs i, 9, none⟩ = some (.int .i64 (Z i 9)) := (P3.2 9 (by simp [P10.rowK])).1
      have lB : Bs i < w3.heap.size := P3.1
      clear P3
      go_wp2
      rw [store62_bk (R29.out) rfl _ rfl (by kernel_rfl)]
      obtain ⟨w9, e9⟩ : ∃ y, y = putL (w.heap.size + 1 + 1 + 1) ((#[.int .i64 0, .int .i64 0, .int .i64 0, .int .i64 0, .int .i64 0, .int .i64 0, .int .i64 0, .int .i64 0, .int .i64 0, .int .i64 0, .int .i64 0, .int .i64 0, .int .i64 0, .int .i64 0, .int .i64 0, .int .i64 0, .int .i64 0, .int .i64 0, .int .i64 0, .int .i64 0, .int .i64 0, .int .i64 0, .int .i64 0, .int .i64 0, .int .i64 0] : Array Value).toList) 0 w3 := ⟨_, rfl⟩
      have R9 : Hid (Bk w9 (w.heap.size + 1 + 1 + 1) [.int .i64 0, .int .i64 0, .int .i64 0, .int .i64 0, .int .i64 0, .int .i64 0, .int .i64 0, .int .i64 0, .int .i64 0, .int .i64 0, .int .i64 0, .int .i64 0, .int .i64 0, .int .i64 0, .int .i64 0, .int .i64 0, .int .i64 0, .int .i64 0, .int .i64 0, .int .i64 0, .int .i64 0, .int .i64 0, .int .i64 0, .int .i64 0, .int .i64 0]) := by unfold Hid; rw [e9]; exact bk_put (R29.out) rfl
      have B9 : Hid (Below w.heap.size w w9) := by unfold Hid; rw [e9]; exact below_put (by omega) _ _ (B29.out)
      rw [← e9]
      clear e9
      go_wp2
      have hr := fun tmps hp hq => results_mid2 (P := Try.prog) (fn := Try.f26) Try.results26 tmps w9 (w.heap.size + 1 + 1 + 1) [.int .i64 0, .int .i64 0, .int .i64 0, .int .i64 0, .int .i64 0, .int .i64 0, .int .i64 0, .int .i64 0, .int .i64 0, .int .i64 0, .int .i64 0, .int .i64 0, .int .i64 0, .int .i64 0, .int .i64 0, .int .i64 0, .int .i64 0, .int .i64 0, .int .i64 0, .int .i64 0, .int .i64 0, .int .i64 0, .int .i64 0, .int .i64 0, .int .i64 0] _ (.bool false) hp hq (Bk.range R9.out) Try.underlying62 rfl (by kernel_rfl)
      exact bodyPost_ret (v := .tuple #[.agg #[.int .i64 0, .int .i64 0, .int .i64 0, .int .i64 0, .int .i64 0, .int .i64 0, .int .i64 0, .int .i64 0, .int .i64 0, .int .i64 0, .int .i64 0, .int .i64 0, .int .i64 0, .int .i64 0, .int .i64 0, .int .i64 0, .int .i64 0, .int .i64 0, .int .i64 0, .int .i64 0, .int .i64 0, .int .i64 0, .int .i64 0, .int .i64 0, .int .i64 0], .bool false]) (hr _ rfl rfl) rfl ⟨rfl, B9.out⟩
    cases hq : ((srvI TT (Z i 1)) == -1)
    · have he : ¬ (srvI TT (Z i 1)) = -1 := by simpa using hq
      have hs2 : sayI c d n Z TT sv who = some i := by simp [sayI, hk, ht, hs, hb, he]
      rw [hs2]
      simp only [sayM, Option.isSome_some]
      clear hs2
      go_enter Try.func26, Try.ntmps26
      go_wp2_with fail
      obtain ⟨w0, e0⟩ : ∃ w0, w0 = ((((w.alloc (.cells #[.int .i64 c, .int .i64 d] 30)).alloc (.cells #[.slice a n cap] 28)).alloc (.cells #[.slice aS TT.nS kS, .slice aA TT.nA kA] 65)).alloc (.cells #[.int .i64 0, .int .i64 0, .int .i64 0, .int .i64 0, .int .i64 0, .int .i64 0, .int .i64 0, .int .i64 0, .int .i64 0, .int .i64 0, .int .i64 0, .int .i64 0, .int .i64 0, .int .i64 0, .int .i64 0, .int .i64 0, .int .i64 0, .int .i64 0, .int .i64 0, .int .i64 0, .int .i64 0, .int .i64 0, .int .i64 0, .int .i64 0, .int .i64 0] 62)) := ⟨_, rfl⟩
      have B30 : Hid (Below w.heap.size w w0) := by rw [e0]; exact ((((Below.refl _ _).alloc (by simp) _).alloc (by simp) _).alloc (by simp; omega) _).alloc (by simp; omega) _
      have M31 : Hid (Bk w0 w.heap.size [.int .i64 c, .int .i64 d]) := by rw [e0]; exact (((bk_new w 30 [.int .i64 c, .int .i64 d]).below ((Below.refl _ _).alloc (Nat.le_refl _) _)).below ((Below.refl _ _).alloc (Nat.le_refl _) _)).below ((Below.refl _ _).alloc (Nat.le_refl _) _)
      have K32 : Hid (Bk w0 (w.heap.size + 1) [.slice a n cap]) := by rw [e0]; have := ((bk_new (w.alloc (.cells #[.int .i64 c, .int .i64 d] 30)) 28 [.slice a n cap]).below ((Below.refl _ _).alloc (Nat.le_refl _) (.cells #[.slice aS TT.nS kS, .slice aA TT.nA kA] 65))).below ((Below.refl _ _).alloc (Nat.le_refl _) (.cells #[.int .i64 0, .int .i64 0, .int .i64 0, .int .i64 0, .int .i64 0, .int .i64 0, .int .i64 0, .int .i64 0, .int .i64 0, .int .i64 0, .int .i64 0, .int .i64 0, .int .i64 0, .int .i64 0, .int .i64 0, .int .i64 0, .int .i64 0, .int .i64 0, .int .i64 0, .int .i64 0, .int .i64 0, .int .i64 0, .int .i64 0, .int .i64 0, .int .i64 0] 62)); rwa [show (w.alloc (.cells #[.int .i64 c, .int .i64 d] 30)).heap.size = w.heap.size + 1 by simp] at this
      have T33 : Hid (Bk w0 (w.heap.size + 1 + 1) [.slice aS TT.nS kS, .slice aA TT.nA kA]) := by rw [e0]; have := (bk_new ((w.alloc (.cells #[.int .i64 c, .int .i64 d] 30)).alloc (.cells #[.slice a n cap] 28)) 65 [.slice aS TT.nS kS, .slice aA TT.nA kA]).below ((Below.refl _ _).alloc (Nat.le_refl _) (.cells #[.int .i64 0, .int .i64 0, .int .i64 0, .int .i64 0, .int .i64 0, .int .i64 0, .int .i64 0, .int .i64 0, .int .i64 0, .int .i64 0, .int .i64 0, .int .i64 0, .int .i64 0, .int .i64 0, .int .i64 0, .int .i64 0, .int .i64 0, .int .i64 0, .int .i64 0, .int .i64 0, .int .i64 0, .int .i64 0, .int .i64 0, .int .i64 0, .int .i64 0] 62)); rwa [show ((w.alloc (.cells #[.int .i64 c, .int .i64 d] 30)).alloc (.cells #[.slice a n cap] 28)).heap.size = w.heap.size + 1 + 1 by simp] at this
      have R34 : Hid (Bk w0 (w.heap.size + 1 + 1 + 1) [.int .i64 0, .int .i64 0, .int .i64 0, .int .i64 0, .int .i64 0, .int .i64 0, .int .i64 0, .int .i64 0, .int .i64 0, .int .i64 0, .int .i64 0, .int .i64 0, .int .i64 0, .int .i64 0, .int .i64 0, .int .i64 0, .int .i64 0, .int .i64 0, .int .i64 0, .int .i64 0, .int .i64 0, .int .i64 0, .int .i64 0, .int .i64 0, .int .i64 0]) := by rw [e0]; have := bk_new (((w.alloc (.cells #[.int .i64 c, .int .i64 d] 30)).alloc (.cells #[.slice a n cap] 28)).alloc (.cells #[.slice aS TT.nS kS, .slice aA TT.nA kA] 65)) 62 [.int .i64 0, .int .i64 0, .int .i64 0, .int .i64 0, .int .i64 0, .int .i64 0, .int .i64 0, .int .i64 0, .int .i64 0, .int .i64 0, .int .i64 0, .int .i64 0, .int .i64 0, .int .i64 0, .int .i64 0, .int .i64 0, .int .i64 0, .int .i64 0, .int .i64 0, .int .i64 0, .int .i64 0, .int .i64 0, .int .i64 0, .int .i64 0, .int .i64 0]; rwa [show (((w.alloc (.cells #[.int .i64 c, .int .i64 d] 30)).alloc (.cells #[.slice a n cap] 28)).alloc (.cells #[.slice aS TT.nS kS, .slice aA TT.nA kA] 65)).heap.size = w.heap.size + 1 + 1 + 1 by simp] at this
      rw [← e0]
      clear e0
      refine (book_impl c d a n cap Z hn _ (P10.row_below HR.out B30.out)).mono ?_
      rintro e w1 ⟨rfl, hb1⟩
      have B35 : Hid (Below w.heap.size w w1) := bthen B30.out hb1
      have M35 : Hid (Bk w1 w.heap.size [.int .i64 c, .int .i64 d]) := M31.out.below hb1
      have K35 : Hid (Bk w1 (w.heap.size + 1) [.slice a n cap]) := K32.out.below hb1
      have T35 : Hid (Bk w1 (w.heap.size + 1 + 1) [.slice aS TT.nS kS, .slice aA TT.nA kA]) := T33.out.below hb1
      have R35 : Hid (Bk w1 (w.heap.size + 1 + 1 + 1) [.int .i64 0, .int .i64 0, .int .i64 0, .int .i64 0, .int .i64 0, .int .i64 0, .int .i64 0, .int .i64 0, .int .i64 0, .int .i64 0, .int .i64 0, .int .i64 0, .int .i64 0, .int .i64 0, .int .i64 0, .int .i64 0, .int .i64 0, .int .i64 0, .int .i64 0, .int .i64 0, .int .i64 0, .int .i64 0, .int .i64 0, .int .i64 0, .int .i64 0]) := R34.out.below hb1
      clear B30 M31 K32 T33 R34
      clear hb1
      rw [hk]
      have yM0 : w1.cell? ⟨w.heap.size, 0, none⟩ = some (.int .i64 c) := (M35.out.2 0 (by simp)).1
      have yM1 : w1.cell? ⟨w.heap.size, 1, none⟩ = some (.int .i64 d) := (M35.out.2 1 (by simp)).1
      have hlM : w.heap.size < w1.heap.size := M35.out.1
      have yK0 : w1.cell? ⟨(w.heap.size + 1), 0, none⟩ = some (.slice a n cap) := (K35.out.2 0 (by simp)).1
      have hlK : (w.heap.size + 1) < w1.heap.size := K35.out.1
      have yT0 : w1.cell? ⟨(w.heap.size + 1 + 1), 0, none⟩ = some (.slice aS TT.nS kS) := (T35.out.2 0 (by simp)).1
      have yT1 : w1.cell? ⟨(w.heap.size + 1 + 1), 1, none⟩ = some (.slice aA TT.nA kA) := (T35.out.2 1 (by simp)).1
      have hlT : (w.heap.size + 1 + 1) < w1.heap.size := T35.out.1
      go_wp2_with fail
      refine (arbOk_impl c d _ TT sv hT _ (HT.out.below B35.out)).mono ?_
      rintro e w2 ⟨rfl, hb2⟩
      clear yM0 yM1 hlM yK0 hlK yT0 yT1 hlT
      have B36 : Hid (Below w.heap.size w w2) := bthen B35.out hb2
      have M36 : Hid (Bk w2 w.heap.size [.int .i64 c, .int .i64 d]) := M35.out.below hb2
      have K36 : Hid (Bk w2 (w.heap.size + 1) [.slice a n cap]) := K35.out.below hb2
      have T36 : Hid (Bk w2 (w.heap.size + 1 + 1) [.slice aS TT.nS kS, .slice aA TT.nA kA]) := T35.out.below hb2
      have R36 : Hid (Bk w2 (w.heap.size + 1 + 1 + 1) [.int .i64 0, .int .i64 0, .int .i64 0, .int .i64 0, .int .i64 0, .int .i64 0, .int .i64 0, .int .i64 0, .int .i64 0, .int .i64 0, .int .i64 0, .int .i64 0, .int .i64 0, .int .i64 0, .int .i64 0, .int .i64 0, .int .i64 0, .int .i64 0, .int .i64 0, .int .i64 0, .int .i64 0, .int .i64 0, .int .i64 0, .int .i64 0, .int .i64 0]) := R35.out.below hb2
      clear B35 M35 K35 T35 R35
      clear hb2
      rw [ht]
      have k3 : w.heap.size + 1 + 1 + 1 < w2.heap.size := R36.out.1
      have yM0 : w2.cell? ⟨w.heap.size, 0, none⟩ = some (.int .i64 c) := (M36.out.2 0 (by simp)).1
      have yM1 : w2.cell? ⟨w.heap.size, 1, none⟩ = some (.int .i64 d) := (M36.out.2 1 (by simp)).1
      have hlM : w.heap.size < w2.heap.size := M36.out.1
      have yK0 : w2.cell? ⟨(w.heap.size + 1), 0, none⟩ = some (.slice a n cap) := (K36.out.2 0 (by simp)).1
      have hlK : (w.heap.size + 1) < w2.heap.size := K36.out.1
      have yT0 : w2.cell? ⟨(w.heap.size + 1 + 1), 0, none⟩ = some (.slice aS TT.nS kS) := (T36.out.2 0 (by simp)).1
      have yT1 : w2.cell? ⟨(w.heap.size + 1 + 1), 1, none⟩ = some (.slice aA TT.nA kA) := (T36.out.2 1 (by simp)).1
      have hlT : (w.heap.size + 1 + 1) < w2.heap.size := T36.out.1
      go_wp2_with fail
      refine (opened a n cap Z hn (book_key hk) _ (P10.row_below HR.out B36.out)).mono ?_
      rintro e w3 ⟨⟨mb, Bs, rfl, hO3⟩, hb3⟩
      clear yM0 yM1 hlM yK0 hlK yT0 yT1 hlT
      have B37 : Hid (Below w.heap.size w w3) := bthen B36.out hb3
      have M37 : Hid (Bk w3 w.heap.size [.int .i64 c, .int .i64 d]) := M36.out.below hb3
      have K37 : Hid (Bk w3 (w.heap.size + 1) [.slice a n cap]) := K36.out.below hb3
      have T37 : Hid (Bk w3 (w.heap.size + 1 + 1) [.slice aS TT.nS kS, .slice aA TT.nA kA]) := T36.out.below hb3
      have R37 : Hid (Bk w3 (w.heap.size + 1 + 1 + 1) [.int .i64 0, .int .i64 0, .int .i64 0, .int .i64 0, .int .i64 0, .int .i64 0, .int .i64 0, .int .i64 0, .int .i64 0, .int .i64 0, .int .i64 0, .int .i64 0, .int .i64 0, .int .i64 0, .int .i64 0, .int .i64 0, .int .i64 0, .int .i64 0, .int .i64 0, .int .i64 0, .int .i64 0, .int .i64 0, .int .i64 0, .int .i64 0, .int .i64 0]) := R36.out.below hb3
      clear B36 M36 K36 T36 R36
      have z3 := hb3.size
      obtain ⟨lo, elo⟩ : ∃ g, g = w2.heap.size := ⟨_, rfl⟩
      rw [← elo] at hO3 z3 k3
      clear hb3 elo
      have lk := hO3.2.1.look (z := who) hwf
      have hmp : mapP (fun k => Z k 0) Bs n who = some (Bs i) := by rw [← hz]; exact mapP_some (Kf := fun k => Z k 0) n hi (book_rise hk)
      rw [hmp] at lk
      clear hmp
      simp only [pvo, pv, Option.isSome_some] at lk
      have P3 := (hO3.2.2.1 i hi).2
      have c0 : w3.cell? ⟨Bs i, 0, none⟩ = some (.int .i64 (Z i 0)) := (P3.2 0 (by simp [P10.rowK])).1
      have c1 : w3.cell? ⟨Bs i, 1, none⟩ = some (.int .i64 (Z i 1)) := (P3.2 1 (by simp [P10.rowK])).1
      have c2 : w3.cell? ⟨Bs i, 2, none⟩ = some (.bool true) := by rw [(P3.2 2 (by simp [P10.rowK])).1]; simp [P10.rowK, hb]
      have c3 : w3.cell? ⟨Bs i, 3, none⟩ = some (.int .i64 (Z i 3)) := (P3.2 3 (by simp [P10.rowK])).1
      have c4 : w3.cell? ⟨Bs i, 4, none⟩ = some (.int .i64 (Z i 4)) := (P3.2 4 (by simp [P10.rowK])).1
      have c5 : w3.cell? ⟨Bs i, 5, none⟩ = some (.int .i64 (Z i 5)) := (P3.2 5 (by simp [P10.rowK])).1
      have c6 : w3.cell? ⟨Bs i, 6, none⟩ = some (.int .i64 (Z i 6)) := (P3.2 6 (by simp [P10.rowK])).1
      have c7 : w3.cell? ⟨Bs i, 7, none⟩ = some (.int .i64 (Z i 7)) := (P3.2 7 (by simp [P10.rowK])).1
      have c8 : w3.cell? ⟨Bs i, 8, none⟩ = some (.int .i64 (Z i 8)) := (P3.2 8 (by simp [P10.rowK])).1
      have c9 : w3.cell? ⟨Bs i, 9, none⟩ = some (.int .i64 (Z i 9)) := (P3.2 9 (by simp [P10.rowK])).1
      have lB : Bs i < w3.heap.size := P3.1
      clear P3
      have yT0 : w3.cell? ⟨(w.heap.size + 1 + 1), 0, none⟩ = some (.slice aS TT.nS kS) := (T37.out.2 0 (by simp)).1
      have yT1 : w3.cell? ⟨(w.heap.size + 1 + 1), 1, none⟩ = some (.slice aA TT.nA kA) := (T37.out.2 1 (by simp)).1
      have hlT : (w.heap.size + 1 + 1) < w3.heap.size := T37.out.1
      go_wp2_with fail
      refine wp_region_held_drew (S := fun w' => (∀ b o, b < w3.heap.size → w'.cell? ⟨b, o, none⟩ = w3.cell? ⟨b, o, none⟩) ∧ w3.heap.size ≤ w'.heap.size) (by kernel_rfl) ⟨fun _ _ _ => rfl, Nat.le_refl _⟩ ?_
      intro hHeld
      refine wpAnyH_take (i := 0) (v := .agg #[.slice aS TT.nS kS, .slice aA TT.nA kA]) rfl (by kernel_rfl) (by kernel_rfl) (by kernel_rfl) (fun _ _ _ h => h) (Or.inl ⟨by rfl, ?_⟩) (by assumption) ?_
      · intro wx hSw; go_simp
      try simp only [Act.put, List.setIfInBounds_toArray, List.set_cons_zero, List.set_cons_succ, List.getElem_toArray, List.getElem_cons_zero]
      refine wpAnyH_take (i := 1) (v := .pointer (some ⟨(Bs i), 0, none⟩)) rfl (by kernel_rfl) (by kernel_rfl) (by kernel_rfl) (fun _ _ _ h => h) (Or.inl ⟨by rfl, ?_⟩) (by assumption) ?_
      · intro wx hSw; go_simp
      try simp only [Act.put, List.setIfInBounds_toArray, List.set_cons_zero, List.set_cons_succ, List.getElem_toArray, List.getElem_cons_zero, List.getElem_cons_succ]
      refine wpAnyH_take (i := 2) (v := .pointer (some ⟨(Bs i), 0, none⟩)) rfl (by kernel_rfl) (by kernel_rfl) (by kernel_rfl) (fun _ _ _ h => h) (Or.inl ⟨by rfl, ?_⟩) (by assumption) ?_
      · intro wx hSw; go_simp
      try simp only [Act.put, List.setIfInBounds_toArray, List.set_cons_zero, List.set_cons_succ, List.getElem_toArray, List.getElem_cons_zero, List.getElem_cons_succ]
      refine wpAnyH_take (i := 3) (v := .pointer (some ⟨(Bs i), 1, none⟩)) rfl (by kernel_rfl) (by kernel_rfl) (by kernel_rfl) (fun _ _ _ h => h) (Or.inl ⟨by rfl, ?_⟩) (by assumption) ?_
      · intro wx hSw; go_simp
      try simp only [Act.put, List.setIfInBounds_toArray, List.set_cons_zero, List.set_cons_succ, List.getElem_toArray, List.getElem_cons_zero, List.getElem_cons_succ]
      refine wpAnyH_take (i := 4) (v := .int .i64 (Z i 1)) rfl (by kernel_rfl) (by kernel_rfl) (by kernel_rfl) (fun _ _ _ h => h) (Or.inl ⟨by rfl, ?_⟩) (by assumption) ?_
      · intro wx hSw; go_simp
      try simp only [Act.put, List.setIfInBounds_toArray, List.set_cons_zero, List.set_cons_succ, List.getElem_toArray, List.getElem_cons_zero, List.getElem_cons_succ]
      refine wpAnyH_ready (rs := [5]) (by kernel_rfl) (by simp) ?_
      refine AllReadyH.cons rfl (fun K hK => ?_) AllReadyH.nil
      go_simp
      go_wp2_with fail
      refine (srv_impl _ TT (Z i 1) hT _ (HT.out.below (bthen B37.out (by repeat (first | exact Below.refl _ _ | refine bthen ?_ (by assumption) | apply Below.drew))))).mono ?_
      rintro e x4 ⟨rfl, hx4⟩
      refine hK.out _ _ (keepS (by assumption) hx4) (fun hNew => ?_)
      clear hK K hHeld
      have hHeld := hNew
      clear hNew
      try simp only [Act.put, List.setIfInBounds_toArray, List.set_cons_zero, List.set_cons_succ, List.getElem_toArray, List.getElem_cons_zero, List.getElem_cons_succ]
      refine wpAnyH_take (i := 6) (v := .int .i64 (srvI TT (Z i 1))) rfl (by kernel_rfl) (by kernel_rfl) (by kernel_rfl) (fun _ _ _ h => h) (Or.inl ⟨by rfl, ?_⟩) (by assumption) ?_
      · intro wx hSw; go_simp
      try simp only [Act.put, List.setIfInBounds_toArray, List.set_cons_zero, List.set_cons_succ, List.getElem_toArray, List.getElem_cons_zero, List.getElem_cons_succ]
      refine wpAnyH_done (by kernel_rfl) ?_ _
      clear hHeld
      have hb4 : Below w3.heap.size w3 x4 := by repeat (first | exact Below.refl _ _ | refine bthen ?_ (by assumption) | apply Below.drew)
      clear yT0 yT1 hlT
      have P4 := ((hO3.below hb4).2.2.1 i hi).2
      clear lk c0 c1 c2 c3 c4 c5 c6 c7 c8 c9 lB
      have B38 : Hid (Below w.heap.size w x4) := bthen B37.out hb4
      have M38 : Hid (Bk x4 w.heap.size [.int .i64 c, .int .i64 d]) := M37.out.below hb4
      have K38 : Hid (Bk x4 (w.heap.size + 1) [.slice a n cap]) := K37.out.below hb4
      have T38 : Hid (Bk x4 (w.heap.size + 1 + 1) [.slice aS TT.nS kS, .slice aA TT.nA kA]) := T37.out.below hb4
      have R38 : Hid (Bk x4 (w.heap.size + 1 + 1 + 1) [.int .i64 0, .int .i64 0, .int .i64 0, .int .i64 0, .int .i64 0, .int .i64 0, .int .i64 0, .int .i64 0, .int .i64 0, .int .i64 0, .int .i64 0, .int .i64 0, .int .i64 0, .int .i64 0, .int .i64 0, .int .i64 0, .int .i64 0, .int .i64 0, .int .i64 0, .int .i64 0, .int .i64 0, .int .i64 0, .int .i64 0, .int .i64 0, .int .i64 0]) := R37.out.below hb4
      clear B37 M37 K37 T37 R37
      have z4 := hb4.size
      clear hb4 hx4
      have c0 : x4.cell? ⟨Bs i, 0, none⟩ = some (.int .i64 (Z i 0)) := (P4.2 0 (by simp [P10.rowK])).1
      have c1 : x4.cell? ⟨Bs i, 1, none⟩ = some (.int .i64 (Z i 1)) := (P4.2 1 (by simp [P10.rowK])).1
      have c2 : x4.cell? ⟨Bs i, 2, none⟩ = some (.bool true) := by rw [(P4.2 2 (by simp [P10.rowK])).1]; simp [P10.rowK, hb]
      have c3 : x4.cell? ⟨Bs i, 3, none⟩ = some (.int .i64 (Z i 3)) := (P4.2 3 (by simp [P10.rowK])).1
      have c4 : x4.cell? ⟨Bs i, 4, none⟩ = some (.int .i64 (Z i 4)) := (P4.2 4 (by simp [P10.rowK])).1
      have c5 : x4.cell? ⟨Bs i, 5, none⟩ = some (.int .i64 (Z i 5)) := (P4.2 5 (by simp [P10.rowK])).1
      have c6 : x4.cell? ⟨Bs i, 6, none⟩ = some (.int .i64 (Z i 6)) := (P4.2 6 (by simp [P10.rowK])).1
      have c7 : x4.cell? ⟨Bs i, 7, none⟩ = some (.int .i64 (Z i 7)) := (P4.2 7 (by simp [P10.rowK])).1
      have c8 : x4.cell? ⟨Bs i, 8, none⟩ = some (.int .i64 (Z i 8)) := (P4.2 8 (by simp [P10.rowK])).1
      have c9 : x4.cell? ⟨Bs i, 9, none⟩ = some (.int .i64 (Z i 9)) := (P4.2 9 (by simp [P10.rowK])).1
      have lB : Bs i < x4.heap.size := P4.1
      have nB : ¬ Bs i = w.heap.size + 1 + 1 + 1 := by have := (hO3.2.2.1 i hi).1; omega
      clear P4 hO3
      go_wp2_with fail
      refine wp_region_held_drew (S := Rd [((Bs i), 1, .int .i64 (Z i 1)), ((Bs i), 3, .int .i64 (Z i 3)), ((Bs i), 4, .int .i64 (Z i 4)), ((Bs i), 5, .int .i64 (Z i 5)), ((Bs i), 6, .int .i64 (Z i 6)), ((Bs i), 7, .int .i64 (Z i 7))]) (by kernel_rfl) (by intro p hp; simp only [List.mem_cons, List.not_mem_nil, or_false] at hp; rcases hp with rfl | rfl | rfl | rfl | rfl | rfl <;> first | exact ⟨c1, lB⟩ | exact ⟨c3, lB⟩ | exact ⟨c4, lB⟩ | exact ⟨c5, lB⟩ | exact ⟨c6, lB⟩ | exact ⟨c7, lB⟩) ?_
      intro hHeld
      refine wpAnyH_take (i := 0) (v := .int .i64 (srvI TT (Z i 1))) rfl (by kernel_rfl) (by kernel_rfl) (by kernel_rfl) (fun _ _ _ h => h) (Or.inl ⟨by rfl, ?_⟩) (by assumption) ?_
      · intro wx hSw; have s0 := hSw ((Bs i), 1, .int .i64 (Z i 1)) (by simp); have s1 := hSw ((Bs i), 3, .int .i64 (Z i 3)) (by simp); have s2 := hSw ((Bs i), 4, .int .i64 (Z i 4)) (by simp); have s3 := hSw ((Bs i), 5, .int .i64 (Z i 5)) (by simp); have s4 := hSw ((Bs i), 6, .int .i64 (Z i 6)) (by simp); have s5 := hSw ((Bs i), 7, .int .i64 (Z i 7)) (by simp); obtain ⟨s0, t0⟩ := s0; obtain ⟨s1, t1⟩ := s1; obtain ⟨s2, t2⟩ := s2; obtain ⟨s3, t3⟩ := s3; obtain ⟨s4, t4⟩ := s4; obtain ⟨s5, t5⟩ := s5; go_simp
      try simp only [Act.put, List.setIfInBounds_toArray, List.set_cons_zero, List.set_cons_succ, List.getElem_toArray, List.getElem_cons_zero]
      refine wpAnyH_take (i := 1) (v := .pointer (some ⟨Bs i, 0, none⟩)) rfl (by kernel_rfl) (by kernel_rfl) (by kernel_rfl) (fun _ _ _ h => h) (Or.inl ⟨by rfl, ?_⟩) (by assumption) ?_
      · intro wx hSw; have s0 := hSw ((Bs i), 1, .int .i64 (Z i 1)) (by simp); have s1 := hSw ((Bs i), 3, .int .i64 (Z i 3)) (by simp); have s2 := hSw ((Bs i), 4, .int .i64 (Z i 4)) (by simp); have s3 := hSw ((Bs i), 5, .int .i64 (Z i 5)) (by simp); have s4 := hSw ((Bs i), 6, .int .i64 (Z i 6)) (by simp); have s5 := hSw ((Bs i), 7, .int .i64 (Z i 7)) (by simp); obtain ⟨s0, t0⟩ := s0; obtain ⟨s1, t1⟩ := s1; obtain ⟨s2, t2⟩ := s2; obtain ⟨s3, t3⟩ := s3; obtain ⟨s4, t4⟩ := s4; obtain ⟨s5, t5⟩ := s5; go_simp
      try simp only [Act.put, List.setIfInBounds_toArray, List.set_cons_zero, List.set_cons_succ, List.getElem_toArray, List.getElem_cons_zero, List.getElem_cons_succ]
      refine wpAnyH_take (i := 2) (v := .pointer (some ⟨Bs i, 0, none⟩)) rfl (by kernel_rfl) (by kernel_rfl) (by kernel_rfl) (fun _ _ _ h => h) (Or.inl ⟨by rfl, ?_⟩) (by assumption) ?_
      · intro wx hSw; have s0 := hSw ((Bs i), 1, .int .i64 (Z i 1)) (by simp); have s1 := hSw ((Bs i), 3, .int .i64 (Z i 3)) (by simp); have s2 := hSw ((Bs i), 4, .int .i64 (Z i 4)) (by simp); have s3 := hSw ((Bs i), 5, .int .i64 (Z i 5)) (by simp); have s4 := hSw ((Bs i), 6, .int .i64 (Z i 6)) (by simp); have s5 := hSw ((Bs i), 7, .int .i64 (Z i 7)) (by simp); obtain ⟨s0, t0⟩ := s0; obtain ⟨s1, t1⟩ := s1; obtain ⟨s2, t2⟩ := s2; obtain ⟨s3, t3⟩ := s3; obtain ⟨s4, t4⟩ := s4; obtain ⟨s5, t5⟩ := s5; go_simp
      try simp only [Act.put, List.setIfInBounds_toArray, List.set_cons_zero, List.set_cons_succ, List.getElem_toArray, List.getElem_cons_zero, List.getElem_cons_succ]
      refine wpAnyH_take (i := 3) (v := .pointer (some ⟨Bs i, 1, none⟩)) rfl (by kernel_rfl) (by kernel_rfl) (by kernel_rfl) (fun _ _ _ h => h) (Or.inl ⟨by rfl, ?_⟩) (by assumption) ?_
      · intro wx hSw; have s0 := hSw ((Bs i), 1, .int .i64 (Z i 1)) (by simp); have s1 := hSw ((Bs i), 3, .int .i64 (Z i 3)) (by simp); have s2 := hSw ((Bs i), 4, .int .i64 (Z i 4)) (by simp); have s3 := hSw ((Bs i), 5, .int .i64 (Z i 5)) (by simp); have s4 := hSw ((Bs i), 6, .int .i64 (Z i 6)) (by simp); have s5 := hSw ((Bs i), 7, .int .i64 (Z i 7)) (by simp); obtain ⟨s0, t0⟩ := s0; obtain ⟨s1, t1⟩ := s1; obtain ⟨s2, t2⟩ := s2; obtain ⟨s3, t3⟩ := s3; obtain ⟨s4, t4⟩ := s4; obtain ⟨s5, t5⟩ := s5; go_simp
      try simp only [Act.put, List.setIfInBounds_toArray, List.set_cons_zero, List.set_cons_succ, List.getElem_toArray, List.getElem_cons_zero, List.getElem_cons_succ]
      refine wpAnyH_take (i := 4) (v := .int .i64 (Z i 1)) rfl (by kernel_rfl) (by kernel_rfl) (by kernel_rfl) (fun _ _ _ h => h) (Or.inl ⟨by rfl, ?_⟩) (by assumption) ?_
      · intro wx hSw; have s0 := hSw ((Bs i), 1, .int .i64 (Z i 1)) (by simp); have s1 := hSw ((Bs i), 3, .int .i64 (Z i 3)) (by simp); have s2 := hSw ((Bs i), 4, .int .i64 (Z i 4)) (by simp); have s3 := hSw ((Bs i), 5, .int .i64 (Z i 5)) (by simp); have s4 := hSw ((Bs i), 6, .int .i64 (Z i 6)) (by simp); have s5 := hSw ((Bs i), 7, .int .i64 (Z i 7)) (by simp); obtain ⟨s0, t0⟩ := s0; obtain ⟨s1, t1⟩ := s1; obtain ⟨s2, t2⟩ := s2; obtain ⟨s3, t3⟩ := s3; obtain ⟨s4, t4⟩ := s4; obtain ⟨s5, t5⟩ := s5; go_simp
      try simp only [Act.put, List.setIfInBounds_toArray, List.set_cons_zero, List.set_cons_succ, List.getElem_toArray, List.getElem_cons_zero, List.getElem_cons_succ]
      refine wpAnyH_take (i := 5) (v := .pointer (some ⟨Bs i, 0, none⟩)) rfl (by kernel_rfl) (by kernel_rfl) (by kernel_rfl) (fun _ _ _ h => h) (Or.inl ⟨by rfl, ?_⟩) (by assumption) ?_
      · intro wx hSw; have s0 := hSw ((Bs i), 1, .int .i64 (Z i 1)) (by simp); have s1 := hSw ((Bs i), 3, .int .i64 (Z i 3)) (by simp); have s2 := hSw ((Bs i), 4, .int .i64 (Z i 4)) (by simp); have s3 := hSw ((Bs i), 5, .int .i64 (Z i 5)) (by simp); have s4 := hSw ((Bs i), 6, .int .i64 (Z i 6)) (by simp); have s5 := hSw ((Bs i), 7, .int .i64 (Z i 7)) (by simp); obtain ⟨s0, t0⟩ := s0; obtain ⟨s1, t1⟩ := s1; obtain ⟨s2, t2⟩ := s2; obtain ⟨s3, t3⟩ := s3; obtain ⟨s4, t4⟩ := s4; obtain ⟨s5, t5⟩ := s5; go_simp
      try simp only [Act.put, List.setIfInBounds_toArray, List.set_cons_zero, List.set_cons_succ, List.getElem_toArray, List.getElem_cons_zero, List.getElem_cons_succ]
      refine wpAnyH_take (i := 6) (v := .pointer (some ⟨Bs i, 0, none⟩)) rfl (by kernel_rfl) (by kernel_rfl) (by kernel_rfl) (fun _ _ _ h => h) (Or.inl ⟨by rfl, ?_⟩) (by assumption) ?_
      · intro wx hSw; have s0 := hSw ((Bs i), 1, .int .i64 (Z i 1)) (by simp); have s1 := hSw ((Bs i), 3, .int .i64 (Z i 3)) (by simp); have s2 := hSw ((Bs i), 4, .int .i64 (Z i 4)) (by simp); have s3 := hSw ((Bs i), 5, .int .i64 (Z i 5)) (by simp); have s4 := hSw ((Bs i), 6, .int .i64 (Z i 6)) (by simp); have s5 := hSw ((Bs i), 7, .int .i64 (Z i 7)) (by simp); obtain ⟨s0, t0⟩ := s0; obtain ⟨s1, t1⟩ := s1; obtain ⟨s2, t2⟩ := s2; obtain ⟨s3, t3⟩ := s3; obtain ⟨s4, t4⟩ := s4; obtain ⟨s5, t5⟩ := s5; go_simp
      try simp only [Act.put, List.setIfInBounds_toArray, List.set_cons_zero, List.set_cons_succ, List.getElem_toArray, List.getElem_cons_zero, List.getElem_cons_succ]
      refine wpAnyH_take (i := 7) (v := .pointer (some ⟨Bs i, 3, none⟩)) rfl (by kernel_rfl) (by kernel_rfl) (by kernel_rfl) (fun _ _ _ h => h) (Or.inl ⟨by rfl, ?_⟩) (by assumption) ?_
      · intro wx hSw; have s0 := hSw ((Bs i), 1, .int .i64 (Z i 1)) (by simp); have s1 := hSw ((Bs i), 3, .int .i64 (Z i 3)) (by simp); have s2 := hSw ((Bs i), 4, .int .i64 (Z i 4)) (by simp); have s3 := hSw ((Bs i), 5, .int .i64 (Z i 5)) (by simp); have s4 := hSw ((Bs i), 6, .int .i64 (Z i 6)) (by simp); have s5 := hSw ((Bs i), 7, .int .i64 (Z i 7)) (by simp); obtain ⟨s0, t0⟩ := s0; obtain ⟨s1, t1⟩ := s1; obtain ⟨s2, t2⟩ := s2; obtain ⟨s3, t3⟩ := s3; obtain ⟨s4, t4⟩ := s4; obtain ⟨s5, t5⟩ := s5; go_simp
      try simp only [Act.put, List.setIfInBounds_toArray, List.set_cons_zero, List.set_cons_succ, List.getElem_toArray, List.getElem_cons_zero, List.getElem_cons_succ]
      refine wpAnyH_take (i := 8) (v := .agg #[.int .i64 (Z i 3), .int .i64 (Z i 4), .int .i64 (Z i 5), .int .i64 (Z i 6), .int .i64 (Z i 7)]) rfl (by kernel_rfl) (by kernel_rfl) (by kernel_rfl) (fun _ _ _ h => h) (Or.inl ⟨by rfl, ?_⟩) (by assumption) ?_
      · intro wx hSw; have s0 := hSw ((Bs i), 1, .int .i64 (Z i 1)) (by simp); have s1 := hSw ((Bs i), 3, .int .i64 (Z i 3)) (by simp); have s2 := hSw ((Bs i), 4, .int .i64 (Z i 4)) (by simp); have s3 := hSw ((Bs i), 5, .int .i64 (Z i 5)) (by simp); have s4 := hSw ((Bs i), 6, .int .i64 (Z i 6)) (by simp); have s5 := hSw ((Bs i), 7, .int .i64 (Z i 7)) (by simp); obtain ⟨s0, t0⟩ := s0; obtain ⟨s1, t1⟩ := s1; obtain ⟨s2, t2⟩ := s2; obtain ⟨s3, t3⟩ := s3; obtain ⟨s4, t4⟩ := s4; obtain ⟨s5, t5⟩ := s5; go_simp
      try simp only [Act.put, List.setIfInBounds_toArray, List.set_cons_zero, List.set_cons_succ, List.getElem_toArray, List.getElem_cons_zero, List.getElem_cons_succ]
      refine wpAnyH_take (i := 9) (v := .agg #[.int .i64 (Z i 3), .int .i64 (Z i 4), .int .i64 (Z i 5), .int .i64 (Z i 6), .int .i64 (Z i 7)]) rfl (by kernel_rfl) (by kernel_rfl) (by kernel_rfl) (fun _ _ _ h => h) (Or.inl ⟨by rfl, ?_⟩) (by assumption) ?_
      · intro wx hSw; have s0 := hSw ((Bs i), 1, .int .i64 (Z i 1)) (by simp); have s1 := hSw ((Bs i), 3, .int .i64 (Z i 3)) (by simp); have s2 := hSw ((Bs i), 4, .int .i64 (Z i 4)) (by simp); have s3 := hSw ((Bs i), 5, .int .i64 (Z i 5)) (by simp); have s4 := hSw ((Bs i), 6, .int .i64 (Z i 6)) (by simp); have s5 := hSw ((Bs i), 7, .int .i64 (Z i 7)) (by simp); obtain ⟨s0, t0⟩ := s0; obtain ⟨s1, t1⟩ := s1; obtain ⟨s2, t2⟩ := s2; obtain ⟨s3, t3⟩ := s3; obtain ⟨s4, t4⟩ := s4; obtain ⟨s5, t5⟩ := s5; go_simp
      try simp only [Act.put, List.setIfInBounds_toArray, List.set_cons_zero, List.set_cons_succ, List.getElem_toArray, List.getElem_cons_zero, List.getElem_cons_succ]
      refine wpAnyH_take (i := 10) (v := .iface 97 (.agg #[.int .i64 (Z i 3), .int .i64 (Z i 4), .int .i64 (Z i 5), .int .i64 (Z i 6), .int .i64 (Z i 7)])) rfl (by kernel_rfl) (by kernel_rfl) (by kernel_rfl) (fun _ _ _ h => h) (Or.inl ⟨by rfl, ?_⟩) (by assumption) ?_
      · intro wx hSw; have s0 := hSw ((Bs i), 1, .int .i64 (Z i 1)) (by simp); have s1 := hSw ((Bs i), 3, .int .i64 (Z i 3)) (by simp); have s2 := hSw ((Bs i), 4, .int .i64 (Z i 4)) (by simp); have s3 := hSw ((Bs i), 5, .int .i64 (Z i 5)) (by simp); have s4 := hSw ((Bs i), 6, .int .i64 (Z i 6)) (by simp); have s5 := hSw ((Bs i), 7, .int .i64 (Z i 7)) (by simp); obtain ⟨s0, t0⟩ := s0; obtain ⟨s1, t1⟩ := s1; obtain ⟨s2, t2⟩ := s2; obtain ⟨s3, t3⟩ := s3; obtain ⟨s4, t4⟩ := s4; obtain ⟨s5, t5⟩ := s5; go_simp
      try simp only [Act.put, List.setIfInBounds_toArray, List.set_cons_zero, List.set_cons_succ, List.getElem_toArray, List.getElem_cons_zero, List.getElem_cons_succ]
      refine wpAnyH_ready (rs := [11]) (by kernel_rfl) (by simp) ?_
      refine AllReadyH.cons rfl (fun K hK => ?_) AllReadyH.nil
      go_simp
      go_wp2_with fail
      refine (sent_ask (srvI TT (Z i 1)) (Z i 1) (Z i 3) (Z i 4) (Z i 5) (Z i 6) (Z i 7) _).mono ?_
      rintro e x5 ⟨rfl, hx5⟩
      have hb5 : Below x4.heap.size x4 x5 := bthen ((Below.refl _ _).drew) hx5
      refine hK.out _ _ (hHeld.below hx5) (fun hNew => ?_)
      clear hK K hHeld
      have hHeld := hNew
      clear hNew
      try simp only [Act.put, List.setIfInBounds_toArray, List.set_cons_zero, List.set_cons_succ, List.getElem_toArray, List.getElem_cons_zero, List.getElem_cons_succ]
      have B39 : Hid (Below w.heap.size w x5) := bthen B38.out hb5
      have M39 : Hid (Bk x5 w.heap.size [.int .i64 c, .int .i64 d]) := M38.out.below hb5
      have K39 : Hid (Bk x5 (w.heap.size + 1) [.slice a n cap]) := K38.out.below hb5
      have T39 : Hid (Bk x5 (w.heap.size + 1 + 1) [.slice aS TT.nS kS, .slice aA TT.nA kA]) := T38.out.below hb5
      have R39 : Hid (Bk x5 (w.heap.size + 1 + 1 + 1) [.int .i64 0, .int .i64 0, .int .i64 0, .int .i64 0, .int .i64 0, .int .i64 0, .int .i64 0, .int .i64 0, .int .i64 0, .int .i64 0, .int .i64 0, .int .i64 0, .int .i64 0, .int .i64 0, .int .i64 0, .int .i64 0, .int .i64 0, .int .i64 0, .int .i64 0, .int .i64 0, .int .i64 0, .int .i64 0, .int .i64 0, .int .i64 0, .int .i64 0]) := R38.out.below hb5
      clear B38 M38 K38 T38 R38
      clear hb5 hx5
      refine wpAnyH_ready (rs := [12]) (by kernel_rfl) (by simp) ?_
      refine AllReadyH.cons rfl (fun K hK => ?_) AllReadyH.nil
      go_simp
      rw [store62_bk (R39.out) rfl _ rfl (by kernel_rfl)]
      refine hK.out _ _ (hHeld.put (by intro p hp; simp only [List.mem_cons, List.not_mem_nil, or_false] at hp; rcases hp with rfl | rfl | rfl | rfl | rfl | rfl <;> exact nB)) (fun hNew => ?_)
      clear hK K hHeld
      have hHeld := hNew
      clear hNew
      try simp only [Act.put]
      refine wpAnyH_take (i := 13) (v := .bool true) rfl (by kernel_rfl) (by kernel_rfl) (by kernel_rfl) (fun _ _ _ h => h) (Or.inl ⟨by rfl, ?_⟩) (by assumption) ?_
      · intro wx hSw; have s0 := hSw ((Bs i), 1, .int .i64 (Z i 1)) (by simp); have s1 := hSw ((Bs i), 3, .int .i64 (Z i 3)) (by simp); have s2 := hSw ((Bs i), 4, .int .i64 (Z i 4)) (by simp); have s3 := hSw ((Bs i), 5, .int .i64 (Z i 5)) (by simp); have s4 := hSw ((Bs i), 6, .int .i64 (Z i 6)) (by simp); have s5 := hSw ((Bs i), 7, .int .i64 (Z i 7)) (by simp); obtain ⟨s0, t0⟩ := s0; obtain ⟨s1, t1⟩ := s1; obtain ⟨s2, t2⟩ := s2; obtain ⟨s3, t3⟩ := s3; obtain ⟨s4, t4⟩ := s4; obtain ⟨s5, t5⟩ := s5; go_simp
      try simp only [Act.put, List.setIfInBounds_toArray, List.set_cons_zero, List.set_cons_succ, List.getElem_toArray, List.getElem_cons_zero, List.getElem_cons_succ]
      refine wpAnyH_done (by kernel_rfl) ?_ _
      clear hHeld
      obtain ⟨w9, e9⟩ : ∃ y, y = putL (w.heap.size + 1 + 1 + 1) ((#[.int .i64 2, .int .i64 (srvI TT (Z i 1)), .int .i64 (Z i 1), .int .i64 0, .int .i64 0, .int .i64 (Z i 3), .int .i64 (Z i 4), .int .i64 (Z i 5), .int .i64 (Z i 6), .int .i64 (Z i 7), .int .i64 0, .int .i64 0, .int .i64 0, .int .i64 0, .int .i64 0, .int .i64 0, .int .i64 0, .int .i64 0, .int .i64 0, .int .i64 0, .int .i64 0, .int .i64 0, .int .i64 0, .int .i64 0, .int .i64 0] : Array Value).toList) 0 x5 := ⟨_, rfl⟩
      have R9 : Hid (Bk w9 (w.heap.size + 1 + 1 + 1) [.int .i64 2, .int .i64 (srvI TT (Z i 1)), .int .i64 (Z i 1), .int .i64 0, .int .i64 0, .int .i64 (Z i 3), .int .i64 (Z i 4), .int .i64 (Z i 5), .int .i64 (Z i 6), .int .i64 (Z i 7), .int .i64 0, .int .i64 0, .int .i64 0, .int .i64 0, .int .i64 0, .int .i64 0, .int .i64 0, .int .i64 0, .int .i64 0, .int .i64 0, .int .i64 0, .int .i64 0, .int .i64 0, .int .i64 0, .int .i64 0]) := by unfold Hid; rw [e9]; exact bk_put (R39.out) rfl
      have B9 : Hid (Below w.heap.size w w9) := by unfold Hid; rw [e9]; exact below_put (by omega) _ _ (B39.out)
      rw [← e9]
      clear e9
      go_wp2
      have hr := fun tmps hp hq => results_mid2 (P := Try.prog) (fn := Try.f26) Try.results26 tmps w9 (w.heap.size + 1 + 1 + 1) [.int .i64 2, .int .i64 (srvI TT (Z i 1)), .int .i64 (Z i 1), .int .i64 0, .int .i64 0, .int .i64 (Z i 3), .int .i64 (Z i 4), .int .i64 (Z i 5), .int .i64 (Z i 6), .int .i64 (Z i 7), .int .i64 0, .int .i64 0, .int .i64 0, .int .i64 0, .int .i64 0, .int .i64 0, .int .i64 0, .int .i64 0, .int .i64 0, .int .i64 0, .int .i64 0, .int .i64 0, .int .i64 0, .int .i64 0, .int .i64 0] _ (.bool true) hp hq (Bk.range R9.out) Try.underlying62 rfl (by kernel_rfl)
      exact bodyPost_ret (v := .tuple #[.agg #[.int .i64 2, .int .i64 (srvI TT (Z i 1)), .int .i64 (Z i 1), .int .i64 0, .int .i64 0, .int .i64 (Z i 3), .int .i64 (Z i 4), .int .i64 (Z i 5), .int .i64 (Z i 6), .int .i64 (Z i 7), .int .i64 0, .int .i64 0, .int .i64 0, .int .i64 0, .int .i64 0, .int .i64 0, .int .i64 0, .int .i64 0, .int .i64 0, .int .i64 0, .int .i64 0, .int .i64 0, .int .i64 0, .int .i64 0, .int .i64 0], .bool true]) (hr _ rfl rfl) rfl ⟨rfl, B9.out⟩
    · have he : (srvI TT (Z i 1)) = -1 := by simpa using hq
      have hs : sayI c d n Z TT sv who = none := by simp [sayI, hs, he]
      rw [hs]
      clear hs
      clear he
      go_enter Try.func26, Try.ntmps26
      go_wp2_with fail
      obtain ⟨w0, e0⟩ : ∃ w0, w0 = ((((w.alloc (.cells #[.int .i64 c, .int .i64 d] 30)).alloc (.cells #[.slice a n cap] 28)).alloc (.cells #[.slice aS TT.nS kS, .slice aA TT.nA kA] 65)).alloc (.cells #[.int .i64 0, .int .i64 0, .int .i64 0, .int .i64 0, .int .i64 0, .int .i64 0, .int .i64 0, .int .i64 0, .int .i64 0, .int .i64 0, .int .i64 0, .int .i64 0, .int .i64 0, .int .i64 0, .int .i64 0, .int .i64 0, .int .i64 0, .int .i64 0, .int .i64 0, .int .i64 0, .int .i64 0, .int .i64 0, .int .i64 0, .int .i64 0, .int .i64 0] 62)) := ⟨_, rfl⟩
      have B40 : Hid (Below w.heap.size w w0) := by rw [e0]; exact ((((Below.refl _ _).alloc (by simp) _).alloc (by simp) _).alloc (by simp; omega) _).alloc (by simp; omega) _
      have M41 : Hid (Bk w0 w.heap.size [.int .i64 c, .int .i64 d]) := by rw [e0]; exact (((bk_new w 30 [.int .i64 c, .int .i64 d]).below ((Below.refl _ _).alloc (Nat.le_refl _) _)).below ((Below.refl _ _).alloc (Nat.le_refl _) _)).below ((Below.refl _ _).alloc (Nat.le_refl _) _)
      have K42 : Hid (Bk w0 (w.heap.size + 1) [.slice a n cap]) := by rw [e0]; have := ((bk_new (w.alloc (.cells #[.int .i64 c, .int .i64 d] 30)) 28 [.slice a n cap]).below ((Below.refl _ _).alloc (Nat.le_refl _) (.cells #[.slice aS TT.nS kS, .slice aA TT.nA kA] 65))).below ((Below.refl _ _).alloc (Nat.le_refl _) (.cells #[.int .i64 0, .int .i64 0, .int .i64 0, .int .i64 0, .int .i64 0, .int .i64 0, .int .i64 0, .int .i64 0, .int .i64 0, .int .i64 0, .int .i64 0, .int .i64 0, .int .i64 0, .int .i64 0, .int .i64 0, .int .i64 0, .int .i64 0, .int .i64 0, .int .i64 0, .int .i64 0, .int .i64 0, .int .i64 0, .int .i64 0, .int .i64 0, .int .i64 0] 62)); rwa [show (w.alloc (.cells #[.int .i64 c, .int .i64 d] 30)).heap.size = w.heap.size + 1 by simp] at this
      have T43 : Hid (Bk w0 (w.heap.size + 1 + 1) [.slice aS TT.nS kS, .slice aA TT.nA kA]) := by rw [e0]; have := (bk_new ((w.alloc (.cells #[.int .i64 c, .int .i64 d] 30)).alloc (.cells #[.slice a n cap] 28)) 65 [.slice aS TT.nS kS, .slice aA TT.nA kA]).below ((Below.refl _ _).alloc (Nat.le_refl _) (.cells #[.int .i64 0, .int .i64 0, .int .i64 0, .int .i64 0, .int .i64 0, .int .i64 0, .int .i64 0, .int .i64 0, .int .i64 0, .int .i64 0, .int .i64 0, .int .i64 0, .int .i64 0, .int .i64 0, .int .i64 0, .int .i64 0, .int .i64 0, .int .i64 0, .int .i64 0, .int .i64 0, .int .i64 0, .int .i64 0, .int .i64 0, .int .i64 0, .int .i64 0] 62)); rwa [show ((w.alloc (.cells #[.int .i64 c, .int .i64 d] 30)).alloc (.cells #[.slice a n cap] 28)).heap.size = w.heap.size + 1 + 1 by simp] at this
      have R44 : Hid (Bk w0 (w.heap.size + 1 + 1 + 1) [.int .i64 0, .int .i64 0, .int .i64 0, .int .i64 0, .int .i64 0, .int .i64 0, .int .i64 0, .int .i64 0, .int .i64 0, .int .i64 0, .int .i64 0, .int .i64 0, .int .i64 0, .int .i64 0, .int .i64 0, .int .i64 0, .int .i64 0, .int .i64 0, .int .i64 0, .int .i64 0, .int .i64 0, .int .i64 0, .int .i64 0, .int .i64 0, .int .i64 0]) := by rw [e0]; have := bk_new (((w.alloc (.cells #[.int .i64 c, .int .i64 d] 30)).alloc (.cells #[.slice a n cap] 28)).alloc (.cells #[.slice aS TT.nS kS, .slice aA TT.nA kA] 65)) 62 [.int .i64 0, .int .i64 0, .int .i64 0, .int .i64 0, .int .i64 0, .int .i64 0, .int .i64 0, .int .i64 0, .int .i64 0, .int .i64 0, .int .i64 0, .int .i64 0, .int .i64 0, .int .i64 0, .int .i64 0, .int .i64 0, .int .i64 0, .int .i64 0, .int .i64 0, .int .i64 0, .int .i64 0, .int .i64 0, .int .i64 0, .int .i64 0, .int .i64 0]; rwa [show (((w.alloc (.cells #[.int .i64 c, .int .i64 d] 30)).alloc (.cells #[.slice a n cap] 28)).alloc (.cells #[.slice aS TT.nS kS, .slice aA TT.nA kA] 65)).heap.size = w.heap.size + 1 + 1 + 1 by simp] at this
      rw [← e0]
      clear e0
      refine (book_impl c d a n cap Z hn _ (P10.row_below HR.out B40.out)).mono ?_
      rintro e w1 ⟨rfl, hb1⟩
      have B45 : Hid (Below w.heap.size w w1) := bthen B40.out hb1
      have M45 : Hid (Bk w1 w.heap.size [.int .i64 c, .int .i64 d]) := M41.out.below hb1
      have K45 : Hid (Bk w1 (w.heap.size + 1) [.slice a n cap]) := K42.out.below hb1
      have T45 : Hid (Bk w1 (w.heap.size + 1 + 1) [.slice aS TT.nS kS, .slice aA TT.nA kA]) := T43.out.below hb1
      have R45 : Hid (Bk w1 (w.heap.size + 1 + 1 + 1) [.int .i64 0, .int .i64 0, .int .i64 0, .int .i64 0, .int .i64 0, .int .i64 0, .int .i64 0, .int .i64 0, .int .i64 0, .int .i64 0, .int .i64 0, .int .i64 0, .int .i64 0, .int .i64 0, .int .i64 0, .int .i64 0, .int .i64 0, .int .i64 0, .int .i64 0, .int .i64 0, .int .i64 0, .int .i64 0, .int .i64 0, .int .i64 0, .int .i64 0]) := R44.out.below hb1
      clear B40 M41 K42 T43 R44
      clear hb1
      rw [hk]
      have yM0 : w1.cell? ⟨w.heap.size, 0, none⟩ = some (.int .i64 c) := (M45.out.2 0 (by simp)).1
      have yM1 : w1.cell? ⟨w.heap.size, 1, none⟩ = some (.int .i64 d) := (M45.out.2 1 (by simp)).1
      have hlM : w.heap.size < w1.heap.size := M45.out.1
      have yK0 : w1.cell? ⟨(w.heap.size + 1), 0, none⟩ = some (.slice a n cap) := (K45.out.2 0 (by simp)).1
      have hlK : (w.heap.size + 1) < w1.heap.size := K45.out.1
      have yT0 : w1.cell? ⟨(w.heap.size + 1 + 1), 0, none⟩ = some (.slice aS TT.nS kS) := (T45.out.2 0 (by simp)).1
      have yT1 : w1.cell? ⟨(w.heap.size + 1 + 1), 1, none⟩ = some (.slice aA TT.nA kA) := (T45.out.2 1 (by simp)).1
      have hlT : (w.heap.size + 1 + 1) < w1.heap.size := T45.out.1
      go_wp2_with fail
      refine (arbOk_impl c d _ TT sv hT _ (HT.out.below B45.out)).mono ?_
      rintro e w2 ⟨rfl, hb2⟩
      clear yM0 yM1 hlM yK0 hlK yT0 yT1 hlT
      have B46 : Hid (Below w.heap.size w w2) := bthen B45.out hb2
      have M46 : Hid (Bk w2 w.heap.size [.int .i64 c, .int .i64 d]) := M45.out.below hb2
      have K46 : Hid (Bk w2 (w.heap.size + 1) [.slice a n cap]) := K45.out.below hb2
      have T46 : Hid (Bk w2 (w.heap.size + 1 + 1) [.slice aS TT.nS kS, .slice aA TT.nA kA]) := T45.out.below hb2
      have R46 : Hid (Bk w2 (w.heap.size + 1 + 1 + 1) [.int .i64 0, .int .i64 0, .int .i64 0, .int .i64 0, .int .i64 0, .int .i64 0, .int .i64 0, .int .i64 0, .int .i64 0, .int .i64 0, .int .i64 0, .int .i64 0, .int .i64 0, .int .i64 0, .int .i64 0, .int .i64 0, .int .i64 0, .int .i64 0, .int .i64 0, .int .i64 0, .int .i64 0, .int .i64 0, .int .i64 0, .int .i64 0, .int .i64 0]) := R45.out.below hb2
      clear B45 M45 K45 T45 R45
      clear hb2
      rw [ht]
      have k3 : w.heap.size + 1 + 1 + 1 < w2.heap.size := R46.out.1
      have yM0 : w2.cell? ⟨w.heap.size, 0, none⟩ = some (.int .i64 c) := (M46.out.2 0 (by simp)).1
      have yM1 : w2.cell? ⟨w.heap.size, 1, none⟩ = some (.int .i64 d) := (M46.out.2 1 (by simp)).1
      have hlM : w.heap.size < w2.heap.size := M46.out.1
      have yK0 : w2.cell? ⟨(w.heap.size + 1), 0, none⟩ = some (.slice a n cap) := (K46.out.2 0 (by simp)).1
      have hlK : (w.heap.size + 1) < w2.heap.size := K46.out.1
      have yT0 : w2.cell? ⟨(w.heap.size + 1 + 1), 0, none⟩ = some (.slice aS TT.nS kS) := (T46.out.2 0 (by simp)).1
      have yT1 : w2.cell? ⟨(w.heap.size + 1 + 1), 1, none⟩ = some (.slice aA TT.nA kA) := (T46.out.2 1 (by simp)).1
      have hlT : (w.heap.size + 1 + 1) < w2.heap.size := T46.out.1
      go_wp2_with fail
      refine (opened a n cap Z hn (book_key hk) _ (P10.row_below HR.out B46.out)).mono ?_
      rintro e w3 ⟨⟨mb, Bs, rfl, hO3⟩, hb3⟩
      clear yM0 yM1 hlM yK0 hlK yT0 yT1 hlT
      have B47 : Hid (Below w.heap.size w w3) := bthen B46.out hb3
      have M47 : Hid (Bk w3 w.heap.size [.int .i64 c, .int .i64 d]) := M46.out.below hb3
      have K47 : Hid (Bk w3 (w.heap.size + 1) [.slice a n cap]) := K46.out.below hb3
      have T47 : Hid (Bk w3 (w.heap.size + 1 + 1) [.slice aS TT.nS kS, .slice aA TT.nA kA]) := T46.out.below hb3
      have R47 : Hid (Bk w3 (w.heap.size + 1 + 1 + 1) [.int .i64 0, .int .i64 0, .int .i64 0, .int .i64 0, .int .i64 0, .int .i64 0, .int .i64 0, .int .i64 0, .int .i64 0, .int .i64 0, .int .i64 0, .int .i64 0, .int .i64 0, .int .i64 0, .int .i64 0, .int .i64 0, .int .i64 0, .int .i64 0, .int .i64 0, .int .i64 0, .int .i64 0, .int .i64 0, .int .i64 0, .int .i64 0, .int .i64 0]) := R46.out.below hb3
      clear B46 M46 K46 T46 R46
      have z3 := hb3.size
      obtain ⟨lo, elo⟩ : ∃ g, g = w2.heap.size := ⟨_, rfl⟩
      rw [← elo] at hO3 z3 k3
      clear hb3 elo
      have lk := hO3.2.1.look (z := who) hwf
      have hmp : mapP (fun k => Z k 0) Bs n who = some (Bs i) := by rw [← hz]; exact mapP_some (Kf := fun k => Z k 0) n hi (book_rise hk)
      rw [hmp] at lk
      clear hmp
      simp only [pvo, pv, Option.isSome_some] at lk
      have P3 := (hO3.2.2.1 i hi).2
      have c0 : w3.cell? ⟨Bs i, 0, none⟩ = some (.int .i64 (Z i 0)) := (P3.2 0 (by simp [P10.rowK])).1
      have c1 : w3.cell? ⟨Bs i, 1, none⟩ = some (.int .i64 (Z i 1)) := (P3.2 1 (by simp [P10.rowK])).1
      have c2 : w3.cell? ⟨Bs i, 2, none⟩ = some (.bool true) := by rw [(P3.2 2 (by simp [P10.rowK])).1]; simp [P10.rowK, hb]
      have c3 : w3.cell? ⟨Bs i, 3, none⟩ = some (.int .i64 (Z i 3)) := (P3.2 3 (by simp [P10.rowK])).1
      have c4 : w3.cell? ⟨Bs i, 4, none⟩ = some (.int .i64 (Z i 4)) := (P3.2 4 (by simp [P10.rowK])).1
      have c5 : w3.cell? ⟨Bs i, 5, none⟩ = some (.int .i64 (Z i 5)) := (P3.2 5 (by simp [P10.rowK])).1
      have c6 : w3.cell? ⟨Bs i, 6, none⟩ = some (.int .i64 (Z i 6)) := (P3.2 6 (by simp [P10.rowK])).1
      have c7 : w3.cell? ⟨Bs i, 7, none⟩ = some (.int .i64 (Z i 7)) := (P3.2 7 (by simp [P10.rowK])).1
      have c8 : w3.cell? ⟨Bs i, 8, none⟩ = some (.int .i64 (Z i 8)) := (P3.2 8 (by simp [P10.rowK])).1
      have c9 : w3.cell? ⟨Bs i, 9, none⟩ = some (.int .i64 (Z i 9)) := (P3.2 9 (by simp [P10.rowK])).1
      have lB : Bs i < w3.heap.size := P3.1
      clear P3
      have yT0 : w3.cell? ⟨(w.heap.size + 1 + 1), 0, none⟩ = some (.slice aS TT.nS kS) := (T47.out.2 0 (by simp)).1
      have yT1 : w3.cell? ⟨(w.heap.size + 1 + 1), 1, none⟩ = some (.slice aA TT.nA kA) := (T47.out.2 1 (by simp)).1
      have hlT : (w.heap.size + 1 + 1) < w3.heap.size := T47.out.1
      go_wp2_with fail
      refine wp_region_held_drew (S := fun w' => (∀ b o, b < w3.heap.size → w'.cell? ⟨b, o, none⟩ = w3.cell? ⟨b, o, none⟩) ∧ w3.heap.size ≤ w'.heap.size) (by kernel_rfl) ⟨fun _ _ _ => rfl, Nat.le_refl _⟩ ?_
      intro hHeld
      refine wpAnyH_take (i := 0) (v := .agg #[.slice aS TT.nS kS, .slice aA TT.nA kA]) rfl (by kernel_rfl) (by kernel_rfl) (by kernel_rfl) (fun _ _ _ h => h) (Or.inl ⟨by rfl, ?_⟩) (by assumption) ?_
      · intro wx hSw; go_simp
      try simp only [Act.put, List.setIfInBounds_toArray, List.set_cons_zero, List.set_cons_succ, List.getElem_toArray, List.getElem_cons_zero]
      refine wpAnyH_take (i := 1) (v := .pointer (some ⟨(Bs i), 0, none⟩)) rfl (by kernel_rfl) (by kernel_rfl) (by kernel_rfl) (fun _ _ _ h => h) (Or.inl ⟨by rfl, ?_⟩) (by assumption) ?_
      · intro wx hSw; go_simp
      try simp only [Act.put, List.setIfInBounds_toArray, List.set_cons_zero, List.set_cons_succ, List.getElem_toArray, List.getElem_cons_zero, List.getElem_cons_succ]
      refine wpAnyH_take (i := 2) (v := .pointer (some ⟨(Bs i), 0, none⟩)) rfl (by kernel_rfl) (by kernel_rfl) (by kernel_rfl) (fun _ _ _ h => h) (Or.inl ⟨by rfl, ?_⟩) (by assumption) ?_
      · intro wx hSw; go_simp
      try simp only [Act.put, List.setIfInBounds_toArray, List.set_cons_zero, List.set_cons_succ, List.getElem_toArray, List.getElem_cons_zero, List.getElem_cons_succ]
      refine wpAnyH_take (i := 3) (v := .pointer (some ⟨(Bs i), 1, none⟩)) rfl (by kernel_rfl) (by kernel_rfl) (by kernel_rfl) (fun _ _ _ h => h) (Or.inl ⟨by rfl, ?_⟩) (by assumption) ?_
      · intro wx hSw; go_simp
      try simp only [Act.put, List.setIfInBounds_toArray, List.set_cons_zero, List.set_cons_succ, List.getElem_toArray, List.getElem_cons_zero, List.getElem_cons_succ]
      refine wpAnyH_take (i := 4) (v := .int .i64 (Z i 1)) rfl (by kernel_rfl) (by kernel_rfl) (by kernel_rfl) (fun _ _ _ h => h) (Or.inl ⟨by rfl, ?_⟩) (by assumption) ?_
      · intro wx hSw; go_simp
      try simp only [Act.put, List.setIfInBounds_toArray, List.set_cons_zero, List.set_cons_succ, List.getElem_toArray, List.getElem_cons_zero, List.getElem_cons_succ]
      refine wpAnyH_ready (rs := [5]) (by kernel_rfl) (by simp) ?_
      refine AllReadyH.cons rfl (fun K hK => ?_) AllReadyH.nil
      go_simp
      go_wp2_with fail
      refine (srv_impl _ TT (Z i 1) hT _ (HT.out.below (bthen B47.out (by repeat (first | exact Below.refl _ _ | refine bthen ?_ (by assumption) | apply Below.drew))))).mono ?_
      rintro e x4 ⟨rfl, hx4⟩
      refine hK.out _ _ (keepS (by assumption) hx4) (fun hNew => ?_)
      clear hK K hHeld
      have hHeld := hNew
      clear hNew
      try simp only [Act.put, List.setIfInBounds_toArray, List.set_cons_zero, List.set_cons_succ, List.getElem_toArray, List.getElem_cons_zero, List.getElem_cons_succ]
      refine wpAnyH_take (i := 6) (v := .int .i64 (srvI TT (Z i 1))) rfl (by kernel_rfl) (by kernel_rfl) (by kernel_rfl) (fun _ _ _ h => h) (Or.inl ⟨by rfl, ?_⟩) (by assumption) ?_
      · intro wx hSw; go_simp
      try simp only [Act.put, List.setIfInBounds_toArray, List.set_cons_zero, List.set_cons_succ, List.getElem_toArray, List.getElem_cons_zero, List.getElem_cons_succ]
      refine wpAnyH_done (by kernel_rfl) ?_ _
      clear hHeld
      have hb4 : Below w3.heap.size w3 x4 := by repeat (first | exact Below.refl _ _ | refine bthen ?_ (by assumption) | apply Below.drew)
      clear yT0 yT1 hlT
      have P4 := ((hO3.below hb4).2.2.1 i hi).2
      clear lk c0 c1 c2 c3 c4 c5 c6 c7 c8 c9 lB
      have B48 : Hid (Below w.heap.size w x4) := bthen B47.out hb4
      have M48 : Hid (Bk x4 w.heap.size [.int .i64 c, .int .i64 d]) := M47.out.below hb4
      have K48 : Hid (Bk x4 (w.heap.size + 1) [.slice a n cap]) := K47.out.below hb4
      have T48 : Hid (Bk x4 (w.heap.size + 1 + 1) [.slice aS TT.nS kS, .slice aA TT.nA kA]) := T47.out.below hb4
      have R48 : Hid (Bk x4 (w.heap.size + 1 + 1 + 1) [.int .i64 0, .int .i64 0, .int .i64 0, .int .i64 0, .int .i64 0, .int .i64 0, .int .i64 0, .int .i64 0, .int .i64 0, .int .i64 0, .int .i64 0, .int .i64 0, .int .i64 0, .int .i64 0, .int .i64 0, .int .i64 0, .int .i64 0, .int .i64 0, .int .i64 0, .int .i64 0, .int .i64 0, .int .i64 0, .int .i64 0, .int .i64 0, .int .i64 0]) := R47.out.below hb4
      clear B47 M47 K47 T47 R47
      have z4 := hb4.size
      clear hb4 hx4
      clear P4 hO3
      go_wp2
      rw [store62_bk (R48.out) rfl _ rfl (by kernel_rfl)]
      obtain ⟨w9, e9⟩ : ∃ y, y = putL (w.heap.size + 1 + 1 + 1) ((#[.int .i64 0, .int .i64 0, .int .i64 0, .int .i64 0, .int .i64 0, .int .i64 0, .int .i64 0, .int .i64 0, .int .i64 0, .int .i64 0, .int .i64 0, .int .i64 0, .int .i64 0, .int .i64 0, .int .i64 0, .int .i64 0, .int .i64 0, .int .i64 0, .int .i64 0, .int .i64 0, .int .i64 0, .int .i64 0, .int .i64 0, .int .i64 0, .int .i64 0] : Array Value).toList) 0 x4 := ⟨_, rfl⟩
      have R9 : Hid (Bk w9 (w.heap.size + 1 + 1 + 1) [.int .i64 0, .int .i64 0, .int .i64 0, .int .i64 0, .int .i64 0, .int .i64 0, .int .i64 0, .int .i64 0, .int .i64 0, .int .i64 0, .int .i64 0, .int .i64 0, .int .i64 0, .int .i64 0, .int .i64 0, .int .i64 0, .int .i64 0, .int .i64 0, .int .i64 0, .int .i64 0, .int .i64 0, .int .i64 0, .int .i64 0, .int .i64 0, .int .i64 0]) := by unfold Hid; rw [e9]; exact bk_put (R48.out) rfl
      have B9 : Hid (Below w.heap.size w w9) := by unfold Hid; rw [e9]; exact below_put (by omega) _ _ (B48.out)
      rw [← e9]
      clear e9
      go_wp2
      have hr := fun tmps hp hq => results_mid2 (P := Try.prog) (fn := Try.f26) Try.results26 tmps w9 (w.heap.size + 1 + 1 + 1) [.int .i64 0, .int .i64 0, .int .i64 0, .int .i64 0, .int .i64 0, .int .i64 0, .int .i64 0, .int .i64 0, .int .i64 0, .int .i64 0, .int .i64 0, .int .i64 0, .int .i64 0, .int .i64 0, .int .i64 0, .int .i64 0, .int .i64 0, .int .i64 0, .int .i64 0, .int .i64 0, .int .i64 0, .int .i64 0, .int .i64 0, .int .i64 0, .int .i64 0] _ (.bool false) hp hq (Bk.range R9.out) Try.underlying62 rfl (by kernel_rfl)
      exact bodyPost_ret (v := .tuple #[.agg #[.int .i64 0, .int .i64 0, .int .i64 0, .int .i64 0, .int .i64 0, .int .i64 0, .int .i64 0, .int .i64 0, .int .i64 0, .int .i64 0, .int .i64 0, .int .i64 0, .int .i64 0, .int .i64 0, .int .i64 0, .int .i64 0, .int .i64 0, .int .i64 0, .int .i64 0, .int .i64 0, .int .i64 0, .int .i64 0, .int .i64 0, .int .i64 0, .int .i64 0], .bool false]) (hr _ rfl rfl) rfl ⟨rfl, B9.out⟩
end Go.Proofs.Ytgjapdjidighlaa
