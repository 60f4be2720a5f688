/- DskEvent of the model: numbers and orders; conditions: those typed. -/
import Derived.Test.YtalmnogdplhflaaGreatDoorDA
import Derived.Test.YtalmnogdplhflaaGreatDoorBase
import Derived.Deep.DeepCutAuto
namespace Go.Proofs.YtalmnogdplhflaaGreatDoor
open Go.RowKit Go.Deep
set_option linter.unusedVariables false
set_option maxRecDepth 20000
theorem number_l (l : List UInt8) (h : l.length ≤ 1000) (w : World) : Calls Tryz.prog 30 #[.string ⟨l.toArray⟩] w fun e w' => e = .returned (.int .i64 (numF l)) ∧ w' = w :=
  number ⟨l.toArray⟩ w (by simpa [ByteArray.size] using h)
theorem row_cell {w : World} {base g n cap : Nat} {ws : List (List UInt8)} (ho : w.ownsRow base 9 1 (.slice (some ⟨g, 0, none⟩) n cap) ws.length (strs ws)) (k : Nat) (l : List UInt8) (h : ws[k]? = some l) : w.cell? ⟨g, k, none⟩ = some (.string ⟨l.toArray⟩) := by
  have hc := ho.cells (g := g) rfl k (.string ⟨l.toArray⟩) (by simp [strs, h])
  rwa [show (⟨g, 0, none⟩ : Addr).add k = ⟨g, k, none⟩ by unfold Addr.add; split <;> simp_all] at hc
/-- Words that lie in memory. -/
def Wd (w : World) (g : Nat) (ws : List (List UInt8)) : Prop := g < w.heap.size ∧ ∀ (k : Nat) (l : List UInt8), ws[k]? = some l → w.cell? ⟨g, k, none⟩ = some (.string ⟨l.toArray⟩)
theorem Wd.below {w w' : World} {g : Nat} {ws : List (List UInt8)} (h : Wd w g ws) (hb : Below w.heap.size w w') : Wd w' g ws := ⟨Nat.lt_of_lt_of_le h.1 hb.size, fun k l e => (hb.cell (p := ⟨g, k, none⟩) h.1).trans (h.2 k l e)⟩
theorem wd_of {w : World} {base g n cap : Nat} {ws : List (List UInt8)} (ho : w.ownsRow base 9 1 (.slice (some ⟨g, 0, none⟩) n cap) ws.length (strs ws)) (h0 : 0 < ws.length) : Wd w g ws :=
  ⟨World.block_lt_of_cell? w _ (row_cell ho 0 _ (List.getElem?_eq_getElem h0)), fun k l e => row_cell ho k l e⟩
set_option maxHeartbeats 2000000 in
theorem two_spec (ws : List (List UInt8)) (hws : ∀ l ∈ ws, l.length ≤ 1000) (g cap : Nat) (n : Nat) (hn : n ≤ 2) (hlen : ws.length ≤ 1000) (k a q b m : Int) (w : World) (ho : Wd w g ws) :
    Calls Tryz.prog 17 #[.slice (some ⟨g, 0, none⟩) ws.length cap, .agg #[.int .i64 (k), .int .i64 (a), .int .i64 (q), .int .i64 (b), .int .i64 (m)], .int .i64 n] w fun e w' => ((twoB ws n ∧ e = .returned (.tuple #[.agg #[.int .i64 (k), .int .i64 (a), .int .i64 (q), .int .i64 (b), .int .i64 (m)], .bool true])) ∨ (¬ twoB ws n ∧ e = .returned (.tuple #[.agg #[.int .i64 0, .int .i64 0, .int .i64 0, .int .i64 0, .int .i64 0], .bool false]))) ∧ Below w.heap.size w w' := by
  by_cases hl : ws.length = n + 1
  · have HL := hid hl
    have hl1 : (ws.length : Int) ≤ (n : Int) + 1 := by omega
    have hl2 : (n : Int) + 1 ≤ (ws.length : Int) := by omega
    have hbeq : ((ws.length : Int) == (n : Int) + 1) = true := by rw [hl]; simp
    clear hl
    have HO := hid ho
    clear ho
    go_enter Tryz.func17, Tryz.ntmps17
    go_wp2_with fail
    obtain ⟨w0, e0⟩ : ∃ w0, w0 = ((w.alloc (.cells #[.int .i64 (k), .int .i64 (a), .int .i64 (q), .int .i64 (b), .int .i64 (m)] 25)).alloc (.cells #[.int .i64 0, .int .i64 0, .int .i64 0, .int .i64 0, .int .i64 0] 25)) := ⟨_, rfl⟩
    have B1 : Hid (Below w.heap.size w w0) := by rw [e0]; exact ((Below.refl _ _).alloc (by simp) _).alloc (by simp) _
    have P2 : Hid (Bk w0 w.heap.size [.int .i64 (k), .int .i64 (a), .int .i64 (q), .int .i64 (b), .int .i64 (m)]) := by rw [e0]; exact (bk_new w 25 [.int .i64 (k), .int .i64 (a), .int .i64 (q), .int .i64 (b), .int .i64 (m)]).below ((Below.refl _ _).alloc (Nat.le_refl _) _)
    have R3 : Hid (Bk w0 (w.heap.size + 1) [.int .i64 0, .int .i64 0, .int .i64 0, .int .i64 0, .int .i64 0]) := by rw [e0]; have := bk_new (w.alloc (.cells #[.int .i64 (k), .int .i64 (a), .int .i64 (q), .int .i64 (b), .int .i64 (m)] 25)) 25 [.int .i64 0, .int .i64 0, .int .i64 0, .int .i64 0, .int .i64 0]; rwa [show (w.alloc (.cells #[.int .i64 (k), .int .i64 (a), .int .i64 (q), .int .i64 (b), .int .i64 (m)] 25)).heap.size = w.heap.size + 1 by simp] at this
    rw [← e0]
    clear e0
    have yP0 : w0.cell? ⟨w.heap.size, 0, none⟩ = some (.int .i64 (k)) := (P2.out.2 0 (by simp)).1
    have zP0 : w0.frozen? ⟨w.heap.size, 0, none⟩ = false := (P2.out.2 0 (by simp)).2
    have yP1 : w0.cell? ⟨w.heap.size, 1, none⟩ = some (.int .i64 (a)) := (P2.out.2 1 (by simp)).1
    have zP1 : w0.frozen? ⟨w.heap.size, 1, none⟩ = false := (P2.out.2 1 (by simp)).2
    have yP2 : w0.cell? ⟨w.heap.size, 2, none⟩ = some (.int .i64 (q)) := (P2.out.2 2 (by simp)).1
    have zP2 : w0.frozen? ⟨w.heap.size, 2, none⟩ = false := (P2.out.2 2 (by simp)).2
    have yP3 : w0.cell? ⟨w.heap.size, 3, none⟩ = some (.int .i64 (b)) := (P2.out.2 3 (by simp)).1
    have zP3 : w0.frozen? ⟨w.heap.size, 3, none⟩ = false := (P2.out.2 3 (by simp)).2
    have yP4 : w0.cell? ⟨w.heap.size, 4, none⟩ = some (.int .i64 (m)) := (P2.out.2 4 (by simp)).1
    have zP4 : w0.frozen? ⟨w.heap.size, 4, none⟩ = false := (P2.out.2 4 (by simp)).2
    have hlP : w.heap.size < w0.heap.size := P2.out.1
    have yR0 : w0.cell? ⟨(w.heap.size + 1), 0, none⟩ = some (.int .i64 0) := (R3.out.2 0 (by simp)).1
    have zR0 : w0.frozen? ⟨(w.heap.size + 1), 0, none⟩ = false := (R3.out.2 0 (by simp)).2
    have yR1 : w0.cell? ⟨(w.heap.size + 1), 1, none⟩ = some (.int .i64 0) := (R3.out.2 1 (by simp)).1
    have zR1 : w0.frozen? ⟨(w.heap.size + 1), 1, none⟩ = false := (R3.out.2 1 (by simp)).2
    have yR2 : w0.cell? ⟨(w.heap.size + 1), 2, none⟩ = some (.int .i64 0) := (R3.out.2 2 (by simp)).1
    have zR2 : w0.frozen? ⟨(w.heap.size + 1), 2, none⟩ = false := (R3.out.2 2 (by simp)).2
    have yR3 : w0.cell? ⟨(w.heap.size + 1), 3, none⟩ = some (.int .i64 0) := (R3.out.2 3 (by simp)).1
    have zR3 : w0.frozen? ⟨(w.heap.size + 1), 3, none⟩ = false := (R3.out.2 3 (by simp)).2
    have yR4 : w0.cell? ⟨(w.heap.size + 1), 4, none⟩ = some (.int .i64 0) := (R3.out.2 4 (by simp)).1
    have zR4 : w0.frozen? ⟨(w.heap.size + 1), 4, none⟩ = false := (R3.out.2 4 (by simp)).2
    have hlR : (w.heap.size + 1) < w0.heap.size := R3.out.1
    go_wp2
    clear hbeq
    generalize ((ws.length : Int) != (n : Int) + 1) = bb
    go_loopw [8] (fun i wr => ∃ j : Nat, 1 ≤ j ∧ j ≤ n + 1 ∧ .int .i64 j = i ∧ (∀ i : Nat, 1 ≤ i → i < j → 0 ≤ atF ws i) ∧ w0 = wr) (fun i _ => n + 1 - (intOf i).toNat)
    case atStart => exact ⟨1, by omega, by omega, rfl, fun i h1 h2 => by omega, rfl⟩
    case round =>
      obtain ⟨j, h1, h2, rfl, h3, rfl⟩ := hrel
      by_cases hj : j ≤ n
      · obtain ⟨l, e⟩ : ∃ l, ws[j]? = some l := ⟨_, List.getElem?_eq_getElem (by omega)⟩
        have hc := (HO.out.below B1.out).2 j l e
        have hll := hws l (List.mem_of_getElem? e)
        have ea : Hid (atF ws j = numF l) := by show atF ws j = numF l; unfold atF; rw [e]
        have H3 := hid h3
        clear h3 e
        by_cases hneg : numF l < 0
        · go_wp2_with fail
          refine (number_l l hll _).mono ?_
          rintro e w' ⟨rfl, rfl⟩
          go_wp2
          exact bodyPost_ret (v := .tuple #[.agg #[.int .i64 0, .int .i64 0, .int .i64 0, .int .i64 0, .int .i64 0], .bool false]) (by simp [results, Tryz.results17, go_sem, yR0, yR1, yR2, yR3, yR4]) rfl ⟨.inr ⟨fun t => by have := t.2 j h1 hj; rw [ea.out] at this; omega, rfl⟩, by repeat (first | exact B1.out | refine Below.setCell ?_ (by first | simp | omega) _)⟩
        · go_wp2_with fail
          refine (number_l l hll _).mono ?_
          rintro e w' ⟨rfl, rfl⟩
          go_wp2
          go_roundw
          case rel =>
            refine ⟨j + 1, by omega, by omega, by go_num, fun i i1 i2 => ?_, by trivial⟩
            by_cases hi : i = j
            · subst hi; rw [ea.out]; omega
            · exact H3.out i i1 (by omega)
          case measure => simp [intOf]; omega
      · obtain rfl : j = n + 1 := by omega
        have H3 := hid h3
        clear h3
        go_wp2
        exact bodyPost_ret (v := .tuple #[.agg #[.int .i64 (k), .int .i64 (a), .int .i64 (q), .int .i64 (b), .int .i64 (m)], .bool true]) (by simp [results, Tryz.results17, go_sem, yR0, yR1, yR2, yR3, yR4]) rfl ⟨.inl ⟨⟨HL.out, fun i i1 i2 => H3.out i i1 (by omega)⟩, rfl⟩, by repeat (first | exact B1.out | refine Below.setCell ?_ (by first | simp | omega) _)⟩
  · have HL := hid hl
    have hbeq : ((ws.length : Int) == (n : Int) + 1) = false := by rw [beq_eq_false_iff_ne]; omega
    clear hl
    have HO := hid ho
    clear ho
    go_enter Tryz.func17, Tryz.ntmps17
    go_wp2_with fail
    obtain ⟨w0, e0⟩ : ∃ w0, w0 = ((w.alloc (.cells #[.int .i64 (k), .int .i64 (a), .int .i64 (q), .int .i64 (b), .int .i64 (m)] 25)).alloc (.cells #[.int .i64 0, .int .i64 0, .int .i64 0, .int .i64 0, .int .i64 0] 25)) := ⟨_, rfl⟩
    have B1 : Hid (Below w.heap.size w w0) := by rw [e0]; exact ((Below.refl _ _).alloc (by simp) _).alloc (by simp) _
    have P2 : Hid (Bk w0 w.heap.size [.int .i64 (k), .int .i64 (a), .int .i64 (q), .int .i64 (b), .int .i64 (m)]) := by rw [e0]; exact (bk_new w 25 [.int .i64 (k), .int .i64 (a), .int .i64 (q), .int .i64 (b), .int .i64 (m)]).below ((Below.refl _ _).alloc (Nat.le_refl _) _)
    have R3 : Hid (Bk w0 (w.heap.size + 1) [.int .i64 0, .int .i64 0, .int .i64 0, .int .i64 0, .int .i64 0]) := by rw [e0]; have := bk_new (w.alloc (.cells #[.int .i64 (k), .int .i64 (a), .int .i64 (q), .int .i64 (b), .int .i64 (m)] 25)) 25 [.int .i64 0, .int .i64 0, .int .i64 0, .int .i64 0, .int .i64 0]; rwa [show (w.alloc (.cells #[.int .i64 (k), .int .i64 (a), .int .i64 (q), .int .i64 (b), .int .i64 (m)] 25)).heap.size = w.heap.size + 1 by simp] at this
    rw [← e0]
    clear e0
    have yR0 : w0.cell? ⟨(w.heap.size + 1), 0, none⟩ = some (.int .i64 0) := (R3.out.2 0 (by simp)).1
    have zR0 : w0.frozen? ⟨(w.heap.size + 1), 0, none⟩ = false := (R3.out.2 0 (by simp)).2
    have yR1 : w0.cell? ⟨(w.heap.size + 1), 1, none⟩ = some (.int .i64 0) := (R3.out.2 1 (by simp)).1
    have zR1 : w0.frozen? ⟨(w.heap.size + 1), 1, none⟩ = false := (R3.out.2 1 (by simp)).2
    have yR2 : w0.cell? ⟨(w.heap.size + 1), 2, none⟩ = some (.int .i64 0) := (R3.out.2 2 (by simp)).1
    have zR2 : w0.frozen? ⟨(w.heap.size + 1), 2, none⟩ = false := (R3.out.2 2 (by simp)).2
    have yR3 : w0.cell? ⟨(w.heap.size + 1), 3, none⟩ = some (.int .i64 0) := (R3.out.2 3 (by simp)).1
    have zR3 : w0.frozen? ⟨(w.heap.size + 1), 3, none⟩ = false := (R3.out.2 3 (by simp)).2
    have yR4 : w0.cell? ⟨(w.heap.size + 1), 4, none⟩ = some (.int .i64 0) := (R3.out.2 4 (by simp)).1
    have zR4 : w0.frozen? ⟨(w.heap.size + 1), 4, none⟩ = false := (R3.out.2 4 (by simp)).2
    have hlR : (w.heap.size + 1) < w0.heap.size := R3.out.1
    go_wp2
    exact bodyPost_ret (v := .tuple #[.agg #[.int .i64 0, .int .i64 0, .int .i64 0, .int .i64 0, .int .i64 0], .bool false]) (by simp [results, Tryz.results17, go_sem, yR0, yR1, yR2, yR3, yR4]) rfl ⟨.inr ⟨fun t => HL.out t.1, rfl⟩, by repeat (first | exact B1.out | refine Below.setCell ?_ (by first | simp | omega) _)⟩
/-- What stands in for Seq in the text of an order that is asked for. -/
def MID : ByteArray := ⟨#[32, 49, 32]⟩
theorem asks_few (s : ByteArray) (v : Option Addr) (n cap : Nat) (h : (n : Int) < 3) (w : World) :
    Calls Tryz.prog 16 #[.string s, .slice v n cap] w fun e w' => e = .returned (.tuple #[.agg #[.int .i64 0, .int .i64 0, .int .i64 0, .int .i64 0, .int .i64 0], .bool false]) ∧ Below w.heap.size w w' := by
  go_enter Tryz.func16, Tryz.ntmps16
  go_wp2_with fail
  obtain ⟨w0, e0⟩ : ∃ w0, w0 = (w.alloc (.cells #[.int .i64 0, .int .i64 0, .int .i64 0, .int .i64 0, .int .i64 0] 25)) := ⟨_, rfl⟩
  have B1 : Hid (Below w.heap.size w w0) := by rw [e0]; exact (Below.refl _ _).alloc (by simp) _
  have R2 : Hid (Bk w0 w.heap.size [.int .i64 0, .int .i64 0, .int .i64 0, .int .i64 0, .int .i64 0]) := by rw [e0]; exact bk_new w 25 [.int .i64 0, .int .i64 0, .int .i64 0, .int .i64 0, .int .i64 0]
  rw [← e0]
  clear e0
  have yR0 : w0.cell? ⟨w.heap.size, 0, none⟩ = some (.int .i64 0) := (R2.out.2 0 (by simp)).1
  have zR0 : w0.frozen? ⟨w.heap.size, 0, none⟩ = false := (R2.out.2 0 (by simp)).2
  have yR1 : w0.cell? ⟨w.heap.size, 1, none⟩ = some (.int .i64 0) := (R2.out.2 1 (by simp)).1
  have zR1 : w0.frozen? ⟨w.heap.size, 1, none⟩ = false := (R2.out.2 1 (by simp)).2
  have yR2 : w0.cell? ⟨w.heap.size, 2, none⟩ = some (.int .i64 0) := (R2.out.2 2 (by simp)).1
  have zR2 : w0.frozen? ⟨w.heap.size, 2, none⟩ = false := (R2.out.2 2 (by simp)).2
  have yR3 : w0.cell? ⟨w.heap.size, 3, none⟩ = some (.int .i64 0) := (R2.out.2 3 (by simp)).1
  have zR3 : w0.frozen? ⟨w.heap.size, 3, none⟩ = false := (R2.out.2 3 (by simp)).2
  have yR4 : w0.cell? ⟨w.heap.size, 4, none⟩ = some (.int .i64 0) := (R2.out.2 4 (by simp)).1
  have zR4 : w0.frozen? ⟨w.heap.size, 4, none⟩ = false := (R2.out.2 4 (by simp)).2
  have hlR : w.heap.size < w0.heap.size := R2.out.1
  go_wp2
  exact bodyPost_ret (v := .tuple #[.agg #[.int .i64 0, .int .i64 0, .int .i64 0, .int .i64 0, .int .i64 0], .bool false]) (by simp [results, Tryz.results16, go_sem, yR0, yR1, yR2, yR3, yR4]) rfl ⟨rfl, by repeat (first | exact B1.out | refine Below.setCell ?_ (by first | simp | omega) _)⟩
theorem rest_two (s : ByteArray) (q : List UInt8) (hs : (s.size : Int) ≤ 100) (hq : restF (restF s.data.toList) = q) (w : World) : Calls Tryz.prog 21 #[.string ⟨(restF s.data.toList).toArray⟩] w fun e w' => e = .returned (.string ⟨q.toArray⟩) ∧ w' = w := by
  subst hq
  have hr : (restF s.data.toList).length ≤ s.data.toList.length := rest_len _
  rw [size_len] at hr
  exact rest_spec ⟨(restF s.data.toList).toArray⟩ (by simp [ByteArray.size]; omega) w
set_option maxHeartbeats 4000000 in
theorem asks_spec (s : ByteArray) (hs : (s.size : Int) ≤ 100) (y q : List UInt8) (hy : y.length ≤ 100) (hql : q.length ≤ 100) (g n cap : Nat) (h3 : (3 : Int) ≤ (n : Int)) (hn : n ≤ 1000) (p0 p1 p2 p3 p4 : Int) (b : Bool) (X : ByteArray) (hX : (⟨y.toArray⟩ ++ MID) ++ ⟨q.toArray⟩ = X) (hq : restF (restF s.data.toList) = q)
    (hsp : ∀ w, Calls Tryz.prog 31 #[.string X] w fun e w' => e = .returned (.tuple #[.agg #[.int .i64 p0, .int .i64 p1, .int .i64 p2, .int .i64 p3, .int .i64 p4], .bool b]) ∧ Below w.heap.size w w') (w : World) (hc : w.cell? ⟨g, 1, none⟩ = some (.string ⟨y.toArray⟩)) :
    Calls Tryz.prog 16 #[.string s, .slice (some ⟨g, 0, none⟩) n cap] w fun e w' => e = .returned (if b then .tuple #[.agg #[.int .i64 (2), .int .i64 (p0), .int .i64 (p2), .int .i64 (p3), .int .i64 (p4)], .bool true] else .tuple #[.agg #[.int .i64 0, .int .i64 0, .int .i64 0, .int .i64 0, .int .i64 0], .bool false]) ∧ Below w.heap.size w w' := by
  have HS := hid hsp
  have HX := hid hX
  have HC := hid hc
  have hr : (restF s.data.toList).length ≤ s.data.toList.length := rest_len _
  rw [size_len] at hr
  have c1 : ∀ w : World, (Op.stringOp .add (⟨y.toArray⟩ : ByteArray) ⟨#[32, 49, 32]⟩).run Tryz.prog w = .ok (.string (⟨y.toArray⟩ ++ ⟨#[32, 49, 32]⟩)) w := cat ⟨y.toArray⟩ ⟨#[32, 49, 32]⟩ (by simp [ByteArray.size]; omega) (by decide +kernel)
  have c2 : ∀ w : World, (Op.stringOp .add (⟨y.toArray⟩ ++ ⟨#[32, 49, 32]⟩ : ByteArray) ⟨q.toArray⟩).run Tryz.prog w = .ok (.string ((⟨y.toArray⟩ ++ ⟨#[32, 49, 32]⟩) ++ ⟨q.toArray⟩)) w := cat (⟨y.toArray⟩ ++ ⟨#[32, 49, 32]⟩) ⟨q.toArray⟩ (by rw [ByteArray.size_append]; simp [ByteArray.size]; omega) (by simp [ByteArray.size]; omega)
  have hgl : g < w.heap.size := World.block_lt_of_cell? w _ hc
  clear hsp hX hc
  go_enter Tryz.func16, Tryz.ntmps16
  go_wp2_with fail
  obtain ⟨w0, e0⟩ : ∃ w0, w0 = (w.alloc (.cells #[.int .i64 0, .int .i64 0, .int .i64 0, .int .i64 0, .int .i64 0] 25)) := ⟨_, rfl⟩
  have B1 : Hid (Below w.heap.size w w0) := by rw [e0]; exact (Below.refl _ _).alloc (by simp) _
  have R2 : Hid (Bk w0 w.heap.size [.int .i64 0, .int .i64 0, .int .i64 0, .int .i64 0, .int .i64 0]) := by rw [e0]; exact bk_new w 25 [.int .i64 0, .int .i64 0, .int .i64 0, .int .i64 0, .int .i64 0]
  rw [← e0]
  clear e0
  have hcy : w0.cell? ⟨g, 1, none⟩ = some (.string ⟨y.toArray⟩) := (B1.out.cell (p := ⟨g, 1, none⟩) hgl).trans HC.out
  have hgl0 : g < w0.heap.size := Nat.lt_of_lt_of_le hgl B1.out.size
  go_upto_region 3 with fail
  go_cut [6, 7] (fun s t wx => ∃ o, .pointer (some ⟨o, 0, none⟩) = s ∧ .bool b = t ∧ Bk wx o [.int .i64 (p0), .int .i64 (p1), .int .i64 (p2), .int .i64 (p3), .int .i64 (p4)] ∧ w0.heap.size ≤ o ∧ Below w0.heap.size w0 wx)
  case first =>
    have n31 : ¬ (n : Int) ≤ 1 := by omega
    have HX2 : Hid (((⟨y.toArray⟩ : ByteArray) ++ ⟨#[32, 49, 32]⟩) ++ ⟨q.toArray⟩ = X) := HX.out
    refine wp_region_held_drew (S := fun w' => Below (w0.heap.size) w0 w') (by kernel_rfl) ((Below.refl _ _).drew) ?_
    intro hHeld
    obtain ⟨X0, hX0⟩ : ∃ X, X = w0.drew := ⟨_, rfl⟩
    have hz0 : w0.heap.size ≤ X0.heap.size := by rw [hX0]; exact Nat.le_refl _
    rw [← hX0] at hHeld ⊢
    clear hX0
    refine wpAnyH_take (i := 0) (v := .slice (some ⟨g, 0, none⟩) n cap) rfl (by kernel_rfl) (by kernel_rfl) (by kernel_rfl) (fun _ _ _ h => h) (Or.inl ⟨by rfl, ?_⟩) (by assumption) ?_
    · intro wx hSw; obtain ⟨hcS, hfS⟩ := bcellN hSw; go_simp
    try simp only [Act.put, List.setIfInBounds_toArray, List.set_cons_zero, List.set_cons_succ, List.getElem_toArray, List.getElem_cons_zero]
    refine wpAnyH_take (i := 4) (v := .string s) rfl (by kernel_rfl) (by kernel_rfl) (by kernel_rfl) (fun _ _ _ h => h) (Or.inl ⟨by rfl, ?_⟩) (by assumption) ?_
    · intro wx hSw; obtain ⟨hcS, hfS⟩ := bcellN hSw; go_simp
    try simp only [Act.put, List.setIfInBounds_toArray, List.set_cons_zero, List.set_cons_succ, List.getElem_toArray, List.getElem_cons_zero, List.getElem_cons_succ]
    refine wpAnyH_take (i := 1) (v := .pointer (some ⟨g, 1, none⟩)) rfl (by kernel_rfl) (by kernel_rfl) (by kernel_rfl) (fun _ _ _ h => h) (Or.inl ⟨by rfl, ?_⟩) (by assumption) ?_
    · intro wx hSw; obtain ⟨hcS, hfS⟩ := bcellN hSw; go_simp
    try simp only [Act.put, List.setIfInBounds_toArray, List.set_cons_zero, List.set_cons_succ, List.getElem_toArray, List.getElem_cons_zero, List.getElem_cons_succ]
    refine wpAnyH_take (i := 2) (v := .string ⟨y.toArray⟩) rfl (by kernel_rfl) (by kernel_rfl) (by kernel_rfl) (fun _ _ _ h => h) (Or.inl ⟨by rfl, ?_⟩) (by assumption) ?_
    · intro wx hSw; obtain ⟨hcS, hfS⟩ := bcellN hSw; rw [← hcS g 1 hgl0] at hcy; go_simp
    try simp only [Act.put, List.setIfInBounds_toArray, List.set_cons_zero, List.set_cons_succ, List.getElem_toArray, List.getElem_cons_zero, List.getElem_cons_succ]
    refine wpAnyH_take (i := 3) (v := .string (⟨y.toArray⟩ ++ ⟨#[32, 49, 32]⟩)) rfl (by kernel_rfl) (by kernel_rfl) (by kernel_rfl) (fun _ _ _ h => h) (Or.inl ⟨by rfl, ?_⟩) (by assumption) ?_
    · intro wx hSw; obtain ⟨hcS, hfS⟩ := bcellN hSw; go_simp
    try simp only [Act.put, List.setIfInBounds_toArray, List.set_cons_zero, List.set_cons_succ, List.getElem_toArray, List.getElem_cons_zero, List.getElem_cons_succ]
    refine wpAnyH_ready (rs := [5, 12]) (by kernel_rfl) (by simp) ?_
    refine (AllReadyH.cons rfl (fun K hK => ?_) (AllReadyH.cons rfl (fun K hK => ?_) AllReadyH.nil))
    · go_simp
      go_wp2_with fail
      refine (rest_spec s (by omega) _).mono ?_
      rintro e x5 ⟨rfl, ex5⟩
      have hbx5 : Below X0.heap.size X0 x5 := by rw [ex5]; exact Below.refl _ _
      clear ex5
      have hsz_x5 := hbx5.size
      refine hK.out _ _ (bthenN hHeld (by omega) hbx5) (fun hNew => ?_)
      clear hK K hHeld
      have hHeld := hNew
      clear hNew
      try simp only [Act.put, List.setIfInBounds_toArray, List.set_cons_zero, List.set_cons_succ, List.getElem_toArray, List.getElem_cons_zero, List.getElem_cons_succ]
      refine wpAnyH_ready (rs := [6, 12]) (by kernel_rfl) (by simp) ?_
      refine (AllReadyH.cons rfl (fun K hK => ?_) (AllReadyH.cons rfl (fun K hK => ?_) AllReadyH.nil))
      · go_simp
        go_wp2_with fail
        refine (rest_two s q (by omega) hq _).mono ?_
        rintro e x6 ⟨rfl, ex6⟩
        have hbx6 : Below x5.heap.size x5 x6 := by rw [ex6]; exact Below.refl _ _
        clear ex6
        have hsz_x6 := hbx6.size
        refine hK.out _ _ (bthenN hHeld (by omega) hbx6) (fun hNew => ?_)
        clear hK K hHeld
        have hHeld := hNew
        clear hNew
        try simp only [Act.put, List.setIfInBounds_toArray, List.set_cons_zero, List.set_cons_succ, List.getElem_toArray, List.getElem_cons_zero, List.getElem_cons_succ]
        refine wpAnyH_take (i := 7) (v := .string X) rfl (by kernel_rfl) (by kernel_rfl) (by kernel_rfl) (fun _ _ _ h => h) (Or.inl ⟨by rfl, ?_⟩) (by assumption) ?_
        · intro wx hSw; obtain ⟨hcS, hfS⟩ := bcellN hSw; rw [HX2.out] at c2; go_simp
        try simp only [Act.put, List.setIfInBounds_toArray, List.set_cons_zero, List.set_cons_succ, List.getElem_toArray, List.getElem_cons_zero, List.getElem_cons_succ]
        refine wpAnyH_ready (rs := [8, 12]) (by kernel_rfl) (by simp) ?_
        refine (AllReadyH.cons rfl (fun K hK => ?_) (AllReadyH.cons rfl (fun K hK => ?_) AllReadyH.nil))
        · go_simp
          go_wp2_with fail
          refine (HS.out _).mono ?_
          rintro e xo ⟨rfl, hbxo⟩
          have hsz_xo := hbxo.size
          refine hK.out _ _ (bthenN hHeld (by omega) hbxo) (fun hNew => ?_)
          clear hK K hHeld
          have hHeld := hNew
          clear hNew
          try simp only [Act.put, List.setIfInBounds_toArray, List.set_cons_zero, List.set_cons_succ, List.getElem_toArray, List.getElem_cons_zero, List.getElem_cons_succ]
          refine wpAnyH_take (i := 9) (v := .tuple #[.agg #[.int .i64 (p0), .int .i64 (p1), .int .i64 (p2), .int .i64 (p3), .int .i64 (p4)], .bool b]) rfl (by kernel_rfl) (by kernel_rfl) (by kernel_rfl) (fun _ _ _ h => h) (Or.inl ⟨by rfl, ?_⟩) (by assumption) ?_
          · intro wx hSw; obtain ⟨hcS, hfS⟩ := bcellN hSw; go_simp
          try simp only [Act.put, List.setIfInBounds_toArray, List.set_cons_zero, List.set_cons_succ, List.getElem_toArray, List.getElem_cons_zero, List.getElem_cons_succ]
          refine wpAnyH_take (i := 10) (v := .agg #[.int .i64 (p0), .int .i64 (p1), .int .i64 (p2), .int .i64 (p3), .int .i64 (p4)]) rfl (by kernel_rfl) (by kernel_rfl) (by kernel_rfl) (fun _ _ _ h => h) (Or.inl ⟨by rfl, ?_⟩) (by assumption) ?_
          · intro wx hSw; obtain ⟨hcS, hfS⟩ := bcellN hSw; go_simp
          try simp only [Act.put, List.setIfInBounds_toArray, List.set_cons_zero, List.set_cons_succ, List.getElem_toArray, List.getElem_cons_zero, List.getElem_cons_succ]
          refine wpAnyH_take (i := 11) (v := .bool b) rfl (by kernel_rfl) (by kernel_rfl) (by kernel_rfl) (fun _ _ _ h => h) (Or.inl ⟨by rfl, ?_⟩) (by assumption) ?_
          · intro wx hSw; obtain ⟨hcS, hfS⟩ := bcellN hSw; go_simp
          try simp only [Act.put, List.setIfInBounds_toArray, List.set_cons_zero, List.set_cons_succ, List.getElem_toArray, List.getElem_cons_zero, List.getElem_cons_succ]
          refine wpAnyH_ready (rs := [12]) (by kernel_rfl) (by simp) ?_
          refine (AllReadyH.cons rfl (fun K hK => ?_) AllReadyH.nil)
          go_simp
          obtain ⟨XC, eA⟩ : ∃ X, X = xo.alloc (.cells #[.int .i64 0, .int .i64 0, .int .i64 0, .int .i64 0, .int .i64 0] 46) := ⟨_, rfl⟩
          rw [← eA]
          have hbA : Below xo.heap.size xo XC := by rw [eA]; exact (Below.refl _ _).alloc (Nat.le_refl _) _
          have hZC : Bk XC xo.heap.size [.int .i64 0, .int .i64 0, .int .i64 0, .int .i64 0, .int .i64 0] := by rw [eA]; exact bk_new xo 46 [.int .i64 0, .int .i64 0, .int .i64 0, .int .i64 0, .int .i64 0]
          have hzAC1 : XC.heap.size ≤ xo.heap.size + 1 := by rw [eA]; simp
          have hzAC2 : xo.heap.size + 1 ≤ XC.heap.size := by rw [eA]; simp
          clear eA
          have hsz_XC := hbA.size
          refine hK.out _ _ (bthenN hHeld (by omega) hbA) (fun hNew => ?_)
          clear hK K hHeld
          have hHeld := hNew
          clear hNew
          try simp only [Act.put, List.setIfInBounds_toArray, List.set_cons_zero, List.set_cons_succ, List.getElem_toArray, List.getElem_cons_zero, List.getElem_cons_succ]
          clear hbA
          obtain ⟨C, eC⟩ : ∃ g, g = xo.heap.size := ⟨_, rfl⟩
          rw [← eC] at hZC ⊢
          have eC1 : C ≤ xo.heap.size := by omega
          have eC2 : xo.heap.size ≤ C := by omega
          clear eC
          refine wpAnyH_ready (rs := [13]) (by kernel_rfl) (by simp) ?_
          refine (AllReadyH.cons rfl (fun K hK => ?_) AllReadyH.nil)
          have r0 := (hZC.2 0 (by simp)).1
          have r1 := (hZC.2 1 (by simp)).1
          have r2 := (hZC.2 2 (by simp)).1
          have r3 := (hZC.2 3 (by simp)).1
          have r4 := (hZC.2 4 (by simp)).1
          have f0 := (hZC.2 0 (by simp)).2
          have f1 := (hZC.2 1 (by simp)).2
          have f2 := (hZC.2 2 (by simp)).2
          have f3 := (hZC.2 3 (by simp)).2
          have f4 := (hZC.2 4 (by simp)).2
          simp only [List.getD, List.getElem?_cons_zero, List.getElem?_cons_succ, Option.getD_some] at r0 r1 r2 r3 r4
          have lZC := hZC.1
          have hkC : w0.heap.size ≤ C := by omega
          go_simp
          obtain ⟨XSC, eS⟩ : ∃ X, X = (((((XC.setCell ⟨C, 0, none⟩ (.int .i64 (p0))).setCell ⟨C, 1, none⟩ (.int .i64 (p1))).setCell ⟨C, 2, none⟩ (.int .i64 (p2))).setCell ⟨C, 3, none⟩ (.int .i64 (p3))).setCell ⟨C, 4, none⟩ (.int .i64 (p4))) := ⟨_, rfl⟩
          rw [← eS]
          have hPC : Bk XSC C [.int .i64 (p0), .int .i64 (p1), .int .i64 (p2), .int .i64 (p3), .int .i64 (p4)] := by rw [eS]; exact bk_put (l := [.int .i64 (p0), .int .i64 (p1), .int .i64 (p2), .int .i64 (p3), .int .i64 (p4)]) hZC rfl
          have hzC1 : XSC.heap.size ≤ XC.heap.size := by rw [eS]; exact Nat.le_of_eq (size_put C [.int .i64 (p0), .int .i64 (p1), .int .i64 (p2), .int .i64 (p3), .int .i64 (p4)] 0 XC)
          have hzC2 : XC.heap.size ≤ XSC.heap.size := by rw [eS]; exact Nat.le_of_eq (size_put C [.int .i64 (p0), .int .i64 (p1), .int .i64 (p2), .int .i64 (p3), .int .i64 (p4)] 0 XC).symm
          have hmC : ∀ b, ¬ b = C → Sm XC XSC b := by rw [eS]; exact fun b hb => sm_put hb [.int .i64 (p0), .int .i64 (p1), .int .i64 (p2), .int .i64 (p3), .int .i64 (p4)] 0 XC
          have hBC : Below (w0.heap.size) w0 XSC := by rw [eS]; exact below_put hkC [.int .i64 (p0), .int .i64 (p1), .int .i64 (p2), .int .i64 (p3), .int .i64 (p4)] 0 hHeld
          clear eS r0 f0 r1 f1 r2 f2 r3 f3 r4 f4
          refine hK.out _ _ hBC (fun hNew => ?_)
          clear hK K hHeld
          have hHeld := hNew
          clear hNew
          try simp only [Act.put, List.setIfInBounds_toArray, List.set_cons_zero, List.set_cons_succ, List.getElem_toArray, List.getElem_cons_zero, List.getElem_cons_succ]
          refine wpAnyH_take (i := 14) (v := .bool b) rfl (by kernel_rfl) (by kernel_rfl) (by kernel_rfl) (fun _ _ _ h => h) (Or.inl ⟨by rfl, ?_⟩) (by assumption) ?_
          · intro wx hSw; obtain ⟨hcS, hfS⟩ := bcellN hSw; go_simp
          try simp only [Act.put, List.setIfInBounds_toArray, List.set_cons_zero, List.set_cons_succ, List.getElem_toArray, List.getElem_cons_zero, List.getElem_cons_succ]
          refine wpAnyH_done (by kernel_rfl) ?_ _
          go_wp2
          go_meet
          case rel => exact ⟨C, rfl, rfl, hPC, by omega, hHeld⟩
        · go_simp
          obtain ⟨XC, eA⟩ : ∃ X, X = x6.alloc (.cells #[.int .i64 0, .int .i64 0, .int .i64 0, .int .i64 0, .int .i64 0] 46) := ⟨_, rfl⟩
          rw [← eA]
          have hbA : Below x6.heap.size x6 XC := by rw [eA]; exact (Below.refl _ _).alloc (Nat.le_refl _) _
          have hZC : Bk XC x6.heap.size [.int .i64 0, .int .i64 0, .int .i64 0, .int .i64 0, .int .i64 0] := by rw [eA]; exact bk_new x6 46 [.int .i64 0, .int .i64 0, .int .i64 0, .int .i64 0, .int .i64 0]
          have hzAC1 : XC.heap.size ≤ x6.heap.size + 1 := by rw [eA]; simp
          have hzAC2 : x6.heap.size + 1 ≤ XC.heap.size := by rw [eA]; simp
          clear eA
          have hsz_XC := hbA.size
          refine hK.out _ _ (bthenN hHeld (by omega) hbA) (fun hNew => ?_)
          clear hK K hHeld
          have hHeld := hNew
          clear hNew
          try simp only [Act.put, List.setIfInBounds_toArray, List.set_cons_zero, List.set_cons_succ, List.getElem_toArray, List.getElem_cons_zero, List.getElem_cons_succ]
          clear hbA
          obtain ⟨C, eC⟩ : ∃ g, g = x6.heap.size := ⟨_, rfl⟩
          rw [← eC] at hZC ⊢
          have eC1 : C ≤ x6.heap.size := by omega
          have eC2 : x6.heap.size ≤ C := by omega
          clear eC
          refine wpAnyH_ready (rs := [8]) (by kernel_rfl) (by simp) ?_
          refine (AllReadyH.cons rfl (fun K hK => ?_) AllReadyH.nil)
          go_simp
          go_wp2_with fail
          refine (HS.out _).mono ?_
          rintro e xo ⟨rfl, hbxo⟩
          replace hZC := hZC.below hbxo
          have hsz_xo := hbxo.size
          refine hK.out _ _ (bthenN hHeld (by omega) hbxo) (fun hNew => ?_)
          clear hK K hHeld
          have hHeld := hNew
          clear hNew
          try simp only [Act.put, List.setIfInBounds_toArray, List.set_cons_zero, List.set_cons_succ, List.getElem_toArray, List.getElem_cons_zero, List.getElem_cons_succ]
          refine wpAnyH_take (i := 9) (v := .tuple #[.agg #[.int .i64 (p0), .int .i64 (p1), .int .i64 (p2), .int .i64 (p3), .int .i64 (p4)], .bool b]) rfl (by kernel_rfl) (by kernel_rfl) (by kernel_rfl) (fun _ _ _ h => h) (Or.inl ⟨by rfl, ?_⟩) (by assumption) ?_
          · intro wx hSw; obtain ⟨hcS, hfS⟩ := bcellN hSw; go_simp
          try simp only [Act.put, List.setIfInBounds_toArray, List.set_cons_zero, List.set_cons_succ, List.getElem_toArray, List.getElem_cons_zero, List.getElem_cons_succ]
          refine wpAnyH_take (i := 10) (v := .agg #[.int .i64 (p0), .int .i64 (p1), .int .i64 (p2), .int .i64 (p3), .int .i64 (p4)]) rfl (by kernel_rfl) (by kernel_rfl) (by kernel_rfl) (fun _ _ _ h => h) (Or.inl ⟨by rfl, ?_⟩) (by assumption) ?_
          · intro wx hSw; obtain ⟨hcS, hfS⟩ := bcellN hSw; go_simp
          try simp only [Act.put, List.setIfInBounds_toArray, List.set_cons_zero, List.set_cons_succ, List.getElem_toArray, List.getElem_cons_zero, List.getElem_cons_succ]
          refine wpAnyH_take (i := 11) (v := .bool b) rfl (by kernel_rfl) (by kernel_rfl) (by kernel_rfl) (fun _ _ _ h => h) (Or.inl ⟨by rfl, ?_⟩) (by assumption) ?_
          · intro wx hSw; obtain ⟨hcS, hfS⟩ := bcellN hSw; go_simp
          try simp only [Act.put, List.setIfInBounds_toArray, List.set_cons_zero, List.set_cons_succ, List.getElem_toArray, List.getElem_cons_zero, List.getElem_cons_succ]
          refine wpAnyH_ready (rs := [13]) (by kernel_rfl) (by simp) ?_
          refine (AllReadyH.cons rfl (fun K hK => ?_) AllReadyH.nil)
          have r0 := (hZC.2 0 (by simp)).1
          have r1 := (hZC.2 1 (by simp)).1
          have r2 := (hZC.2 2 (by simp)).1
          have r3 := (hZC.2 3 (by simp)).1
          have r4 := (hZC.2 4 (by simp)).1
          have f0 := (hZC.2 0 (by simp)).2
          have f1 := (hZC.2 1 (by simp)).2
          have f2 := (hZC.2 2 (by simp)).2
          have f3 := (hZC.2 3 (by simp)).2
          have f4 := (hZC.2 4 (by simp)).2
          simp only [List.getD, List.getElem?_cons_zero, List.getElem?_cons_succ, Option.getD_some] at r0 r1 r2 r3 r4
          have lZC := hZC.1
          have hkC : w0.heap.size ≤ C := by omega
          go_simp
          obtain ⟨XSC, eS⟩ : ∃ X, X = (((((xo.setCell ⟨C, 0, none⟩ (.int .i64 (p0))).setCell ⟨C, 1, none⟩ (.int .i64 (p1))).setCell ⟨C, 2, none⟩ (.int .i64 (p2))).setCell ⟨C, 3, none⟩ (.int .i64 (p3))).setCell ⟨C, 4, none⟩ (.int .i64 (p4))) := ⟨_, rfl⟩
          rw [← eS]
          have hPC : Bk XSC C [.int .i64 (p0), .int .i64 (p1), .int .i64 (p2), .int .i64 (p3), .int .i64 (p4)] := by rw [eS]; exact bk_put (l := [.int .i64 (p0), .int .i64 (p1), .int .i64 (p2), .int .i64 (p3), .int .i64 (p4)]) hZC rfl
          have hzC1 : XSC.heap.size ≤ xo.heap.size := by rw [eS]; exact Nat.le_of_eq (size_put C [.int .i64 (p0), .int .i64 (p1), .int .i64 (p2), .int .i64 (p3), .int .i64 (p4)] 0 xo)
          have hzC2 : xo.heap.size ≤ XSC.heap.size := by rw [eS]; exact Nat.le_of_eq (size_put C [.int .i64 (p0), .int .i64 (p1), .int .i64 (p2), .int .i64 (p3), .int .i64 (p4)] 0 xo).symm
          have hmC : ∀ b, ¬ b = C → Sm xo XSC b := by rw [eS]; exact fun b hb => sm_put hb [.int .i64 (p0), .int .i64 (p1), .int .i64 (p2), .int .i64 (p3), .int .i64 (p4)] 0 xo
          have hBC : Below (w0.heap.size) w0 XSC := by rw [eS]; exact below_put hkC [.int .i64 (p0), .int .i64 (p1), .int .i64 (p2), .int .i64 (p3), .int .i64 (p4)] 0 hHeld
          clear eS r0 f0 r1 f1 r2 f2 r3 f3 r4 f4
          refine hK.out _ _ hBC (fun hNew => ?_)
          clear hK K hHeld
          have hHeld := hNew
          clear hNew
          try simp only [Act.put, List.setIfInBounds_toArray, List.set_cons_zero, List.set_cons_succ, List.getElem_toArray, List.getElem_cons_zero, List.getElem_cons_succ]
          refine wpAnyH_take (i := 14) (v := .bool b) rfl (by kernel_rfl) (by kernel_rfl) (by kernel_rfl) (fun _ _ _ h => h) (Or.inl ⟨by rfl, ?_⟩) (by assumption) ?_
          · intro wx hSw; obtain ⟨hcS, hfS⟩ := bcellN hSw; go_simp
          try simp only [Act.put, List.setIfInBounds_toArray, List.set_cons_zero, List.set_cons_succ, List.getElem_toArray, List.getElem_cons_zero, List.getElem_cons_succ]
          refine wpAnyH_done (by kernel_rfl) ?_ _
          go_wp2
          go_meet
          case rel => exact ⟨C, rfl, rfl, hPC, by omega, hHeld⟩
      · go_simp
        obtain ⟨XC, eA⟩ : ∃ X, X = x5.alloc (.cells #[.int .i64 0, .int .i64 0, .int .i64 0, .int .i64 0, .int .i64 0] 46) := ⟨_, rfl⟩
        rw [← eA]
        have hbA : Below x5.heap.size x5 XC := by rw [eA]; exact (Below.refl _ _).alloc (Nat.le_refl _) _
        have hZC : Bk XC x5.heap.size [.int .i64 0, .int .i64 0, .int .i64 0, .int .i64 0, .int .i64 0] := by rw [eA]; exact bk_new x5 46 [.int .i64 0, .int .i64 0, .int .i64 0, .int .i64 0, .int .i64 0]
        have hzAC1 : XC.heap.size ≤ x5.heap.size + 1 := by rw [eA]; simp
        have hzAC2 : x5.heap.size + 1 ≤ XC.heap.size := by rw [eA]; simp
        clear eA
        have hsz_XC := hbA.size
        refine hK.out _ _ (bthenN hHeld (by omega) hbA) (fun hNew => ?_)
        clear hK K hHeld
        have hHeld := hNew
        clear hNew
        try simp only [Act.put, List.setIfInBounds_toArray, List.set_cons_zero, List.set_cons_succ, List.getElem_toArray, List.getElem_cons_zero, List.getElem_cons_succ]
        clear hbA
        obtain ⟨C, eC⟩ : ∃ g, g = x5.heap.size := ⟨_, rfl⟩
        rw [← eC] at hZC ⊢
        have eC1 : C ≤ x5.heap.size := by omega
        have eC2 : x5.heap.size ≤ C := by omega
        clear eC
        refine wpAnyH_ready (rs := [6]) (by kernel_rfl) (by simp) ?_
        refine (AllReadyH.cons rfl (fun K hK => ?_) AllReadyH.nil)
        go_simp
        go_wp2_with fail
        refine (rest_two s q (by omega) hq _).mono ?_
        rintro e x6 ⟨rfl, ex6⟩
        have hbx6 : Below XC.heap.size XC x6 := by rw [ex6]; exact Below.refl _ _
        clear ex6
        replace hZC := hZC.below hbx6
        have hsz_x6 := hbx6.size
        refine hK.out _ _ (bthenN hHeld (by omega) hbx6) (fun hNew => ?_)
        clear hK K hHeld
        have hHeld := hNew
        clear hNew
        try simp only [Act.put, List.setIfInBounds_toArray, List.set_cons_zero, List.set_cons_succ, List.getElem_toArray, List.getElem_cons_zero, List.getElem_cons_succ]
        refine wpAnyH_take (i := 7) (v := .string X) rfl (by kernel_rfl) (by kernel_rfl) (by kernel_rfl) (fun _ _ _ h => h) (Or.inl ⟨by rfl, ?_⟩) (by assumption) ?_
        · intro wx hSw; obtain ⟨hcS, hfS⟩ := bcellN hSw; rw [HX2.out] at c2; go_simp
        try simp only [Act.put, List.setIfInBounds_toArray, List.set_cons_zero, List.set_cons_succ, List.getElem_toArray, List.getElem_cons_zero, List.getElem_cons_succ]
        refine wpAnyH_ready (rs := [8]) (by kernel_rfl) (by simp) ?_
        refine (AllReadyH.cons rfl (fun K hK => ?_) AllReadyH.nil)
        go_simp
        go_wp2_with fail
        refine (HS.out _).mono ?_
        rintro e xo ⟨rfl, hbxo⟩
        replace hZC := hZC.below hbxo
        have hsz_xo := hbxo.size
        refine hK.out _ _ (bthenN hHeld (by omega) hbxo) (fun hNew => ?_)
        clear hK K hHeld
        have hHeld := hNew
        clear hNew
        try simp only [Act.put, List.setIfInBounds_toArray, List.set_cons_zero, List.set_cons_succ, List.getElem_toArray, List.getElem_cons_zero, List.getElem_cons_succ]
        refine wpAnyH_take (i := 9) (v := .tuple #[.agg #[.int .i64 (p0), .int .i64 (p1), .int .i64 (p2), .int .i64 (p3), .int .i64 (p4)], .bool b]) rfl (by kernel_rfl) (by kernel_rfl) (by kernel_rfl) (fun _ _ _ h => h) (Or.inl ⟨by rfl, ?_⟩) (by assumption) ?_
        · intro wx hSw; obtain ⟨hcS, hfS⟩ := bcellN hSw; go_simp
        try simp only [Act.put, List.setIfInBounds_toArray, List.set_cons_zero, List.set_cons_succ, List.getElem_toArray, List.getElem_cons_zero, List.getElem_cons_succ]
        refine wpAnyH_take (i := 10) (v := .agg #[.int .i64 (p0), .int .i64 (p1), .int .i64 (p2), .int .i64 (p3), .int .i64 (p4)]) rfl (by kernel_rfl) (by kernel_rfl) (by kernel_rfl) (fun _ _ _ h => h) (Or.inl ⟨by rfl, ?_⟩) (by assumption) ?_
        · intro wx hSw; obtain ⟨hcS, hfS⟩ := bcellN hSw; go_simp
        try simp only [Act.put, List.setIfInBounds_toArray, List.set_cons_zero, List.set_cons_succ, List.getElem_toArray, List.getElem_cons_zero, List.getElem_cons_succ]
        refine wpAnyH_take (i := 11) (v := .bool b) rfl (by kernel_rfl) (by kernel_rfl) (by kernel_rfl) (fun _ _ _ h => h) (Or.inl ⟨by rfl, ?_⟩) (by assumption) ?_
        · intro wx hSw; obtain ⟨hcS, hfS⟩ := bcellN hSw; go_simp
        try simp only [Act.put, List.setIfInBounds_toArray, List.set_cons_zero, List.set_cons_succ, List.getElem_toArray, List.getElem_cons_zero, List.getElem_cons_succ]
        refine wpAnyH_ready (rs := [13]) (by kernel_rfl) (by simp) ?_
        refine (AllReadyH.cons rfl (fun K hK => ?_) AllReadyH.nil)
        have r0 := (hZC.2 0 (by simp)).1
        have r1 := (hZC.2 1 (by simp)).1
        have r2 := (hZC.2 2 (by simp)).1
        have r3 := (hZC.2 3 (by simp)).1
        have r4 := (hZC.2 4 (by simp)).1
        have f0 := (hZC.2 0 (by simp)).2
        have f1 := (hZC.2 1 (by simp)).2
        have f2 := (hZC.2 2 (by simp)).2
        have f3 := (hZC.2 3 (by simp)).2
        have f4 := (hZC.2 4 (by simp)).2
        simp only [List.getD, List.getElem?_cons_zero, List.getElem?_cons_succ, Option.getD_some] at r0 r1 r2 r3 r4
        have lZC := hZC.1
        have hkC : w0.heap.size ≤ C := by omega
        go_simp
        obtain ⟨XSC, eS⟩ : ∃ X, X = (((((xo.setCell ⟨C, 0, none⟩ (.int .i64 (p0))).setCell ⟨C, 1, none⟩ (.int .i64 (p1))).setCell ⟨C, 2, none⟩ (.int .i64 (p2))).setCell ⟨C, 3, none⟩ (.int .i64 (p3))).setCell ⟨C, 4, none⟩ (.int .i64 (p4))) := ⟨_, rfl⟩
        rw [← eS]
        have hPC : Bk XSC C [.int .i64 (p0), .int .i64 (p1), .int .i64 (p2), .int .i64 (p3), .int .i64 (p4)] := by rw [eS]; exact bk_put (l := [.int .i64 (p0), .int .i64 (p1), .int .i64 (p2), .int .i64 (p3), .int .i64 (p4)]) hZC rfl
        have hzC1 : XSC.heap.size ≤ xo.heap.size := by rw [eS]; exact Nat.le_of_eq (size_put C [.int .i64 (p0), .int .i64 (p1), .int .i64 (p2), .int .i64 (p3), .int .i64 (p4)] 0 xo)
        have hzC2 : xo.heap.size ≤ XSC.heap.size := by rw [eS]; exact Nat.le_of_eq (size_put C [.int .i64 (p0), .int .i64 (p1), .int .i64 (p2), .int .i64 (p3), .int .i64 (p4)] 0 xo).symm
        have hmC : ∀ b, ¬ b = C → Sm xo XSC b := by rw [eS]; exact fun b hb => sm_put hb [.int .i64 (p0), .int .i64 (p1), .int .i64 (p2), .int .i64 (p3), .int .i64 (p4)] 0 xo
        have hBC : Below (w0.heap.size) w0 XSC := by rw [eS]; exact below_put hkC [.int .i64 (p0), .int .i64 (p1), .int .i64 (p2), .int .i64 (p3), .int .i64 (p4)] 0 hHeld
        clear eS r0 f0 r1 f1 r2 f2 r3 f3 r4 f4
        refine hK.out _ _ hBC (fun hNew => ?_)
        clear hK K hHeld
        have hHeld := hNew
        clear hNew
        try simp only [Act.put, List.setIfInBounds_toArray, List.set_cons_zero, List.set_cons_succ, List.getElem_toArray, List.getElem_cons_zero, List.getElem_cons_succ]
        refine wpAnyH_take (i := 14) (v := .bool b) rfl (by kernel_rfl) (by kernel_rfl) (by kernel_rfl) (fun _ _ _ h => h) (Or.inl ⟨by rfl, ?_⟩) (by assumption) ?_
        · intro wx hSw; obtain ⟨hcS, hfS⟩ := bcellN hSw; go_simp
        try simp only [Act.put, List.setIfInBounds_toArray, List.set_cons_zero, List.set_cons_succ, List.getElem_toArray, List.getElem_cons_zero, List.getElem_cons_succ]
        refine wpAnyH_done (by kernel_rfl) ?_ _
        go_wp2
        go_meet
        case rel => exact ⟨C, rfl, rfl, hPC, by omega, hHeld⟩
    · go_simp
      obtain ⟨XC, eA⟩ : ∃ X, X = X0.alloc (.cells #[.int .i64 0, .int .i64 0, .int .i64 0, .int .i64 0, .int .i64 0] 46) := ⟨_, rfl⟩
      rw [← eA]
      have hbA : Below X0.heap.size X0 XC := by rw [eA]; exact (Below.refl _ _).alloc (Nat.le_refl _) _
      have hZC : Bk XC X0.heap.size [.int .i64 0, .int .i64 0, .int .i64 0, .int .i64 0, .int .i64 0] := by rw [eA]; exact bk_new X0 46 [.int .i64 0, .int .i64 0, .int .i64 0, .int .i64 0, .int .i64 0]
      have hzAC1 : XC.heap.size ≤ X0.heap.size + 1 := by rw [eA]; simp
      have hzAC2 : X0.heap.size + 1 ≤ XC.heap.size := by rw [eA]; simp
      clear eA
      have hsz_XC := hbA.size
      refine hK.out _ _ (bthenN hHeld (by omega) hbA) (fun hNew => ?_)
      clear hK K hHeld
      have hHeld := hNew
      clear hNew
      try simp only [Act.put, List.setIfInBounds_toArray, List.set_cons_zero, List.set_cons_succ, List.getElem_toArray, List.getElem_cons_zero, List.getElem_cons_succ]
      clear hbA
      obtain ⟨C, eC⟩ : ∃ g, g = X0.heap.size := ⟨_, rfl⟩
      rw [← eC] at hZC ⊢
      have eC1 : C ≤ X0.heap.size := by omega
      have eC2 : X0.heap.size ≤ C := by omega
      clear eC
      refine wpAnyH_ready (rs := [5]) (by kernel_rfl) (by simp) ?_
      refine (AllReadyH.cons rfl (fun K hK => ?_) AllReadyH.nil)
      go_simp
      go_wp2_with fail
      refine (rest_spec s (by omega) _).mono ?_
      rintro e x5 ⟨rfl, ex5⟩
      have hbx5 : Below XC.heap.size XC x5 := by rw [ex5]; exact Below.refl _ _
      clear ex5
      replace hZC := hZC.below hbx5
      have hsz_x5 := hbx5.size
      refine hK.out _ _ (bthenN hHeld (by omega) hbx5) (fun hNew => ?_)
      clear hK K hHeld
      have hHeld := hNew
      clear hNew
      try simp only [Act.put, List.setIfInBounds_toArray, List.set_cons_zero, List.set_cons_succ, List.getElem_toArray, List.getElem_cons_zero, List.getElem_cons_succ]
      refine wpAnyH_ready (rs := [6]) (by kernel_rfl) (by simp) ?_
      refine (AllReadyH.cons rfl (fun K hK => ?_) AllReadyH.nil)
      go_simp
      go_wp2_with fail
      refine (rest_two s q (by omega) hq _).mono ?_
      rintro e x6 ⟨rfl, ex6⟩
      have hbx6 : Below x5.heap.size x5 x6 := by rw [ex6]; exact Below.refl _ _
      clear ex6
      replace hZC := hZC.below hbx6
      have hsz_x6 := hbx6.size
      refine hK.out _ _ (bthenN hHeld (by omega) hbx6) (fun hNew => ?_)
      clear hK K hHeld
      have hHeld := hNew
      clear hNew
      try simp only [Act.put, List.setIfInBounds_toArray, List.set_cons_zero, List.set_cons_succ, List.getElem_toArray, List.getElem_cons_zero, List.getElem_cons_succ]
      refine wpAnyH_take (i := 7) (v := .string X) rfl (by kernel_rfl) (by kernel_rfl) (by kernel_rfl) (fun _ _ _ h => h) (Or.inl ⟨by rfl, ?_⟩) (by assumption) ?_
      · intro wx hSw; obtain ⟨hcS, hfS⟩ := bcellN hSw; rw [HX2.out] at c2; go_simp
      try simp only [Act.put, List.setIfInBounds_toArray, List.set_cons_zero, List.set_cons_succ, List.getElem_toArray, List.getElem_cons_zero, List.getElem_cons_succ]
      refine wpAnyH_ready (rs := [8]) (by kernel_rfl) (by simp) ?_
      refine (AllReadyH.cons rfl (fun K hK => ?_) AllReadyH.nil)
      go_simp
      go_wp2_with fail
      refine (HS.out _).mono ?_
      rintro e xo ⟨rfl, hbxo⟩
      replace hZC := hZC.below hbxo
      have hsz_xo := hbxo.size
      refine hK.out _ _ (bthenN hHeld (by omega) hbxo) (fun hNew => ?_)
      clear hK K hHeld
      have hHeld := hNew
      clear hNew
      try simp only [Act.put, List.setIfInBounds_toArray, List.set_cons_zero, List.set_cons_succ, List.getElem_toArray, List.getElem_cons_zero, List.getElem_cons_succ]
      refine wpAnyH_take (i := 9) (v := .tuple #[.agg #[.int .i64 (p0), .int .i64 (p1), .int .i64 (p2), .int .i64 (p3), .int .i64 (p4)], .bool b]) rfl (by kernel_rfl) (by kernel_rfl) (by kernel_rfl) (fun _ _ _ h => h) (Or.inl ⟨by rfl, ?_⟩) (by assumption) ?_
      · intro wx hSw; obtain ⟨hcS, hfS⟩ := bcellN hSw; go_simp
      try simp only [Act.put, List.setIfInBounds_toArray, List.set_cons_zero, List.set_cons_succ, List.getElem_toArray, List.getElem_cons_zero, List.getElem_cons_succ]
      refine wpAnyH_take (i := 10) (v := .agg #[.int .i64 (p0), .int .i64 (p1), .int .i64 (p2), .int .i64 (p3), .int .i64 (p4)]) rfl (by kernel_rfl) (by kernel_rfl) (by kernel_rfl) (fun _ _ _ h => h) (Or.inl ⟨by rfl, ?_⟩) (by assumption) ?_
      · intro wx hSw; obtain ⟨hcS, hfS⟩ := bcellN hSw; go_simp
      try simp only [Act.put, List.setIfInBounds_toArray, List.set_cons_zero, List.set_cons_succ, List.getElem_toArray, List.getElem_cons_zero, List.getElem_cons_succ]
      refine wpAnyH_take (i := 11) (v := .bool b) rfl (by kernel_rfl) (by kernel_rfl) (by kernel_rfl) (fun _ _ _ h => h) (Or.inl ⟨by rfl, ?_⟩) (by assumption) ?_
      · intro wx hSw; obtain ⟨hcS, hfS⟩ := bcellN hSw; go_simp
      try simp only [Act.put, List.setIfInBounds_toArray, List.set_cons_zero, List.set_cons_succ, List.getElem_toArray, List.getElem_cons_zero, List.getElem_cons_succ]
      refine wpAnyH_ready (rs := [13]) (by kernel_rfl) (by simp) ?_
      refine (AllReadyH.cons rfl (fun K hK => ?_) AllReadyH.nil)
      have r0 := (hZC.2 0 (by simp)).1
      have r1 := (hZC.2 1 (by simp)).1
      have r2 := (hZC.2 2 (by simp)).1
      have r3 := (hZC.2 3 (by simp)).1
      have r4 := (hZC.2 4 (by simp)).1
      have f0 := (hZC.2 0 (by simp)).2
      have f1 := (hZC.2 1 (by simp)).2
      have f2 := (hZC.2 2 (by simp)).2
      have f3 := (hZC.2 3 (by simp)).2
      have f4 := (hZC.2 4 (by simp)).2
      simp only [List.getD, List.getElem?_cons_zero, List.getElem?_cons_succ, Option.getD_some] at r0 r1 r2 r3 r4
      have lZC := hZC.1
      have hkC : w0.heap.size ≤ C := by omega
      go_simp
      obtain ⟨XSC, eS⟩ : ∃ X, X = (((((xo.setCell ⟨C, 0, none⟩ (.int .i64 (p0))).setCell ⟨C, 1, none⟩ (.int .i64 (p1))).setCell ⟨C, 2, none⟩ (.int .i64 (p2))).setCell ⟨C, 3, none⟩ (.int .i64 (p3))).setCell ⟨C, 4, none⟩ (.int .i64 (p4))) := ⟨_, rfl⟩
      rw [← eS]
      have hPC : Bk XSC C [.int .i64 (p0), .int .i64 (p1), .int .i64 (p2), .int .i64 (p3), .int .i64 (p4)] := by rw [eS]; exact bk_put (l := [.int .i64 (p0), .int .i64 (p1), .int .i64 (p2), .int .i64 (p3), .int .i64 (p4)]) hZC rfl
      have hzC1 : XSC.heap.size ≤ xo.heap.size := by rw [eS]; exact Nat.le_of_eq (size_put C [.int .i64 (p0), .int .i64 (p1), .int .i64 (p2), .int .i64 (p3), .int .i64 (p4)] 0 xo)
      have hzC2 : xo.heap.size ≤ XSC.heap.size := by rw [eS]; exact Nat.le_of_eq (size_put C [.int .i64 (p0), .int .i64 (p1), .int .i64 (p2), .int .i64 (p3), .int .i64 (p4)] 0 xo).symm
      have hmC : ∀ b, ¬ b = C → Sm xo XSC b := by rw [eS]; exact fun b hb => sm_put hb [.int .i64 (p0), .int .i64 (p1), .int .i64 (p2), .int .i64 (p3), .int .i64 (p4)] 0 xo
      have hBC : Below (w0.heap.size) w0 XSC := by rw [eS]; exact below_put hkC [.int .i64 (p0), .int .i64 (p1), .int .i64 (p2), .int .i64 (p3), .int .i64 (p4)] 0 hHeld
      clear eS r0 f0 r1 f1 r2 f2 r3 f3 r4 f4
      refine hK.out _ _ hBC (fun hNew => ?_)
      clear hK K hHeld
      have hHeld := hNew
      clear hNew
      try simp only [Act.put, List.setIfInBounds_toArray, List.set_cons_zero, List.set_cons_succ, List.getElem_toArray, List.getElem_cons_zero, List.getElem_cons_succ]
      refine wpAnyH_take (i := 14) (v := .bool b) rfl (by kernel_rfl) (by kernel_rfl) (by kernel_rfl) (fun _ _ _ h => h) (Or.inl ⟨by rfl, ?_⟩) (by assumption) ?_
      · intro wx hSw; obtain ⟨hcS, hfS⟩ := bcellN hSw; go_simp
      try simp only [Act.put, List.setIfInBounds_toArray, List.set_cons_zero, List.set_cons_succ, List.getElem_toArray, List.getElem_cons_zero, List.getElem_cons_succ]
      refine wpAnyH_done (by kernel_rfl) ?_ _
      go_wp2
      go_meet
      case rel => exact ⟨C, rfl, rfl, hPC, by omega, hHeld⟩
  case rest =>
    obtain ⟨w1, hwn⟩ : ∃ wn, wn = wc := ⟨_, rfl⟩
    subst hwn
    obtain ⟨o, rfl, rfl, hG, ho, hb⟩ := hcut
    have B3 : Hid (Below w.heap.size w w1) := bthen B1.out hb
    have R3 : Hid (Bk w1 w.heap.size [.int .i64 0, .int .i64 0, .int .i64 0, .int .i64 0, .int .i64 0]) := R2.out.below hb
    clear B1 R2
    have O4 : Hid (Bk w1 o [.int .i64 (p0), .int .i64 (p1), .int .i64 (p2), .int .i64 (p3), .int .i64 (p4)]) := hG
    clear hG hb c1 c2 hcy
    have yR0 : w1.cell? ⟨w.heap.size, 0, none⟩ = some (.int .i64 0) := (R3.out.2 0 (by simp)).1
    have zR0 : w1.frozen? ⟨w.heap.size, 0, none⟩ = false := (R3.out.2 0 (by simp)).2
    have yR1 : w1.cell? ⟨w.heap.size, 1, none⟩ = some (.int .i64 0) := (R3.out.2 1 (by simp)).1
    have zR1 : w1.frozen? ⟨w.heap.size, 1, none⟩ = false := (R3.out.2 1 (by simp)).2
    have yR2 : w1.cell? ⟨w.heap.size, 2, none⟩ = some (.int .i64 0) := (R3.out.2 2 (by simp)).1
    have zR2 : w1.frozen? ⟨w.heap.size, 2, none⟩ = false := (R3.out.2 2 (by simp)).2
    have yR3 : w1.cell? ⟨w.heap.size, 3, none⟩ = some (.int .i64 0) := (R3.out.2 3 (by simp)).1
    have zR3 : w1.frozen? ⟨w.heap.size, 3, none⟩ = false := (R3.out.2 3 (by simp)).2
    have yR4 : w1.cell? ⟨w.heap.size, 4, none⟩ = some (.int .i64 0) := (R3.out.2 4 (by simp)).1
    have zR4 : w1.frozen? ⟨w.heap.size, 4, none⟩ = false := (R3.out.2 4 (by simp)).2
    have hlR : w.heap.size < w1.heap.size := R3.out.1
    have yO0 : w1.cell? ⟨o, 0, none⟩ = some (.int .i64 (p0)) := (O4.out.2 0 (by simp)).1
    have yO1 : w1.cell? ⟨o, 1, none⟩ = some (.int .i64 (p1)) := (O4.out.2 1 (by simp)).1
    have yO2 : w1.cell? ⟨o, 2, none⟩ = some (.int .i64 (p2)) := (O4.out.2 2 (by simp)).1
    have yO3 : w1.cell? ⟨o, 3, none⟩ = some (.int .i64 (p3)) := (O4.out.2 3 (by simp)).1
    have yO4 : w1.cell? ⟨o, 4, none⟩ = some (.int .i64 (p4)) := (O4.out.2 4 (by simp)).1
    have hlO : o < w1.heap.size := O4.out.1
    skip
    cases b
    · go_wp2
      exact bodyPost_ret (v := .tuple #[.agg #[.int .i64 0, .int .i64 0, .int .i64 0, .int .i64 0, .int .i64 0], .bool false]) (by simp [results, Tryz.results16, go_sem, yR0, yR1, yR2, yR3, yR4]) rfl ⟨rfl, by repeat (first | exact B3.out | refine Below.setCell ?_ (by first | simp | omega) _)⟩
    · go_wp2
      exact bodyPost_ret (v := .tuple #[.agg #[.int .i64 (2), .int .i64 (p0), .int .i64 (p2), .int .i64 (p3), .int .i64 (p4)], .bool true]) (by simp [results, Tryz.results16, go_sem, yR0, yR1, yR2, yR3, yR4]) rfl ⟨rfl, by repeat (first | exact B3.out | refine Below.setCell ?_ (by first | simp | omega) _)⟩
end Go.Proofs.YtalmnogdplhflaaGreatDoor
