/- ArbServer, of the program and of the model, and the law over both; conditions: the table lies in memory. -/
import Derived.Test.YtjgnngiagmkfdaaTab
import Derived.Deep.RegionHeld3
import Derived.Deep.QuietTactic
import Derived.BigQuiet
namespace Go.Proofs.Ytjgnngiagmkfdaa
open Go.RowKit Go.Deep
set_option linter.unusedVariables false

def srvI (T : TV) (c : Int) : Int := if 0 ≤ c ∧ c < T.nS then T.S c.toNat else -1

theorem TV.short.more {T : TV} {m n : Nat} (h : T.short m) (hmn : m ≤ n) : T.short n := ⟨Nat.le_trans h.1 hmn, Nat.le_trans h.2 hmn⟩

set_option maxHeartbeats 1000000 in
theorem srv_spec (v : Value) (T : TV) (c : Int) (hs : T.short 1048576) (w : World) (h : TabAt w v T) :
    Calls Try.prog 19 #[v, .int .i64 c] w fun e w' => e = .returned (.int .i64 (srvI T c)) ∧ Below w.heap.size w w' := by
  obtain ⟨aS, kS, aA, kA, rfl, rS, rA⟩ := h
  obtain ⟨s1, s2⟩ := hs
  by_cases h0 : 0 ≤ c
  · by_cases h1 : c < T.nS
    · have hv : srvI T c = T.S c.toNat := by simp [srvI, h0, h1]
      obtain ⟨b, o, rfl, hb, hrow⟩ : ∃ b o, aS = some ⟨b, o, none⟩ ∧ b < w.heap.size ∧ ∀ k, k < T.nS → w.cell? ⟨b, o + k, none⟩ = some (.int .i64 (T.S k)) := by
        rcases rS with h | h
        · omega
        · exact h
      obtain ⟨k, rfl⟩ : ∃ k : Nat, c = k := ⟨c.toNat, by omega⟩
      rw [Int.toNat_natCast] at hv
      have hc := hrow k (by omega)
      clear hrow rA
      rw [hv]
      clear hv
      go_enter Try.func19, Try.ntmps19
      go_wp2
      go_ret
      exact ⟨rfl, (Below.refl _ _).alloc (by simp) _⟩
    · have hv : srvI T c = -1 := by simp [srvI, h1]
      rw [hv]
      clear hv rS rA
      go_enter Try.func19, Try.ntmps19
      go_wp2
      go_ret
      exact ⟨rfl, (Below.refl _ _).alloc (by simp) _⟩
  · have hv : srvI T c = -1 := by simp [srvI, h0]
    rw [hv]
    clear hv rS rA
    go_enter Try.func19, Try.ntmps19
    go_wp2
    go_ret
    exact ⟨rfl, (Below.refl _ _).alloc (by simp) _⟩

set_option maxHeartbeats 1000000 in
theorem srv_impl (v : Value) (T : TV) (c : Int) (hs : T.short 1048576) (w : World) (h : TabAt w v T) :
    Calls Try.prog 20 #[v, .int .i64 c] w fun e w' => e = .returned (.int .i64 (srvI T c)) ∧ Below w.heap.size w w' := by
  obtain ⟨aS, kS, aA, kA, rfl, rS, rA⟩ := h
  obtain ⟨s1, s2⟩ := hs
  by_cases h0 : 0 ≤ c
  · by_cases h1 : c < T.nS
    · have hv : srvI T c = T.S c.toNat := by simp [srvI, h0, h1]
      obtain ⟨b, o, rfl, hb, hrow⟩ : ∃ b o, aS = some ⟨b, o, none⟩ ∧ b < w.heap.size ∧ ∀ k, k < T.nS → w.cell? ⟨b, o + k, none⟩ = some (.int .i64 (T.S k)) := by
        rcases rS with h | h
        · omega
        · exact h
      obtain ⟨k, rfl⟩ : ∃ k : Nat, c = k := ⟨c.toNat, by omega⟩
      rw [Int.toNat_natCast] at hv
      have hc := hrow k (by omega)
      clear hrow rA
      rw [hv]
      clear hv
      go_enter Try.func20, Try.ntmps20
      go_wp2_with (go_at_call 29; refine (in_impl _ _ _ _).mono ?_; rintro e w1 ⟨rfl, rfl⟩; rw [show inB (k : Int) 0 ((T.nS : Int) - 1) = true by simp [inB] <;> omega])
      go_ret
      exact ⟨rfl, (Below.refl _ _).alloc (by simp) _⟩
    · have hv : srvI T c = -1 := by simp [srvI, h1]
      rw [hv]
      clear hv rS rA
      go_enter Try.func20, Try.ntmps20
      go_wp2_with (go_at_call 29; refine (in_impl _ _ _ _).mono ?_; rintro e w1 ⟨rfl, rfl⟩; rw [show inB c 0 ((T.nS : Int) - 1) = false by simp [inB] <;> omega])
      go_ret
      exact ⟨rfl, (Below.refl _ _).alloc (by simp) _⟩
  · have hv : srvI T c = -1 := by simp [srvI, h0]
    rw [hv]
    clear hv rS rA
    go_enter Try.func20, Try.ntmps20
    go_wp2_with (go_at_call 29; refine (in_impl _ _ _ _).mono ?_; rintro e w1 ⟨rfl, rfl⟩; rw [show inB c 0 ((T.nS : Int) - 1) = false by simp [inB] <;> omega])
    go_ret
    exact ⟨rfl, (Below.refl _ _).alloc (by simp) _⟩


set_option maxHeartbeats 4000000 in
theorem law_arbServer (v : Value) (T : TV) (c : Int) (hs : T.short maxLen) (w : World) (h : TabAt w v T) :
    Calls Try.prog 6 #[v, .int .i64 c] w fun e w' => e = .returned (.bool true) ∧ Below w.heap.size w w' := by
  obtain ⟨aS, kS, aA, kA, rfl, rS, rA⟩ := h
  have H0 : Hid (TabAt w (.agg #[.slice aS T.nS kS, .slice aA T.nA kA]) T) := ⟨aS, kS, aA, kA, rfl, rS, rA⟩
  have HS0 : Hid (T.short maxLen) := hs
  clear rS rA hs
  go_enter Try.func6, Try.ntmps6
  go_wp2_with fail
  obtain ⟨w0, e0⟩ : ∃ w0, w0 = w.alloc (.cells #[.slice aS T.nS kS, .slice aA T.nA kA] 33) := ⟨_, rfl⟩
  have B1 : Hid (Below w.heap.size w w0) := by rw [e0]; exact (Below.refl _ _).alloc (by simp) _
  have A2 : Hid (Bk w0 w.heap.size [.slice aS T.nS kS, .slice aA T.nA kA]) := by rw [e0]; exact bk_new w 33 [.slice aS T.nS kS, .slice aA T.nA kA]
  rw [← e0]
  clear e0
  refine (szTab _ T HS0.out _ (H0.out.below B1.out)).mono ?_
  rintro e w1 ⟨⟨r, rfl, hr⟩, hb1⟩
  have B3 : Hid (Below w.heap.size w w1) := bthen B1.out hb1
  have A3 : Hid (Bk w1 w.heap.size [.slice aS T.nS kS, .slice aA T.nA kA]) := A2.out.below hb1
  clear B1 A2
  clear hb1
  rcases hr with hr | ⟨hr, hV⟩
  · go_wp2
    go_ret
    exact ⟨rfl, B3.out⟩
  have hr2 : ¬ r < 0 := by omega
  have HV : Hid (T.short 1048576) := hV
  clear hV
  have yA0 : w1.cell? ⟨w.heap.size, 0, none⟩ = some (.slice aS T.nS kS) := (A3.out.2 0 (by simp)).1
  have yA1 : w1.cell? ⟨w.heap.size, 1, none⟩ = some (.slice aA T.nA kA) := (A3.out.2 1 (by simp)).1
  have hlA : w.heap.size < w1.heap.size := A3.out.1
  go_wp2_with fail
  refine (toTab _ T HV.out _ (H0.out.below B3.out)).mono ?_
  rintro e w2 ⟨⟨v1, rfl, hC1⟩, hb2⟩
  clear yA0 yA1 hlA
  have B4 : Hid (Below w.heap.size w w2) := bthen B3.out hb2
  have A4 : Hid (Bk w2 w.heap.size [.slice aS T.nS kS, .slice aA T.nA kA]) := A3.out.below hb2
  clear B3 A3
  clear hb2
  have yA0 : w2.cell? ⟨w.heap.size, 0, none⟩ = some (.slice aS T.nS kS) := (A4.out.2 0 (by simp)).1
  have yA1 : w2.cell? ⟨w.heap.size, 1, none⟩ = some (.slice aA T.nA kA) := (A4.out.2 1 (by simp)).1
  have hlA : w.heap.size < w2.heap.size := A4.out.1
  go_wp2_with fail
  refine (srv_spec _ T c HV.out _ hC1.at).mono ?_
  rintro e w3 ⟨rfl, hb3⟩
  clear yA0 yA1 hlA
  have B5 : Hid (Below w.heap.size w w3) := bthen B4.out hb3
  have A5 : Hid (Bk w3 w.heap.size [.slice aS T.nS kS, .slice aA T.nA kA]) := A4.out.below hb3
  clear B4 A4
  clear hb3 hC1
  have yA0 : w3.cell? ⟨w.heap.size, 0, none⟩ = some (.slice aS T.nS kS) := (A5.out.2 0 (by simp)).1
  have yA1 : w3.cell? ⟨w.heap.size, 1, none⟩ = some (.slice aA T.nA kA) := (A5.out.2 1 (by simp)).1
  have hlA : w.heap.size < w3.heap.size := A5.out.1
  go_wp2_with fail
  refine (toTab _ T HV.out _ (H0.out.below B5.out)).mono ?_
  rintro e w4 ⟨⟨v2, rfl, hC2⟩, hb4⟩
  clear yA0 yA1 hlA
  have B6 : Hid (Below w.heap.size w w4) := bthen B5.out hb4
  have A6 : Hid (Bk w4 w.heap.size [.slice aS T.nS kS, .slice aA T.nA kA]) := A5.out.below hb4
  clear B5 A5
  clear hb4
  obtain ⟨bS, lS, bA, lA, rfl, sS, sA⟩ := hC2.at
  have C4 : Hid (TabAt w4 (.agg #[.slice bS T.nS lS, .slice bA T.nA lA]) T) := hC2.at
  clear hC2 sS sA
  have yA0 : w4.cell? ⟨w.heap.size, 0, none⟩ = some (.slice aS T.nS kS) := (A6.out.2 0 (by simp)).1
  have yA1 : w4.cell? ⟨w.heap.size, 1, none⟩ = some (.slice aA T.nA kA) := (A6.out.2 1 (by simp)).1
  have hlA : w.heap.size < w4.heap.size := A6.out.1
  go_wp2_with fail
  obtain ⟨w5, e5⟩ : ∃ w5, w5 = w4.alloc (.cells #[.slice bS T.nS lS, .slice bA T.nA lA] 26) := ⟨_, rfl⟩
  rw [← e5]
  have hb5 : Below w4.heap.size w4 w5 := by rw [e5]; exact (Below.refl _ _).alloc (Nat.le_refl _) _
  have X5 : Hid (Bk w5 w4.heap.size [.slice bS T.nS lS, .slice bA T.nA lA]) := by rw [e5]; exact bk_new w4 26 [.slice bS T.nS lS, .slice bA T.nA lA]
  clear e5
  clear yA0 yA1 hlA
  have B7 : Hid (Below w.heap.size w w5) := bthen B6.out hb5
  have A7 : Hid (Bk w5 w.heap.size [.slice aS T.nS kS, .slice aA T.nA kA]) := A6.out.below hb5
  clear B6 A6
  have C8 : Hid (TabAt w5 (.agg #[.slice bS T.nS lS, .slice bA T.nA lA]) T) := C4.out.below hb5
  clear C4 hb5
  generalize w4.heap.size = gx at *
  have X9 : Hid (Bk w5 gx [.slice bS T.nS lS, .slice bA T.nA lA]) := X5.out
  clear X5
  refine (srv_impl _ T c HV.out _ C8.out).mono ?_
  rintro e w6 ⟨rfl, hb6⟩
  have B10 : Hid (Below w.heap.size w w6) := bthen B7.out hb6
  have A10 : Hid (Bk w6 w.heap.size [.slice aS T.nS kS, .slice aA T.nA kA]) := A7.out.below hb6
  have C10 : Hid (TabAt w6 (.agg #[.slice bS T.nS lS, .slice bA T.nA lA]) T) := C8.out.below hb6
  have X10 : Hid (Bk w6 gx [.slice bS T.nS lS, .slice bA T.nA lA]) := X9.out.below hb6
  clear B7 A7 C8 X9
  clear hb6
  have yA0 : w6.cell? ⟨w.heap.size, 0, none⟩ = some (.slice aS T.nS kS) := (A10.out.2 0 (by simp)).1
  have yA1 : w6.cell? ⟨w.heap.size, 1, none⟩ = some (.slice aA T.nA kA) := (A10.out.2 1 (by simp)).1
  have hlA : w.heap.size < w6.heap.size := A10.out.1
  have yX0 : w6.cell? ⟨gx, 0, none⟩ = some (.slice bS T.nS lS) := (X10.out.2 0 (by simp)).1
  have yX1 : w6.cell? ⟨gx, 1, none⟩ = some (.slice bA T.nA lA) := (X10.out.2 1 (by simp)).1
  have hlX : gx < w6.heap.size := X10.out.1
  go_wp2
  refine wp_region_held_drew (S := fun w' => (∀ b o, b < w6.heap.size → w'.cell? ⟨b, o, none⟩ = w6.cell? ⟨b, o, none⟩) ∧ w6.heap.size ≤ w'.heap.size) (by kernel_rfl) ⟨fun _ _ _ => rfl, Nat.le_refl _⟩ ?_
  intro hHeld
  refine wpAnyH_take (i := 0) (v := .agg #[.slice bS T.nS lS, .slice bA T.nA lA]) rfl (by kernel_rfl) (by kernel_rfl) (by kernel_rfl) (fun _ _ _ h => h) (Or.inl ⟨by rfl, ?_⟩) (by assumption) ?_
  · intro wx hSw; go_simp
  try simp only [Act.put, List.setIfInBounds_toArray, List.set_cons_zero, List.set_cons_succ, List.getElem_toArray, List.getElem_cons_zero]
  refine wpAnyH_take (i := 1) (v := .agg #[.slice aS T.nS kS, .slice aA T.nA kA]) rfl (by kernel_rfl) (by kernel_rfl) (by kernel_rfl) (fun _ _ _ h => h) (Or.inl ⟨by rfl, ?_⟩) (by assumption) ?_
  · intro wx hSw; go_simp
  try simp only [Act.put, List.setIfInBounds_toArray, List.set_cons_zero, List.set_cons_succ, List.getElem_toArray, List.getElem_cons_zero, List.getElem_cons_succ]
  refine wpAnyH_ready (rs := [2]) (by kernel_rfl) (by simp) ?_
  refine AllReadyH.cons rfl (fun K hK => ?_) AllReadyH.nil
  go_simp
  go_wp2_with fail
  refine (toTab _ T HV.out _ (H0.out.below (bthen B10.out (by repeat (first | exact Below.refl _ _ | refine bthen ?_ (by assumption) | apply Below.drew))))).mono ?_
  rintro e t1 ⟨⟨v3, rfl, hC3⟩, ht1⟩
  refine hK.out _ _ (keepS (by assumption) ht1) (fun hNew => ?_)
  clear hK K hHeld
  have hHeld := hNew
  clear hNew
  try simp only [Act.put, List.setIfInBounds_toArray, List.set_cons_zero, List.set_cons_succ, List.getElem_toArray, List.getElem_cons_zero, List.getElem_cons_succ]
  refine wpAnyH_ready (rs := [3]) (by kernel_rfl) (by simp) ?_
  refine AllReadyH.cons rfl (fun K hK => ?_) AllReadyH.nil
  go_simp
  go_wp2_with fail
  refine (eqTab _ _ T (HV.out.more (by decide)) _ (C10.out.below (by repeat (first | exact Below.refl _ _ | refine bthen ?_ (by assumption) | apply Below.drew))) hC3.at).mono ?_
  rintro e t2 ⟨rfl, ht2⟩
  refine hK.out _ _ (keepS (by assumption) ht2) (fun hNew => ?_)
  clear hK K hHeld
  have hHeld := hNew
  clear hNew
  try simp only [Act.put, List.setIfInBounds_toArray, List.set_cons_zero, List.set_cons_succ, List.getElem_toArray, List.getElem_cons_zero, List.getElem_cons_succ]
  refine wpAnyH_take (i := 4) (v := .bool false) rfl (by kernel_rfl) (by kernel_rfl) (by kernel_rfl) (fun _ _ _ h => h) (Or.inl ⟨by rfl, ?_⟩) (by assumption) ?_
  · intro wx hSw; go_simp
  try simp only [Act.put, List.setIfInBounds_toArray, List.set_cons_zero, List.set_cons_succ, List.getElem_toArray, List.getElem_cons_zero, List.getElem_cons_succ]
  refine wpAnyH_done (by kernel_rfl) ?_ _
  clear hHeld
  go_wp2
  go_ret
  exact ⟨rfl, bthen B10.out (by repeat (first | exact Below.refl _ _ | refine bthen ?_ (by assumption) | apply Below.drew))⟩
end Go.Proofs.Ytjgnngiagmkfdaa
