/- Lists of structs of 7 integers: their size, their copy, and that two of the same are the same; conditions: the lists lie in memory. -/
import Derived.Test.YtdmfncopcmhcjaaCMk2
import Derived.LoopTactic
import Derived.Laws.IdiomCopy
namespace Go.Proofs.Ytdmfncopcmhcjaa.P7
open Go.RowKit Go.Deep
set_option linter.unusedVariables false

theorem eqWalker (i a co s l : Int) (w : World) :
    Calls Try.prog 48 #[.agg #[.int .i64 i, .int .i64 a, .int .i64 co, .int .i64 s, .int .i64 l], .agg #[.int .i64 i, .int .i64 a, .int .i64 co, .int .i64 s, .int .i64 l]] w fun e w' => e = .returned (.bool true) ∧ Below w.heap.size w w' := by
  go_enter Try.func48, Try.ntmps48
  go_wp2
  go_ret
  exact ⟨rfl, by repeat (first | exact Below.refl _ _ | refine Below.alloc ?_ (by simp <;> omega) _)⟩

set_option maxHeartbeats 1000000 in
theorem eqElem (f n i a co s l : Int) (w : World) :
    Calls Try.prog 27 #[.agg #[.int .i64 f, .int .i64 n, .int .i64 i, .int .i64 a, .int .i64 co, .int .i64 s, .int .i64 l], .agg #[.int .i64 f, .int .i64 n, .int .i64 i, .int .i64 a, .int .i64 co, .int .i64 s, .int .i64 l]] w fun e w' => e = .returned (.bool true) ∧ Below w.heap.size w w' := by
  go_enter Try.func27, Try.ntmps27
  go_wp2_with (go_at_call 48; refine (eqWalker _ _ _ _ _ _).mono ?_; rintro e w1 ⟨rfl, hb⟩; obtain ⟨hc, hf⟩ := bcell hb)
  go_ret
  exact ⟨rfl, by repeat (first | exact Below.refl _ _ | refine bthen ?_ (by assumption) | refine Below.alloc ?_ (by simp <;> omega) _)⟩

theorem infoE : (Try.prog.info? 60).map (fun i => (i.zero, i.size, i.bytes)) = some (some (.agg #[.int .i64 0, .int .i64 0, .int .i64 0, .int .i64 0, .int .i64 0, .int .i64 0, .int .i64 0]), 7, 56) := by kernel_rfl

/-- In w there lie n structs, from a on: the numbers of the k-th one are Z k. -/
def RowK (w : World) (a : Option Addr) (n : Nat) (Z : Nat → Nat → Int) : Prop :=
  n = 0 ∨ ∃ b o, a = some ⟨b, o, none⟩ ∧ b < w.heap.size ∧ ∀ k j, k < n → j < 7 → w.cell? ⟨b, o + k * 7 + j, none⟩ = some (.int .i64 (Z k j))
/-- Block B of wr is a row of n structs of the call's own, of which the first k hold Z's. -/
def OwnK (wr : World) (B n : Nat) (Z : Nat → Nat → Int) (k : Nat) : Prop :=
  (∀ i, i < n * 7 → (wr.cell? ⟨B, i, none⟩).isSome = true ∧ wr.frozen? ⟨B, i, none⟩ = false) ∧ ∀ k' j, k' < k → j < 7 → wr.cell? ⟨B, k' * 7 + j, none⟩ = some (.int .i64 (Z k' j))
theorem own_cell {wr : World} {B n k : Nat} {Z : Nat → Nat → Int} (h : OwnK wr B n Z k) (hk : k < n) (j : Nat) (hj : j < 7) : (∃ v, wr.cell? ⟨B, k * 7 + j, none⟩ = some v) ∧ wr.frozen? ⟨B, k * 7 + j, none⟩ = false := by
  obtain ⟨h1, h2⟩ := h.1 (k * 7 + j) (by omega)
  exact ⟨Option.isSome_iff_exists.1 h1, h2⟩
theorem own_below {w w' : World} {B n k : Nat} {Z : Nat → Nat → Int} (h : OwnK w B n Z k) (hB : B < w.heap.size) (hb : Below w.heap.size w w') : OwnK w' B n Z k :=
  ⟨fun i hi => by rw [hb.cell (p := ⟨B, i, none⟩) hB, hb.frozen (p := ⟨B, i, none⟩) hB]; exact h.1 i hi, fun k' j hk hj => by rw [hb.cell (p := ⟨B, k' * 7 + j, none⟩) hB]; exact h.2 k' j hk hj⟩
def putK (w : World) (B k : Nat) (Z : Nat → Nat → Int) : World :=
  (((((((w.setCell ⟨B, k * 7, none⟩ (.int .i64 (Z k 0))).setCell ⟨B, k * 7 + 1, none⟩ (.int .i64 (Z k 1))).setCell ⟨B, k * 7 + 2, none⟩ (.int .i64 (Z k 2))).setCell ⟨B, k * 7 + 3, none⟩ (.int .i64 (Z k 3))).setCell ⟨B, k * 7 + 4, none⟩ (.int .i64 (Z k 4))).setCell ⟨B, k * 7 + 5, none⟩ (.int .i64 (Z k 5))).setCell ⟨B, k * 7 + 6, none⟩ (.int .i64 (Z k 6)))
theorem putK_cells (w : World) (B k : Nat) (Z : Nat → Nat → Int) : putK w B k Z = w.setCells B (k * 7) [.int .i64 (Z k 0), .int .i64 (Z k 1), .int .i64 (Z k 2), .int .i64 (Z k 3), .int .i64 (Z k 4), .int .i64 (Z k 5), .int .i64 (Z k 6)] := rfl
theorem own_put {w : World} {B n k : Nat} {Z : Nat → Nat → Int} (h : OwnK w B n Z k) (hk : k < n) : OwnK (putK w B k Z) B n Z (k + 1) := by
  have hin : ∀ j, j < 7 → (putK w B k Z).cell? ⟨B, k * 7 + j, none⟩ = some (.int .i64 (Z k j)) := by
    intro j hj
    rw [putK_cells]
    have := World.cell?_setCells_in B [.int .i64 (Z k 0), .int .i64 (Z k 1), .int .i64 (Z k 2), .int .i64 (Z k 3), .int .i64 (Z k 4), .int .i64 (Z k 5), .int .i64 (Z k 6)] (k * 7) w (fun j' hj' => (h.1 (k * 7 + j') (by simp at hj'; omega)).1) j (by simpa using hj)
    rw [this]
    match j, hj with
    | 0, _ => rfl
    | 1, _ => rfl
    | 2, _ => rfl
    | 3, _ => rfl
    | 4, _ => rfl
    | 5, _ => rfl
    | 6, _ => rfl
    | j + 7, hj => omega
  have hout : ∀ i, (i < k * 7 ∨ k * 7 + 7 ≤ i) → (putK w B k Z).cell? ⟨B, i, none⟩ = w.cell? ⟨B, i, none⟩ := by
    intro i hi
    rw [putK_cells]
    exact World.cell?_setCells_out B _ (k * 7) w ⟨B, i, none⟩ (fun _ _ => by simpa using hi)
  refine ⟨fun i hi => ⟨?_, ?_⟩, fun k' j hk' hj => ?_⟩
  · by_cases hc : i < k * 7 ∨ k * 7 + 7 ≤ i
    · rw [hout i hc]; exact (h.1 i hi).1
    · have := hin (i - k * 7) (by omega)
      rw [show k * 7 + (i - k * 7) = i by omega] at this
      rw [this]; rfl
  · rw [putK_cells, World.frozen?_setCells]; exact (h.1 i hi).2
  · by_cases hc : k' = k
    · subst hc; exact hin j hj
    · rw [hout _ (by omega)]; exact h.2 k' j (by omega) hj
theorem own_row {w : World} {B n : Nat} {Z : Nat → Nat → Int} (h : OwnK w B n Z n) : ∀ k j, k < n → j < 7 → w.cell? ⟨B, 0 + k * 7 + j, none⟩ = some (.int .i64 (Z k j)) := fun k j hk hj => by
  rw [Nat.zero_add]; exact h.2 k j hk hj
theorem row_of_own {w : World} {B n : Nat} {Z : Nat → Nat → Int} (h : OwnK w B n Z n) (hB : B < w.heap.size) : RowK w (some ⟨B, 0, none⟩) n Z := .inr ⟨B, 0, rfl, hB, own_row h⟩

theorem row_below {w w' : World} {a : Option Addr} {n : Nat} {Z : Nat → Nat → Int} (h : RowK w a n Z) (hb : Below w.heap.size w w') : RowK w' a n Z := by
  rcases h with rfl | ⟨b, o, rfl, hlt, hr⟩
  · exact .inl rfl
  · exact .inr ⟨b, o, rfl, Nat.lt_of_lt_of_le hlt hb.size, fun k j hk hj => (hb.cell (p := ⟨b, _, none⟩) hlt).trans (hr k j hk hj)⟩

set_option maxRecDepth 100000 in
set_option maxHeartbeats 4000000 in
theorem eqList (a1 : Option Addr) (cap1 : Nat) (a2 : Option Addr) (cap2 n : Nat) (Z : Nat → Nat → Int) (hn : n ≤ 2000000) (w : World) (h1 : RowK w a1 n Z) (h2 : RowK w a2 n Z) :
    Calls Try.prog 13 #[.slice a1 n cap1, .slice a2 n cap2] w fun e w' => e = .returned (.bool true) ∧ Below w.heap.size w w' := by
  have H1 : Hid (RowK w a1 n Z) := h1
  have H2 : Hid (RowK w a2 n Z) := h2
  clear h1 h2
  go_enter Try.func13, Try.ntmps13
  go_wp2
  go_loopw [5] (fun i wr => ∃ k : Nat, k ≤ n ∧ i = .int .i64 k ∧ ((∀ b o, b < w.heap.size → wr.cell? ⟨b, o, none⟩ = w.cell? ⟨b, o, none⟩) ∧ w.heap.size ≤ wr.heap.size) ∧ Below w.heap.size w wr) (fun i _ => n - (intOf i).toNat)
  case atStart => exact ⟨0, Nat.zero_le _, rfl, ⟨fun _ _ _ => rfl, Nat.le_refl _⟩, Below.refl _ _⟩
  case round =>
    obtain ⟨k, hk, rfl, HS, BR⟩ := hrel
    by_cases hkn : k < n
    · obtain ⟨b1, o1, rfl, hb1, hr1⟩ : ∃ b o, a1 = some ⟨b, o, none⟩ ∧ b < w.heap.size ∧ ∀ k j, k < n → j < 7 → w.cell? ⟨b, o + k * 7 + j, none⟩ = some (.int .i64 (Z k j)) := by
        rcases H1.out with h | h
        · omega
        · exact h
      obtain ⟨b2, o2, rfl, hb2, hr2⟩ : ∃ b o, a2 = some ⟨b, o, none⟩ ∧ b < w.heap.size ∧ ∀ k j, k < n → j < 7 → w.cell? ⟨b, o + k * 7 + j, none⟩ = some (.int .i64 (Z k j)) := by
        rcases H2.out with h | h
        · omega
        · exact h
      have c1_0 : w.cell? ⟨b1, o1 + k * 7, none⟩ = some (.int .i64 (Z k 0)) := hr1 k 0 hkn (by omega)
      have c1_1 : w.cell? ⟨b1, o1 + k * 7 + 1, none⟩ = some (.int .i64 (Z k 1)) := hr1 k 1 hkn (by omega)
      have c1_2 : w.cell? ⟨b1, o1 + k * 7 + 2, none⟩ = some (.int .i64 (Z k 2)) := hr1 k 2 hkn (by omega)
      have c1_3 : w.cell? ⟨b1, o1 + k * 7 + 3, none⟩ = some (.int .i64 (Z k 3)) := hr1 k 3 hkn (by omega)
      have c1_4 : w.cell? ⟨b1, o1 + k * 7 + 4, none⟩ = some (.int .i64 (Z k 4)) := hr1 k 4 hkn (by omega)
      have c1_5 : w.cell? ⟨b1, o1 + k * 7 + 5, none⟩ = some (.int .i64 (Z k 5)) := hr1 k 5 hkn (by omega)
      have c1_6 : w.cell? ⟨b1, o1 + k * 7 + 6, none⟩ = some (.int .i64 (Z k 6)) := hr1 k 6 hkn (by omega)
      have c2_0 : w.cell? ⟨b2, o2 + k * 7, none⟩ = some (.int .i64 (Z k 0)) := hr2 k 0 hkn (by omega)
      have c2_1 : w.cell? ⟨b2, o2 + k * 7 + 1, none⟩ = some (.int .i64 (Z k 1)) := hr2 k 1 hkn (by omega)
      have c2_2 : w.cell? ⟨b2, o2 + k * 7 + 2, none⟩ = some (.int .i64 (Z k 2)) := hr2 k 2 hkn (by omega)
      have c2_3 : w.cell? ⟨b2, o2 + k * 7 + 3, none⟩ = some (.int .i64 (Z k 3)) := hr2 k 3 hkn (by omega)
      have c2_4 : w.cell? ⟨b2, o2 + k * 7 + 4, none⟩ = some (.int .i64 (Z k 4)) := hr2 k 4 hkn (by omega)
      have c2_5 : w.cell? ⟨b2, o2 + k * 7 + 5, none⟩ = some (.int .i64 (Z k 5)) := hr2 k 5 hkn (by omega)
      have c2_6 : w.cell? ⟨b2, o2 + k * 7 + 6, none⟩ = some (.int .i64 (Z k 6)) := hr2 k 6 hkn (by omega)
      clear hr1 hr2
      go_wp2
      refine wp_region_held_drew (S := fun w' => (∀ b o, b < w.heap.size → w'.cell? ⟨b, o, none⟩ = w.cell? ⟨b, o, none⟩) ∧ w.heap.size ≤ w'.heap.size) (by kernel_rfl) HS ?_
      intro hHeld
      refine wpAnyH_take (i := 0) (v := .slice (some ⟨b1, o1, none⟩) n cap1) rfl (by kernel_rfl) (by kernel_rfl) (by kernel_rfl) (fun _ _ _ h => h) (Or.inl ⟨by rfl, ?_⟩) (by assumption) ?_
      · intro wx hSw; go_simp
      try simp only [Act.put, List.setIfInBounds_toArray, List.set_cons_zero, List.set_cons_succ, List.getElem_toArray, List.getElem_cons_zero]
      refine wpAnyH_take (i := 1) (v := .int .i64 (k : Int)) rfl (by kernel_rfl) (by kernel_rfl) (by kernel_rfl) (fun _ _ _ h => h) (Or.inl ⟨by rfl, ?_⟩) (by assumption) ?_
      · intro wx hSw; go_simp
      try simp only [Act.put, List.setIfInBounds_toArray, List.set_cons_zero, List.set_cons_succ, List.getElem_toArray, List.getElem_cons_zero, List.getElem_cons_succ]
      refine wpAnyH_take (i := 2) (v := .pointer (some ⟨b1, o1 + k * 7, none⟩)) rfl (by kernel_rfl) (by kernel_rfl) (by kernel_rfl) (fun _ _ _ h => h) (Or.inl ⟨by rfl, ?_⟩) (by assumption) ?_
      · intro wx hSw; go_simp
      try simp only [Act.put, List.setIfInBounds_toArray, List.set_cons_zero, List.set_cons_succ, List.getElem_toArray, List.getElem_cons_zero, List.getElem_cons_succ]
      refine wpAnyH_take (i := 3) (v := .agg #[.int .i64 (Z k 0), .int .i64 (Z k 1), .int .i64 (Z k 2), .int .i64 (Z k 3), .int .i64 (Z k 4), .int .i64 (Z k 5), .int .i64 (Z k 6)]) rfl (by kernel_rfl) (by kernel_rfl) (by kernel_rfl) (fun _ _ _ h => h) (Or.inl ⟨by rfl, ?_⟩) (by assumption) ?_
      · intro wx hSw; go_simp
      try simp only [Act.put, List.setIfInBounds_toArray, List.set_cons_zero, List.set_cons_succ, List.getElem_toArray, List.getElem_cons_zero, List.getElem_cons_succ]
      refine wpAnyH_take (i := 4) (v := .slice (some ⟨b2, o2, none⟩) n cap2) rfl (by kernel_rfl) (by kernel_rfl) (by kernel_rfl) (fun _ _ _ h => h) (Or.inl ⟨by rfl, ?_⟩) (by assumption) ?_
      · intro wx hSw; go_simp
      try simp only [Act.put, List.setIfInBounds_toArray, List.set_cons_zero, List.set_cons_succ, List.getElem_toArray, List.getElem_cons_zero, List.getElem_cons_succ]
      refine wpAnyH_take (i := 5) (v := .int .i64 (k : Int)) rfl (by kernel_rfl) (by kernel_rfl) (by kernel_rfl) (fun _ _ _ h => h) (Or.inl ⟨by rfl, ?_⟩) (by assumption) ?_
      · intro wx hSw; go_simp
      try simp only [Act.put, List.setIfInBounds_toArray, List.set_cons_zero, List.set_cons_succ, List.getElem_toArray, List.getElem_cons_zero, List.getElem_cons_succ]
      refine wpAnyH_take (i := 6) (v := .pointer (some ⟨b2, o2 + k * 7, none⟩)) rfl (by kernel_rfl) (by kernel_rfl) (by kernel_rfl) (fun _ _ _ h => h) (Or.inl ⟨by rfl, ?_⟩) (by assumption) ?_
      · intro wx hSw; go_simp
      try simp only [Act.put, List.setIfInBounds_toArray, List.set_cons_zero, List.set_cons_succ, List.getElem_toArray, List.getElem_cons_zero, List.getElem_cons_succ]
      refine wpAnyH_take (i := 7) (v := .agg #[.int .i64 (Z k 0), .int .i64 (Z k 1), .int .i64 (Z k 2), .int .i64 (Z k 3), .int .i64 (Z k 4), .int .i64 (Z k 5), .int .i64 (Z k 6)]) rfl (by kernel_rfl) (by kernel_rfl) (by kernel_rfl) (fun _ _ _ h => h) (Or.inl ⟨by rfl, ?_⟩) (by assumption) ?_
      · intro wx hSw; go_simp
      try simp only [Act.put, List.setIfInBounds_toArray, List.set_cons_zero, List.set_cons_succ, List.getElem_toArray, List.getElem_cons_zero, List.getElem_cons_succ]
      refine wpAnyH_ready (rs := [8]) (by kernel_rfl) (by simp) ?_
      refine AllReadyH.cons rfl (fun K hK => ?_) AllReadyH.nil
      go_simp
      go_wp2_with (go_at_call 27; refine (eqElem _ _ _ _ _ _ _ _ ).mono ?_; rintro e w2 ⟨rfl, hbw2⟩)
      refine hK.out _ _ (keepS (by assumption) hbw2) (fun hHeld => ?_)
      clear hK K
      try simp only [Act.put, List.setIfInBounds_toArray, List.set_cons_zero, List.set_cons_succ, List.getElem_toArray, List.getElem_cons_zero, List.getElem_cons_succ]
      refine wpAnyH_take (i := 9) (v := .bool false) rfl (by kernel_rfl) (by kernel_rfl) (by kernel_rfl) (fun _ _ _ h => h) (Or.inl ⟨by rfl, ?_⟩) (by assumption) ?_
      · intro wx hSw; go_simp
      try simp only [Act.put, List.setIfInBounds_toArray, List.set_cons_zero, List.set_cons_succ, List.getElem_toArray, List.getElem_cons_zero, List.getElem_cons_succ]
      refine wpAnyH_done (by kernel_rfl) ?_ _
      go_wp2
      go_roundw
      case rel => exact ⟨k + 1, by omega, by go_num, by assumption, by repeat (first | exact BR | refine bthen ?_ (by assumption) | apply Below.drew)⟩
      case measure => simp [intOf]; omega
    · have : k = n := by omega
      subst this
      go_wp2
      go_ret
      exact ⟨rfl, by repeat (first | exact BR | refine bthen ?_ (by assumption) | apply Below.drew)⟩

theorem setg (w : World) (B i : Nat) (u : Value) : w.grownBy (w.setCell ⟨B, i, none⟩ u) (some B) ∧ (w.setCell ⟨B, i, none⟩ u).heap.size = w.heap.size :=
  ⟨⟨rfl, rfl, rfl, by simp [World.setCell], fun k _ hne => Below.heap_setCell _ _ _ _ (fun e => hne (by rw [e]))⟩, by simp [World.setCell]⟩
theorem putK_grown (w : World) (B k : Nat) (Z : Nat → Nat → Int) : w.grownBy (putK w B k Z) (some B) ∧ (putK w B k Z).heap.size = w.heap.size := by
  unfold putK
  refine ⟨(((((((setg _ _ _ _).1.trans (setg _ _ _ _).1).trans (setg _ _ _ _).1).trans (setg _ _ _ _).1).trans (setg _ _ _ _).1).trans (setg _ _ _ _).1).trans (setg _ _ _ _).1), ?_⟩
  rw [(setg _ _ _ _).2, (setg _ _ _ _).2, (setg _ _ _ _).2, (setg _ _ _ _).2, (setg _ _ _ _).2, (setg _ _ _ _).2, (setg _ _ _ _).2]

set_option maxRecDepth 20000 in
set_option maxHeartbeats 2000000 in
theorem markL (s B n cap : Nat) (Z : Nat → Nat → Int) (hn : n ≤ 2000000) (hs : s ≤ 2000000000) (w : World) (hB : B < w.heap.size) (h : OwnK w B n Z n) :
    Calls Try.prog 15 #[.slice (some ⟨B, 0, none⟩) n cap, .int .i64 (s : Int)] w fun e w' => e = .returned (.int .i64 ((s + n * 7 : Nat) : Int)) ∧ OwnK w' B n (Mk 7 s) n ∧ w.grownBy w' (some B) ∧ w'.heap.size = w.heap.size := by
  have H0 : Hid (OwnK w B n (Mk 7 s) 0) := ⟨h.1, fun _ _ h => absurd h (by omega)⟩
  clear h
  go_enter Try.func15, Try.ntmps15
  go_wp2
  go_loopw [1, 5] (fun c i wr => ∃ k : Nat, k ≤ n ∧ .int .i64 k = i ∧ .int .i64 (Mk 7 s k 0) = c ∧ OwnK wr B n (Mk 7 s) k ∧ w.grownBy wr (some B) ∧ wr.heap.size = w.heap.size) (fun _ i _ => n - (intOf i).toNat)
  case atStart => exact ⟨0, Nat.zero_le _, rfl, by simp [Mk], H0.out, World.grownBy.refl _ _, rfl⟩
  case round =>
    obtain ⟨k, hk, rfl, rfl, hown, hg, hsz⟩ := hrel
    by_cases hkn : k < n
    · have hkn' : (k : Int) < (n : Int) := by omega
      obtain ⟨⟨v0, d0⟩, f0⟩ := own_cell hown hkn 0 (by omega)
      obtain ⟨⟨v1, d1⟩, f1⟩ := own_cell hown hkn 1 (by omega)
      obtain ⟨⟨v2, d2⟩, f2⟩ := own_cell hown hkn 2 (by omega)
      obtain ⟨⟨v3, d3⟩, f3⟩ := own_cell hown hkn 3 (by omega)
      obtain ⟨⟨v4, d4⟩, f4⟩ := own_cell hown hkn 4 (by omega)
      obtain ⟨⟨v5, d5⟩, f5⟩ := own_cell hown hkn 5 (by omega)
      obtain ⟨⟨v6, d6⟩, f6⟩ := own_cell hown hkn 6 (by omega)
      simp only [Nat.add_zero] at d0 f0
      have HP : Hid (OwnK (putK wr B k (Mk 7 s)) B n (Mk 7 s) (k + 1)) := own_put hown hkn
      have HG : Hid (w.grownBy (putK wr B k (Mk 7 s)) (some B) ∧ (putK wr B k (Mk 7 s)).heap.size = w.heap.size) := ⟨hg.trans (putK_grown wr B k (Mk 7 s)).1, (putK_grown wr B k (Mk 7 s)).2.trans hsz⟩
      have m1 : IntKind.wrap .i64 ((Mk 7 s k 0) + 1) = (Mk 7 s k 1) := by unfold Mk; simp [IntKind.wrap, IntKind.bits, IntKind.signed]; omega
      have m2 : IntKind.wrap .i64 ((Mk 7 s k 1) + 1) = (Mk 7 s k 2) := by unfold Mk; simp [IntKind.wrap, IntKind.bits, IntKind.signed]; omega
      have m3 : IntKind.wrap .i64 ((Mk 7 s k 2) + 1) = (Mk 7 s k 3) := by unfold Mk; simp [IntKind.wrap, IntKind.bits, IntKind.signed]; omega
      have m4 : IntKind.wrap .i64 ((Mk 7 s k 3) + 1) = (Mk 7 s k 4) := by unfold Mk; simp [IntKind.wrap, IntKind.bits, IntKind.signed]; omega
      have m5 : IntKind.wrap .i64 ((Mk 7 s k 4) + 1) = (Mk 7 s k 5) := by unfold Mk; simp [IntKind.wrap, IntKind.bits, IntKind.signed]; omega
      have m6 : IntKind.wrap .i64 ((Mk 7 s k 5) + 1) = (Mk 7 s k 6) := by unfold Mk; simp [IntKind.wrap, IntKind.bits, IntKind.signed]; omega
      have m7 : IntKind.wrap .i64 ((Mk 7 s k 6) + 1) = (Mk 7 s (k + 1) 0) := by unfold Mk; simp [IntKind.wrap, IntKind.bits, IntKind.signed]; omega
      clear hown hg hsz
      go_wp2
      go_roundw
      case rel => exact ⟨k + 1, by omega, by go_num, rfl, HP.out, HG.out.1, HG.out.2⟩
      case measure => simp [intOf]; omega
    · have hkn' : k = n := by omega
      subst hkn'
      have HO : Hid (OwnK wr B k (Mk 7 s) k) := hown
      clear hown
      go_wp2
      go_ret
      exact ⟨rfl, HO.out, hg, hsz⟩

set_option maxRecDepth 20000 in
set_option maxHeartbeats 2000000 in
theorem heldL (s B n cap : Nat) (hn : n ≤ 2000000) (hs : s ≤ 2000000000) (w : World) (hB : B < w.heap.size) (h : OwnK w B n (Mk 7 s) n) :
    Calls Try.prog 16 #[.slice (some ⟨B, 0, none⟩) n cap, .int .i64 (s : Int)] w fun e w' => e = .returned (.int .i64 ((s + n * 7 : Nat) : Int)) ∧ Below w.heap.size w w' := by
  have H0 : Hid (OwnK w B n (Mk 7 s) n) := h
  clear h
  go_enter Try.func16, Try.ntmps16
  go_wp2
  go_loopw [1, 5] (fun c i wr => ∃ k : Nat, k ≤ n ∧ .int .i64 k = i ∧ .int .i64 (Mk 7 s k 0) = c ∧ w = wr) (fun _ i _ => n - (intOf i).toNat)
  case atStart => exact ⟨0, Nat.zero_le _, rfl, by simp [Mk], rfl⟩
  case round =>
    obtain ⟨k, hk, rfl, rfl, rfl⟩ := hrel
    by_cases hkn : k < n
    · have hkn' : (k : Int) < (n : Int) := by omega
      have c0 : w.cell? ⟨B, k * 7, none⟩ = some (.int .i64 (Mk 7 s k 0)) := H0.out.2 k 0 hkn (by omega)
      have c1 : w.cell? ⟨B, k * 7 + 1, none⟩ = some (.int .i64 (Mk 7 s k 1)) := H0.out.2 k 1 hkn (by omega)
      have c2 : w.cell? ⟨B, k * 7 + 2, none⟩ = some (.int .i64 (Mk 7 s k 2)) := H0.out.2 k 2 hkn (by omega)
      have c3 : w.cell? ⟨B, k * 7 + 3, none⟩ = some (.int .i64 (Mk 7 s k 3)) := H0.out.2 k 3 hkn (by omega)
      have c4 : w.cell? ⟨B, k * 7 + 4, none⟩ = some (.int .i64 (Mk 7 s k 4)) := H0.out.2 k 4 hkn (by omega)
      have c5 : w.cell? ⟨B, k * 7 + 5, none⟩ = some (.int .i64 (Mk 7 s k 5)) := H0.out.2 k 5 hkn (by omega)
      have c6 : w.cell? ⟨B, k * 7 + 6, none⟩ = some (.int .i64 (Mk 7 s k 6)) := H0.out.2 k 6 hkn (by omega)
      have m1 : IntKind.wrap .i64 ((Mk 7 s k 0) + 1) = (Mk 7 s k 1) := by unfold Mk; simp [IntKind.wrap, IntKind.bits, IntKind.signed]; omega
      have m2 : IntKind.wrap .i64 ((Mk 7 s k 1) + 1) = (Mk 7 s k 2) := by unfold Mk; simp [IntKind.wrap, IntKind.bits, IntKind.signed]; omega
      have m3 : IntKind.wrap .i64 ((Mk 7 s k 2) + 1) = (Mk 7 s k 3) := by unfold Mk; simp [IntKind.wrap, IntKind.bits, IntKind.signed]; omega
      have m4 : IntKind.wrap .i64 ((Mk 7 s k 3) + 1) = (Mk 7 s k 4) := by unfold Mk; simp [IntKind.wrap, IntKind.bits, IntKind.signed]; omega
      have m5 : IntKind.wrap .i64 ((Mk 7 s k 4) + 1) = (Mk 7 s k 5) := by unfold Mk; simp [IntKind.wrap, IntKind.bits, IntKind.signed]; omega
      have m6 : IntKind.wrap .i64 ((Mk 7 s k 5) + 1) = (Mk 7 s k 6) := by unfold Mk; simp [IntKind.wrap, IntKind.bits, IntKind.signed]; omega
      have m7 : IntKind.wrap .i64 ((Mk 7 s k 6) + 1) = (Mk 7 s (k + 1) 0) := by unfold Mk; simp [IntKind.wrap, IntKind.bits, IntKind.signed]; omega
      go_wp2
      go_roundw
      case rel => exact ⟨k + 1, by omega, by go_num, rfl, by trivial⟩
      case measure => simp [intOf]; omega
    · have hkn' : k = n := by omega
      subst hkn'
      go_wp2
      go_ret
      exact ⟨rfl, Below.refl _ _⟩

theorem markL0 (s : Nat) (a : Option Addr) (c : Nat) (w : World) :
    Calls Try.prog 15 #[.slice a 0 c, .int .i64 (s : Int)] w fun e w' => e = .returned (.int .i64 (s : Int)) ∧ w' = w := by
  go_enter Try.func15, Try.ntmps15
  go_wp2
  refine wp_loop_rounds 1 ?_
  rw [rounds_succ]
  go_wp2
  go_ret
  exact ⟨rfl, rfl⟩
theorem heldL0 (s : Nat) (a : Option Addr) (c : Nat) (w : World) :
    Calls Try.prog 16 #[.slice a 0 c, .int .i64 (s : Int)] w fun e w' => e = .returned (.int .i64 (s : Int)) ∧ Below w.heap.size w w' := by
  go_enter Try.func16, Try.ntmps16
  go_wp2
  refine wp_loop_rounds 1 ?_
  rw [rounds_succ]
  go_wp2
  go_ret
  exact ⟨rfl, Below.refl _ _⟩

/-- v is a list of n structs, Z, in a block of its own, between lo and hi; or there are none. -/
def RL (lo hi : Nat) (w : World) (v : Value) (n : Nat) (Z : Nat → Nat → Int) : Prop :=
  (n = 0 ∧ ∃ a c, v = .slice a 0 c) ∨ ∃ g c, v = .slice (some ⟨g, 0, none⟩) n c ∧ lo ≤ g ∧ g < hi ∧ hi ≤ w.heap.size ∧ OwnK w g n Z n
theorem ownK_sm {w w' : World} {B n k : Nat} {Z : Nat → Nat → Int} (h : OwnK w B n Z k) (hs : Sm w w' B) : OwnK w' B n Z k :=
  ⟨fun i hi => by rw [(hs i).1, (hs i).2]; exact h.1 i hi, fun k' j hk hj => by rw [(hs _).1]; exact h.2 k' j hk hj⟩
theorem RL.sm {lo hi : Nat} {w w' : World} {v : Value} {n : Nat} {Z : Nat → Nat → Int} (h : RL lo hi w v n Z) (hs : w.heap.size ≤ w'.heap.size) (k : ∀ b, lo ≤ b → b < hi → Sm w w' b) : RL lo hi w' v n Z := by
  rcases h with h | ⟨g, c, h1, h2, h3, h4, h5⟩
  · exact .inl h
  · exact .inr ⟨g, c, h1, h2, h3, Nat.le_trans h4 hs, ownK_sm h5 (k g h2 h3)⟩
theorem RL.below {lo hi : Nat} {w w' : World} {v : Value} {n : Nat} {Z : Nat → Nat → Int} (h : RL lo hi w v n Z) (hb : Below w.heap.size w w') : RL lo hi w' v n Z := by
  rcases h with h | ⟨g, c, h1, h2, h3, h4, h5⟩
  · exact .inl h
  · exact .inr ⟨g, c, h1, h2, h3, Nat.le_trans h4 hb.size, ownK_sm h5 (sm_below hb (by omega))⟩
theorem RL.at {lo hi : Nat} {w : World} {v : Value} {n : Nat} {Z : Nat → Nat → Int} (h : RL lo hi w v n Z) : ∃ a c, v = .slice a n c ∧ RowK w a n Z := by
  rcases h with ⟨rfl, a, c, rfl⟩ | ⟨g, c, rfl, h2, h3, h4, h5⟩
  · exact ⟨a, c, rfl, .inl rfl⟩
  · exact ⟨_, c, rfl, row_of_own h5 (by omega)⟩
theorem mark_any (lo hi s : Nat) (v : Value) (n : Nat) (Z : Nat → Nat → Int) (hn : n ≤ 2000000) (hs : s ≤ 2000000000) (w : World) (hlh : lo ≤ w.heap.size) (h : RL lo hi w v n Z) :
    Calls Try.prog 15 #[v, .int .i64 (s : Int)] w fun e w' => e = .returned (.int .i64 ((s + n * 7 : Nat) : Int)) ∧ RL lo hi w' v n (Mk 7 s) ∧ w.heap.size ≤ w'.heap.size ∧ (∀ b, b < w.heap.size → (b < lo ∨ hi ≤ b) → Sm w w' b) ∧ Below lo w w' := by
  rcases h with ⟨rfl, a, c, rfl⟩ | ⟨g, c, rfl, h2, h3, h4, h5⟩
  · refine (markL0 s a c w).mono ?_
    rintro e w' ⟨rfl, rfl⟩
    exact ⟨by simp, .inl ⟨rfl, a, c, rfl⟩, Nat.le_refl _, fun b _ _ => Sm.refl _ _, Below.refl _ _⟩
  · refine (markL s g n c Z hn hs w (by omega) h5).mono ?_
    rintro e w' ⟨rfl, o, hg, hz⟩
    exact ⟨rfl, .inr ⟨g, c, rfl, h2, h3, by omega, o⟩, Nat.le_of_eq hz.symm, fun b hb hne => sm_grown hg hb (by intro e; injection e with e; omega), below_grown hg h2 (by omega)⟩
theorem held_any (lo hi s : Nat) (v : Value) (n : Nat) (hn : n ≤ 2000000) (hs : s ≤ 2000000000) (w : World) (h : RL lo hi w v n (Mk 7 s)) :
    Calls Try.prog 16 #[v, .int .i64 (s : Int)] w fun e w' => e = .returned (.int .i64 ((s + n * 7 : Nat) : Int)) ∧ Below w.heap.size w w' := by
  rcases h with ⟨rfl, a, c, rfl⟩ | ⟨g, c, rfl, h2, h3, h4, h5⟩
  · refine (heldL0 s a c w).mono ?_
    rintro e w' ⟨rfl, hb⟩
    exact ⟨by simp, hb⟩
  · exact heldL s g n c hn hs w (by omega) h5

def rowK (Z : Nat → Nat → Int) (k : Nat) : List Value := [.int .i64 (Z k 0), .int .i64 (Z k 1), .int .i64 (Z k 2), .int .i64 (Z k 3), .int .i64 (Z k 4), .int .i64 (Z k 5), .int .i64 (Z k 6)]
theorem flat_getK {m : Nat} (f : Nat → List Value) (hf : ∀ k, (f k).length = m) (hm : 0 < m) : ∀ n i, i < n * m → ((List.range n).flatMap f)[i]? = (f (i / m))[i % m]?
  | 0, i, h => by omega
  | n + 1, i, h => by
    rw [List.range_succ, List.flatMap_append]
    have hl : ((List.range n).flatMap f).length = n * m := by
      clear h
      induction n with
      | zero => simp
      | succ n ih => rw [List.range_succ, List.flatMap_append, List.length_append, ih]; simp [hf, Nat.succ_mul]
    by_cases hi : i < n * m
    · rw [List.getElem?_append_left (by omega)]
      exact flat_getK f hf hm n i hi
    · rw [List.getElem?_append_right (by omega), hl]
      have h1 : i / m = n := Nat.div_eq_of_lt_le (by omega) (by omega)
      have h2 : i % m = i - n * m := by
        have := Nat.div_add_mod i m
        rw [h1, Nat.mul_comm] at this
        omega
      rw [h1, h2]
      simp
/-- A list that was grown by appends, as such a list. -/
theorem rl_of_own {w : World} {base n : Nat} {v : Value} {Z : Nat → Nat → Int} (h : w.ownsRow base 60 7 v n ((List.range n).flatMap (rowK Z))) : RL base w.heap.size w v n Z := by
  rcases h.2 with ⟨e, hl⟩ | ⟨g, cap, cur, hv, _⟩
  · subst e; subst hl
    exact .inl ⟨rfl, none, 0, rfl⟩
  · have ho : w.ownsRow base 60 7 (.slice (some ⟨g, 0, none⟩) n cap) n ((List.range n).flatMap (rowK Z)) := by rw [← hv]; exact h
    refine .inr ⟨g, cap, hv, (ho.lt g rfl).1, (ho.lt g rfl).2, Nat.le_refl _, fun i hi => ⟨?_, ho.frozenAt i⟩, fun k j hk hj => ?_⟩
    · rw [ho.cellAt i (by omega)]
      have : i < ((List.range n).flatMap (rowK Z)).length := by rw [ho.1]; omega
      rw [List.getElem?_eq_getElem this]
      rfl
    · rw [ho.cellAt (k * 7 + j) (by omega), flat_getK (m := 7) (rowK Z) (fun _ => rfl) (by decide) n (k * 7 + j) (by omega), show (k * 7 + j) / 7 = k by omega, show (k * 7 + j) % 7 = j by omega]
      match j, hj with
      | 0, _ => rfl
      | 1, _ => rfl
      | 2, _ => rfl
      | 3, _ => rfl
      | 4, _ => rfl
      | 5, _ => rfl
      | 6, _ => rfl
      | j + 7, hj => omega
end Go.Proofs.Ytdmfncopcmhcjaa.P7
