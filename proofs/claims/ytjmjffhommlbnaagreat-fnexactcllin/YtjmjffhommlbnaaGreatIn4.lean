/- A walker among others, by its number; and CllIn of the program; conditions: the cell lies in memory. -/
import Derived.Test.YtjmjffhommlbnaaGreatIn3
import Derived.Test.YtjmjffhommlbnaaGreatAck2
namespace Go.Proofs.YtjmjffhommlbnaaGreat
open Go.RowKit Go.Deep
set_option linter.unusedVariables false

/-- How many of the first n stand ahead of z. -/
def posW (W : Nat → Nat → Int) (z : Int) : Nat → Nat
  | 0 => 0
  | n + 1 => if W n 0 < z then n + 1 else posW W z n
theorem posW_le (W : Nat → Nat → Int) (z : Int) : ∀ n, posW W z n ≤ n
  | 0 => Nat.le_refl _
  | n + 1 => by unfold posW; split; exact Nat.le_refl _; have := posW_le W z n; omega
theorem posW_ge (W : Nat → Nat → Int) (z : Int) : ∀ n k, posW W z n ≤ k → k < n → ¬ W k 0 < z
  | 0, k, _, h => by omega
  | n + 1, k, h1, h2 => by
    unfold posW at h1
    split at h1
    · omega
    · rename_i hn
      by_cases e : k = n
      · subst e; exact hn
      · exact posW_ge W z n k h1 (by omega)
theorem posW_lt (W : Nat → Nat → Int) (z : Int) : ∀ n, (∀ i j, i < j → j < n → W i 0 < W j 0) → ∀ k, k < posW W z n → W k 0 < z
  | 0, _, k, h => by simp [posW] at h
  | n + 1, ha, k, h => by
    unfold posW at h
    split at h
    · rename_i hn
      by_cases e : k = n
      · subst e; exact hn
      · have := ha k n (by omega) (by omega); omega
    · exact posW_lt W z n (fun i j h1 h2 => ha i j h1 (by omega)) k h
/-- The walkers with one more among them. -/
def insW (W : Nat → Nat → Int) (n : Nat) (z : Int) (Zp : Nat → Int) : Nat → Nat → Int := fun k => if k < posW W z n then W k else if k = posW W z n then Zp else W (k - 1)
theorem ins_rise {W : Nat → Nat → Int} {n : Nat} {z : Int} {Zp : Nat → Int} (ha : ∀ i j, i < j → j < n → W i 0 < W j 0) (hno : ∀ k, k < n → ¬ W k 0 = z) (hz : Zp 0 = z) : ∀ i j, i < j → j < n + 1 → insW W n z Zp i 0 < insW W n z Zp j 0 := by
  intro i j hij hj
  have hle := posW_le W z n
  have lo : ∀ k, k < posW W z n → W k 0 < z := posW_lt W z n ha
  have hi : ∀ k, posW W z n ≤ k → k < n → z < W k 0 := fun k h1 h2 => by have := posW_ge W z n k h1 h2; have := hno k h2; omega
  unfold insW
  by_cases i1 : i < posW W z n
  · rw [if_pos i1]
    by_cases j1 : j < posW W z n
    · rw [if_pos j1]; exact ha i j hij (by omega)
    · rw [if_neg j1]
      by_cases j2 : j = posW W z n
      · rw [if_pos j2, hz]; exact lo i i1
      · rw [if_neg j2]; have := lo i i1; have := hi (j - 1) (by omega) (by omega); omega
  · rw [if_neg i1, if_neg (show ¬ j < posW W z n by omega), if_neg (show ¬ j = posW W z n by omega)]
    by_cases i2 : i = posW W z n
    · rw [if_pos i2, hz]; exact hi (j - 1) (by omega) (by omega)
    · rw [if_neg i2]; exact ha (i - 1) (j - 1) (by omega) (by omega)
def idsI (W : Nat → Nat → Int) (n : Nat) (z : Int) (Zp : Nat → Int) : List Int := (List.range (n + 1)).map (fun k => insW W n z Zp k 0)
theorem idsI_len {W : Nat → Nat → Int} {n : Nat} {z : Int} {Zp : Nat → Int} : (idsI W n z Zp).length = n + 1 := by simp [idsI]
theorem idsI_asc {W : Nat → Nat → Int} {n : Nat} {z : Int} {Zp : Nat → Int} (ha : ∀ i j, i < j → j < n → W i 0 < W j 0) (hno : ∀ k, k < n → ¬ W k 0 = z) (hz : Zp 0 = z) : (idsI W n z Zp).Pairwise (· < ·) := by
  refine List.pairwise_map.2 ((List.pairwise_lt_range (n := n + 1)).imp_of_mem ?_)
  intro i j hi hj hij
  exact ins_rise ha hno hz i j hij (List.mem_range.1 hj)
theorem ins_map {c d : Int} {V : CV} (h : cllB c d V = true) {z : Int} {Zp : Nat → Int} (hno : ∀ k, k < V.nW → ¬ V.W k 0 = z) (hz : Zp 0 = z) (k : Nat) (hk : k < V.nW + 1) : putM (mapW V.W V.nW) z Zp (insW V.W V.nW z Zp k 0) = some (insW V.W V.nW z Zp k) := by
  have hle := posW_le V.W z V.nW
  unfold insW putM
  by_cases k1 : k < posW V.W z V.nW
  · simp only [if_pos k1]; rw [if_neg (hno k (by omega)), map_at h k (by omega)]
  · simp only [if_neg k1]
    by_cases k2 : k = posW V.W z V.nW
    · simp only [if_pos k2]; rw [if_pos hz]
    · simp only [if_neg k2]; rw [if_neg (hno (k - 1) (by omega)), map_at h (k - 1) (by omega)]
theorem idsI_mem {c d : Int} {V : CV} (h : cllB c d V = true) {z : Int} {Zp : Nat → Int} (hno : ∀ k, k < V.nW → ¬ V.W k 0 = z) (hz : Zp 0 = z) : ∀ y, y ∈ idsI V.W V.nW z Zp ↔ (putM (mapW V.W V.nW) z Zp y).isSome = true := fun y => by
  have hle := posW_le V.W z V.nW
  constructor
  · intro hy
    obtain ⟨k, hk, rfl⟩ := List.mem_map.1 hy
    rw [ins_map h hno hz k (List.mem_range.1 hk)]; rfl
  · intro hy
    by_cases e : y = z
    · refine List.mem_map.2 ⟨posW V.W z V.nW, List.mem_range.2 (by omega), ?_⟩
      simp [insW, hz, e]
    · simp only [putM, if_neg e] at hy
      obtain ⟨m, h1, rfl⟩ := mapW_in V.nW hy
      by_cases m1 : m < posW V.W z V.nW
      · exact List.mem_map.2 ⟨m, List.mem_range.2 (by omega), by simp [insW, m1]⟩
      · refine List.mem_map.2 ⟨m + 1, List.mem_range.2 (by omega), ?_⟩
        simp [insW, show ¬ m + 1 < posW V.W z V.nW by omega, show ¬ m + 1 = posW V.W z V.nW by omega]
theorem idsI_at {c d : Int} {V : CV} (h : cllB c d V = true) {z : Int} {Zp : Nat → Int} (hno : ∀ k, k < V.nW → ¬ V.W k 0 = z) (hz : Zp 0 = z) : ∀ k, k < (idsI V.W V.nW z Zp).length → insW V.W V.nW z Zp k = (putM (mapW V.W V.nW) z Zp (idsI V.W V.nW z Zp)[k]!).getD fun _ => 0 := fun k hk => by
  rw [idsI_len] at hk
  have e : (idsI V.W V.nW z Zp)[k]! = insW V.W V.nW z Zp k 0 := by simp [idsI, hk]
  rw [e, ins_map h hno hz k hk]; rfl

/-- The cell behind a parcel that came in, or as it was. -/
def CV.inn (c d : Int) (V : CV) (q : Nat) (pn pk pi pa pm ps pl pc : Int) : CV :=
  if takeB c d V (mapW V.W V.nW) q pn pk pi pa pc then (if pk = 1 then (V.took q pk pc).with (V.nW + 1) (insW V.W V.nW pi (zp pi pa pm ps pl)) else V.took q pk pc) else V
def inR (c d : Int) (V : CV) (side pn pk pi pa pm ps pl pc : Int) : CV × Bool :=
  if cllB c d V = false ∨ pclB c d pn pk pi pa pm ps pl pc = false ∨ sideF c d V.c side = -1 then (CV.zero, false) else (CV.inn c d V side.toNat pn pk pi pa pm ps pl pc, takeB c d V (mapW V.W V.nW) side.toNat pn pk pi pa pc)
theorem pcl_kind {c d pn pk i a n s l pc : Int} (h : pclB c d pn pk i a n s l pc = true) : (pk = 1 ∨ pk = 2) ∧ (0 ≤ pc ∧ pc ≤ 900) := by
  simp only [pclB, Bool.and_eq_true] at h
  obtain ⟨_, _, h⟩ := h
  split at h
  · rename_i e
    simp only [Bool.and_eq_true, beq_iff_eq] at h
    exact ⟨.inl e, by omega⟩
  · simp only [Bool.and_eq_true, beq_iff_eq, inB_true] at h
    exact ⟨.inr h.1, by omega⟩

end Go.Proofs.YtjmjffhommlbnaaGreat
