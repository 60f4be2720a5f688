/- A cell of the model while an order is done in it: what may be written lies apart; conditions: none. -/
import Derived.Test.YthbkjfkkdaheoaaGreatDoorWalksE
import Derived.Test.YthbkjfkkdaheoaaGreatDoorOrd2
import Derived.Test.YthbkjfkkdaheoaaGreatDoorCCopyS
import Derived.BigQuiet
import Derived.Test.YthbkjfkkdaheoaaGreatDoorLawNew
namespace Go.Proofs.YthbkjfkkdaheoaaGreatDoor
open Go.RowKit Go.Deep
set_option linter.unusedVariables false
def Rise (W : Nat → Nat → Int) (n : Nat) : Prop := ∀ i j, i < j → j < n → W i 0 < W j 0
def updW (W : Nat → Nat → Int) (m : Nat) (Z : Nat → Int) : Nat → Nat → Int := fun k => if k = m then Z else W k
def delW (W : Nat → Nat → Int) (m : Nat) : Nat → Nat → Int := fun k => if k < m then W k else W (k + 1)
theorem upd_at {W : Nat → Nat → Int} {m : Nat} {Z : Nat → Int} : updW W m Z m = Z := by simp [updW]
theorem upd_ne {W : Nat → Nat → Int} {m k : Nat} {Z : Nat → Int} (h : ¬ k = m) : updW W m Z k = W k := by simp [updW, h]
theorem upd_id {W : Nat → Nat → Int} {m : Nat} {Z : Nat → Int} (hz : Z 0 = W m 0) (k : Nat) : updW W m Z k 0 = W k 0 := by
  by_cases e : k = m
  · subst e; rw [upd_at, hz]
  · rw [upd_ne e]
theorem upd_upd {W : Nat → Nat → Int} {m : Nat} {Z Y : Nat → Int} : updW (updW W m Z) m Y = updW W m Y := by
  funext k
  by_cases e : k = m
  · simp [updW, e]
  · simp [updW, e]
theorem upd_swap {W : Nat → Nat → Int} {m j : Nat} {Z Y : Nat → Int} (h : ¬ m = j) : updW (updW W m Z) j Y = updW (updW W j Y) m Z := by
  funext k
  by_cases e : k = m
  · subst e; simp [updW, h]
  · by_cases e2 : k = j
    · subst e2; simp [updW, e]
    · simp [updW, e, e2]
theorem Rise.upd {W : Nat → Nat → Int} {n m : Nat} {Z : Nat → Int} (h : Rise W n) (hz : Z 0 = W m 0) : Rise (updW W m Z) n := fun i j h1 h2 => by
  rw [upd_id hz, upd_id hz]; exact h i j h1 h2
theorem Rise.del {W : Nat → Nat → Int} {n m : Nat} (h : Rise W n) : Rise (delW W m) (n - 1) := fun i j h1 h2 => by
  unfold delW
  by_cases a : i < m
  · rw [if_pos a]
    by_cases b : j < m
    · rw [if_pos b]; exact h i j h1 (by omega)
    · rw [if_neg b]; exact h i (j + 1) (by omega) (by omega)
  · rw [if_neg a, if_neg (by omega)]; exact h (i + 1) (j + 1) (by omega) (by omega)
theorem Rise.one {W : Nat → Nat → Int} {n i j : Nat} (h : Rise W n) (hi : i < n) (hj : j < n) (e : W i 0 = W j 0) : i = j := by
  rcases Nat.lt_trichotomy i j with a | a | a
  · have := h i j a hj; omega
  · exact a
  · have := h j i a hi; omega
theorem mapW_no {W : Nat → Nat → Int} {z : Int} : ∀ n, (∀ k, k < n → ¬ W k 0 = z) → mapW W n z = none
  | 0, _ => rfl
  | n + 1, h => by
    have h1 : ¬ z = W n 0 := fun e => h n (by omega) e.symm
    simp only [mapW, putM, if_neg h1]
    exact mapW_no n (fun k hk => h k (by omega))
theorem Rise.map {W : Nat → Nat → Int} {n m : Nat} (h : Rise W n) (hm : m < n) {z : Int} (hz : W m 0 = z) : mapW W n z = some (W m) :=
  mapW_some n hm hz (fun j h1 h2 e => by have := h m j h1 h2; omega)
theorem Rise.get {W : Nat → Nat → Int} {n : Nat} (h : Rise W n) (z : Int) : (∃ m, m < n ∧ W m 0 = z) ∨ ∀ k, k < n → ¬ W k 0 = z := by
  by_cases e : ∃ m, m < n ∧ W m 0 = z
  · exact .inl e
  · exact .inr (fun k hk e2 => e ⟨k, hk, e2⟩)
theorem putM_upd {W : Nat → Nat → Int} {n m : Nat} {Z : Nat → Int} (h : Rise W n) (hm : m < n) (hz : Z 0 = W m 0) {z : Int} (e : W m 0 = z) : putM (mapW W n) z Z = mapW (updW W m Z) n := by
  have h2 := h.upd hz
  subst e
  funext y
  unfold putM
  by_cases e : y = W m 0
  · rw [if_pos e, h2.map hm (by rw [upd_at, hz, e]), upd_at]
  · rw [if_neg e]
    rcases h.get y with ⟨k, hk, e2⟩ | hno
    · have hne : ¬ k = m := fun e3 => e (by rw [← e2, e3])
      rw [h.map hk e2, h2.map hk (by rw [upd_ne hne]; exact e2), upd_ne hne]
    · rw [mapW_no n hno, mapW_no n (fun k hk => by rw [upd_id hz]; exact hno k hk)]
def delM (M : Int → Option (Nat → Int)) (z : Int) : Int → Option (Nat → Int) := fun y => if y = z then none else M y
theorem delM_del {W : Nat → Nat → Int} {n m : Nat} (h : Rise W n) (hm : m < n) {z : Int} (e : W m 0 = z) : delM (mapW W n) z = mapW (delW W m) (n - 1) := by
  have h2 := h.del (m := m)
  subst e
  funext y
  unfold delM
  by_cases e : y = W m 0
  · rw [if_pos e, mapW_no (n - 1)]
    intro k hk e2
    unfold delW at e2
    split at e2
    · have := h.one (show k < n by omega) hm (by omega); omega
    · have := h.one (show k + 1 < n by omega) hm (by omega); omega
  · rw [if_neg e]
    rcases h.get y with ⟨k, hk, e2⟩ | hno
    · have hne : ¬ k = m := fun e3 => e (by rw [← e2, e3])
      rw [h.map hk e2]
      by_cases l : k < m
      · rw [h2.map (m := k) (by omega) (by simp only [delW, if_pos l]; exact e2)]; simp only [delW, if_pos l]
      · have hk1 : k - 1 + 1 = k := by omega
        rw [h2.map (m := k - 1) (by omega) (by simp only [delW]; rw [if_neg (by omega), hk1]; exact e2)]; simp only [delW]; rw [if_neg (by omega), hk1]
    · rw [mapW_no n hno, mapW_no (n - 1)]
      intro k hk
      unfold delW
      split
      · exact hno k (by omega)
      · exact hno (k + 1) (by omega)
theorem ins_del {W : Nat → Nat → Int} {n m : Nat} {Z : Nat → Int} (h : Rise W n) (hm : m < n) : ∀ k, k < n → insW (delW W m) (n - 1) (W m 0) Z k = updW W m Z k := by
  have hp : posW (delW W m) (W m 0) (n - 1) = m := by
    have h1 := posW_le (delW W m) (W m 0) (n - 1)
    rcases Nat.lt_trichotomy (posW (delW W m) (W m 0) (n - 1)) m with a | a | a
    · have h2 := posW_ge (delW W m) (W m 0) (n - 1) (posW (delW W m) (W m 0) (n - 1)) (Nat.le_refl _) (by omega)
      have h3 : delW W m (posW (delW W m) (W m 0) (n - 1)) = W (posW (delW W m) (W m 0) (n - 1)) := by simp only [delW, if_pos a]
      rw [h3] at h2
      have := h _ m a hm
      omega
    · exact a
    · have h2 := posW_lt (delW W m) (W m 0) (n - 1) h.del m a
      have h3 : delW W m m = W (m + 1) := by simp [delW]
      rw [h3] at h2
      have := h m (m + 1) (by omega) (by omega)
      omega
  intro k hk
  unfold insW
  rw [hp]
  by_cases a : k < m
  · rw [if_pos a, upd_ne (by omega)]; simp only [delW, if_pos a]
  · rw [if_neg a]
    by_cases b : k = m
    · rw [if_pos b, b, upd_at]
    · rw [if_neg b, upd_ne b]
      simp only [delW]
      rw [if_neg (by omega), show k - 1 + 1 = k by omega]
def idxW (W : Nat → Nat → Int) (z : Int) : Nat → Option Nat
  | 0 => none
  | n + 1 => if W n 0 = z then some n else idxW W z n
theorem idx_some {W : Nat → Nat → Int} {z : Int} {m : Nat} : ∀ n, Rise W n → m < n → W m 0 = z → idxW W z n = some m
  | 0, _, h, _ => by omega
  | n + 1, hr, h, hz => by
    unfold idxW
    by_cases e : W n 0 = z
    · rw [if_pos e]
      have := hr.one (show n < n + 1 by omega) h (by omega)
      rw [this]
    · rw [if_neg e]
      have hne : ¬ m = n := fun e2 => e (by rw [← e2]; exact hz)
      exact idx_some n (fun i j h1 h2 => hr i j h1 (by omega)) (by omega) hz
theorem idx_none {W : Nat → Nat → Int} {z : Int} : ∀ n, (∀ k, k < n → ¬ W k 0 = z) → idxW W z n = none
  | 0, _ => rfl
  | n + 1, h => by
    unfold idxW
    rw [if_neg (h n (by omega))]
    exact idx_none n (fun k hk => h k (by omega))
def zq (Z : Nat → Int) (s l : Int) : Nat → Int
  | 0 => Z 0
  | 1 => Z 1
  | 2 => Z 2
  | 3 => s
  | _ => l
def za (Z : Nat → Int) (a : Int) : Nat → Int
  | 0 => Z 0
  | 1 => a
  | 2 => Z 2
  | 3 => Z 3
  | _ => Z 4
def zc (Z : Nat → Int) (n : Int) : Nat → Int
  | 0 => Z 0
  | 1 => Z 1
  | 2 => Z 2 + n
  | 3 => Z 3
  | _ => Z 4
def pw (x : Int) (Z : Nat → Int) : Nat → Int
  | 0 => x
  | 1 => 1
  | 2 => Z 0
  | 3 => Z 1
  | 4 => Z 2
  | 5 => Z 3
  | 6 => Z 4
  | _ => 0
def pk (x n : Int) : Nat → Int
  | 0 => x
  | 1 => 2
  | 7 => n
  | _ => 0
def CV.setW (V : CV) (m : Nat) (Z : Nat → Int) : CV := { V with W := updW V.W m Z }
def CV.outW (V : CV) (m : Nat) : CV := { V with nW := V.nW - 1, W := delW V.W m }
def CV.gnd (V : CV) (z : Int) : CV := { V with g := z }
def CV.send (V : CV) (q : Nat) (P : Nat → Int) : CV := { V with N := fun i => if i = q then V.N q + 1 else V.N i, O := fun i => if i = q then updW (V.O q) (V.N q) P else V.O i, X := updI V.X q (V.X q + 1) }
theorem setW_setW {V : CV} {m : Nat} {Z Y : Nat → Int} : (V.setW m Z).setW m Y = V.setW m Y := by simp [CV.setW, upd_upd]
def stepV (c d : Int) (V : CV) (m : Nat) (t : Int) : CV × Int :=
  if cellF c d (V.W m 1 + stepF t) = -1 ∨ (¬ cellF c d (V.W m 1 + stepF t) = V.c ∧ ¬ V.X t.toNat < 5000) then (V, 2)
  else if cellF c d (V.W m 1 + stepF t) = V.c then (V.setW m (za (V.W m) (V.W m 1 + stepF t)), 1)
  else ((V.outW m).send t.toNat (pw (V.X t.toNat) (za (V.W m) (V.W m 1 + stepF t))), 1)
def giveV (V : CV) (m : Nat) (t n : Int) : CV × Int :=
  match idxW V.W t V.nW with
  | none => (V, 4)
  | some j => if V.W m 2 < n then (V, 3) else if 99 < V.W j 2 + n then (V, 5) else ((V.setW m (zc (V.W m) (-n))).setW j (zc (V.W j) n), 1)
def dropV (V : CV) (m : Nat) (n : Int) : CV × Int := if V.W m 2 < n then (V, 3) else if 900 < V.g + n then (V, 5) else ((V.setW m (zc (V.W m) (-n))).gnd (V.g + n), 1)
def pickV (V : CV) (m : Nat) (n : Int) : CV × Int := if V.g < n then (V, 6) else if 99 < V.W m 2 + n then (V, 5) else ((V.setW m (zc (V.W m) n)).gnd (V.g - n), 1)
def throwV (c d : Int) (V : CV) (m : Nat) (t n : Int) : CV × Int :=
  if edgeB c d (V.W m 1) t = false then (V, 7) else if V.W m 2 < n then (V, 3) else if ¬ V.X t.toNat < 5000 then (V, 5) else ((V.setW m (zc (V.W m) (-n))).send t.toNat (pk (V.X t.toNat) n), 1)
def kindV (c d : Int) (V : CV) (m : Nat) (k t n : Int) : CV × Int :=
  if k = 1 then stepV c d V m t else if k = 2 then giveV V m t n else if k = 3 then dropV V m n else if k = 4 then pickV V m n else if k = 5 then throwV c d V m t n else (V, 1)
def freshV (c d : Int) (V : CV) (m : Nat) (s k t n : Int) : CV × Int :=
  if (kindV c d (V.setW m (zq (V.W m) s 1)) m k t n).2 = 1 then kindV c d (V.setW m (zq (V.W m) s 1)) m k t n
  else (V.setW m (zq (V.W m) s (kindV c d (V.setW m (zq (V.W m) s 1)) m k t n).2), (kindV c d (V.setW m (zq (V.W m) s 1)) m k t n).2)
def doV (c d : Int) (V : CV) (o s k t n : Int) : CV × Int :=
  match idxW V.W o V.nW with
  | none => (V, 9)
  | some m => if s < V.W m 3 then (V, 8) else if s = V.W m 3 then (V, V.W m 4) else freshV c d V m s k t n
def doR (c d : Int) (V : CV) (o s k t n : Int) : CV × Int := if cllB c d V = false ∨ ordB o s k t n = false then (CV.zero, 0) else doV c d V o s k t n
end Go.Proofs.YthbkjfkkdaheoaaGreatDoor
namespace Go.Proofs.YthbkjfkkdaheoaaGreatDoor
open Go.RowKit Go.Deep Go.Maps Go.WideMaps Go.ChangeMaps Go.MapKept
set_option linter.unusedVariables false
theorem Wm.del {w : World} {b n : Nat} {M : Int → Option (Nat → Int)} (h : Wm w b n M) {z : Int} (hw : (Lit.int .i64 z).wf = true) (ty : TypeId) :
    ∃ w2, (Builtin.delete_ #[130, 3] ty #[.map (some b), .int .i64 z]).run Tryz.prog w = .ok (.tuple #[]) w2 ∧ Wm w2 b n (delM M z) ∧ w.grownBy w2 (some b) := by
  obtain ⟨es, clock, hb, hs, hn, hent, hno⟩ := h
  have K : Keyed Tryz.prog 3 := int_keyed Tryz.underlying3
  have hkey : keyOf Tryz.prog 3 (.int .i64 z) = some (.int .i64 z) := keyOf_int_mk Tryz.underlying3 hw
  have hst : ∃ es' : Array MapEntry, (Builtin.delete_ #[130, 3] ty #[.map (some b), .int .i64 z]).run Tryz.prog w = .ok (.tuple #[]) (setBlock w b (.map es' clock)) ∧ Stamped es' clock ∧ es'.size ≤ n ∧ ∀ x, x ∈ es'.toList ↔ (x ∈ es.toList ∧ x.key ≠ kI z) := by
    rcases K.find w hkey es.toList (keys_of hent) with ⟨h1, h2⟩ | ⟨j, e0, h1, h2, h3⟩
    · refine ⟨es, ?_, hs, hn, fun x => ⟨fun hx => ⟨hx, h2 x hx⟩, fun hx => hx.1⟩⟩
      simp [Builtin.delete_, run_underlying Tryz.underlying130, MapKept.run_getObj_map hb, K.check w _ hkey, h1, MapKept.run_setObj_map _ hb, Result.andThen, setBlock]
    · have hjl : j < es.toList.length := (List.getElem?_eq_some_iff.1 h2).1
      have hjs : j < es.size := by simpa using hjl
      have hsub : (es.eraseIdxIfInBounds j).toList = es.toList.eraseIdx j := by
        unfold Array.eraseIdxIfInBounds
        rw [dif_pos hjs]
        simp
      refine ⟨es.eraseIdxIfInBounds j, ?_, stamped_erase hs j, ?_, fun x => ?_⟩
      · simp [Builtin.delete_, run_underlying Tryz.underlying130, MapKept.run_getObj_map hb, K.check w _ hkey, h1, MapKept.run_setObj_map _ hb, Result.andThen, setBlock]
      · have h4 : (es.eraseIdxIfInBounds j).size = (es.toList.eraseIdx j).length := by rw [← hsub, Array.length_toList]
        have h5 := List.length_eraseIdx_le es.toList j
        have h6 : es.toList.length = es.size := by simp
        omega
      · rw [hsub, List.mem_eraseIdx_iff_getElem?]
        constructor
        · rintro ⟨i, hne, hi⟩
          refine ⟨List.mem_of_getElem? hi, ?_⟩
          have := stamps_apart hs hi h2 hne
          rw [h3] at this
          exact this
        · rintro ⟨hx, hne⟩
          obtain ⟨i, hi⟩ := List.getElem?_of_mem hx
          refine ⟨i, fun e1 => hne ?_, hi⟩
          rw [e1, h2] at hi
          cases hi
          exact h3
  obtain ⟨es', hrun, hs', hn', hwho⟩ := hst
  refine ⟨_, hrun, ⟨es', clock, heap_setBlock_same hb _, hs', hn', ?_, ?_⟩, ⟨rfl, rfl, rfl, by simp [setBlock], fun i _ hi => heap_setBlock_other hb _ (fun e1 => hi (by rw [e1]))⟩⟩
  · intro x hx
    obtain ⟨hx0, hne⟩ := (hwho x).1 hx
    obtain ⟨z', Z', hk, hw', hM, hv⟩ := hent x hx0
    have hz : ¬ z' = z := fun e => hne (by rw [hk, e])
    exact ⟨z', Z', hk, hw', by simp [delM, hz, hM], hv⟩
  · intro y Y hy
    by_cases hyz : y = z
    · simp [delM, hyz] at hy
    · simp [delM, hyz] at hy
      obtain ⟨x, hx, hk⟩ := hno y Y hy
      exact ⟨x, (hwho x).2 ⟨hx, fun e => hyz (kI_inj (hk.symm.trans e))⟩, hk⟩
theorem Sc.del {w : World} {c d : Int} {s b lo : Nat} {V : CV} {n : Nat} {M : Int → Option (Nat → Int)} (h : Sc w c d s b lo V n M) {z : Int} (hw : (Lit.int .i64 z).wf = true) (ty : TypeId) :
    ∃ w2, (Builtin.delete_ #[130, 3] ty #[.map (some b), .int .i64 z]).run Tryz.prog w = .ok (.tuple #[]) w2 ∧ Sc w2 c d s b lo V n (delM M z) ∧ Below lo w w2 ∧ w.grownBy w2 (some b) := by
  obtain ⟨aW, kW, kO, aX, kX, aI, kI, gW, gO, gX, gI, sl, xs, hN, rW, rX, rI, hO, hM, ⟨l1, l2, l3, l4, l5, l6, l7, l8⟩, ⟨d1, d2, d3, d4, d5, d6⟩, hx1, hx2⟩ := h
  obtain ⟨w2, hr, hm, hg⟩ := hM.del hw ty
  have hbl := hM.lt
  have hz := hg.size
  have k : ∀ g, g < w.heap.size → ¬ g = b → Sm w w2 g := fun g hg' hne => sm_grown hg hg' (fun e => hne (by injection e))
  refine ⟨w2, hr, ⟨aW, kW, kO, aX, kX, aI, kI, gW, gO, gX, gI, sl, xs, hN.sm (k s l4 l6), rW.go (Nat.le_refl _) hz (Nat.le_refl _) (fun e _ h => k gW h (d1 e).2.1), rX.go (Nat.le_refl _) hz (Nat.le_refl _) (fun e _ h => k gX h (d2 e).2.1), rI.go (Nat.le_refl _) hz (Nat.le_refl _) (fun e _ h => k gI h (d3 e).2.1),
    fun j hj => ⟨((k gO l2 l8 j).1).trans (hO j hj).1, ((k gO l2 l8 j).2).trans (hO j hj).2.1, (hO j hj).2.2.go (Nat.le_refl _) hz (Nat.le_refl _) (fun e _ h => k (xs j) h (hx1 j hj e).1.2.1)⟩, hm, ⟨l1, by omega, l3, by omega, l5, l6, l7, l8⟩, ⟨d1, d2, d3, d4, d5, d6⟩, hx1, hx2⟩, below_grown hg l5 (by omega), hg⟩
theorem Sc.nxt {w : World} {c d : Int} {s b lo : Nat} {V : CV} {n : Nat} {M : Int → Option (Nat → Int)} (h : Sc w c d s b lo V n M) {q : Nat} (hq : q < V.nX) :
    ∃ gX kX, w.cell? ⟨s, 6, none⟩ = some (.slice (some ⟨gX, 0, none⟩) V.nX kX) ∧ w.cell? ⟨gX, q, none⟩ = some (.int .i64 (V.X q)) ∧ w.frozen? ⟨gX, q, none⟩ = false ∧ lo ≤ gX ∧ gX < w.heap.size ∧ ¬ gX = s ∧ ¬ gX = b ∧
      ∀ z, Sc (w.setCell ⟨gX, q, none⟩ (.int .i64 z)) c d s b lo { V with X := updI V.X q z } n M := by
  obtain ⟨aW, kW, kO, aX, kX, aI, kI, gW, gO, gX, gI, sl, xs, hN, rW, rX, rI, hO, hM, ⟨l1, l2, l3, l4, l5, l6, l7, l8⟩, ⟨d1, d2, d3, d4, d5, d6⟩, hx1, hx2⟩ := h
  have h0 : V.nX ≠ 0 := by omega
  obtain ⟨e1, e2, e3⟩ := d2 h0
  rcases rX with ⟨e, _⟩ | ⟨cI, eI, i1, i2, i3, i4⟩
  · omega
  simp only [Value.slice.injEq, true_and] at eI
  obtain ⟨rfl, rfl⟩ := eI
  refine ⟨gX, kX, (hN 6 (by decide)).1, i4.2 q hq, (i4.1 q hq).2, i1, i2, e1, e2, fun z => ?_⟩
  have hz : w.heap.size = (w.setCell ⟨gX, q, none⟩ (.int .i64 z)).heap.size := set_size.symm
  have k : ∀ g, ¬ g = gX → Sm w (w.setCell ⟨gX, q, none⟩ (.int .i64 z)) g := fun g hg => sm_set hg
  refine ⟨aW, kW, kO, _, kX, aI, kI, gW, gO, gX, gI, sl, xs, hN.sm (k s (fun e => e1 e.symm)), rW.go (Nat.le_refl _) (Nat.le_of_eq hz) (Nat.le_refl _) (fun e _ _ => k gW (d4 e h0)), .inr ⟨kX, rfl, i1, by omega, Nat.le_refl _, own1_upd i4 hq⟩, rI.go (Nat.le_refl _) (Nat.le_of_eq hz) (Nat.le_refl _) (fun e _ _ => k gI (fun e' => d6 h0 e e'.symm)),
    fun j hj => ⟨((k gO e3 j).1).trans (hO j hj).1, ((k gO e3 j).2).trans (hO j hj).2.1, (hO j hj).2.2.go (Nat.le_refl _) (Nat.le_of_eq hz) (Nat.le_refl _) (fun e _ _ => k (xs j) ((hx1 j hj e).2.2.1 h0))⟩, hM.kept (P8.set_grown w gX q _).1 (fun e => e2 (by injection e with e; exact e.symm)), ⟨l1, by omega, l3, by omega, l5, l6, l7, l8⟩, ⟨d1, d2, d3, d4, d5, d6⟩, hx1, hx2⟩
theorem Sc.grow {w : World} {c d : Int} {s b lo : Nat} {V : CV} {n : Nat} {M : Int → Option (Nat → Int)} (h : Sc w c d s b lo V n M) {q : Nat} (hq : q < V.nO) :
    ∃ gO kO v xq, w.cell? ⟨s, 5, none⟩ = some (.slice (some ⟨gO, 0, none⟩) V.nO kO) ∧ w.cell? ⟨gO, q, none⟩ = some v ∧ w.frozen? ⟨gO, q, none⟩ = false ∧ lo ≤ gO ∧ gO < w.heap.size ∧ ¬ gO = s ∧ ¬ gO = b ∧ RPR lo w.heap.size w v (V.N q) (V.O q) xq ∧ (V.N q ≠ 0 → ¬ xq = s ∧ ¬ xq = b ∧ ¬ xq = gO) ∧
      ∀ (w' : World) (v' : Value) (Z' : Nat → Nat → Int) (g' : Nat), w.heap.size ≤ w'.heap.size → (∀ x, x < w.heap.size → (V.N q ≠ 0 → ¬ x = xq) → Sm w w' x) → w'.heap[b]? = w.heap[b]? → RPR lo w'.heap.size w' v' (V.N q + 1) Z' g' → ((V.N q ≠ 0 ∧ g' = xq) ∨ w.heap.size ≤ g') →
        Sc (w'.setCell ⟨gO, q, none⟩ v') c d s b lo { V with N := fun i => if i = q then V.N q + 1 else V.N i, O := fun i => if i = q then Z' else V.O i } n M := by
  obtain ⟨aW, kW, kO, aX, kX, aI, kI, gW, gO, gX, gI, sl, xs, hN, rW, rX, rI, hO, hM, ⟨l1, l2, l3, l4, l5, l6, l7, l8⟩, ⟨d1, d2, d3, d4, d5, d6⟩, hx1, hx2⟩ := h
  refine ⟨gO, kO, sl q, xs q, (hN 5 (by decide)).1, (hO q hq).1, (hO q hq).2.1, l1, l2, l7, l8, (hO q hq).2.2, fun e => (hx1 q hq e).1, fun w' v' Z' g' hz hsm hbb hR hg => ?_⟩
  have hbl := hM.lt
  have hz2 : (w'.setCell ⟨gO, q, none⟩ v').heap.size = w'.heap.size := set_size
  have k : ∀ x, x < w.heap.size → ¬ x = gO → (V.N q ≠ 0 → ¬ x = xs q) → Sm w (w'.setCell ⟨gO, q, none⟩ v') x := fun x h1 h2 h3 => (hsm x h1 h3).trans (sm_set h2)
  have kO' : ∀ j, ¬ j = q → (w'.setCell ⟨gO, q, none⟩ v').cell? ⟨gO, j, none⟩ = w.cell? ⟨gO, j, none⟩ := fun j hj => (set_out (fun e => hj e.2.symm)).trans (hsm gO l2 (fun e e' => (hx1 q hq e).1.2.2 e'.symm) j).1
  have kF : ∀ j, (w'.setCell ⟨gO, q, none⟩ v').frozen? ⟨gO, j, none⟩ = w.frozen? ⟨gO, j, none⟩ := fun j => set_frozen.trans (hsm gO l2 (fun e e' => (hx1 q hq e).1.2.2 e'.symm) j).2
  have cq : (w'.setCell ⟨gO, q, none⟩ v').cell? ⟨gO, q, none⟩ = some v' := set_in (by rw [(hsm gO l2 (fun e e' => (hx1 q hq e).1.2.2 e'.symm) q).1, (hO q hq).1]; rfl)
  have gs : ¬ g' = gO := by
    rcases hg with ⟨e, rfl⟩ | h
    · exact (hx1 q hq e).1.2.2
    · omega
  have apart : ∀ x, x < w.heap.size → (V.N q ≠ 0 → ¬ xs q = x) → ¬ g' = x := fun x h1 h2 => by
    rcases hg with ⟨e, rfl⟩ | h
    · exact h2 e
    · omega
  refine ⟨aW, kW, kO, aX, kX, aI, kI, gW, gO, gX, gI, fun i => if i = q then v' else sl i, fun i => if i = q then g' else xs i, hN.sm (k s l4 (fun e => l7 e.symm) (fun e e' => (hx1 q hq e).1.1 e'.symm)), rW.go (Nat.le_refl _) (by omega) (Nat.le_refl _) (fun e _ h => k gW h (d1 e).2.2 (fun e2 e' => (hx1 q hq e2).2.1 e e'.symm)), rX.go (Nat.le_refl _) (by omega) (Nat.le_refl _) (fun e _ h => k gX h (fun e' => (d2 e).2.2 e'.symm) (fun e2 e' => (hx1 q hq e2).2.2.1 e e'.symm)), rI.go (Nat.le_refl _) (by omega) (Nat.le_refl _) (fun e _ h => k gI h (fun e' => (d3 e).2.2 e'.symm) (fun e2 e' => (hx1 q hq e2).2.2.2 e e'.symm)),
    fun j hj => ?_, ?_, ⟨l1, by omega, l3, by omega, l5, l6, l7, l8⟩, ⟨d1, d2, d3, d4, d5, d6⟩, fun j hj e => ?_, fun i j hij hj e1 e2 => ?_⟩
  · dsimp only
    by_cases e : j = q
    · subst e
      rw [if_pos rfl, if_pos rfl, if_pos rfl, if_pos rfl]
      exact ⟨cq, (kF j).trans (hO j hj).2.1, hR.go (Nat.le_refl _) (Nat.le_of_eq hz2.symm) (Nat.le_refl _) (fun _ _ _ => sm_set gs)⟩
    · rw [if_neg e, if_neg e, if_neg e, if_neg e]
      refine ⟨(kO' j e).trans (hO j hj).1, (kF j).trans (hO j hj).2.1, (hO j hj).2.2.go (Nat.le_refl _) (by omega) (Nat.le_refl _) (fun e1 _ h => k (xs j) h (hx1 j hj e1).1.2.2 (fun e2 => ?_))⟩
      rcases Nat.lt_or_gt_of_ne e with a | a
      · exact hx2 j q a hq e1 e2
      · exact fun e' => hx2 q j a hj e2 e1 e'.symm
  · obtain ⟨es, clock, h1, r⟩ := hM
    exact ⟨es, clock, ((P8.set_grown w' gO q v').1.block b (by omega) (fun e => l8 (by injection e with e; exact e.symm))).trans (hbb.trans h1), r⟩
  · dsimp only at e ⊢
    by_cases e2 : j = q
    · subst e2
      rw [if_pos rfl]
      exact ⟨⟨apart s l4 (fun e => (hx1 j hj e).1.1), apart b hbl (fun e => (hx1 j hj e).1.2.1), gs⟩, fun eW => apart gW (rW.in eW).2 (fun e => (hx1 j hj e).2.1 eW), fun eX => apart gX (rX.in eX).2 (fun e => (hx1 j hj e).2.2.1 eX), fun eI => apart gI (rI.in eI).2 (fun e => (hx1 j hj e).2.2.2 eI)⟩
    · rw [if_neg e2] at e ⊢
      exact hx1 j hj e
  · dsimp only at e1 e2 ⊢
    by_cases a : i = q
    · subst a
      rw [if_pos rfl, if_neg (show ¬ j = i by omega)]
      rw [if_neg (show ¬ j = i by omega)] at e2
      exact apart (xs j) ((hO j hj).2.2.in e2).2 (fun e => hx2 i j hij hj e e2)
    · rw [if_neg a] at e1 ⊢
      by_cases b' : j = q
      · subst b'
        rw [if_pos rfl]
        exact fun e' => apart (xs i) ((hO i (by omega)).2.2.in e1).2 (fun e e3 => hx2 i j hij hj e1 e e3.symm) e'.symm
      · rw [if_neg b'] at e2 ⊢
        exact hx2 i j hij hj e1 e2
end Go.Proofs.YthbkjfkkdaheoaaGreatDoor
namespace Go.Proofs.YthbkjfkkdaheoaaGreatDoor
open Go.RowKit Go.Deep
set_option linter.unusedVariables false
theorem cllB_in {c d : Int} {V : CV} (h : cllB c d V = true) : (0 ≤ V.g ∧ V.g ≤ 900) ∧ ∀ q, q < 2 → 0 ≤ V.I q ∧ V.I q ≤ 5000 := by
  simp only [cllB, sideK, Bool.and_eq_true, inB_true] at h
  refine ⟨h.2.2.1, fun q hq => ?_⟩
  have : q = 0 ∨ q = 1 := by omega
  rcases this with rfl | rfl
  · exact h.2.2.2.2.2.2.2.1.2.1
  · exact h.2.2.2.2.2.2.2.2.2.1
theorem all_at {c d : Int} {Z : Nat → Nat → Int} {n : Nat} (h : allB c d Z n = true) (k : Nat) (hk : k < n) : 1 ≤ Z k 0 ∧ Z k 0 ≤ 9 := by
  have h1 := allB_down n (show k + 1 ≤ n by omega) h
  simp only [allB, goodB, wkB, wlkB, boundsB, Bool.and_eq_true, inB_true] at h1
  exact h1.2.1.1.1
theorem all_more {c d : Int} {Z : Nat → Nat → Int} {n : Nat} (h : allB c d Z n = true) : ∀ k, k < n → (k : Int) + 1 ≤ Z k 0
  | 0, hk => by have := (all_at h 0 hk).1; omega
  | k + 1, hk => by have := all_more h k (by omega); have := good_rise h k hk; omega
theorem cllB_nine {c d : Int} {V : CV} (h : cllB c d V = true) : V.nW ≤ 9 := by
  simp only [cllB, Bool.and_eq_true] at h
  by_cases e : V.nW = 0
  · omega
  · have h1 := all_more h.2.1 (V.nW - 1) (by omega)
    have h2 := (all_at h.2.1 (V.nW - 1) (by omega)).2
    omega
end Go.Proofs.YthbkjfkkdaheoaaGreatDoor
namespace Go.Proofs.YthbkjfkkdaheoaaGreatDoor
open Go.RowKit Go.Deep Go.Maps
set_option linter.unusedVariables false
def First (Z : Nat → Nat → Int) (n : Nat) (z : Int) (m : Nat) : Prop := m < n ∧ Z m 0 = z ∧ ∀ j, j < m → ¬ Z j 0 = z
def Noone (Z : Nat → Nat → Int) (n : Nat) (z : Int) : Prop := ∀ j, j < n → ¬ Z j 0 = z
theorem info5 : ∃ i, Tryz.prog.info? 54 = some i ∧ i.zero = some (.agg #[.int .i64 0, .int .i64 0, .int .i64 0, .int .i64 0, .int .i64 0]) ∧ i.size = 5 ∧ i.bytes = 40 := info_parts Tryz.info54
theorem five5_box (w : World) (Z : Nat → Nat → Int) (k : Nat) (t : TypeId) : ∀ j u, (five5 Z k)[j]? = some u → (w.alloc (.cells #[.int .i64 (Z k 0), .int .i64 (Z k 1), .int .i64 (Z k 2), .int .i64 (Z k 3), .int .i64 (Z k 4)] t)).cell? ((⟨w.heap.size, 0, none⟩ : Addr).add j) = some u := by
  intro j u hj
  match j, hj with
  | 0, hj => simp [five5] at hj; subst hj; simp [Addr.add]
  | 1, hj => simp [five5] at hj; subst hj; simp [Addr.add]
  | 2, hj => simp [five5] at hj; subst hj; simp [Addr.add]
  | 3, hj => simp [five5] at hj; subst hj; simp [Addr.add]
  | 4, hj => simp [five5] at hj; subst hj; simp [Addr.add]
  | j + 5, hj => simp [five5] at hj
theorem five5_one1 (Z : Nat → Nat → Int) (k : Nat) : ∀ u ∈ five5 Z k, u.oneCell' = true := by
  intro u hu; simp [five5] at hu; rcases hu with rfl | rfl | rfl | rfl | rfl <;> rfl
set_option maxHeartbeats 1000000 in
theorem find_yes (z : Int) (a : Option Addr) (b n cap m : Nat) (Z : Nat → Nat → Int) (hn : n ≤ 1048576) (w : World) (hb : n ≠ 0 → b < w.heap.size) (ha : n ≠ 0 → a = some ⟨b, 0, none⟩) (hF : First Z n z m) (hr : ∀ k j, k < n → j < 5 → w.cell? ⟨b, k * 5 + j, none⟩ = some (.int .i64 (Z k j))) :
    Calls Tryz.prog 80 #[.slice a n cap, .int .i64 z] w fun e w' => e = .returned (.tuple #[.agg #[.int .i64 (Z m 0), .int .i64 (Z m 1), .int .i64 (Z m 2), .int .i64 (Z m 3), .int .i64 (Z m 4)], .bool true]) ∧ Below w.heap.size w w' := by
  have HR : Hid (∀ k j, k < n → j < 5 → w.cell? ⟨b, k * 5 + j, none⟩ = some (.int .i64 (Z k j))) := hr
  obtain ⟨hm, hmz, hlt⟩ := hF
  obtain rfl := ha (by omega)
  replace hb := hb (by omega)
  have HM : Hid (Z m 0 = z ∧ ∀ j, j < m → ¬ Z j 0 = z) := ⟨hmz, hlt⟩
  clear hr hmz hlt ha
  go_enter Tryz.func80, Tryz.ntmps80
  go_wp2
  go_loopw [6] (fun i wr => ∃ k : Nat, k ≤ m ∧ i = .int .i64 k ∧ wr = w.alloc (.cells #[.int .i64 0, .int .i64 0, .int .i64 0, .int .i64 0, .int .i64 0] 54)) (fun i _ => n - (intOf i).toNat)
  case atStart => exact ⟨0, Nat.zero_le _, rfl, rfl⟩
  case round =>
    obtain ⟨k, hk, rfl, rfl⟩ := hrel
    have hkn : k < n := by omega
    have c0 : w.cell? ⟨b, k * 5, none⟩ = some (.int .i64 (Z k 0)) := HR.out k 0 hkn (by omega)
    have c1 : w.cell? ⟨b, k * 5 + 1, none⟩ = some (.int .i64 (Z k 1)) := HR.out k 1 hkn (by omega)
    have c2 : w.cell? ⟨b, k * 5 + 2, none⟩ = some (.int .i64 (Z k 2)) := HR.out k 2 hkn (by omega)
    have c3 : w.cell? ⟨b, k * 5 + 3, none⟩ = some (.int .i64 (Z k 3)) := HR.out k 3 hkn (by omega)
    have c4 : w.cell? ⟨b, k * 5 + 4, none⟩ = some (.int .i64 (Z k 4)) := HR.out k 4 hkn (by omega)
    by_cases hkm : k = m
    · have ez : (Z k 0 == z) = true := by rw [hkm]; simp [HM.out.1]
      have HK : Hid (k = m) := hkm
      clear hkm
      go_wp2
      exact bodyPost_ret (v := .tuple #[.agg #[.int .i64 (Z k 0), .int .i64 (Z k 1), .int .i64 (Z k 2), .int .i64 (Z k 3), .int .i64 (Z k 4)], .bool true]) (by simp [results, Tryz.results80, go_sem]) rfl ⟨by rw [HK.out], (Below.refl _ _).alloc (by simp) _⟩
    · have ez : (Z k 0 == z) = false := by simpa using HM.out.2 k (by omega)
      go_wp2
      go_roundw
      case rel => exact ⟨k + 1, by omega, by go_num, by trivial⟩
      case measure => simp [intOf]; omega
set_option maxHeartbeats 1000000 in
theorem find_no (z : Int) (a : Option Addr) (b n cap : Nat) (Z : Nat → Nat → Int) (hn : n ≤ 1048576) (w : World) (hb : n ≠ 0 → b < w.heap.size) (ha : n ≠ 0 → a = some ⟨b, 0, none⟩) (hF : Noone Z n z) (hr : ∀ k j, k < n → j < 5 → w.cell? ⟨b, k * 5 + j, none⟩ = some (.int .i64 (Z k j))) :
    Calls Tryz.prog 80 #[.slice a n cap, .int .i64 z] w fun e w' => e = .returned (.tuple #[.agg #[.int .i64 0, .int .i64 0, .int .i64 0, .int .i64 0, .int .i64 0], .bool false]) ∧ Below w.heap.size w w' := by
  have HR : Hid (∀ k j, k < n → j < 5 → w.cell? ⟨b, k * 5 + j, none⟩ = some (.int .i64 (Z k j))) := hr
  have HA : Hid (n ≠ 0 → a = some ⟨b, 0, none⟩) := ha
  have HB : Hid (n ≠ 0 → b < w.heap.size) := hb
  have HM : Hid (∀ j, j < n → ¬ Z j 0 = z) := hF
  clear hr hF ha hb
  go_enter Tryz.func80, Tryz.ntmps80
  go_wp2
  go_loopw [6] (fun i wr => ∃ k : Nat, k ≤ n ∧ i = .int .i64 k ∧ wr = w.alloc (.cells #[.int .i64 0, .int .i64 0, .int .i64 0, .int .i64 0, .int .i64 0] 54)) (fun i _ => n - (intOf i).toNat)
  case atStart => exact ⟨0, Nat.zero_le _, rfl, rfl⟩
  case round =>
    obtain ⟨k, hk, rfl, rfl⟩ := hrel
    by_cases hkn : k < n
    · have hkn' : (k : Int) < (n : Int) := by omega
      obtain rfl := HA.out (by omega)
      have hb := HB.out (by omega)
      have c0 : w.cell? ⟨b, k * 5, none⟩ = some (.int .i64 (Z k 0)) := HR.out k 0 hkn (by omega)
      have c1 : w.cell? ⟨b, k * 5 + 1, none⟩ = some (.int .i64 (Z k 1)) := HR.out k 1 hkn (by omega)
      have c2 : w.cell? ⟨b, k * 5 + 2, none⟩ = some (.int .i64 (Z k 2)) := HR.out k 2 hkn (by omega)
      have c3 : w.cell? ⟨b, k * 5 + 3, none⟩ = some (.int .i64 (Z k 3)) := HR.out k 3 hkn (by omega)
      have c4 : w.cell? ⟨b, k * 5 + 4, none⟩ = some (.int .i64 (Z k 4)) := HR.out k 4 hkn (by omega)
      have ez : (Z k 0 == z) = false := by simpa using HM.out k hkn
      clear HA
      go_wp2
      go_roundw
      case rel => exact ⟨k + 1, by omega, by go_num, by trivial⟩
      case measure => simp [intOf]; omega
    · clear HA
      go_wp2
      exact bodyPost_ret (v := .tuple #[.agg #[.int .i64 0, .int .i64 0, .int .i64 0, .int .i64 0, .int .i64 0], .bool false]) (by simp [results, Tryz.results80, go_sem]) rfl ⟨rfl, (Below.refl _ _).alloc (by simp) _⟩
theorem range_more (n : Nat) (Z : Nat → Nat → Int) : (List.range (n + 1)).flatMap (five5 Z) = (List.range n).flatMap (five5 Z) ++ five5 Z n := by
  rw [List.range_succ, List.flatMap_append]; simp
end Go.Proofs.YthbkjfkkdaheoaaGreatDoor
namespace Go.Proofs.YthbkjfkkdaheoaaGreatDoor
open Go.RowKit Go.Deep Go.Maps
set_option linter.unusedVariables false
theorem ownsRow_base {w : World} {base base' : Nat} {e : TypeId} {size : Nat} {v : Value} {n : Nat} {xs : List Value} (h : w.ownsRow base e size v n xs) (hb : base' ≤ base) : w.ownsRow base' e size v n xs := by
  refine ⟨h.1, ?_⟩
  rcases h.2 with h | ⟨g, cap, cur, hv, hg, r⟩
  · exact .inl h
  · exact .inr ⟨g, cap, cur, hv, Nat.le_trans hb hg, r⟩
def upto (p k : Nat) : Nat := if p < k then k + 1 else k
theorem upto_le (p k : Nat) : upto p k ≤ k + 1 := by unfold upto; split <;> omega
theorem five5_eq {Z Y : Nat → Nat → Int} {i j : Nat} (h : Z i = Y j) : five5 Z i = five5 Y j := by simp [five5, h]
theorem upto_lt {Z : Nat → Nat → Int} {n k : Nat} {Zp : Nat → Int} (h : k < posW Z (Zp 0) n) : upto (posW Z (Zp 0) n) (k + 1) = upto (posW Z (Zp 0) n) k + 1 ∧ (List.range (upto (posW Z (Zp 0) n) k + 1)).flatMap (five5 (insW Z n (Zp 0) Zp)) = (List.range (upto (posW Z (Zp 0) n) k)).flatMap (five5 (insW Z n (Zp 0) Zp)) ++ five5 Z k := by
  have e : upto (posW Z (Zp 0) n) k = k := if_neg (by omega)
  have e2 : upto (posW Z (Zp 0) n) (k + 1) = k + 1 := if_neg (by omega)
  rw [e, e2, range_more]
  exact ⟨rfl, by rw [five5_eq (show (insW Z n (Zp 0) Zp) k = Z k from if_pos h)]⟩
theorem upto_gt {Z : Nat → Nat → Int} {n k : Nat} {Zp : Nat → Int} (h : posW Z (Zp 0) n < k) : upto (posW Z (Zp 0) n) (k + 1) = upto (posW Z (Zp 0) n) k + 1 ∧ (List.range (upto (posW Z (Zp 0) n) k + 1)).flatMap (five5 (insW Z n (Zp 0) Zp)) = (List.range (upto (posW Z (Zp 0) n) k)).flatMap (five5 (insW Z n (Zp 0) Zp)) ++ five5 Z k := by
  have e : upto (posW Z (Zp 0) n) k = k + 1 := if_pos h
  have e2 : upto (posW Z (Zp 0) n) (k + 1) = k + 1 + 1 := if_pos (by omega)
  rw [e, e2, range_more]
  refine ⟨rfl, ?_⟩
  rw [five5_eq (Z := (insW Z n (Zp 0) Zp)) (Y := Z) (i := k + 1) (j := k) ?_]
  unfold insW
  rw [if_neg (by omega), if_neg (by omega)]; rfl
theorem upto_eq {Z : Nat → Nat → Int} {n k : Nat} {Zp : Nat → Int} (h : k = posW Z (Zp 0) n) : upto (posW Z (Zp 0) n) (k + 1) = upto (posW Z (Zp 0) n) k + 1 + 1 ∧ (List.range (upto (posW Z (Zp 0) n) k + 1 + 1)).flatMap (five5 (insW Z n (Zp 0) Zp)) = (List.range (upto (posW Z (Zp 0) n) k)).flatMap (five5 (insW Z n (Zp 0) Zp)) ++ five5 (fun _ => Zp) 0 ++ five5 Z k := by
  have e : upto (posW Z (Zp 0) n) k = k := if_neg (by omega)
  have e2 : upto (posW Z (Zp 0) n) (k + 1) = k + 1 + 1 := if_pos (by omega)
  rw [e, e2, range_more, range_more]
  refine ⟨rfl, ?_⟩
  rw [five5_eq (Y := Z) (j := k) (show (insW Z n (Zp 0) Zp) (k + 1) = Z k from ?_), five5_eq (Z := (insW Z n (Zp 0) Zp)) (Y := fun _ => Zp) (i := k) (j := 0) ?_]
  · unfold insW
    rw [if_neg (by omega), if_pos h]
  · unfold insW
    rw [if_neg (by omega), if_neg (by omega)]; rfl
theorem upto_end {Z : Nat → Nat → Int} {n : Nat} {Zp : Nat → Int} (h : ¬ posW Z (Zp 0) n < n) : upto (posW Z (Zp 0) n) n = n ∧ (List.range (n + 1)).flatMap (five5 (insW Z n (Zp 0) Zp)) = (List.range n).flatMap (five5 (insW Z n (Zp 0) Zp)) ++ five5 (fun _ => Zp) 0 := by
  have hl := posW_le Z (Zp 0) n
  refine ⟨if_neg h, ?_⟩
  rw [range_more, five5_eq (Z := (insW Z n (Zp 0) Zp)) (Y := fun _ => Zp) (i := n) (j := 0) ?_]
  unfold insW
  rw [if_neg (by omega), if_pos (by omega)]
end Go.Proofs.YthbkjfkkdaheoaaGreatDoor
namespace Go.Proofs.YthbkjfkkdaheoaaGreatDoor
open Go.RowKit Go.Deep
set_option linter.unusedVariables false
theorem OwnC.more {lo lo' hi hi' : Nat} {w w' : World} {v : Value} {V : CV} (h : OwnC lo hi w v V) (h0 : lo' ≤ lo) (h1 : hi ≤ hi') (h2 : hi' ≤ w'.heap.size) (k : ∀ b, lo ≤ b → b < hi → Sm w w' b) : OwnC lo' hi' w' v V := by
  obtain ⟨vW, vO, vX, vI, gW, gO, gX, gI, sl, xs, e, rW, rO, rX, rI, hd, hx1, hx2⟩ := h
  refine ⟨vW, vO, vX, vI, gW, gO, gX, gI, sl, xs, e, rW.go h0 h1 h2 (fun _ => k _), ?_, rX.go h0 h1 h2 (fun _ => k _), rI.go h0 h1 h2 (fun _ => k _), hd, hx1, hx2⟩
  rcases rO with r | ⟨co, e1, l1, l2, l3, hc⟩
  · exact .inl r
  · exact .inr ⟨co, e1, by omega, by omega, h2, fun j hj => ⟨(k gO l1 l2 j).1.trans (hc j hj).1, (hc j hj).2.go h0 h1 h2 (fun _ => k _)⟩⟩
theorem OwnC.row {lo hi : Nat} {w : World} {x0 x2 x3 x4 x5 : Value} {aW : Option Addr} {kW : Nat} {V : CV} (h : OwnC lo hi w (.agg #[x0, .slice aW V.nW kW, x2, x3, x4, x5]) V) : ∃ g, (V.nW ≠ 0 → aW = some ⟨g, 0, none⟩) ∧ (V.nW ≠ 0 → g < w.heap.size) ∧ ∀ k j, k < V.nW → j < 5 → w.cell? ⟨g, k * 5 + j, none⟩ = some (.int .i64 (V.W k j)) := by
  obtain ⟨vW, vO, vX, vI, gW, gO, gX, gI, sl, xs, e, rW, rO, rX, rI, hd, hx1, hx2⟩ := h
  obtain ⟨rfl, rfl, rfl, rfl⟩ := agg6 e
  rcases rW with ⟨e, _⟩ | ⟨c, e, l1, l2, l3, h4⟩
  · exact ⟨gW, fun h => absurd e h, fun h => absurd e h, fun k j hk => by omega⟩
  · simp only [Value.slice.injEq, true_and] at e
    exact ⟨gW, fun _ => e.1, fun _ => by omega, fun k j hk hj => h4.2 k j hk hj⟩
def Fr (lo : Nat) (Ok : Nat → Prop) (w w' : World) : Prop := Below lo w w' ∧ w.heap.size ≤ w'.heap.size ∧ ∀ x, x < w.heap.size → ¬ Ok x → Sm w w' x
theorem Fr.of {lo : Nat} {Ok : Nat → Prop} {w w' : World} (h : Below w.heap.size w w') (hl : lo ≤ w.heap.size) : Fr lo Ok w w' := ⟨h.mono hl, h.size, fun x hx _ => sm_below h hx⟩
def Md (lo : Nat) (Ok : Nat → Prop) (w : World) (v : Value) (V : CV) : Prop :=
  ∃ (gW cW gO cO gX cX gI cI : Nat) (sl : Nat → Value) (xs : Nat → Nat),
    v = .agg #[.int .i64 V.c, .slice (some ⟨gW, 0, none⟩) V.nW cW, .int .i64 V.g, .slice (some ⟨gO, 0, none⟩) V.nO cO, .slice (some ⟨gX, 0, none⟩) V.nX cX, .slice (some ⟨gI, 0, none⟩) V.nI cI] ∧
    (gW < w.heap.size ∧ ∀ k j, k < V.nW → j < 5 → w.cell? ⟨gW, k * 5 + j, none⟩ = some (.int .i64 (V.W k j))) ∧
    (∀ k, k < V.nO → w.cell? ⟨gO, k, none⟩ = some (sl k) ∧ w.frozen? ⟨gO, k, none⟩ = false ∧ RPS lo w.heap.size w (sl k) (V.N k) (V.O k) (xs k)) ∧
    (lo ≤ gO ∧ gO < w.heap.size ∧ lo ≤ gX ∧ gX < w.heap.size ∧ gI < w.heap.size ∧ ¬ gO = gX ∧ ¬ gO = gI ∧ ¬ gX = gI) ∧
    Own1 w gX V.nX V.X V.nX ∧ (∀ i, i < V.nI → w.cell? ⟨gI, i, none⟩ = some (.int .i64 (V.I i))) ∧
    (V.nW ≠ 0 → ¬ gW = gO ∧ ¬ gW = gX ∧ Ok gW) ∧ (∀ k, k < V.nO → V.N k ≠ 0 → (¬ xs k = gO ∧ ¬ xs k = gX ∧ ¬ xs k = gI) ∧ (V.nW ≠ 0 → ¬ xs k = gW) ∧ Ok (xs k)) ∧
    (∀ i j, i < j → j < V.nO → V.N i ≠ 0 → V.N j ≠ 0 → ¬ xs i = xs j) ∧ (Ok gO ∧ Ok gX ∧ Ok gI)
theorem RPS.go {lo hi lo' hi' : Nat} {w w' : World} {v : Value} {n : Nat} {Z : Nat → Nat → Int} {g : Nat} (h : RPS lo hi w v n Z g) (h0 : lo' ≤ lo) (h1 : hi ≤ hi') (h2 : hi' ≤ w'.heap.size) (k : n ≠ 0 → lo ≤ g → g < hi → Sm w w' g) : RPS lo' hi' w' v n Z g :=
  ⟨(RPR.go ⟨h.1, h.2.1⟩ h0 h1 h2 k).1, (RPR.go ⟨h.1, h.2.1⟩ h0 h1 h2 k).2, by obtain ⟨y, l, c, e, hy⟩ := h.2.2; exact ⟨y, l, c, e, by omega⟩⟩
theorem Md.in {lo : Nat} {Ok : Nat → Prop} {w : World} {v : Value} {V : CV} (h : Md lo Ok w v V) {Ok' : Nat → Prop} (k : ∀ x, x < w.heap.size → Ok x → Ok' x) : Md lo Ok' w v V := by
  obtain ⟨gW, cW, gO, cO, gX, cX, gI, cI, sl, xs, e, ⟨hW1, hW2⟩, hO, ⟨l1, l2, l3, l4, l5, n1, n2, n3⟩, hX, hI, d1, hx1, hx2, ⟨o1, o2, o3⟩⟩ := h
  exact ⟨gW, cW, gO, cO, gX, cX, gI, cI, sl, xs, e, ⟨hW1, hW2⟩, hO, ⟨l1, l2, l3, l4, l5, n1, n2, n3⟩, hX, hI, fun e => ⟨(d1 e).1, (d1 e).2.1, k _ hW1 (d1 e).2.2⟩, fun i hi e => ⟨(hx1 i hi e).1, (hx1 i hi e).2.1, k _ (by
    rcases (hO i hi).2.2.1 with ⟨e1, _⟩ | ⟨_, _, _, h2, _⟩
    · exact absurd e1 e
    · exact h2) (hx1 i hi e).2.2⟩, hx2, ⟨k _ l2 o1, k _ l4 o2, k _ l5 o3⟩⟩
theorem Md.sm {lo : Nat} {Ok : Nat → Prop} {w w' : World} {v : Value} {V : CV} (h : Md lo Ok w v V) (hz : w.heap.size ≤ w'.heap.size) (k : ∀ x, x < w.heap.size → Ok x → Sm w w' x) : Md lo Ok w' v V := by
  obtain ⟨gW, cW, gO, cO, gX, cX, gI, cI, sl, xs, e, ⟨hW1, hW2⟩, hO, ⟨l1, l2, l3, l4, l5, n1, n2, n3⟩, hX, hI, d1, hx1, hx2, ⟨o1, o2, o3⟩⟩ := h
  exact ⟨gW, cW, gO, cO, gX, cX, gI, cI, sl, xs, e, ⟨by omega, fun i j a b => (k gW hW1 (d1 (by omega)).2.2 _).1.trans (hW2 i j a b)⟩, fun i hi => ⟨(k gO l2 o1 i).1.trans (hO i hi).1, (k gO l2 o1 i).2.trans (hO i hi).2.1, (hO i hi).2.2.go (Nat.le_refl _) hz (Nat.le_refl _) (fun e _ h => k _ h (hx1 i hi e).2.2)⟩, ⟨l1, by omega, l3, by omega, by omega, n1, n2, n3⟩, own1_sm hX (k gX l4 o2), fun i hi => (k gI l5 o3 i).1.trans (hI i hi), d1, hx1, hx2, ⟨o1, o2, o3⟩⟩
theorem Md.below {lo : Nat} {Ok : Nat → Prop} {w w' : World} {v : Value} {V : CV} (h : Md lo Ok w v V) (hb : Below w.heap.size w w') : Md lo Ok w' v V := h.sm hb.size (fun x hx _ => sm_below hb hx)
theorem Md.src {lo : Nat} {Ok : Nat → Prop} {w : World} {v : Value} {V : CV} (h : Md lo Ok w v V) : CellS w v V := by
  obtain ⟨gW, cW, gO, cO, gX, cX, gI, cI, sl, xs, e, ⟨hW1, hW2⟩, hO, ⟨l1, l2, l3, l4, l5, n1, n2, n3⟩, hX, hI, d1, hx1, hx2, _⟩ := h
  refine ⟨gW, gO, gX, gI, cW, cO, cX, cI, hW1, l2, l4, l5, e, fun k j a b => by rw [Nat.zero_add]; exact hW2 k j a b, fun k hk => ?_, hX.2, hI⟩
  obtain ⟨h1, h2, h3⟩ := hO k hk
  obtain ⟨y, l, c, h4, hy⟩ := h3.2.2
  rcases h3.1 with ⟨h5, a', c', h6⟩ | ⟨c', h6, h7, h8, h9, h10⟩
  · have el : l = 0 := by rw [h4] at h6; simp only [Value.slice.injEq] at h6; exact h6.2.1
    subst el
    exact ⟨y, c, hy, by rw [h1, h4, h5], fun i j a b => by omega⟩
  · exact ⟨xs k, c', h8, by rw [h1, h6], fun i j a b => by rw [Nat.zero_add]; exact h10.2 i j a b⟩
theorem Md.gr {lo : Nat} {Ok : Nat → Prop} {w : World} {x0 x1 x2 x3 x4 x5 : Value} {V : CV} (h : Md lo Ok w (.agg #[x0, x1, x2, x3, x4, x5]) V) (z : Int) : Md lo Ok w (.agg #[x0, x1, .int .i64 z, x3, x4, x5]) (V.gnd z) := by
  obtain ⟨gW, cW, gO, cO, gX, cX, gI, cI, sl, xs, e, h⟩ := h
  simp only [Value.agg.injEq] at e
  have e := congrArg Array.toList e
  simp at e
  obtain ⟨rfl, rfl, rfl, rfl, rfl, rfl⟩ := e
  exact ⟨gW, cW, gO, cO, gX, cX, gI, cI, sl, xs, rfl, h⟩
theorem Md.wk {lo base n : Nat} {Ok : Nat → Prop} {w : World} {x0 x1 x2 x3 x4 x5 v : Value} {V : CV} {Z : Nat → Nat → Int} (h : Md lo Ok w (.agg #[x0, x1, x2, x3, x4, x5]) V) (h1 : ∀ x, base ≤ x → x < w.heap.size → Ok x) (h3 : Md lo (fun x => x < base) w (.agg #[x0, x1, x2, x3, x4, x5]) V) (ho : w.ownsRow base 54 5 v n ((List.range n).flatMap (five5 Z))) (hv : v ≠ .slice none 0 0) :
    Md lo Ok w (.agg #[x0, v, x2, x3, x4, x5]) (V.with n Z) := by
  obtain ⟨gW0, cW0, gO0, cO0, gX0, cX0, gI0, cI0, sl0, xs0, e0, hW0, hO0, _, _, _, _, hx0, _, ⟨o1, o2, o3⟩⟩ := h
  obtain ⟨gW, cW, gO, cO, gX, cX, gI, cI, sl, xs, e, hW, hO, ⟨l1, l2, l3, l4, l5, n1, n2, n3⟩, hX, hI, d1, hx1, hx2, ⟨p1, p2, p3⟩⟩ := h3
  simp only [Value.agg.injEq] at e e0
  have e := congrArg Array.toList e
  have e0 := congrArg Array.toList e0
  simp at e e0
  obtain ⟨rfl, rfl, rfl, rfl, rfl, rfl⟩ := e
  obtain ⟨_, _, _, ⟨rfl, _⟩, ⟨rfl, _⟩, ⟨rfl, _⟩⟩ := e0
  obtain ⟨g, rW, _⟩ := rw_of_own ho
  rcases ho.2 with ⟨e1, _⟩ | ⟨g2, cap, cur, e1, a1, a2, _⟩
  · exact absurd e1 hv
  subst e1
  have lt : g2 < w.heap.size := (Array.getElem?_eq_some_iff.1 a2).1
  have hg : n ≠ 0 → g = g2 := fun hn => by
    rcases rW with ⟨e, _⟩ | ⟨c, e, _⟩
    · exact absurd e hn
    · simp only [Value.slice.injEq, Option.some.injEq, Addr.mk.injEq, and_true, true_and] at e
      exact e.1.symm
  have xsame : ∀ k, k < V.nO → V.N k ≠ 0 → xs0 k = xs k := fun k hk e => by
    have h5 := (hO0 k hk).1
    rw [(hO k hk).1] at h5
    rcases (hO k hk).2.2.1 with ⟨e1, _⟩ | ⟨c, e1, _⟩
    · exact absurd e1 e
    · exact ((hO0 k hk).2.2.1.blk e ((Option.some.inj h5).symm.trans e1)).symm
  refine ⟨g2, cap, _, _, _, _, _, _, sl, xs, rfl, ⟨lt, fun k j hk hj => ?_⟩, hO, ⟨l1, l2, l3, l4, l5, n1, n2, n3⟩, hX, hI, fun _ => ⟨by omega, by omega, h1 _ a1 lt⟩, fun k hk e => ⟨(hx1 k hk e).1, fun _ => by have := (hx1 k hk e).2.2; omega, by rw [← xsame k hk e]; exact (hx0 k hk e).2.2⟩, hx2, ⟨o1, o2, o3⟩⟩
  have hk' : k < n := hk
  rcases rW with ⟨e, _⟩ | ⟨c, e, _, _, _, r⟩
  · omega
  · have := hg (by omega)
    subst this
    exact r.2 k j hk' hj
theorem RO.in0 {lo hi : Nat} {w : World} {v : Value} {n : Nat} {N : Nat → Nat} {O : Nat → Nat → Nat → Int} {g : Nat} {sl : Nat → Value} {xs : Nat → Nat} (h : RO lo hi w v n N O g sl xs) (e : n ≠ 0) : ∃ c, v = .slice (some ⟨g, 0, none⟩) n c ∧ lo ≤ g ∧ g < hi ∧ hi ≤ w.heap.size ∧ ∀ k, k < n → w.cell? ⟨g, k, none⟩ = some (sl k) ∧ RP lo hi w (sl k) (N k) (O k) (xs k) := by
  rcases h with h | h
  · exact absurd h.1 e
  · exact h
theorem RI.in0 {lo hi : Nat} {w : World} {v : Value} {n : Nat} {X : Nat → Int} {g : Nat} (h : RI lo hi w v n X g) (e : n ≠ 0) : ∃ c, v = .slice (some ⟨g, 0, none⟩) n c ∧ lo ≤ g ∧ g < hi ∧ hi ≤ w.heap.size ∧ Own1 w g n X n := by
  rcases h with h | h
  · exact absurd h.1 e
  · exact h
theorem RW.in0 {lo hi : Nat} {w : World} {v : Value} {n : Nat} {Z : Nat → Nat → Int} {g : Nat} (h : RW lo hi w v n Z g) (e : n ≠ 0) : ∃ c, v = .slice (some ⟨g, 0, none⟩) n c ∧ lo ≤ g ∧ g < hi ∧ hi ≤ w.heap.size ∧ Own5 w g n Z n := by
  rcases h with h | h
  · exact absurd h.1 e
  · exact h
theorem Md.of_own {lo hi : Nat} {w : World} {v : Value} {V : CV} (h : OwnC lo hi w v V) (hT : Thaw lo hi w v) (hF : Full w v) (hh : hi = w.heap.size) (e1 : V.nW ≠ 0) (e2 : V.nO ≠ 0) (e3 : V.nX ≠ 0) (e4 : V.nI ≠ 0) : Md lo (fun x => lo ≤ x ∧ x < hi) w v V := by
  subst hh
  obtain ⟨vW, vO, vX, vI, gW, gO, gX, gI, sl, xs, e, rW, rO, rX, rI, ⟨d1, d2, d3, d4, d5, d6⟩, hx1, hx2⟩ := h
  obtain ⟨cW, rfl, a1, a2, a3, a4⟩ := rW.in0 e1
  obtain ⟨cO, rfl, b1, b2, b3, b4⟩ := rO.in0 e2
  obtain ⟨cX, rfl, c1, c2, c3, c4⟩ := rX.in0 e3
  obtain ⟨cI, rfl, f1, f2, f3, f4⟩ := rI.in0 e4
  obtain ⟨t1, t2, t3, t4⟩ := hT _ _ _ gO V.nO cO _ _ e
  have hF := hF _ _ _ gO V.nO cO _ _ e
  refine ⟨gW, cW, gO, cO, gX, cX, gI, cI, sl, xs, e, ⟨by omega, fun k j a b => by have := own_row a4 k j a b; rw [Nat.zero_add] at this; exact this⟩, fun k hk => ⟨(b4 k hk).1, t3 k hk, (b4 k hk).2, ?_, ?_⟩, ⟨b1, b2, c1, c2, by omega, d4, d5, d6⟩, c4, f4.2, fun _ => ⟨d1, d2, a1, a2⟩, fun k hk en => ⟨⟨(hx1 k hk).2.1, (hx1 k hk).2.2.1, (hx1 k hk).2.2.2⟩, fun _ => (hx1 k hk).1, RP.in (b4 k hk).2 en⟩, fun i j hij hj _ _ => hx2 i j (by omega) hj (by omega), ⟨⟨b1, b2⟩, ⟨c1, c2⟩, ⟨f1, f2⟩⟩⟩
  · obtain ⟨a, c, e5⟩ := (b4 k hk).2.shape'
    exact t4 k _ a (V.N k) c hk (b4 k hk).1 e5
  · obtain ⟨y, l, c, e5, e6⟩ := hF k hk
    rw [(b4 k hk).1] at e5
    exact ⟨y, l, c, Option.some.inj e5, by omega⟩
theorem Md.post {lo : Nat} {Ok : Nat → Prop} {w : World} {x0 x1 x2 x5 : Value} {gO cO gX cX nO nX : Nat} {V : CV} (h : Md lo Ok w (.agg #[x0, x1, x2, .slice (some ⟨gO, 0, none⟩) nO cO, .slice (some ⟨gX, 0, none⟩) nX cX, x5]) V) {q : Nat} (hq : q < V.nO) (hqX : q < V.nX) :
    ∃ v xq, w.cell? ⟨gO, q, none⟩ = some v ∧ w.frozen? ⟨gO, q, none⟩ = false ∧ lo ≤ gO ∧ gO < w.heap.size ∧ RPS lo w.heap.size w v (V.N q) (V.O q) xq ∧ (V.N q ≠ 0 → ¬ xq = gO ∧ ¬ xq = gX ∧ lo ≤ xq ∧ xq < w.heap.size ∧ Ok xq) ∧ (lo ≤ gX ∧ gX < w.heap.size ∧ ¬ gO = gX ∧ Ok gO ∧ Ok gX) ∧ w.cell? ⟨gX, q, none⟩ = some (.int .i64 (V.X q)) ∧ w.frozen? ⟨gX, q, none⟩ = false ∧
      ∀ (w' : World) (v' : Value) (z : Int) (Z' : Nat → Nat → Int) (g' : Nat), w.heap.size ≤ w'.heap.size → (∀ x, x < w.heap.size → Ok x → ¬ x = gO → ¬ x = gX → (V.N q ≠ 0 → ¬ x = xq) → Sm w w' x) → (∀ j, w'.cell? ⟨gO, j, none⟩ = (if j = q then some v' else w.cell? ⟨gO, j, none⟩) ∧ w'.frozen? ⟨gO, j, none⟩ = w.frozen? ⟨gO, j, none⟩) → (∀ j, w'.cell? ⟨gX, j, none⟩ = (if j = q then some (.int .i64 z) else w.cell? ⟨gX, j, none⟩) ∧ w'.frozen? ⟨gX, j, none⟩ = w.frozen? ⟨gX, j, none⟩) →
        RPS lo w'.heap.size w' v' (V.N q + 1) Z' g' → ((V.N q ≠ 0 ∧ g' = xq) ∨ (w.heap.size ≤ g' ∧ Ok g')) →
        Md lo Ok w' (.agg #[x0, x1, x2, .slice (some ⟨gO, 0, none⟩) nO cO, .slice (some ⟨gX, 0, none⟩) nX cX, x5]) { V with N := fun i => if i = q then V.N q + 1 else V.N i, O := fun i => if i = q then Z' else V.O i, X := updI V.X q z } := by
  obtain ⟨gW, cW, gO', cO', gX', cX', gI, cI, sl, xs, e, ⟨hW1, hW2⟩, hO, ⟨l1, l2, l3, l4, l5, n1, n2, n3⟩, hX, hI, d1, hx1, hx2, ⟨o1, o2, o3⟩⟩ := h
  have e' := e
  simp only [Value.agg.injEq] at e'
  have e' := congrArg Array.toList e'
  simp at e'
  obtain ⟨_, _, _, ⟨rfl, _⟩, ⟨rfl, _⟩, _⟩ := e'
  have inP : ∀ k, k < V.nO → V.N k ≠ 0 → lo ≤ xs k ∧ xs k < w.heap.size := fun k hk e => by
    rcases (hO k hk).2.2.1 with ⟨e1, _⟩ | ⟨_, _, h1, h2, _⟩
    · exact absurd e1 e
    · exact ⟨h1, h2⟩
  refine ⟨sl q, xs q, (hO q hq).1, (hO q hq).2.1, l1, l2, (hO q hq).2.2, fun e => ⟨(hx1 q hq e).1.1, (hx1 q hq e).1.2.1, (inP q hq e).1, (inP q hq e).2, (hx1 q hq e).2.2⟩, ⟨l3, l4, n1, o1, o2⟩, hX.2 q hqX, (hX.1 q hqX).2, fun w' v' z Z' g' hz hsm hcO hcX hR hg => ?_⟩
  have k : ∀ x, x < w.heap.size → Ok x → ¬ x = gO → ¬ x = gX → (V.N q ≠ 0 → ¬ x = xs q) → Sm w w' x := hsm
  have kO' : ∀ j, ¬ j = q → w'.cell? ⟨gO, j, none⟩ = w.cell? ⟨gO, j, none⟩ := fun j hj => by rw [(hcO j).1, if_neg hj]
  have kF : ∀ j, w'.frozen? ⟨gO, j, none⟩ = w.frozen? ⟨gO, j, none⟩ := fun j => (hcO j).2
  have cq : w'.cell? ⟨gO, q, none⟩ = some v' := by rw [(hcO q).1, if_pos rfl]
  have hX' : Own1 w' gX V.nX (updI V.X q z) V.nX := ⟨fun i hi => by
    rw [(hcX i).1, (hcX i).2]
    refine ⟨?_, (hX.1 i hi).2⟩
    by_cases e : i = q
    · rw [if_pos e]; rfl
    · rw [if_neg e]; exact (hX.1 i hi).1, fun i hi => by
    rw [(hcX i).1]
    unfold updI
    by_cases e : i = q
    · rw [if_pos e, if_pos e]
    · rw [if_neg e, if_neg e]; exact hX.2 i hi⟩
  have gs : ¬ g' = gO := by
    rcases hg with ⟨e, rfl⟩ | h
    · exact (hx1 q hq e).1.1
    · omega
  have apart : ∀ x, x < w.heap.size → (V.N q ≠ 0 → ¬ xs q = x) → ¬ g' = x := fun x h1 h2 => by
    rcases hg with ⟨e, rfl⟩ | h
    · exact h2 e
    · omega
  refine ⟨gW, cW, gO, cO', gX, cX', gI, cI, fun i => if i = q then v' else sl i, fun i => if i = q then g' else xs i, e, ⟨by omega, fun i j a b => (k gW hW1 (d1 (by have a' : i < V.nW := a; omega)).2.2 (d1 (by have a' : i < V.nW := a; omega)).1 (d1 (by have a' : i < V.nW := a; omega)).2.1 (fun e e' => (hx1 q hq e).2.1 (by have a' : i < V.nW := a; omega) e'.symm) _).1.trans (hW2 i j a b)⟩,
    fun j hj => ?_, ⟨l1, by omega, l3, by omega, by omega, n1, n2, n3⟩, hX', fun i hi => (k gI l5 o3 (fun e => n2 e.symm) (fun e => n3 e.symm) (fun e e' => (hx1 q hq e).1.2.2 e'.symm) i).1.trans (hI i hi), d1, fun j hj e => ?_, fun i j hij hj e1 e2 => ?_, ⟨o1, o2, o3⟩⟩
  · dsimp only
    by_cases e : j = q
    · subst e
      rw [if_pos rfl, if_pos rfl, if_pos rfl, if_pos rfl]
      exact ⟨cq, (kF j).trans (hO j hj).2.1, hR⟩
    · rw [if_neg e, if_neg e, if_neg e, if_neg e]
      refine ⟨(kO' j e).trans (hO j hj).1, (kF j).trans (hO j hj).2.1, (hO j hj).2.2.go (Nat.le_refl _) (by omega) (Nat.le_refl _) (fun e1 _ h => k (xs j) h (hx1 j hj e1).2.2 (hx1 j hj e1).1.1 (hx1 j hj e1).1.2.1 (fun e2 => ?_))⟩
      rcases Nat.lt_or_gt_of_ne e with a | a
      · exact hx2 j q a hq e1 e2
      · exact fun e' => hx2 q j a hj e2 e1 e'.symm
  · dsimp only at e ⊢
    by_cases e2 : j = q
    · subst e2
      rw [if_pos rfl]
      exact ⟨⟨gs, apart gX (by omega) (fun e => (hx1 j hj e).1.2.1), apart gI l5 (fun e => (hx1 j hj e).1.2.2)⟩, fun eW => apart gW hW1 (fun e => (hx1 j hj e).2.1 eW), by rcases hg with ⟨e, rfl⟩ | h; exact (hx1 j hj e).2.2; exact h.2⟩
    · rw [if_neg e2] at e ⊢
      exact hx1 j hj e
  · dsimp only at e1 e2 ⊢
    by_cases a : i = q
    · subst a
      rw [if_pos rfl, if_neg (show ¬ j = i by omega)]
      rw [if_neg (show ¬ j = i by omega)] at e2
      exact apart (xs j) (by have := inP j hj e2; omega) (fun e => hx2 i j hij hj e e2)
    · rw [if_neg a] at e1 ⊢
      by_cases b' : j = q
      · subst b'
        rw [if_pos rfl]
        exact fun e' => apart (xs i) (by have := inP i (by omega) e1; omega) (fun e e3 => hx2 i j hij hj e1 e e3.symm) e'.symm
      · rw [if_neg b'] at e2 ⊢
        exact hx2 i j hij hj e1 e2
end Go.Proofs.YthbkjfkkdaheoaaGreatDoor
