/- A cell that is ok is ok behind a record; conditions: none. -/
import Derived.Test.YtngaboipleimcaaGreatDoorLB2
namespace Go.Proofs.YtngaboipleimcaaGreatDoor
open Go.RowKit Go.Deep
set_option linter.unusedVariables false
theorem allB_iff {c d : Int} {Z : Nat → Nat → Int} : ∀ n, allB c d Z n = true ↔ ∀ k, k < n → goodB c d Z k = true
  | 0 => by simp [allB]
  | n + 1 => by
    simp only [allB, Bool.and_eq_true]
    rw [allB_iff n]
    exact ⟨fun h k hk => by
      by_cases e : k = n
      · subst e; exact h.2
      · exact h.1 k (by omega), fun h => ⟨fun k hk => h k (by omega), h n (by omega)⟩⟩
theorem allK_iff {p : Nat → Bool} : ∀ n, allK p n = true ↔ ∀ k, k < n → p k = true
  | 0 => by simp [allK]
  | n + 1 => by
    simp only [allK, Bool.and_eq_true]
    rw [allK_iff n]
    exact ⟨fun h k hk => by
      by_cases e : k = n
      · subst e; exact h.2
      · exact h.1 k (by omega), fun h => ⟨fun k hk => h k (by omega), h n (by omega)⟩⟩
theorem allP_iff {c d next : Int} {m : Nat} {Z : Nat → Nat → Int} : ∀ n, P8.allP c d next m Z n = true ↔ ∀ k, k < n → P8.goodP c d next m Z k = true
  | 0 => by simp [P8.allP]
  | n + 1 => by
    simp only [P8.allP, Bool.and_eq_true]
    rw [allP_iff n]
    exact ⟨fun h k hk => by
      by_cases e : k = n
      · subst e; exact h.2
      · exact h.1 k (by omega), fun h => ⟨fun k hk => h k (by omega), h n (by omega)⟩⟩
/-- A walker that is ok, in the cell k. -/
def GW (c d k : Int) (Z : Nat → Int) : Prop := (1 ≤ Z 0 ∧ Z 0 ≤ 9) ∧ (0 ≤ Z 2 ∧ Z 2 ≤ 99) ∧ (0 ≤ Z 3 ∧ Z 3 ≤ 900) ∧ (0 ≤ Z 4 ∧ Z 4 ≤ 9) ∧ cellF c d (Z 1) = k
structure Cok (c d : Int) (V : CV) : Prop where
  has : hasB c d V.c = true
  W : ∀ k, k < V.nW → GW c d V.c (V.W k)
  rise : Rise V.W V.nW
  g : 0 ≤ V.g ∧ V.g ≤ 900
  two : V.nO = 2 ∧ V.nX = 2 ∧ V.nI = 2
  side : ∀ q : Nat, q < 2 → sideK c d V.c (q : Int) (V.N q) (V.O q) (V.X q) (V.I q) = true
theorem has_pos {c d k : Int} (h : hasB c d k = true) : 0 ≤ k ∧ okB c d = true := by
  simp only [hasB, Bool.and_eq_true, inB_true] at h
  exact ⟨h.2.1, h.1⟩
theorem cok_of {c d : Int} {V : CV} (h : cllB c d V = true) : Cok c d V := by
  have hr := cllB_rise h
  simp only [cllB, Bool.and_eq_true, beq_iff_eq, inB_true] at h
  obtain ⟨h1, h2, h3, h4, h5, h6, h7, h8, h9⟩ := h
  refine ⟨h1, fun k hk => ?_, hr, h3, ⟨h4, h5, h6⟩, fun q hq => ?_⟩
  · have a := (allB_iff _).1 h2 k hk
    have b := (allK_iff _).1 h7 k hk
    simp only [goodB, wkB, wlkB, boundsB, Bool.and_eq_true, inB_true] at a
    obtain ⟨⟨⟨a1, a2, a3, a4⟩, _⟩, _⟩ := a
    exact ⟨a1, a2, a3, a4, by simpa using b⟩
  · have : q = 0 ∨ q = 1 := by omega
    rcases this with rfl | rfl
    · exact h8
    · exact h9
theorem of_cok {c d : Int} {V : CV} (h : Cok c d V) : cllB c d V = true := by
  obtain ⟨h1, hW, hr, hg, ⟨h4, h5, h6⟩, hs⟩ := h
  have hp := (has_pos h1).1
  simp only [cllB, Bool.and_eq_true, beq_iff_eq, inB_true]
  refine ⟨h1, (allB_iff _).2 fun k hk => ?_, hg, h4, h5, h6, (allK_iff _).2 fun k hk => ?_, hs 0 (by omega), hs 1 (by omega)⟩
  · obtain ⟨a1, a2, a3, a4, a5⟩ := hW k hk
    simp only [goodB, wkB, wlkB, boundsB, Bool.and_eq_true, inB_true, a5]
    refine ⟨⟨⟨a1, a2, a3, a4⟩, by simp; omega⟩, ?_⟩
    by_cases e : k = 0
    · simp [e]
    · have := hr (k - 1) k (by omega) hk
      simp [this]
  · have := (hW k hk).2.2.2.2
    simp [this]
theorem Cok.setW {c d : Int} {V : CV} (h : Cok c d V) {m : Nat} {Z : Nat → Int} (hz : Z 0 = V.W m 0) (hg : GW c d V.c Z) : Cok c d (V.setW m Z) :=
  ⟨h.has, fun k hk => by
    show GW c d V.c (updW V.W m Z k)
    by_cases e : k = m
    · subst e; rw [upd_at]; exact hg
    · rw [upd_ne e]; exact h.W k hk, h.rise.upd hz, h.g, h.two, h.side⟩
theorem Cok.outW {c d : Int} {V : CV} (h : Cok c d V) (m : Nat) : Cok c d (V.outW m) :=
  ⟨h.has, fun k (hk : k < V.nW - 1) => by
    show GW c d V.c (delW V.W m k)
    unfold delW
    split
    · exact h.W k (by omega)
    · exact h.W (k + 1) (by omega), h.rise.del, h.g, h.two, h.side⟩
theorem Cok.gnd {c d : Int} {V : CV} (h : Cok c d V) {z : Int} (hz : 0 ≤ z ∧ z ≤ 900) : Cok c d (V.gnd z) := ⟨h.has, h.W, h.rise, hz, h.two, h.side⟩
theorem side_send {c d VC s : Int} {N : Nat} {Z : Nat → Nat → Int} {xn xi : Int} {P : Nat → Int} (h : sideK c d VC s N Z xn xi = true) (hx : xn < 5000) (hs : ¬ sideF c d VC s = -1) (hP : pclB c d (P 0) (P 1) (P 2) (P 3) (P 4) (P 5) (P 6) (P 7) = true) (h0 : P 0 = xn)
    (hw : P 1 = 1 → cellF c d (P 3) = sideF c d VC s) : sideK c d VC s (N + 1) (updW Z N P) (xn + 1) xi = true := by
  simp only [sideK, P8.listP, Bool.and_eq_true, inB_true, decide_eq_true_eq, if_neg hs] at h ⊢
  obtain ⟨⟨h1, h2, h3, h4⟩, h5, h6⟩ := h
  refine ⟨⟨h1, by omega, by omega, (allP_iff _).2 fun k hk => ?_⟩, h5, (allK_iff _).2 fun k hk => ?_⟩
  · by_cases e : k = N
    · subst e
      simp only [P8.goodP, upd_at, Bool.and_eq_true, beq_iff_eq]
      exact ⟨hP, by omega⟩
    · have a := (allP_iff _).1 h4 k (by omega)
      simp only [P8.goodP, upd_ne e, Bool.and_eq_true, beq_iff_eq] at a ⊢
      exact ⟨a.1, by omega⟩
  · by_cases e : k = N
    · subst e
      rw [upd_at]
      by_cases e1 : P 1 = 1
      · simp [e1, hw e1]
      · simp [e1]
    · rw [upd_ne e]
      exact (allK_iff _).1 h6 k (by omega)
theorem Cok.send {c d : Int} {V : CV} (h : Cok c d V) {q : Nat} {P : Nat → Int} (hq : q < 2) (hx : V.X q < 5000) (hs : ¬ sideF c d V.c (q : Int) = -1) (hP : pclB c d (P 0) (P 1) (P 2) (P 3) (P 4) (P 5) (P 6) (P 7) = true) (h0 : P 0 = V.X q)
    (hw : P 1 = 1 → cellF c d (P 3) = sideF c d V.c (q : Int)) : Cok c d (V.send q P) :=
  ⟨h.has, h.W, h.rise, h.g, h.two, fun j hj => by
    show sideK c d V.c (j : Int) (if j = q then V.N q + 1 else V.N j) (if j = q then updW (V.O q) (V.N q) P else V.O j) (updI V.X q (V.X q + 1) j) (V.I j) = true
    unfold updI
    by_cases e : j = q
    · subst e
      simp only [if_true]
      exact side_send (h.side j hj) hx hs hP h0 hw
    · simp only [if_neg e]
      exact h.side j hj⟩
/-- Who steps out of a cell steps into the one that lies there. -/
theorem cell_next {c d a k t : Int} (h : cellF c d a = k) (hk : hasB c d k = true) (ht : t = 0 ∨ t = 1) (h1 : ¬ cellF c d (a + stepF t) = -1) (h2 : ¬ cellF c d (a + stepF t) = k) : ¬ sideF c d k t = -1 ∧ cellF c d (a + stepF t) = sideF c d k t := by
  have hp := has_pos hk
  have hb := okB_bounds hp.2
  have hkb := hasB_bounds hk
  unfold cellF at h h1 h2 ⊢
  simp only [hp.2, true_and, inB_true] at h h1 h2 ⊢
  have e1 : 0 ≤ a ∧ a ≤ c * d - 1 := by
    by_cases e : 0 ≤ a ∧ a ≤ c * d - 1
    · exact e
    · rw [if_neg e] at h; omega
  have e2 : 0 ≤ a + stepF t ∧ a + stepF t ≤ c * d - 1 := by
    by_cases e : 0 ≤ a + stepF t ∧ a + stepF t ≤ c * d - 1
    · exact e
    · rw [if_neg e] at h1; exact absurd rfl h1
  rw [if_pos e1] at h
  rw [if_pos e2] at h1 h2 ⊢
  have hst : stepF t = -1 ∧ t = 0 ∨ stepF t = 1 ∧ t = 1 := by
    rcases ht with rfl | rfl
    · exact .inl ⟨rfl, rfl⟩
    · exact .inr ⟨rfl, rfl⟩
  have hd : d = 2 ∨ d = 3 ∨ d = 4 ∨ d = 5 ∨ d = 6 ∨ d = 7 ∨ d = 8 := by omega
  have key : (a + stepF t) / d = k + stepF t ∧ 0 ≤ k + stepF t ∧ k + stepF t ≤ c - 1 := by
    rcases hst with ⟨e, _⟩ | ⟨e, _⟩ <;> rw [e] at e2 h2 ⊢ <;> rcases hd with rfl | rfl | rfl | rfl | rfl | rfl | rfl <;> omega
  have hne : ¬ stepF t = 0 := by rcases hst with ⟨e, _⟩ | ⟨e, _⟩ <;> omega
  have hs : sideF c d k t = k + stepF t := if_pos ⟨hk, hne, (hasB_true hp.2).2 key.2⟩
  rw [hs, key.1]
  exact ⟨by omega, rfl⟩
theorem gw_q {c d k : Int} {Z : Nat → Int} (h : GW c d k Z) {s l : Int} (hs : 0 ≤ s ∧ s ≤ 900) (hl : 0 ≤ l ∧ l ≤ 9) : GW c d k (zq Z s l) := ⟨h.1, h.2.1, hs, hl, h.2.2.2.2⟩
theorem gw_c {c d k : Int} {Z : Nat → Int} (h : GW c d k Z) {n : Int} (hn : 0 ≤ Z 2 + n ∧ Z 2 + n ≤ 99) : GW c d k (zc Z n) := ⟨h.1, hn, h.2.2.1, h.2.2.2.1, h.2.2.2.2⟩
theorem gw_a {c d k : Int} {Z : Nat → Int} (h : GW c d k Z) {a : Int} (ha : cellF c d a = k) : GW c d k (za Z a) := ⟨h.1, h.2.1, h.2.2.1, h.2.2.2.1, ha⟩
theorem idx_lt {W : Nat → Nat → Int} {z : Int} {m : Nat} : ∀ n, idxW W z n = some m → m < n ∧ W m 0 = z
  | 0, h => by simp [idxW] at h
  | n + 1, h => by
    unfold idxW at h
    split at h
    · simp only [Option.some.injEq] at h; subst h; rename_i e; exact ⟨by omega, e⟩
    · have := idx_lt n h; exact ⟨by omega, this.2⟩
theorem Cok.step {c d : Int} {V : CV} (h : Cok c d V) {m : Nat} (hm : m < V.nW) {t : Int} (ht : t = 0 ∨ t = 1) (h1 : (stepV c d V m t).2 = 1) : Cok c d (stepV c d V m t).1 := by
  have w := h.W m hm
  obtain ⟨w1, w2, w3, w4, w5⟩ := w
  have ho := (has_pos h.has).2
  unfold stepV at h1 ⊢
  split at h1
  · simp at h1
  · rename_i g
    rw [if_neg g]
    simp only [not_or, not_and] at g
    split
    · rename_i e
      exact h.setW rfl (gw_a ⟨w1, w2, w3, w4, w5⟩ e)
    · rename_i e
      have hx : V.X t.toNat < 5000 := by have := g.2 e; omega
      obtain ⟨a1, a2⟩ := cell_next w5 h.has ht g.1 e
      have hx0 : 0 ≤ V.X t.toNat := by
        have hs := h.side t.toNat (by omega)
        simp only [sideK, P8.listP, Bool.and_eq_true, inB_true, decide_eq_true_eq] at hs
        exact hs.1.2.1.1
      have et : ((t.toNat : Nat) : Int) = t := by omega
      refine (h.outW m).send (q := t.toNat) (by omega) hx (by rw [et]; exact a1) ?_ rfl (fun _ => by rw [et]; exact a2)
      simp only [pw, za, pclB, ho, Bool.true_and, Bool.and_eq_true, inB_true, if_true, wlkB, boundsB]
      exact ⟨⟨hx0, by omega⟩, ⟨⟨w1, w2, w3, w4⟩, by simpa using g.1⟩, by simp⟩
theorem Cok.kind {c d : Int} {V : CV} (h : Cok c d V) {m : Nat} (hm : m < V.nW) {o k t n : Int} (hk : kindB o k t n = true) (h1 : (kindV c d V m k t n).2 = 1) : Cok c d (kindV c d V m k t n).1 := by
  have w := h.W m hm
  have w2 := w.2.1
  have hgr := h.g
  have ho := (has_pos h.has).2
  unfold kindB at hk
  unfold kindV at h1 ⊢
  by_cases k1 : k = 1
  · rw [if_pos k1] at hk h1 ⊢
    simp only [sideB, Bool.and_eq_true, inB_true] at hk
    exact h.step hm (by omega) h1
  rw [if_neg k1] at hk h1 ⊢
  by_cases k2 : k = 2
  · rw [if_pos k2] at hk h1 ⊢
    simp only [Bool.and_eq_true, inB_true] at hk
    unfold giveV at h1 ⊢
    split
    · exact h
    · rename_i j ej
      obtain ⟨hj, _⟩ := idx_lt _ ej
      split
      · exact h
      · rename_i g1
        split
        · exact h
        · rename_i g2
          have wj := h.W j hj
          have hh := h.setW (m := m) (Z := zc (V.W m) (-n)) rfl (gw_c w (by omega))
          refine hh.setW (m := j) ?_ (gw_c wj (by have := wj.2.1; omega))
          show V.W j 0 = updW V.W m (zc (V.W m) (-n)) j 0
          exact (upd_id (Z := zc (V.W m) (-n)) rfl j).symm
  rw [if_neg k2] at hk h1 ⊢
  by_cases k3 : k = 3
  · rw [if_pos k3] at hk h1 ⊢
    simp only [Bool.and_eq_true, inB_true] at hk
    unfold dropV at h1 ⊢
    split
    · exact h
    · split
      · exact h
      · exact (h.setW (m := m) (Z := zc (V.W m) (-n)) rfl (gw_c w (by omega))).gnd (by omega)
  rw [if_neg k3] at hk h1 ⊢
  by_cases k4 : k = 4
  · rw [if_pos k4] at hk h1 ⊢
    simp only [Bool.and_eq_true, inB_true] at hk
    unfold pickV at h1 ⊢
    split
    · exact h
    · split
      · exact h
      · exact (h.setW (m := m) (Z := zc (V.W m) n) rfl (gw_c w (by omega))).gnd (by omega)
  rw [if_neg k4] at hk h1 ⊢
  by_cases k5 : k = 5
  · rw [if_pos k5] at hk h1 ⊢
    simp only [sideB, Bool.and_eq_true, inB_true] at hk
    unfold throwV at h1 ⊢
    split
    · exact h
    · rename_i ge
      split
      · exact h
      · rename_i g1
        split
        · exact h
        · rename_i g2
          have hx0 : 0 ≤ V.X t.toNat := by
            have hs := h.side t.toNat (by omega)
            simp only [sideK, P8.listP, Bool.and_eq_true, inB_true, decide_eq_true_eq] at hs
            exact hs.1.2.1.1
          have et : ((t.toNat : Nat) : Int) = t := by omega
          have he : edgeB c d (V.W m 1) t = true := by simpa using ge
          simp only [edgeB, Bool.and_eq_true, decide_eq_true_eq, w.2.2.2.2] at he
          refine (h.setW (m := m) (Z := zc (V.W m) (-n)) rfl (gw_c w (by omega))).send (q := t.toNat) (by omega) (by show V.X t.toNat < 5000; omega) (by rw [et]; exact he.1) ?_ rfl (fun e => by simp [pk] at e)
          have hx5 : V.X t.toNat ≤ 4999 := by omega
          simp [pk, pclB, ho, inB, noWalker]
          exact ⟨⟨hx0, hx5⟩, hk.2⟩
  rw [if_neg k5] at h1 ⊢
  exact h
theorem kind_code {c d : Int} {V : CV} {m : Nat} {k t n : Int} : 1 ≤ (kindV c d V m k t n).2 ∧ (kindV c d V m k t n).2 ≤ 9 := by
  unfold kindV
  repeat' split
  · exact code_step.1
  · exact code_give.1
  · exact code_drop.1
  · exact code_pick.1
  · exact code_throw.1
  · simp
theorem Cok.doV {c d : Int} {V : CV} (h : Cok c d V) {o s k t n : Int} (hO : ordB o s k t n = true) : Cok c d (doV c d V o s k t n).1 := by
  simp only [ordB, Bool.and_eq_true, inB_true] at hO
  unfold Go.Proofs.YtngaboipleimcaaGreatDoor.doV
  split
  · exact h
  · rename_i m em
    obtain ⟨hm, _⟩ := idx_lt _ em
    split
    · exact h
    · split
      · exact h
      · have w := h.W m hm
        have h2 := h.setW (m := m) (Z := zq (V.W m) s 1) rfl (gw_q w (by omega) (by omega))
        obtain ⟨_, e⟩ := fresh_of (c := c) (d := d) (V := V) (m := m) (s := s) (k := k) (t := t) (n := n) rfl
        rw [e]
        split
        · rename_i h1
          exact h2.kind (o := o) hm hO.2.2 h1
        · have hc := kind_code (c := c) (d := d) (V := V.setW m (zq (V.W m) s 1)) (m := m) (k := k) (t := t) (n := n)
          exact h.setW rfl (gw_q w (by omega) (by omega))
theorem side_in {c d VC s : Int} {N : Nat} {Z : Nat → Nat → Int} {xn xi yi : Int} (h : sideK c d VC s N Z xn xi = true) (hs : ¬ sideF c d VC s = -1) (hy : 0 ≤ yi ∧ yi ≤ 5000) : sideK c d VC s N Z xn yi = true := by
  simp only [sideK, Bool.and_eq_true, inB_true, if_neg hs] at h ⊢
  exact ⟨h.1, hy, h.2.2⟩
theorem Cok.inn {c d : Int} {V : CV} (h : Cok c d V) {q : Nat} {pn pk pi pa pm ps pl pc : Int} (hq : q < 2) (hs : ¬ sideF c d V.c (q : Int) = -1) (hp : pclB c d pn pk pi pa pm ps pl pc = true) : Cok c d (CV.inn c d V q pn pk pi pa pm ps pl pc) := by
  unfold CV.inn
  split
  · rename_i ht
    simp only [takeB, roomB, Bool.and_eq_true] at ht
    simp only [pclB, Bool.and_eq_true, inB_true] at hp
    obtain ⟨ho, hn, hp⟩ := hp
    have e1 : pn = V.I q := by simpa using ht.1
    have hside : ∀ j : Nat, j < 2 → sideK c d V.c (j : Int) (V.N j) (V.O j) (V.X j) (updI V.I q (V.I q + 1) j) = true := fun j hj => by
      unfold updI
      by_cases e : j = q
      · subst e
        rw [if_pos rfl]
        exact side_in (h.side j hj) hs (by omega)
      · rw [if_neg e]; exact h.side j hj
    by_cases k1 : pk = 1
    · rw [if_pos k1]
      rw [if_pos k1] at hp
      rw [if_neg (show ¬ pk = 2 by omega)] at ht
      simp only [wlkB, boundsB, Bool.and_eq_true, inB_true, beq_iff_eq] at hp ht
      obtain ⟨⟨⟨b1, b2, b3, b4⟩, b5⟩, b6⟩ := hp
      have hno : ∀ k, k < V.nW → ¬ V.W k 0 = pi := fun k hk e => by
        have := h.rise.map hk e
        simp [this] at ht
      have hg : GW c d V.c (zp pi pa pm ps pl) := ⟨b1, b2, b3, b4, ht.2.2⟩
      refine ⟨h.has, fun k (hk : k < V.nW + 1) => ?_, ins_rise h.rise hno rfl, ?_, h.two, hside⟩
      · show GW c d V.c (insW V.W V.nW pi (zp pi pa pm ps pl) k)
        have := posW_le V.W pi V.nW
        unfold insW
        split
        · exact h.W k (by omega)
        · split
          · exact hg
          · exact h.W (k - 1) (by omega)
      · show 0 ≤ (if pk = 1 then V.g else V.g + pc) ∧ (if pk = 1 then V.g else V.g + pc) ≤ 900
        rw [if_pos k1]; exact h.g
    · rw [if_neg k1]
      rw [if_neg k1] at hp
      simp only [Bool.and_eq_true, inB_true, beq_iff_eq] at hp
      obtain ⟨k2, _, k3⟩ := hp
      rw [if_pos k2] at ht
      have hr := of_decide_eq_true ht.2
      have := h.g
      refine ⟨h.has, h.W, h.rise, ?_, h.two, hside⟩
      show 0 ≤ (if pk = 1 then V.g else V.g + pc) ∧ (if pk = 1 then V.g else V.g + pc) ≤ 900
      rw [if_neg k1]
      omega
  · exact h
theorem filt (s : Nat) : ∀ n, (List.range n).filter (fun j => decide (s ≤ j)) = (List.range (n - s)).map (· + s)
  | 0 => by simp
  | n + 1 => by
    rw [List.range_succ, List.filter_append, filt s n]
    by_cases h : s ≤ n
    · rw [show n + 1 - s = (n - s) + 1 by omega, List.range_succ, List.map_append]
      simp [h]
    · rw [show n + 1 - s = 0 by omega, show n - s = 0 by omega]
      simp [h]
theorem rest_end {Z : Nat → Nat → Int} {n : Nat} {next z : Int} (h : ∀ k, k < n → Z k 0 = next - n + k) : ∃ s, s ≤ n ∧ P8.rest Z n z = (List.range (n - s)).map (· + s) := by
  refine ⟨min n (z - (next - n)).toNat, Nat.min_le_left _ _, ?_⟩
  rw [← filt _ n]
  unfold P8.rest
  apply List.filter_congr
  intro k hk
  have hk' := List.mem_range.1 hk
  rw [h k hk']
  exact decide_eq_decide.2 (by omega)
theorem Cok.after {c d : Int} {V : CV} (h : Cok c d V) {q : Nat} (z : Int) (hq : q < 2) : Cok c d (V.after q z) := by
  unfold CV.after
  split
  · refine ⟨h.has, h.W, h.rise, h.g, h.two, fun j hj => ?_⟩
    show sideK c d V.c (j : Int) (if j = q then (P8.rest (V.O q) (V.N q) z).length else V.N j) (if j = q then fun i j => V.O q (P8.rest (V.O q) (V.N q) z)[i]! j else V.O j) (V.X j) (V.I j) = true
    by_cases e : j = q
    · subst e
      simp only [if_true]
      have hs := h.side j hj
      simp only [sideK, P8.listP, Bool.and_eq_true, inB_true, decide_eq_true_eq] at hs ⊢
      obtain ⟨⟨h1, h2, h3, h4⟩, h5, h6⟩ := hs
      have hnum : ∀ k, k < V.N j → V.O j k 0 = V.X j - V.N j + k := fun k hk => by
        have a := (allP_iff _).1 h4 k hk
        simp only [P8.goodP, Bool.and_eq_true, beq_iff_eq] at a
        exact a.2
      obtain ⟨s, hs1, hs2⟩ := rest_end (z := z) hnum
      have hat : ∀ k, k < V.N j - s → (P8.rest (V.O j) (V.N j) z)[k]! = k + s := fun k hk => by
        rw [hs2, getElem!_pos _ k (by simpa using hk)]; simp
      have hlen : (P8.rest (V.O j) (V.N j) z).length = V.N j - s := by rw [hs2]; simp
      rw [hlen]
      refine ⟨⟨h1, h2, by omega, (allP_iff _).2 fun k hk => ?_⟩, h5, ?_⟩
      · have a := (allP_iff _).1 h4 (k + s) (by omega)
        simp only [P8.goodP, hat k hk, Bool.and_eq_true, beq_iff_eq] at a ⊢
        exact ⟨a.1, by omega⟩
      · split
        · rename_i e
          rw [if_pos e] at h6
          exact h6
        · rename_i e
          rw [if_neg e] at h6
          exact (allK_iff _).2 fun k hk => by
            rw [hat k hk]
            exact (allK_iff _).1 h6 (k + s) (by omega)
    · simp only [if_neg e]
      exact h.side j hj
  · exact h
theorem cll_apply {c d : Int} {V : CV} {R : Nat → Int} (hV : cllB c d V = true) : cllB c d (applyV c d V R).1 = true := by
  have h := cok_of hV
  cases hl : logR c d R
  · unfold applyV; rw [if_pos hl]; exact hV
  · unfold applyV
    rw [if_neg (by rw [hl]; simp)]
    rcases logR_kinds hl with ⟨hk, hO⟩ | ⟨hk, hs, hp⟩ | ⟨hk, hs, hn⟩
    · rw [if_pos hk]
      split
      · exact of_cok (h.doV hO)
      · exact hV
    · rw [if_neg (by omega)]
      split
      · exact hV
      · rename_i hb
        try rw [if_pos hk]
        obtain ⟨q, e, hq⟩ := side_nat hs
        rw [e] at hb ⊢
        exact of_cok (h.inn (q := q) hq hb hp)
    · rw [if_neg (by omega)]
      split
      · exact hV
      · try rw [if_neg (by omega)]
        obtain ⟨q, e, hq⟩ := side_nat hs
        rw [e]
        exact of_cok (h.after _ hq)
theorem apply_unfit {c d : Int} {V : CV} {R : Nat → Int} (h : (applyV c d V R).2.2 = false) : (applyV c d V R).1 = V := by
  unfold applyV at h ⊢
  repeat' split
  all_goals first
    | rfl
    | (simp_all; done)
    | skip
  · rename_i h1 h2 h3 h4
    rw [if_neg h1, if_neg h2, if_neg h3, if_pos h4] at h
    have h' : takeB c d V (mapW V.W V.nW) (R 6).toNat (R 7) (R 8) (R 9) (R 10) (R 14) = false := h
    show CV.inn _ _ _ _ _ _ _ _ _ _ _ _ = V
    unfold CV.inn
    rw [if_neg (by rw [h']; simp)]
  · rename_i h1 h2 h3 h4
    rw [if_neg h1, if_neg h2, if_neg h3, if_neg h4] at h
    have h' : ackB V (R 6).toNat (R 15) = false := h
    show CV.after _ _ _ = V
    unfold CV.after
    rw [if_neg (by rw [h']; simp)]
/-- The cell behind k records, done one behind the other; whether the next one fits; how many of n fit. -/
def runV (c d : Int) (V : CV) (Z : Nat → Nat → Int) : Nat → CV
  | 0 => V
  | k + 1 => (applyV c d (runV c d V Z k) (Z k)).1
def fitK (c d : Int) (V : CV) (Z : Nat → Nat → Int) (k : Nat) : Bool := (applyV c d (runV c d V Z k) (Z k)).2.2
def foldN (c d : Int) (V : CV) (Z : Nat → Nat → Int) : Nat → Nat
  | 0 => 0
  | k + 1 => if foldN c d V Z k = k ∧ fitK c d V Z k = true then k + 1 else foldN c d V Z k
theorem run_ok {c d : Int} {V : CV} {Z : Nat → Nat → Int} (h : cllB c d V = true) : ∀ k, cllB c d (runV c d V Z k) = true
  | 0 => h
  | k + 1 => cll_apply (run_ok h k)
theorem fold_all {c d : Int} {V : CV} {Z : Nat → Nat → Int} : ∀ n, (∀ k, k < n → fitK c d V Z k = true) → foldN c d V Z n = n
  | 0, _ => rfl
  | n + 1, h => by
    unfold foldN
    rw [if_pos ⟨fold_all n (fun k hk => h k (by omega)), h n (by omega)⟩]
theorem fold_stop {c d : Int} {V : CV} {Z : Nat → Nat → Int} {k : Nat} (h : ∀ j, j < k → fitK c d V Z j = true) (h2 : fitK c d V Z k = false) : ∀ n, k < n → foldN c d V Z n = k
  | 0, hn => by omega
  | n + 1, hn => by
    unfold foldN
    by_cases e : k = n
    · subst e
      rw [fold_all k h, if_neg (by rw [h2]; simp)]
    · have e2 := fold_stop h h2 n (by omega)
      rw [e2, if_neg (by omega)]
end Go.Proofs.YtngaboipleimcaaGreatDoor
