/- send: a parcel goes to a side, behind all others, with the next number; conditions: the scene lies in memory. -/
import Derived.Test.YthbkjfkkdaheoaaGreatDoorMo3
import Derived.Test.YthbkjfkkdaheoaaGreatDoorCCopyS
import Derived.ArgAppend
import Derived.Test.YthbkjfkkdaheoaaGreatDoorTk
import Derived.Test.YthbkjfkkdaheoaaGreatDoorDo3
namespace Go.Proofs.YthbkjfkkdaheoaaGreatDoor
open Go.RowKit Go.Deep
set_option linter.unusedVariables false
theorem setCells_grown (b : Nat) : ∀ (vs : List Value) (o : Nat) (w : World), w.grownBy (w.setCells b o vs) (some b) ∧ (w.setCells b o vs).heap.size = w.heap.size
  | [], _, w => ⟨⟨rfl, rfl, rfl, Nat.le_refl _, fun _ _ _ => rfl⟩, rfl⟩
  | v :: vs, o, w => by
    obtain ⟨h1, h2⟩ := P8.set_grown w b o v
    obtain ⟨h3, h4⟩ := setCells_grown b vs (o + 1) (w.setCell ⟨b, o, none⟩ v)
    exact ⟨h1.trans h3, h4.trans h2⟩
theorem eight_more (n : Nat) (Z : Nat → Nat → Int) (P : Nat → Int) : (List.range (n + 1)).flatMap (P8.eight (updW Z n P)) = (List.range n).flatMap (P8.eight Z) ++ P8.eight (fun _ => P) 0 := by
  rw [List.range_succ, List.flatMap_append]
  congr 1
  · have h0 : ∀ k ∈ List.range n, P8.eight (updW Z n P) k = P8.eight Z k := fun k hk => by
      have h : ¬ k = n := by have := List.mem_range.1 hk; omega
      simp [P8.eight, upd_ne h]
    rw [List.flatMap_def, List.flatMap_def, List.map_congr_left h0]
  · simp [P8.eight, upd_at]
theorem eight_one (P : Nat → Int) : ∀ u ∈ P8.eight (fun _ => P) 0, u.oneCell' = true := by
  intro u hu
  simp [P8.eight] at hu
  rcases hu with rfl | rfl | rfl | rfl | rfl | rfl | rfl | rfl <;> rfl
theorem eight_get (P : Nat → Int) {j : Nat} (hj : j < (P8.eight (fun _ => P) 0).length) : (P8.eight (fun _ => P) 0)[j] = .int .i64 (P j) := by
  have : j < 8 := hj
  match j, this with
  | 0, _ => rfl
  | 1, _ => rfl
  | 2, _ => rfl
  | 3, _ => rfl
  | 4, _ => rfl
  | 5, _ => rfl
  | 6, _ => rfl
  | 7, _ => rfl
def Grown8 (lo : Nat) (w w' : World) (v' : Value) (n : Nat) (Z : Nat → Nat → Int) (xq g' : Nat) : Prop :=
  w.heap.size ≤ w'.heap.size ∧ (∀ x, x < w.heap.size → (n ≠ 0 → ¬ x = xq) → w'.heap[x]? = w.heap[x]?) ∧ RPR lo w'.heap.size w' v' n.succ Z g' ∧ ((n ≠ 0 ∧ g' = xq) ∨ w.heap.size ≤ g') ∧ Below lo w w'
theorem run_grow8 (w : World) (ty : TypeId) (lo n xq : Nat) (v : Value) (Z : Nat → Nat → Int) (P : Nat → Int) (ad : Addr) (c : Nat) (hR : RPR lo w.heap.size w v n Z xq) (hlo : lo ≤ w.heap.size)
    (hnews : ∀ j u, (P8.eight (fun _ => P) 0)[j]? = some u → w.cell? (ad.add j) = some u) (hn : n ≤ 2000000) :
    ∃ v' w' g', (Builtin.append_ #[122, 122] ty #[v, .slice (some ad) 1 c]).run Tryz.prog w = .ok v' w' ∧ Grown8 lo w w' v' n (updW Z n P) xq g' := by
  obtain ⟨i5, hi5, hzz⟩ := Option.map_eq_some_iff.1 P8.Tryz.info56
  simp only [Prod.mk.injEq] at hzz
  obtain ⟨hz50, hz51, hz52⟩ := hzz
  have fresh : ∀ v' w', w'.ownsRow w.heap.size 56 8 v' (n + 1) ((List.range n).flatMap (P8.eight Z) ++ P8.eight (fun _ => P) 0) → w.grownBy w' none → ∃ g', Grown8 lo w w' v' n (updW Z n P) xq g' := by
    intro v' w' ho hg
    rw [← eight_more] at ho
    obtain ⟨g', hR', hb'⟩ := rpr_of_own ho (fun e => by omega)
    have hge : w.heap.size ≤ g' := (hR'.1.in (by omega)).1
    exact ⟨g', hg.size, fun x hx _ => hg.block x hx (by simp), hR'.low hlo, .inr hge, ⟨hg.os, hg.tape, hg.output, hg.size, fun x hx => hg.block x (by omega) (by simp)⟩⟩
  by_cases hn0 : n = 0
  · subst hn0
    obtain ⟨a, rfl⟩ := hR.2.1 rfl
    cases a with
    | none =>
      obtain ⟨v', w', hr, h2, h3, _⟩ := run_append_own_at (P := Tryz.prog) w w.heap.size 122 ty 56 i5 (.agg #[.int .i64 0, .int .i64 0, .int .i64 0, .int .i64 0, .int .i64 0, .int .i64 0, .int .i64 0, .int .i64 0]) 8 64 Tryz.underlying122 hi5 hz50 hz51 hz52 rfl (by decide) (.slice none 0 0) 0 [] (World.ownsRow_nil _ _ _ _) ad 1 c (P8.eight (fun _ => P) 0) rfl hnews (eight_one P) (by unfold maxLen; omega) (by omega) (Nat.le_refl _)
      obtain ⟨g', hG⟩ := fresh v' w' (by simpa using h2) h3
      exact ⟨v', w', g', hr, hG⟩
    | some b0 =>
      obtain ⟨v', w', hr, h2, h3⟩ := run_append_arg_grows (P := Tryz.prog) w 122 ty 56 i5 (.agg #[.int .i64 0, .int .i64 0, .int .i64 0, .int .i64 0, .int .i64 0, .int .i64 0, .int .i64 0, .int .i64 0]) 8 64 Tryz.underlying122 hi5 hz50 hz51 hz52 rfl (by decide) b0 0 0 [] rfl (by simp) ad 1 c (P8.eight (fun _ => P) 0) rfl hnews (by omega) (by unfold maxLen; omega) (by omega)
      obtain ⟨g', hG⟩ := fresh v' w' (by simpa using h2) h3
      exact ⟨v', w', g', hr, hG⟩
  · rcases hR.1 with ⟨h, _⟩ | ⟨cap, rfl, a2, a3, a4, a5⟩
    · exact absurd h hn0
    obtain ⟨r1, r2, r3, r4, r5⟩ := hR.2.2 xq cap rfl hn0
    by_cases hroom : n + 1 ≤ cap
    · have hlen : (P8.eight (fun _ => P) 0).length = 8 := rfl
      have hc : ∀ j, j < (P8.eight (fun _ => P) 0).length → (w.cell? ⟨xq, 0 + n * i5.size + j, none⟩).isSome = true := fun j hj => by rw [hz51, Nat.zero_add]; exact (r5 (n * 8 + j) (by rw [hlen] at hj; omega)).1
      have hf : ∀ j, j < (P8.eight (fun _ => P) 0).length → w.frozen? ⟨xq, 0 + n * i5.size + j, none⟩ = false := fun j hj => by rw [hz51, Nat.zero_add]; exact (r5 (n * 8 + j) (by rw [hlen] at hj; omega)).2
      have hr := run_append_room_cells (P := Tryz.prog) w 122 ty 56 i5 Tryz.underlying122 hi5 xq 0 n cap ad 1 c (P8.eight (fun _ => P) 0) (by rw [hz51]; rfl) hnews (eight_one P) hroom hc hf
      rw [hz51, Nat.zero_add] at hr
      rw [hz51, Nat.zero_add] at hc
      obtain ⟨g1, g2⟩ := setCells_grown xq (P8.eight (fun _ => P) 0) (n * 8) w
      have keep : ∀ i, i < n * 8 ∨ n * 8 + 8 ≤ i → (w.setCells xq (n * 8) (P8.eight (fun _ => P) 0)).cell? ⟨xq, i, none⟩ = w.cell? ⟨xq, i, none⟩ := fun i hi => World.cell?_setCells_out xq _ _ w ⟨xq, i, none⟩ (fun _ _ => by simpa [hlen] using hi)
      have put : ∀ j, j < 8 → (w.setCells xq (n * 8) (P8.eight (fun _ => P) 0)).cell? ⟨xq, n * 8 + j, none⟩ = some (.int .i64 (P j)) := fun j hj => by
        rw [World.cell?_setCells_in xq (P8.eight (fun _ => P) 0) (n * 8) w hc j (by rw [hlen]; exact hj), eight_get]
      have fz : ∀ i, (w.setCells xq (n * 8) (P8.eight (fun _ => P) 0)).frozen? ⟨xq, i, none⟩ = w.frozen? ⟨xq, i, none⟩ := fun i => World.frozen?_setCells xq _ _ w _
      have all : ∀ i, i < cap * 8 → ((w.setCells xq (n * 8) (P8.eight (fun _ => P) 0)).cell? ⟨xq, i, none⟩).isSome = true ∧ (w.setCells xq (n * 8) (P8.eight (fun _ => P) 0)).frozen? ⟨xq, i, none⟩ = false := fun i hi => by
        rw [fz]
        refine ⟨?_, (r5 i hi).2⟩
        by_cases e : i < n * 8 ∨ n * 8 + 8 ≤ i
        · rw [keep i e]; exact (r5 i hi).1
        · have h := put (i - n * 8) (by omega)
          rw [show n * 8 + (i - n * 8) = i by omega] at h
          rw [h]; rfl
      refine ⟨_, _, xq, hr, Nat.le_of_eq g2.symm, fun x hx hne => g1.block x hx (fun e => hne hn0 (by injection e)), ⟨.inr ⟨cap, rfl, a2, by omega, Nat.le_refl _, fun i hi => all i (by omega), fun k j hk hj => ?_⟩, fun e => by omega, fun g' c' e _ => ?_⟩, .inl ⟨hn0, rfl⟩, below_grown g1 a2 hlo⟩
      · by_cases e : k = n
        · subst e; rw [put j hj, upd_at]
        · rw [keep (k * 8 + j) (by omega), upd_ne e]; exact a5.2 k j (by omega) hj
      · simp only [Value.slice.injEq, Option.some.injEq, Addr.mk.injEq, and_true, true_and] at e
        obtain ⟨rfl, rfl⟩ := e
        exact ⟨hroom, r2, a2, by omega, all⟩
    · have holds : ∀ j u, ((List.range n).flatMap (P8.eight Z))[j]? = some u → w.cell? ((⟨xq, 0, none⟩ : Addr).add j) = some u := eight8_cells (fun k j hk hj => by rw [Nat.zero_add]; exact a5.2 k j hk hj)
      obtain ⟨v', w', hr, h2, h3⟩ := run_append_arg_grows (P := Tryz.prog) w 122 ty 56 i5 (.agg #[.int .i64 0, .int .i64 0, .int .i64 0, .int .i64 0, .int .i64 0, .int .i64 0, .int .i64 0, .int .i64 0]) 8 64 Tryz.underlying122 hi5 hz50 hz51 hz52 rfl (by decide) ⟨xq, 0, none⟩ n cap ((List.range n).flatMap (P8.eight Z)) (eight8_len n Z) holds ad 1 c (P8.eight (fun _ => P) 0) rfl hnews (by omega) (by unfold maxLen; omega) (by omega)
      obtain ⟨g', hG⟩ := fresh v' w' h2 h3
      exact ⟨v', w', g', hr, hG⟩
theorem eight_box (w : World) (P : Nat → Int) (z : Int) (hP : P 0 = z) : ∀ j u, (P8.eight (fun _ => P) 0)[j]? = some u → (w.alloc (.cells #[.int .i64 z, .int .i64 (P 1), .int .i64 (P 2), .int .i64 (P 3), .int .i64 (P 4), .int .i64 (P 5), .int .i64 (P 6), .int .i64 (P 7)] 56)).cell? ((⟨w.heap.size, 0, none⟩ : Addr).add j) = some u := by
  subst hP
  intro j u hj
  match j, hj with
  | 0, hj => simp [P8.eight] at hj; subst hj; simp [Addr.add]
  | 1, hj => simp [P8.eight] at hj; subst hj; simp [Addr.add]
  | 2, hj => simp [P8.eight] at hj; subst hj; simp [Addr.add]
  | 3, hj => simp [P8.eight] at hj; subst hj; simp [Addr.add]
  | 4, hj => simp [P8.eight] at hj; subst hj; simp [Addr.add]
  | 5, hj => simp [P8.eight] at hj; subst hj; simp [Addr.add]
  | 6, hj => simp [P8.eight] at hj; subst hj; simp [Addr.add]
  | 7, hj => simp [P8.eight] at hj; subst hj; simp [Addr.add]
  | j + 8, hj => simp [P8.eight] at hj
theorem app8 {w : World} {o : Oper} {a : Act} {K : Act → World → Prop} {Q : Exit → Act → World → Prop} (s x : Operand) (ho : o.op = .call { callee := .builtin .append, args := #[s, x], argTypes := #[122, 122] })
    (lo n xq : Nat) (v : Value) (Z : Nat → Nat → Int) (P : Nat → Int) (hs : a.eval s = v) (hR : RPR lo w.heap.size w v n Z xq) (hlo : lo ≤ w.heap.size) (ad : Addr) (c : Nat) (hx : a.eval x = .slice (some ad) 1 c)
    (hnews : ∀ j u, (P8.eight (fun _ => P) 0)[j]? = some u → w.cell? (ad.add j) = some u) (hn : n ≤ 2000000)
    (h : ∀ v' w' g', Grown8 lo w w' v' n (updW Z n P) xq g' → K (a.put o.dst v') w') : o.wp Tryz.prog a w K Q := by
  obtain ⟨v', w', g', hr, hG⟩ := run_grow8 w o.type lo n xq v Z P ad c hR hlo hnews hn
  unfold Oper.wp execOp
  simp only [ho, resolve, invoke, builtin, Sem.run_bind, Sem.run_pure, Result.andThen_ok, List.map_toArray, List.map_cons, List.map_nil, hs, hx, hr]
  exact h v' w' g' hG
theorem Sv.grow {w : World} {c d : Int} {s b lo : Nat} {V : CV} {n : Nat} (h : Sv w c d s b lo V n) {q : Nat} (hq : q < V.nO) :
    ∃ gO kO v xq, w.cell? ⟨s, 5, none⟩ = some (.slice (some ⟨gO, 0, none⟩) V.nO kO) ∧ w.cell? ⟨gO, q, none⟩ = some v ∧ w.frozen? ⟨gO, q, none⟩ = false ∧ lo ≤ gO ∧ gO < w.heap.size ∧ ¬ gO = s ∧ ¬ gO = b ∧ RPR lo w.heap.size w v (V.N q) (V.O q) xq ∧ (V.N q ≠ 0 → ¬ xq = s ∧ ¬ xq = b ∧ ¬ xq = gO) ∧
      ∀ (w' : World) (v' : Value) (Z' : Nat → Nat → Int) (g' : Nat), w.heap.size ≤ w'.heap.size → (∀ x, x < w.heap.size → (V.N q ≠ 0 → ¬ x = xq) → Sm w w' x) → w'.heap[b]? = w.heap[b]? → RPR lo w'.heap.size w' v' (V.N q + 1) Z' g' → ((V.N q ≠ 0 ∧ g' = xq) ∨ w.heap.size ≤ g') →
        Sv (w'.setCell ⟨gO, q, none⟩ v') c d s b lo { V with N := fun i => if i = q then V.N q + 1 else V.N i, O := fun i => if i = q then Z' else V.O i } n := by
  obtain ⟨n0, W0, h⟩ := h
  obtain ⟨gO, kO, v, xq, h1, h2, h3, h4, h5, h6, h7, h8, h9, h10⟩ := h.grow (q := q) hq
  exact ⟨gO, kO, v, xq, h1, h2, h3, h4, h5, h6, h7, h8, h9, fun w' v' Z' g' a1 a2 a3 a4 a5 => ⟨n0, W0, h10 w' v' Z' g' a1 a2 a3 a4 a5⟩⟩
set_option maxRecDepth 20000 in
set_option maxHeartbeats 4000000 in
theorem send_impl (c d : Int) (s b lo q : Nat) (V : CV) (n : Nat) (P : Nat → Int) (p0 : Int) (hq : q < V.nX) (hqO : q < V.nO) (hN : V.N q ≤ 2000000) (hX : -1 ≤ V.X q ∧ V.X q ≤ 5000) (hP : P 0 = V.X q) (w : World) (h : Sv w c d s b lo V n) :
    Calls Tryz.prog 156 #[.pointer (some ⟨s, 0, none⟩), .int .i64 (q : Int), .agg #[.int .i64 p0, .int .i64 (P 1), .int .i64 (P 2), .int .i64 (P 3), .int .i64 (P 4), .int .i64 (P 5), .int .i64 (P 6), .int .i64 (P 7)]] w fun e w' => e = .returned (.tuple #[]) ∧ Sv w' c d s b lo (V.send q P) n ∧ Below lo w w' := by
  obtain ⟨gX, kX, c6, cX, _, _, lX, nXs, nXb, _⟩ := h.nxt (q := q) hq
  obtain ⟨gO, kO, v, xq, c5, cq, fq, lO1, lO2, nOs, nOb, hR, hap, hset⟩ := h.grow (q := q) hqO
  obtain ⟨_, ls, ll, lb, lbw, nsb, _⟩ := h.at
  obtain ⟨va, vc, rfl, _⟩ := hR.is
  have hq' : (q : Int) < V.nX := by omega
  have hqO' : (q : Int) < V.nO := by omega
  have HP : Hid (P 0 = V.X q) := hP
  have HR : Hid (RPR lo w.heap.size w (.slice va (V.N q) vc) (V.N q) (V.O q) xq) := hR
  have HAP : Hid (V.N q ≠ 0 → ¬ xq = s ∧ ¬ xq = b ∧ ¬ xq = gO) := hap
  have HSET : Hid _ := hset
  have C5 : Hid (w.cell? ⟨s, 5, none⟩ = some (.slice (some ⟨gO, 0, none⟩) V.nO kO)) := c5
  have CQ : Hid (w.cell? ⟨gO, q, none⟩ = some (.slice va (V.N q) vc)) := cq
  have FQ : Hid (w.frozen? ⟨gO, q, none⟩ = false) := fq
  clear hP hR hap hset h c5 cq fq
  go_enter Tryz.func156, Tryz.ntmps156
  go_upto_region 2 with fail
  obtain ⟨w1, e1⟩ : ∃ X, X = w.alloc (.cells #[.int .i64 (V.X q), .int .i64 (P 1), .int .i64 (P 2), .int .i64 (P 3), .int .i64 (P 4), .int .i64 (P 5), .int .i64 (P 6), .int .i64 (P 7)] 56) := ⟨_, rfl⟩
  rw [← e1]
  have B1 : Below w.heap.size w w1 := by rw [e1]; exact (Below.refl _ _).alloc (Nat.le_refl _) _
  have X1 : Bk w1 w.heap.size [.int .i64 (V.X q), .int .i64 (P 1), .int .i64 (P 2), .int .i64 (P 3), .int .i64 (P 4), .int .i64 (P 5), .int .i64 (P 6), .int .i64 (P 7)] := by rw [e1]; exact bk_new w 56 [.int .i64 (V.X q), .int .i64 (P 1), .int .i64 (P 2), .int .i64 (P 3), .int .i64 (P 4), .int .i64 (P 5), .int .i64 (P 6), .int .i64 (P 7)]
  clear e1 c6 cX
  have z1 := X1.1
  have d5 : w1.cell? ⟨s, 5, none⟩ = some (.slice (some ⟨gO, 0, none⟩) V.nO kO) := (B1.cell (p := ⟨s, 5, none⟩) ls).trans C5.out
  have dq : w1.cell? ⟨gO, q, none⟩ = some (.slice va (V.N q) vc) := (B1.cell (p := ⟨gO, q, none⟩) lO2).trans CQ.out
  have p0 : w1.cell? ⟨w.heap.size, 0, none⟩ = some (.int .i64 (V.X q)) := (X1.2 0 (by simp)).1
  have p1 : w1.cell? ⟨w.heap.size, 1, none⟩ = some (.int .i64 (P 1)) := (X1.2 1 (by simp)).1
  have p2 : w1.cell? ⟨w.heap.size, 2, none⟩ = some (.int .i64 (P 2)) := (X1.2 2 (by simp)).1
  have p3 : w1.cell? ⟨w.heap.size, 3, none⟩ = some (.int .i64 (P 3)) := (X1.2 3 (by simp)).1
  have p4 : w1.cell? ⟨w.heap.size, 4, none⟩ = some (.int .i64 (P 4)) := (X1.2 4 (by simp)).1
  have p5 : w1.cell? ⟨w.heap.size, 5, none⟩ = some (.int .i64 (P 5)) := (X1.2 5 (by simp)).1
  have p6 : w1.cell? ⟨w.heap.size, 6, none⟩ = some (.int .i64 (P 6)) := (X1.2 6 (by simp)).1
  have p7 : w1.cell? ⟨w.heap.size, 7, none⟩ = some (.int .i64 (P 7)) := (X1.2 7 (by simp)).1
  have nx1 : V.N q ≠ 0 → ¬ s = xq := fun e e2 => (HAP.out e).1 e2.symm
  have nx2 : V.N q ≠ 0 → ¬ gO = xq := fun e e2 => (HAP.out e).2.2 e2.symm
  have nx3 : V.N q ≠ 0 → ¬ w.heap.size = xq := fun e e2 => by have := (HR.out.in e).2; omega
  refine wp_region_held_drew (S := fun w' => (∀ x o, x < w1.heap.size → ¬ x = gO → (V.N q ≠ 0 → ¬ x = xq) → w'.cell? ⟨x, o, none⟩ = w1.cell? ⟨x, o, none⟩) ∧ w1.heap.size ≤ w'.heap.size) (by kernel_rfl) ⟨fun _ _ _ _ _ => rfl, Nat.le_refl _⟩ ?_
  intro hHeld
  obtain ⟨X0, hX0⟩ : ∃ X, X = w1.drew := ⟨_, rfl⟩
  have B0 : Below w1.heap.size w1 X0 := by rw [hX0]; exact (Below.refl _ _).drew
  rw [← hX0] at hHeld ⊢
  clear hX0
  have nsO : ¬ s = gO := fun e => nOs e.symm
  have npO : ¬ w.heap.size = gO := by omega
  refine tkl 0 (.pointer (some ⟨s, 0, none⟩)) rfl ?_ ?_
  · intro wx hSw; have x5 := (hSw.1 s 5 (Nat.lt_trans ls z1) nsO nx1).trans d5; have xp0 := (hSw.1 w.heap.size 0 z1 npO nx3).trans p0; have xp1 := (hSw.1 w.heap.size 1 z1 npO nx3).trans p1; have xp2 := (hSw.1 w.heap.size 2 z1 npO nx3).trans p2; have xp3 := (hSw.1 w.heap.size 3 z1 npO nx3).trans p3; have xp4 := (hSw.1 w.heap.size 4 z1 npO nx3).trans p4; have xp5 := (hSw.1 w.heap.size 5 z1 npO nx3).trans p5; have xp6 := (hSw.1 w.heap.size 6 z1 npO nx3).trans p6; have xp7 := (hSw.1 w.heap.size 7 z1 npO nx3).trans p7; have xl1 : s < wx.heap.size := Nat.lt_of_lt_of_le (Nat.lt_trans ls z1) hSw.2; have xl3 : w.heap.size < wx.heap.size := Nat.lt_of_lt_of_le z1 hSw.2; go_simp
  try simp only [Act.put, aS]
  refine tkl 1 (.pointer (some ⟨s, 0, none⟩)) rfl ?_ ?_
  · intro wx hSw; have x5 := (hSw.1 s 5 (Nat.lt_trans ls z1) nsO nx1).trans d5; have xp0 := (hSw.1 w.heap.size 0 z1 npO nx3).trans p0; have xp1 := (hSw.1 w.heap.size 1 z1 npO nx3).trans p1; have xp2 := (hSw.1 w.heap.size 2 z1 npO nx3).trans p2; have xp3 := (hSw.1 w.heap.size 3 z1 npO nx3).trans p3; have xp4 := (hSw.1 w.heap.size 4 z1 npO nx3).trans p4; have xp5 := (hSw.1 w.heap.size 5 z1 npO nx3).trans p5; have xp6 := (hSw.1 w.heap.size 6 z1 npO nx3).trans p6; have xp7 := (hSw.1 w.heap.size 7 z1 npO nx3).trans p7; have xl1 : s < wx.heap.size := Nat.lt_of_lt_of_le (Nat.lt_trans ls z1) hSw.2; have xl3 : w.heap.size < wx.heap.size := Nat.lt_of_lt_of_le z1 hSw.2; go_simp
  try simp only [Act.put, aS]
  refine tkl 2 (.pointer (some ⟨s, 2, none⟩)) rfl ?_ ?_
  · intro wx hSw; have x5 := (hSw.1 s 5 (Nat.lt_trans ls z1) nsO nx1).trans d5; have xp0 := (hSw.1 w.heap.size 0 z1 npO nx3).trans p0; have xp1 := (hSw.1 w.heap.size 1 z1 npO nx3).trans p1; have xp2 := (hSw.1 w.heap.size 2 z1 npO nx3).trans p2; have xp3 := (hSw.1 w.heap.size 3 z1 npO nx3).trans p3; have xp4 := (hSw.1 w.heap.size 4 z1 npO nx3).trans p4; have xp5 := (hSw.1 w.heap.size 5 z1 npO nx3).trans p5; have xp6 := (hSw.1 w.heap.size 6 z1 npO nx3).trans p6; have xp7 := (hSw.1 w.heap.size 7 z1 npO nx3).trans p7; have xl1 : s < wx.heap.size := Nat.lt_of_lt_of_le (Nat.lt_trans ls z1) hSw.2; have xl3 : w.heap.size < wx.heap.size := Nat.lt_of_lt_of_le z1 hSw.2; go_simp
  try simp only [Act.put, aS]
  refine tkl 3 (.pointer (some ⟨s, 5, none⟩)) rfl ?_ ?_
  · intro wx hSw; have x5 := (hSw.1 s 5 (Nat.lt_trans ls z1) nsO nx1).trans d5; have xp0 := (hSw.1 w.heap.size 0 z1 npO nx3).trans p0; have xp1 := (hSw.1 w.heap.size 1 z1 npO nx3).trans p1; have xp2 := (hSw.1 w.heap.size 2 z1 npO nx3).trans p2; have xp3 := (hSw.1 w.heap.size 3 z1 npO nx3).trans p3; have xp4 := (hSw.1 w.heap.size 4 z1 npO nx3).trans p4; have xp5 := (hSw.1 w.heap.size 5 z1 npO nx3).trans p5; have xp6 := (hSw.1 w.heap.size 6 z1 npO nx3).trans p6; have xp7 := (hSw.1 w.heap.size 7 z1 npO nx3).trans p7; have xl1 : s < wx.heap.size := Nat.lt_of_lt_of_le (Nat.lt_trans ls z1) hSw.2; have xl3 : w.heap.size < wx.heap.size := Nat.lt_of_lt_of_le z1 hSw.2; go_simp
  try simp only [Act.put, aS]
  refine tkl 4 (.slice (some ⟨gO, 0, none⟩) V.nO kO) rfl ?_ ?_
  · intro wx hSw; have x5 := (hSw.1 s 5 (Nat.lt_trans ls z1) nsO nx1).trans d5; have xp0 := (hSw.1 w.heap.size 0 z1 npO nx3).trans p0; have xp1 := (hSw.1 w.heap.size 1 z1 npO nx3).trans p1; have xp2 := (hSw.1 w.heap.size 2 z1 npO nx3).trans p2; have xp3 := (hSw.1 w.heap.size 3 z1 npO nx3).trans p3; have xp4 := (hSw.1 w.heap.size 4 z1 npO nx3).trans p4; have xp5 := (hSw.1 w.heap.size 5 z1 npO nx3).trans p5; have xp6 := (hSw.1 w.heap.size 6 z1 npO nx3).trans p6; have xp7 := (hSw.1 w.heap.size 7 z1 npO nx3).trans p7; have xl1 : s < wx.heap.size := Nat.lt_of_lt_of_le (Nat.lt_trans ls z1) hSw.2; have xl3 : w.heap.size < wx.heap.size := Nat.lt_of_lt_of_le z1 hSw.2; go_simp
  try simp only [Act.put, aS]
  refine tkl 5 (.int .i64 (q : Int)) rfl ?_ ?_
  · intro wx hSw; have x5 := (hSw.1 s 5 (Nat.lt_trans ls z1) nsO nx1).trans d5; have xp0 := (hSw.1 w.heap.size 0 z1 npO nx3).trans p0; have xp1 := (hSw.1 w.heap.size 1 z1 npO nx3).trans p1; have xp2 := (hSw.1 w.heap.size 2 z1 npO nx3).trans p2; have xp3 := (hSw.1 w.heap.size 3 z1 npO nx3).trans p3; have xp4 := (hSw.1 w.heap.size 4 z1 npO nx3).trans p4; have xp5 := (hSw.1 w.heap.size 5 z1 npO nx3).trans p5; have xp6 := (hSw.1 w.heap.size 6 z1 npO nx3).trans p6; have xp7 := (hSw.1 w.heap.size 7 z1 npO nx3).trans p7; have xl1 : s < wx.heap.size := Nat.lt_of_lt_of_le (Nat.lt_trans ls z1) hSw.2; have xl3 : w.heap.size < wx.heap.size := Nat.lt_of_lt_of_le z1 hSw.2; go_simp
  try simp only [Act.put, aS]
  refine tkl 6 (.pointer (some ⟨s, 0, none⟩)) rfl ?_ ?_
  · intro wx hSw; have x5 := (hSw.1 s 5 (Nat.lt_trans ls z1) nsO nx1).trans d5; have xp0 := (hSw.1 w.heap.size 0 z1 npO nx3).trans p0; have xp1 := (hSw.1 w.heap.size 1 z1 npO nx3).trans p1; have xp2 := (hSw.1 w.heap.size 2 z1 npO nx3).trans p2; have xp3 := (hSw.1 w.heap.size 3 z1 npO nx3).trans p3; have xp4 := (hSw.1 w.heap.size 4 z1 npO nx3).trans p4; have xp5 := (hSw.1 w.heap.size 5 z1 npO nx3).trans p5; have xp6 := (hSw.1 w.heap.size 6 z1 npO nx3).trans p6; have xp7 := (hSw.1 w.heap.size 7 z1 npO nx3).trans p7; have xl1 : s < wx.heap.size := Nat.lt_of_lt_of_le (Nat.lt_trans ls z1) hSw.2; have xl3 : w.heap.size < wx.heap.size := Nat.lt_of_lt_of_le z1 hSw.2; go_simp
  try simp only [Act.put, aS]
  refine tkl 7 (.pointer (some ⟨s, 0, none⟩)) rfl ?_ ?_
  · intro wx hSw; have x5 := (hSw.1 s 5 (Nat.lt_trans ls z1) nsO nx1).trans d5; have xp0 := (hSw.1 w.heap.size 0 z1 npO nx3).trans p0; have xp1 := (hSw.1 w.heap.size 1 z1 npO nx3).trans p1; have xp2 := (hSw.1 w.heap.size 2 z1 npO nx3).trans p2; have xp3 := (hSw.1 w.heap.size 3 z1 npO nx3).trans p3; have xp4 := (hSw.1 w.heap.size 4 z1 npO nx3).trans p4; have xp5 := (hSw.1 w.heap.size 5 z1 npO nx3).trans p5; have xp6 := (hSw.1 w.heap.size 6 z1 npO nx3).trans p6; have xp7 := (hSw.1 w.heap.size 7 z1 npO nx3).trans p7; have xl1 : s < wx.heap.size := Nat.lt_of_lt_of_le (Nat.lt_trans ls z1) hSw.2; have xl3 : w.heap.size < wx.heap.size := Nat.lt_of_lt_of_le z1 hSw.2; go_simp
  try simp only [Act.put, aS]
  refine tkl 8 (.pointer (some ⟨s, 2, none⟩)) rfl ?_ ?_
  · intro wx hSw; have x5 := (hSw.1 s 5 (Nat.lt_trans ls z1) nsO nx1).trans d5; have xp0 := (hSw.1 w.heap.size 0 z1 npO nx3).trans p0; have xp1 := (hSw.1 w.heap.size 1 z1 npO nx3).trans p1; have xp2 := (hSw.1 w.heap.size 2 z1 npO nx3).trans p2; have xp3 := (hSw.1 w.heap.size 3 z1 npO nx3).trans p3; have xp4 := (hSw.1 w.heap.size 4 z1 npO nx3).trans p4; have xp5 := (hSw.1 w.heap.size 5 z1 npO nx3).trans p5; have xp6 := (hSw.1 w.heap.size 6 z1 npO nx3).trans p6; have xp7 := (hSw.1 w.heap.size 7 z1 npO nx3).trans p7; have xl1 : s < wx.heap.size := Nat.lt_of_lt_of_le (Nat.lt_trans ls z1) hSw.2; have xl3 : w.heap.size < wx.heap.size := Nat.lt_of_lt_of_le z1 hSw.2; go_simp
  try simp only [Act.put, aS]
  refine tkl 9 (.pointer (some ⟨s, 5, none⟩)) rfl ?_ ?_
  · intro wx hSw; have x5 := (hSw.1 s 5 (Nat.lt_trans ls z1) nsO nx1).trans d5; have xp0 := (hSw.1 w.heap.size 0 z1 npO nx3).trans p0; have xp1 := (hSw.1 w.heap.size 1 z1 npO nx3).trans p1; have xp2 := (hSw.1 w.heap.size 2 z1 npO nx3).trans p2; have xp3 := (hSw.1 w.heap.size 3 z1 npO nx3).trans p3; have xp4 := (hSw.1 w.heap.size 4 z1 npO nx3).trans p4; have xp5 := (hSw.1 w.heap.size 5 z1 npO nx3).trans p5; have xp6 := (hSw.1 w.heap.size 6 z1 npO nx3).trans p6; have xp7 := (hSw.1 w.heap.size 7 z1 npO nx3).trans p7; have xl1 : s < wx.heap.size := Nat.lt_of_lt_of_le (Nat.lt_trans ls z1) hSw.2; have xl3 : w.heap.size < wx.heap.size := Nat.lt_of_lt_of_le z1 hSw.2; go_simp
  try simp only [Act.put, aS]
  refine tkl 10 (.slice (some ⟨gO, 0, none⟩) V.nO kO) rfl ?_ ?_
  · intro wx hSw; have x5 := (hSw.1 s 5 (Nat.lt_trans ls z1) nsO nx1).trans d5; have xp0 := (hSw.1 w.heap.size 0 z1 npO nx3).trans p0; have xp1 := (hSw.1 w.heap.size 1 z1 npO nx3).trans p1; have xp2 := (hSw.1 w.heap.size 2 z1 npO nx3).trans p2; have xp3 := (hSw.1 w.heap.size 3 z1 npO nx3).trans p3; have xp4 := (hSw.1 w.heap.size 4 z1 npO nx3).trans p4; have xp5 := (hSw.1 w.heap.size 5 z1 npO nx3).trans p5; have xp6 := (hSw.1 w.heap.size 6 z1 npO nx3).trans p6; have xp7 := (hSw.1 w.heap.size 7 z1 npO nx3).trans p7; have xl1 : s < wx.heap.size := Nat.lt_of_lt_of_le (Nat.lt_trans ls z1) hSw.2; have xl3 : w.heap.size < wx.heap.size := Nat.lt_of_lt_of_le z1 hSw.2; go_simp
  try simp only [Act.put, aS]
  refine tkl 11 (.int .i64 (q : Int)) rfl ?_ ?_
  · intro wx hSw; have x5 := (hSw.1 s 5 (Nat.lt_trans ls z1) nsO nx1).trans d5; have xp0 := (hSw.1 w.heap.size 0 z1 npO nx3).trans p0; have xp1 := (hSw.1 w.heap.size 1 z1 npO nx3).trans p1; have xp2 := (hSw.1 w.heap.size 2 z1 npO nx3).trans p2; have xp3 := (hSw.1 w.heap.size 3 z1 npO nx3).trans p3; have xp4 := (hSw.1 w.heap.size 4 z1 npO nx3).trans p4; have xp5 := (hSw.1 w.heap.size 5 z1 npO nx3).trans p5; have xp6 := (hSw.1 w.heap.size 6 z1 npO nx3).trans p6; have xp7 := (hSw.1 w.heap.size 7 z1 npO nx3).trans p7; have xl1 : s < wx.heap.size := Nat.lt_of_lt_of_le (Nat.lt_trans ls z1) hSw.2; have xl3 : w.heap.size < wx.heap.size := Nat.lt_of_lt_of_le z1 hSw.2; go_simp
  try simp only [Act.put, aS]
  refine tkl 12 (.pointer (some ⟨gO, q, none⟩)) rfl ?_ ?_
  · intro wx hSw; have x5 := (hSw.1 s 5 (Nat.lt_trans ls z1) nsO nx1).trans d5; have xp0 := (hSw.1 w.heap.size 0 z1 npO nx3).trans p0; have xp1 := (hSw.1 w.heap.size 1 z1 npO nx3).trans p1; have xp2 := (hSw.1 w.heap.size 2 z1 npO nx3).trans p2; have xp3 := (hSw.1 w.heap.size 3 z1 npO nx3).trans p3; have xp4 := (hSw.1 w.heap.size 4 z1 npO nx3).trans p4; have xp5 := (hSw.1 w.heap.size 5 z1 npO nx3).trans p5; have xp6 := (hSw.1 w.heap.size 6 z1 npO nx3).trans p6; have xp7 := (hSw.1 w.heap.size 7 z1 npO nx3).trans p7; have xl1 : s < wx.heap.size := Nat.lt_of_lt_of_le (Nat.lt_trans ls z1) hSw.2; have xl3 : w.heap.size < wx.heap.size := Nat.lt_of_lt_of_le z1 hSw.2; go_simp
  try simp only [Act.put, aS]
  refine tkl 14 (.agg #[.int .i64 (V.X q), .int .i64 (P 1), .int .i64 (P 2), .int .i64 (P 3), .int .i64 (P 4), .int .i64 (P 5), .int .i64 (P 6), .int .i64 (P 7)]) rfl ?_ ?_
  · intro wx hSw; have x5 := (hSw.1 s 5 (Nat.lt_trans ls z1) nsO nx1).trans d5; have xp0 := (hSw.1 w.heap.size 0 z1 npO nx3).trans p0; have xp1 := (hSw.1 w.heap.size 1 z1 npO nx3).trans p1; have xp2 := (hSw.1 w.heap.size 2 z1 npO nx3).trans p2; have xp3 := (hSw.1 w.heap.size 3 z1 npO nx3).trans p3; have xp4 := (hSw.1 w.heap.size 4 z1 npO nx3).trans p4; have xp5 := (hSw.1 w.heap.size 5 z1 npO nx3).trans p5; have xp6 := (hSw.1 w.heap.size 6 z1 npO nx3).trans p6; have xp7 := (hSw.1 w.heap.size 7 z1 npO nx3).trans p7; have xl1 : s < wx.heap.size := Nat.lt_of_lt_of_le (Nat.lt_trans ls z1) hSw.2; have xl3 : w.heap.size < wx.heap.size := Nat.lt_of_lt_of_le z1 hSw.2; go_simp
  try simp only [Act.put, aS]
  refine rdy [13, 15] ?_
  refine (AllReadyH.cons rfl (fun K hK => ?_) (AllReadyH.cons rfl (fun K hK => ?_) AllReadyH.nil))
  · have kc : X0.cell? ⟨gO, q, none⟩ = some (.slice va (V.N q) vc) := (B0.cell (p := ⟨gO, q, none⟩) (by show gO < _; omega)).trans dq
    have kl : gO < X0.heap.size := Nat.lt_of_lt_of_le (Nat.lt_trans lO2 z1) B0.size
    go_simp
    clear kc kl
    refine hK.out _ _ hHeld (fun hNew => ?_)
    clear hK K hHeld
    have hHeld := hNew
    clear hNew
    try simp only [Act.put, aS]
    refine rd1 15 rfl fun K hK => ?_
    go_simp
    obtain ⟨X2, e2⟩ : ∃ X, X = X0.alloc (.cells #[.int .i64 (V.X q), .int .i64 (P 1), .int .i64 (P 2), .int .i64 (P 3), .int .i64 (P 4), .int .i64 (P 5), .int .i64 (P 6), .int .i64 (P 7)] 56) := ⟨_, rfl⟩
    rw [← e2]
    have hx2 : Below X0.heap.size X0 X2 := by rw [e2]; exact (Below.refl _ _).alloc (Nat.le_refl _) _
    have hnn : Hid (∀ j u, (P8.eight (fun _ => P) 0)[j]? = some u → X2.cell? ((⟨X0.heap.size, 0, none⟩ : Addr).add j) = some u) := by rw [e2]; exact eight_box X0 P (V.X q) HP.out
    clear e2
    have B2 : Below w1.heap.size w1 X2 := bthen B0 hx2
    have BW : Below w.heap.size w X2 := bthen B1 B2
    have z2 := B2.size
    have z3 := BW.size
    have z4 := hx2.size
    have z5 := B0.size
    refine hK.out _ _ ⟨fun x o hx _ hne => B2.cell (p := ⟨x, o, none⟩) hx, z2⟩ (fun hNew => ?_)
    clear hK K hHeld
    have hHeld := hNew
    clear hNew
    try simp only [Act.put, aS]
    refine rd1 16 rfl fun K hK => ?_
    rw [if_pos (by rfl)]
    refine app8 _ _ rfl lo (V.N q) xq _ (V.O q) P rfl (HR.out.go (Nat.le_refl _) z3 (Nat.le_refl _) (fun _ _ h => sm_below BW h)) (by omega) ⟨X0.heap.size, 0, none⟩ 1 rfl hnn.out (by omega) ?_
    rintro v3 X3 g3 ⟨G1, G2, G3, G4, G5⟩
    obtain ⟨va3, vc3, rfl, hva3⟩ := G3.is
    obtain rfl := hva3 (by omega)
    clear hva3
    refine hK.out _ _ ⟨fun x o hx _ hne => (World.cell?_of_block (a := ⟨x, o, none⟩) (G2 x (by omega) hne)).trans (B2.cell (p := ⟨x, o, none⟩) hx), by omega⟩ (fun hNew => ?_)
    clear hK K hHeld
    have hHeld := hNew
    clear hNew
    try simp only [Act.put, aS]
    refine tkl 17 (.pointer (some ⟨gO, q, none⟩)) rfl ?_ ?_
    · intro wx hSw; have x5 := (hSw.1 s 5 (Nat.lt_trans ls z1) nsO nx1).trans d5; have xp0 := (hSw.1 w.heap.size 0 z1 npO nx3).trans p0; have xp1 := (hSw.1 w.heap.size 1 z1 npO nx3).trans p1; have xp2 := (hSw.1 w.heap.size 2 z1 npO nx3).trans p2; have xp3 := (hSw.1 w.heap.size 3 z1 npO nx3).trans p3; have xp4 := (hSw.1 w.heap.size 4 z1 npO nx3).trans p4; have xp5 := (hSw.1 w.heap.size 5 z1 npO nx3).trans p5; have xp6 := (hSw.1 w.heap.size 6 z1 npO nx3).trans p6; have xp7 := (hSw.1 w.heap.size 7 z1 npO nx3).trans p7; have xl1 : s < wx.heap.size := Nat.lt_of_lt_of_le (Nat.lt_trans ls z1) hSw.2; have xl3 : w.heap.size < wx.heap.size := Nat.lt_of_lt_of_le z1 hSw.2; go_simp
    try simp only [Act.put, aS]
    have hsm : ∀ x, x < w.heap.size → (V.N q ≠ 0 → ¬ x = xq) → Sm w X3 x := fun x hx hne => (sm_below BW hx).trans (fun o => ⟨World.cell?_of_block (a := ⟨x, o, none⟩) (G2 x (by omega) hne), World.frozen?_of_block (a := ⟨x, o, none⟩) (G2 x (by omega) hne)⟩)
    have hS4 := HSET.out X3 _ (updW (V.O q) (V.N q) P) g3 (by omega) hsm ((G2 b (by omega) (fun e e2 => (HAP.out e).2.1 e2.symm)).trans (BW.block b lbw)) G3 (by rcases G4 with h | h; exact .inl h; exact .inr (by omega))
    have hcq : X3.cell? ⟨gO, q, none⟩ = some (.slice va (V.N q) vc) := (hsm gO lO2 nx2 q).1.trans CQ.out
    have hfq : X3.frozen? ⟨gO, q, none⟩ = false := (hsm gO lO2 nx2 q).2.trans FQ.out
    have lg3 : gO < X3.heap.size := by omega
    refine rd1 18 rfl fun K hK => ?_
    go_simp
    obtain ⟨X4, e4⟩ : ∃ X, X = X3.setCell ⟨gO, q, none⟩ (.slice (some ⟨g3, 0, none⟩) (V.N q + 1) vc3) := ⟨_, rfl⟩
    have hB4 : Below lo w X4 := by rw [e4]; exact ((BW.mono (by omega)).trans G5).setCell (by show lo ≤ gO; omega) _
    have hS5 : Sv X4 c d s b lo { V with N := fun i => if i = q then V.N q + 1 else V.N i, O := fun i => if i = q then updW (V.O q) (V.N q) P else V.O i } n := by rw [e4]; exact hS4
    rw [← e4]
    refine hK.out _ _ ⟨fun x o hx h1 hne => by rw [e4, set_out (fun e => h1 e.1.symm)]; exact (World.cell?_of_block (a := ⟨x, o, none⟩) (G2 x (by omega) hne)).trans (B2.cell (p := ⟨x, o, none⟩) hx), by rw [e4, set_size]; omega⟩ (fun hNew => ?_)
    clear hK K hHeld
    have hHeld := hNew
    clear hNew
    try simp only [Act.put, aS]
    refine wpAnyH_done (by kernel_rfl) ?_ _
    clear hHeld e4 hS4 hcq hfq lg3 hsm G1 G2 G3 G4 G5 B2 BW hnn B0 HSET HR HAP d5 dq p0 p1 p2 p3 p4 p5 p6 p7 X1 B1
    obtain ⟨gY, kY, e6, eX, fX, l1, l2, n1, n2, hset⟩ := hS5.nxt (q := q) hq
    have ls4 := hS5.at.2.1
    have HF : Hid (Sv (X4.setCell ⟨gY, q, none⟩ (.int .i64 (V.X q + 1))) c d s b lo (V.send q P) n) := hset (V.X q + 1)
    have HB : Hid (Below lo w (X4.setCell ⟨gY, q, none⟩ (.int .i64 (V.X q + 1)))) := hB4.setCell (by show lo ≤ gY; omega) _
    have e6 : X4.cell? ⟨s, 6, none⟩ = some (.slice (some ⟨gY, 0, none⟩) V.nX kY) := e6
    have eX : X4.cell? ⟨gY, q, none⟩ = some (.int .i64 (V.X q)) := eX
    clear hset hS5 hB4
    go_wp2
    refine bodyPost_end (v := .tuple #[]) (by simp [results, Tryz.results156, go_sem]) rfl ?_
    exact ⟨rfl, HF.out, HB.out⟩
  · go_simp
    obtain ⟨X2, e2⟩ : ∃ X, X = X0.alloc (.cells #[.int .i64 (V.X q), .int .i64 (P 1), .int .i64 (P 2), .int .i64 (P 3), .int .i64 (P 4), .int .i64 (P 5), .int .i64 (P 6), .int .i64 (P 7)] 56) := ⟨_, rfl⟩
    rw [← e2]
    have hx2 : Below X0.heap.size X0 X2 := by rw [e2]; exact (Below.refl _ _).alloc (Nat.le_refl _) _
    have hnn : Hid (∀ j u, (P8.eight (fun _ => P) 0)[j]? = some u → X2.cell? ((⟨X0.heap.size, 0, none⟩ : Addr).add j) = some u) := by rw [e2]; exact eight_box X0 P (V.X q) HP.out
    clear e2
    have B2 : Below w1.heap.size w1 X2 := bthen B0 hx2
    have BW : Below w.heap.size w X2 := bthen B1 B2
    have z2 := B2.size
    have z3 := BW.size
    have z4 := hx2.size
    have z5 := B0.size
    refine hK.out _ _ ⟨fun x o hx _ hne => B2.cell (p := ⟨x, o, none⟩) hx, z2⟩ (fun hNew => ?_)
    clear hK K hHeld
    have hHeld := hNew
    clear hNew
    try simp only [Act.put, aS]
    refine rd1 13 rfl fun K hK => ?_
    have kc : X2.cell? ⟨gO, q, none⟩ = some (.slice va (V.N q) vc) := (B2.cell (p := ⟨gO, q, none⟩) (by show gO < _; omega)).trans dq
    have kl : gO < X2.heap.size := Nat.lt_of_lt_of_le (Nat.lt_trans lO2 z1) B2.size
    go_simp
    clear kc kl
    refine hK.out _ _ hHeld (fun hNew => ?_)
    clear hK K hHeld
    have hHeld := hNew
    clear hNew
    try simp only [Act.put, aS]
    refine rd1 16 rfl fun K hK => ?_
    rw [if_pos (by rfl)]
    refine app8 _ _ rfl lo (V.N q) xq _ (V.O q) P rfl (HR.out.go (Nat.le_refl _) z3 (Nat.le_refl _) (fun _ _ h => sm_below BW h)) (by omega) ⟨X0.heap.size, 0, none⟩ 1 rfl hnn.out (by omega) ?_
    rintro v3 X3 g3 ⟨G1, G2, G3, G4, G5⟩
    obtain ⟨va3, vc3, rfl, hva3⟩ := G3.is
    obtain rfl := hva3 (by omega)
    clear hva3
    refine hK.out _ _ ⟨fun x o hx _ hne => (World.cell?_of_block (a := ⟨x, o, none⟩) (G2 x (by omega) hne)).trans (B2.cell (p := ⟨x, o, none⟩) hx), by omega⟩ (fun hNew => ?_)
    clear hK K hHeld
    have hHeld := hNew
    clear hNew
    try simp only [Act.put, aS]
    refine tkl 17 (.pointer (some ⟨gO, q, none⟩)) rfl ?_ ?_
    · intro wx hSw; have x5 := (hSw.1 s 5 (Nat.lt_trans ls z1) nsO nx1).trans d5; have xp0 := (hSw.1 w.heap.size 0 z1 npO nx3).trans p0; have xp1 := (hSw.1 w.heap.size 1 z1 npO nx3).trans p1; have xp2 := (hSw.1 w.heap.size 2 z1 npO nx3).trans p2; have xp3 := (hSw.1 w.heap.size 3 z1 npO nx3).trans p3; have xp4 := (hSw.1 w.heap.size 4 z1 npO nx3).trans p4; have xp5 := (hSw.1 w.heap.size 5 z1 npO nx3).trans p5; have xp6 := (hSw.1 w.heap.size 6 z1 npO nx3).trans p6; have xp7 := (hSw.1 w.heap.size 7 z1 npO nx3).trans p7; have xl1 : s < wx.heap.size := Nat.lt_of_lt_of_le (Nat.lt_trans ls z1) hSw.2; have xl3 : w.heap.size < wx.heap.size := Nat.lt_of_lt_of_le z1 hSw.2; go_simp
    try simp only [Act.put, aS]
    have hsm : ∀ x, x < w.heap.size → (V.N q ≠ 0 → ¬ x = xq) → Sm w X3 x := fun x hx hne => (sm_below BW hx).trans (fun o => ⟨World.cell?_of_block (a := ⟨x, o, none⟩) (G2 x (by omega) hne), World.frozen?_of_block (a := ⟨x, o, none⟩) (G2 x (by omega) hne)⟩)
    have hS4 := HSET.out X3 _ (updW (V.O q) (V.N q) P) g3 (by omega) hsm ((G2 b (by omega) (fun e e2 => (HAP.out e).2.1 e2.symm)).trans (BW.block b lbw)) G3 (by rcases G4 with h | h; exact .inl h; exact .inr (by omega))
    have hcq : X3.cell? ⟨gO, q, none⟩ = some (.slice va (V.N q) vc) := (hsm gO lO2 nx2 q).1.trans CQ.out
    have hfq : X3.frozen? ⟨gO, q, none⟩ = false := (hsm gO lO2 nx2 q).2.trans FQ.out
    have lg3 : gO < X3.heap.size := by omega
    refine rd1 18 rfl fun K hK => ?_
    go_simp
    obtain ⟨X4, e4⟩ : ∃ X, X = X3.setCell ⟨gO, q, none⟩ (.slice (some ⟨g3, 0, none⟩) (V.N q + 1) vc3) := ⟨_, rfl⟩
    have hB4 : Below lo w X4 := by rw [e4]; exact ((BW.mono (by omega)).trans G5).setCell (by show lo ≤ gO; omega) _
    have hS5 : Sv X4 c d s b lo { V with N := fun i => if i = q then V.N q + 1 else V.N i, O := fun i => if i = q then updW (V.O q) (V.N q) P else V.O i } n := by rw [e4]; exact hS4
    rw [← e4]
    refine hK.out _ _ ⟨fun x o hx h1 hne => by rw [e4, set_out (fun e => h1 e.1.symm)]; exact (World.cell?_of_block (a := ⟨x, o, none⟩) (G2 x (by omega) hne)).trans (B2.cell (p := ⟨x, o, none⟩) hx), by rw [e4, set_size]; omega⟩ (fun hNew => ?_)
    clear hK K hHeld
    have hHeld := hNew
    clear hNew
    try simp only [Act.put, aS]
    refine wpAnyH_done (by kernel_rfl) ?_ _
    clear hHeld e4 hS4 hcq hfq lg3 hsm G1 G2 G3 G4 G5 B2 BW hnn B0 HSET HR HAP d5 dq p0 p1 p2 p3 p4 p5 p6 p7 X1 B1
    obtain ⟨gY, kY, e6, eX, fX, l1, l2, n1, n2, hset⟩ := hS5.nxt (q := q) hq
    have ls4 := hS5.at.2.1
    have HF : Hid (Sv (X4.setCell ⟨gY, q, none⟩ (.int .i64 (V.X q + 1))) c d s b lo (V.send q P) n) := hset (V.X q + 1)
    have HB : Hid (Below lo w (X4.setCell ⟨gY, q, none⟩ (.int .i64 (V.X q + 1)))) := hB4.setCell (by show lo ≤ gY; omega) _
    have e6 : X4.cell? ⟨s, 6, none⟩ = some (.slice (some ⟨gY, 0, none⟩) V.nX kY) := e6
    have eX : X4.cell? ⟨gY, q, none⟩ = some (.int .i64 (V.X q)) := eX
    clear hset hS5 hB4
    go_wp2
    refine bodyPost_end (v := .tuple #[]) (by simp [results, Tryz.results156, go_sem]) rfl ?_
    exact ⟨rfl, HF.out, HB.out⟩
end Go.Proofs.YthbkjfkkdaheoaaGreatDoor
