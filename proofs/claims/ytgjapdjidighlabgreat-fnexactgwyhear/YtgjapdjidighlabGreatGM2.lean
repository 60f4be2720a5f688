/- The keys of a map of walkers, told in order; conditions: the map lies in memory. -/
import Derived.Test.YtgjapdjidighlabGreatShelf
import Derived.Test.YtgjapdjidighlabGreatGM1
import Derived.Shelf.SlIterI.Nil
import Derived.Shelf.SortM.Plain
import Derived.Shelf.SortM.SortNone
namespace Go.Proofs.YtgjapdjidighlabGreat
open Go.RowKit Go.Maps Go.Sort Go.Shelf Go.WideMaps Go.ChangeMaps Go.MapKept
open Go.WideElems (Fit)
set_option linter.unusedVariables false
theorem asc_eq : ∀ {l m : List Int}, l.Pairwise (· < ·) → m.Pairwise (· < ·) → (∀ z, z ∈ l ↔ z ∈ m) → l = m
  | [], [], _, _, _ => rfl
  | [], b :: m, _, _, h => absurd ((h b).2 (by simp)) (by simp)
  | a :: l, [], _, _, h => absurd ((h a).1 (by simp)) (by simp)
  | a :: l, b :: m, h1, h2, h => by
    obtain ⟨p1, q1⟩ := List.pairwise_cons.1 h1
    obtain ⟨p2, q2⟩ := List.pairwise_cons.1 h2
    have hab : a = b := by
      have ha := (h a).1 (by simp)
      have hb := (h b).2 (by simp)
      rcases List.mem_cons.1 ha with e | ha
      · exact e
      · rcases List.mem_cons.1 hb with e | hb
        · exact e.symm
        · have := p2 a ha
          have := p1 b hb
          omega
    subst hab
    rw [asc_eq q1 q2 (fun z => ?_)]
    constructor
    · intro hz
      rcases List.mem_cons.1 ((h z).1 (List.mem_cons_of_mem _ hz)) with e | hz'
      · have := p1 z hz; omega
      · exact hz'
    · intro hz
      rcases List.mem_cons.1 ((h z).2 (List.mem_cons_of_mem _ hz)) with e | hz'
      · have := p2 z hz; omega
      · exact hz'
theorem Wm.own {w : World} {b n : Nat} {M : Int → Option Nat} (h : Wm w b n M) (hn : n ≤ maxLen) :
    ∃ D : DataW Unit, w.ownsMap Tryz.prog 3 (fun _ => some (.nil, [])) b n D ∧ (∀ z, z ∈ intKeys D ↔ (M z).isSome = true) ∧ (intKeys D).Nodup ∧ Maps.size D ≤ n := by
  obtain ⟨es, clock, hb, hs, hsz, hent, hno⟩ := h
  have hrd : ∀ x ∈ es.toList, ∀ z, x.key = kI z → (Lit.int .i64 z).wf = true → WideElems.rd Tryz.prog 3 (fun _ => some ((.nil : DataW Unit), [])) x = some (.int .i64 z, .nil) := fun x hx z hk hw => by
    simp [WideElems.rd, hk, kI, keyOf_int_mk Tryz.underlying3 hw]
  have hrg : ∀ x ∈ es.toList, ∀ z, x.key = kI z → (Lit.int .i64 z).wf = true → WideElems.rg Tryz.prog 3 (fun _ => some ((.nil : DataW Unit), [])) x = (.int .i64 z, .nil) := fun x hx z hk hw => by
    simp [WideElems.rg, hrd x hx z hk hw]
  have hF : Fit Tryz.prog 3 (fun _ => some ((.nil : DataW Unit), [])) es clock := ⟨Nat.le_trans hsz hn, hs, fun x hx => by
    obtain ⟨z, Z, hk, hw, _⟩ := hent x hx
    exact ⟨_, hrd x hx z hk hw⟩⟩
  refine ⟨_, ⟨es, clock, hb, hF, hsz, rfl⟩, ?_, ?_, ?_⟩
  · intro z
    have hp := (WideShapes.sorted_perm (es.toList.map (WideElems.rg Tryz.prog 3 (fun _ => some ((.nil : DataW Unit), []))))).map (fun p => _root_.Go.intOf p.1)
    show z ∈ (List.foldr DataW.insert [] _).map (fun p => _root_.Go.intOf p.1) ↔ _
    rw [hp.mem_iff, List.map_map]
    constructor
    · intro hz
      obtain ⟨x, hx, e⟩ := List.mem_map.1 hz
      obtain ⟨z', Z, hk, hw, hM, _⟩ := hent x hx
      simp only [Function.comp, hrg x hx z' hk hw] at e
      have : z' = z := e
      subst this
      rw [hM]; rfl
    · intro hz
      obtain ⟨Z, hZ⟩ := Option.isSome_iff_exists.1 hz
      obtain ⟨x, hx, hk⟩ := hno z Z hZ
      obtain ⟨z', Z', hk', hw, _⟩ := hent x hx
      have : z' = z := kI_inj (hk'.symm.trans hk)
      subst this
      exact List.mem_map.2 ⟨x, hx, by simp only [Function.comp, hrg x hx z' hk hw]; rfl⟩
  · have hp := (WideShapes.sorted_perm (es.toList.map (WideElems.rg Tryz.prog 3 (fun _ => some ((.nil : DataW Unit), []))))).map (fun p => _root_.Go.intOf p.1)
    show ((List.foldr DataW.insert [] _).map (fun p => _root_.Go.intOf p.1)).Nodup
    rw [hp.nodup_iff, List.map_map]
    have hpw := ((stamped_iff es clock).1 hs).2.2
    refine List.pairwise_map.2 (List.Pairwise.imp_of_mem ?_ hpw)
    intro x y hx hy hne e
    obtain ⟨z1, Z1, hk1, hw1, _⟩ := hent x hx
    obtain ⟨z2, Z2, hk2, hw2, _⟩ := hent y hy
    simp only [Function.comp, hrg x hx z1 hk1 hw1, hrg y hy z2 hk2 hw2] at e
    have : z1 = z2 := e
    exact hne (by rw [hk1, hk2, this])
  · show (List.foldr DataW.insert [] _).length ≤ n
    rw [length_sorted]
    simpa using hsz
theorem keys_call (mb : Option Nat) (w : World) : Calls Tryz.prog 56 #[.map mb] w fun e w' => e = .returned (.func (.func 61) #[] #[.pointer (some ⟨w.heap.size, 0, none⟩)]) ∧ w' = w.alloc (.cells #[.map mb] 68) :=
  (callsIn_wide (n := 5)).1 (AnyZI.keys_in Tryz.keysA Fence.wide 5 trivial rfl mb w)
theorem sorts (m : Nat) : AnyZI.SortsIn Tryz.prog Tryz.sortedA_ren Fence.wide m :=
  ⟨fun blk off cap ss W hH hblk hsz => callsIn_wide.2 (AnyM.slices_Sort_int Tryz.sortA blk off cap ss W hH hblk hsz),
   fun p cap W => callsIn_wide.2 (AnyM.slices_Sort_int_none Tryz.sortA p cap W)⟩
set_option maxHeartbeats 1000000 in
theorem sortedKeys (b n : Nat) (M : Int → Option Nat) (L : List Int) (hn : n ≤ 1048576) (hL : L.Pairwise (· < ·)) (hm : ∀ z, z ∈ L ↔ (M z).isSome = true) (w : World) (h : Wm w b n M) :
    Calls Tryz.prog 55 #[.func (.func 61) #[] #[.pointer (some ⟨w.heap.size, 0, none⟩)]] (w.alloc (.cells #[.map (some b)] 68)) fun e w' => (∃ v, e = .returned v ∧ w'.ownsRow (w.heap.size + 1) 3 1 v L.length (L.map encZ)) ∧ Below (w.heap.size + 1) (w.alloc (.cells #[.map (some b)] 68)) w' := by
  obtain ⟨D0, hown, hk, hnd, hsz⟩ := h.own (Nat.le_trans hn (by decide))
  have hbl := hown.lt
  have hseq : SeqGives Fence.wide 2 Tryz.prog 61 #[.pointer (some ⟨w.heap.size, 0, none⟩)] encZ (fun ss => ss.Perm (intKeys D0)) (Maps.size D0) (w.alloc (.cells #[.map (some b)] 68)) :=
    AnyZI.keys_gives (ρ := Tryz.keysA_ren) { Tryz.keysA with } Fence.wide _ trivial rfl (by omega) w.heap.size b n D0 _ (by simp) (by simp) (by
      obtain ⟨es, clock, hb, Ft, hs, hD⟩ := hown
      exact ⟨es, clock, (Below.heap_alloc _ _ b hbl).trans hb, Ft, hs, hD⟩)
  have cS := AnyZI.sorted_in Tryz.sortedA Fence.wide 5 trivial trivial trivial trivial rfl (by omega) (sorts _) (enters_of Tryz.func60 (by kernel_rfl) rfl) 61 #[.pointer (some ⟨w.heap.size, 0, none⟩)] trivial (enters_of Tryz.func61 (by kernel_rfl) rfl) _ _ (Nat.le_trans (Nat.le_trans hsz hn) (by decide)) (by omega) _ hseq
  change CallsIn _ _ Tryz.prog 55 _ _ _ at cS
  refine ((callsIn_wide (n := 5)).1 cS).mono ?_
  rintro e w' ⟨v, ss, rfl, hS, hrow, hnil, hb⟩
  have hnds : (ss.mergeSort (fun x y => decide (x ≤ y))).Nodup := ((List.mergeSort_perm ss _).trans hS).nodup_iff.2 hnd
  have hsrt : (ss.mergeSort (fun x y => decide (x ≤ y))).Pairwise (fun x y => decide (x ≤ y) = true) := List.pairwise_mergeSort (by simp; omega) (by simp; omega) ss
  have heq : ss.mergeSort (fun x y => decide (x ≤ y)) = L := asc_eq ((hsrt.and hnds).imp (fun h => by simp at h; omega)) hL (fun z => by rw [((List.mergeSort_perm ss _).trans hS).mem_iff, hk z, hm z])
  have hlen : ss.length = L.length := by rw [← heq, List.length_mergeSort]
  rw [heq, hlen] at hrow
  rw [World.size_alloc] at hrow hb
  exact ⟨⟨v, rfl, hrow⟩, hb⟩
end Go.Proofs.YtgjapdjidighlabGreat
