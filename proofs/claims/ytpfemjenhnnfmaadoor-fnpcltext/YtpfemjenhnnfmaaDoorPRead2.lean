/- The walk of the program's PclRead: a text's parcel and true, or nothing and false; conditions: the library's variables are as its text lays them. -/
import Derived.Test.YtpfemjenhnnfmaaDoorPRead1
namespace Go.Proofs.YtpfemjenhnnfmaaDoor
open Go.RowKit
set_option linter.unusedVariables false

theorem empty_of_size {s : ByteArray} (h : s.size = 0) : s = ⟨#[]⟩ := by
  cases s with | mk d => cases d with | mk l => simp [ByteArray.size] at h; simp [h]

theorem pread_zero (w : World) :
    Calls Tryd.prog 7 #[.string ⟨#[]⟩] w fun e w' => e = .returned (.tuple #[nullP.val, .bool false]) ∧ Below w.heap.size w w' := by
  go_enter Tryd.func7, Tryd.ntmps7
  go_wp2
  exact bodyPost_ret (v := .tuple #[nullP.val, .bool false]) (by simp [results, Tryd.results7, go_sem, nullP, Pcl.val]) rfl ⟨rfl, (Below.refl _ _).alloc (by simp) _⟩

theorem pread_long (s : ByteArray) (he : s.toList.isEmpty = false) (h : (100 : Int) < (s.size : Int)) (w : World) :
    Calls Tryd.prog 7 #[.string s] w fun e w' => e = .returned (.tuple #[nullP.val, .bool false]) ∧ Below w.heap.size w w' := by
  go_enter Tryd.func7, Tryd.ntmps7
  go_wp2
  all_goals first
    | exact bodyPost_ret (v := .tuple #[nullP.val, .bool false]) (by simp [results, Tryd.results7, go_sem, nullP, Pcl.val]) rfl ⟨rfl, (Below.refl _ _).alloc (by simp) _⟩
    | (exfalso; simp_all; done)

set_option maxHeartbeats 2000000 in
theorem pread_main (s : ByteArray) (he : s.toList.isEmpty = false) (h : (s.size : Int) ≤ 100) (w : World) (hE : Env w) :
    Calls Tryd.prog 7 #[.string s] w fun e w' => (((iP s).text.toList = s.toList ∧ e = .returned (.tuple #[(iP s).val, .bool true])) ∨ ((iP s).text.toList ≠ s.toList ∧ e = .returned (.tuple #[nullP.val, .bool false]))) ∧ Below w.heap.size w w' := by
  have HE : Hid (Env (w.alloc (.cells #[.int .i64 0, .int .i64 0, .int .i64 0, .int .i64 0, .int .i64 0, .int .i64 0, .int .i64 0, .int .i64 0] 26))) := hE.on ((Below.refl _ _).alloc (by simp) _)
  obtain ⟨⟨m, hm⟩, _⟩ := HE.out _ (Below.refl _ _)
  have HM : Hid (((w.alloc (.cells #[.int .i64 0, .int .i64 0, .int .i64 0, .int .i64 0, .int .i64 0, .int .i64 0, .int .i64 0, .int .i64 0] 26))).cell? ⟨0, 0, none⟩ = some (.int .i64 m)) := hm
  clear hE hm
  have hlen : s.data.toList.length ≤ 100 := by rw [size_len]; omega
  obtain ⟨l1, l2⟩ := cut_len s.data.toList
  go_enter Tryd.func7, Tryd.ntmps7
  go_wp2_with fail
  refine (Tryd.strings_Cut s ⟨#[32]⟩ m _ (by omega) HM.out).mono ?_
  rintro e w1 ⟨rfl, nd, rfl⟩
  have B1 : Below ((w.alloc (.cells #[.int .i64 0, .int .i64 0, .int .i64 0, .int .i64 0, .int .i64 0, .int .i64 0, .int .i64 0, .int .i64 0] 26))).heap.size ((w.alloc (.cells #[.int .i64 0, .int .i64 0, .int .i64 0, .int .i64 0, .int .i64 0, .int .i64 0, .int .i64 0, .int .i64 0] 26))) (((w.alloc (.cells #[.int .i64 0, .int .i64 0, .int .i64 0, .int .i64 0, .int .i64 0, .int .i64 0, .int .i64 0, .int .i64 0] 26))).drewN nd) := bdrewN (Below.refl _ _) nd
  rw [show (⟨#[32]⟩ : ByteArray).data.toList = [32] from rfl]
  have hiP : iP s = lpF (atoiV (Lib.cut s.data.toList [32]).1) ⟨(Lib.cut s.data.toList [32]).2.1.toArray⟩ := rfl
  have HP0 : Hid (∃ P, iP s = P ∧ P = lpF (atoiV (Lib.cut s.data.toList [32]).1) ⟨(Lib.cut s.data.toList [32]).2.1.toArray⟩) := ⟨_, rfl, hiP⟩
  clear hiP
  obtain ⟨P, hP, hiP⟩ := HP0.out
  have HP : Hid (iP s = P) := hP
  clear hP HP0
  generalize Lib.cut s.data.toList [32] = C at *
  obtain ⟨Ca, Cb, Cf⟩ := C
  simp only at l1 l2 hiP
  go_wp2_with fail
  refine (loose_list Ca (by omega) _ (HE.out.on B1)).mono ?_
  rintro e w2 ⟨rfl, hb2⟩
  have B2 := bthen B1 hb2
  go_wp2_with fail
  refine (looseParcel (atoiV Ca) ⟨Cb.toArray⟩ (by simp [ByteArray.size]; omega) _ (HE.out.on B2)).mono ?_
  rintro e w3 ⟨rfl, hb3⟩
  rw [← hiP]
  clear hiP
  have B3 := bthen B2 hb3
  obtain ⟨pn, pk, i, a, n, s1, l, pc⟩ := P
  have T3 : Hid (Lib.TabBelow Tryd.prog w3.heap.size w3 "internal/strconv.uint64pow10" .u64 Lib.pow10Tab) := fun w' h' => HE.out.tab w' (bthen B3 h')
  have B3' : Below w3.heap.size w3 (w3.alloc (.cells #[.int .i64 pn, .int .i64 pk, .int .i64 i, .int .i64 a, .int .i64 n, .int .i64 s1, .int .i64 l, .int .i64 pc] 26)) := (Below.refl _ _).alloc (Nat.le_refl _) _
  have T4 : Hid (Lib.TabBelow Tryd.prog (w3.alloc (.cells #[.int .i64 pn, .int .i64 pk, .int .i64 i, .int .i64 a, .int .i64 n, .int .i64 s1, .int .i64 l, .int .i64 pc] 26)).heap.size (w3.alloc (.cells #[.int .i64 pn, .int .i64 pk, .int .i64 i, .int .i64 a, .int .i64 n, .int .i64 s1, .int .i64 l, .int .i64 pc] 26)) "internal/strconv.uint64pow10" .u64 Lib.pow10Tab) := fun w' h' => T3.out w' (bthen B3' h')
  simp only [Pcl.val]
  go_wp2_with fail
  refine (pclText_impl _ _ _ _ _ _ _ _ _ T4.out).mono ?_
  rintro e w4 ⟨rfl, hb4⟩
  have B4 := bthen (bthen B3 B3') hb4
  obtain ⟨hc, hf⟩ := bcell B4
  obtain ⟨hcp, _⟩ := bcell hb4
  have hz4 : w.heap.size < w4.heap.size := by have := B4.size; simp at this; omega
  have c0 : w4.cell? ⟨w.heap.size, 0, none⟩ = some (.int .i64 0) := (hc _ 0 (by simp)).trans (by simp)
  have f0 : w4.frozen? ⟨w.heap.size, 0, none⟩ = false := (hf _ 0 (by simp)).trans (by simp)
  have p0 : w4.cell? ⟨w3.heap.size, 0, none⟩ = some (.int .i64 pn) := (hcp _ 0 (by simp)).trans (by simp)
  have c1 : w4.cell? ⟨w.heap.size, 1, none⟩ = some (.int .i64 0) := (hc _ 1 (by simp)).trans (by simp)
  have f1 : w4.frozen? ⟨w.heap.size, 1, none⟩ = false := (hf _ 1 (by simp)).trans (by simp)
  have p1 : w4.cell? ⟨w3.heap.size, 1, none⟩ = some (.int .i64 pk) := (hcp _ 1 (by simp)).trans (by simp)
  have c2 : w4.cell? ⟨w.heap.size, 2, none⟩ = some (.int .i64 0) := (hc _ 2 (by simp)).trans (by simp)
  have f2 : w4.frozen? ⟨w.heap.size, 2, none⟩ = false := (hf _ 2 (by simp)).trans (by simp)
  have p2 : w4.cell? ⟨w3.heap.size, 2, none⟩ = some (.int .i64 i) := (hcp _ 2 (by simp)).trans (by simp)
  have c3 : w4.cell? ⟨w.heap.size, 3, none⟩ = some (.int .i64 0) := (hc _ 3 (by simp)).trans (by simp)
  have f3 : w4.frozen? ⟨w.heap.size, 3, none⟩ = false := (hf _ 3 (by simp)).trans (by simp)
  have p3 : w4.cell? ⟨w3.heap.size, 3, none⟩ = some (.int .i64 a) := (hcp _ 3 (by simp)).trans (by simp)
  have c4 : w4.cell? ⟨w.heap.size, 4, none⟩ = some (.int .i64 0) := (hc _ 4 (by simp)).trans (by simp)
  have f4 : w4.frozen? ⟨w.heap.size, 4, none⟩ = false := (hf _ 4 (by simp)).trans (by simp)
  have p4 : w4.cell? ⟨w3.heap.size, 4, none⟩ = some (.int .i64 n) := (hcp _ 4 (by simp)).trans (by simp)
  have c5 : w4.cell? ⟨w.heap.size, 5, none⟩ = some (.int .i64 0) := (hc _ 5 (by simp)).trans (by simp)
  have f5 : w4.frozen? ⟨w.heap.size, 5, none⟩ = false := (hf _ 5 (by simp)).trans (by simp)
  have p5 : w4.cell? ⟨w3.heap.size, 5, none⟩ = some (.int .i64 s1) := (hcp _ 5 (by simp)).trans (by simp)
  have c6 : w4.cell? ⟨w.heap.size, 6, none⟩ = some (.int .i64 0) := (hc _ 6 (by simp)).trans (by simp)
  have f6 : w4.frozen? ⟨w.heap.size, 6, none⟩ = false := (hf _ 6 (by simp)).trans (by simp)
  have p6 : w4.cell? ⟨w3.heap.size, 6, none⟩ = some (.int .i64 l) := (hcp _ 6 (by simp)).trans (by simp)
  have c7 : w4.cell? ⟨w.heap.size, 7, none⟩ = some (.int .i64 0) := (hc _ 7 (by simp)).trans (by simp)
  have f7 : w4.frozen? ⟨w.heap.size, 7, none⟩ = false := (hf _ 7 (by simp)).trans (by simp)
  have p7 : w4.cell? ⟨w3.heap.size, 7, none⟩ = some (.int .i64 pc) := (hcp _ 7 (by simp)).trans (by simp)
  have HB : Hid (Below w.heap.size w w4) := bthen ((Below.refl _ _).alloc (by simp) _) B4
  clear hc hf hcp hb4 B4 B3' B3 B2 B1 hb2 hb3 T3 T4
  by_cases ht : (pclText pn pk i a n s1 l pc).toList = s.toList
  · have ht' : ((pclText pn pk i a n s1 l pc).toList == s.toList) = true := by simpa using ht
    have HT : Hid ((iP s).text.toList = s.toList) := by unfold Hid; rw [HP.out]; exact ht
    clear ht
    go_wp2
    exact bodyPost_ret (v := .tuple #[Pcl.val ⟨pn, pk, i, a, n, s1, l, pc⟩, .bool true]) (by simp [results, Tryd.results7, go_sem, c0, c1, c2, c3, c4, c5, c6, c7, Pcl.val]) rfl ⟨.inl ⟨HT.out, by rw [HP.out]⟩, by (iterate 8 (refine Below.setCell ?_ (by simp) _)); exact HB.out⟩
  · have ht' : ((pclText pn pk i a n s1 l pc).toList == s.toList) = false := by simpa using ht
    have HT : Hid ((iP s).text.toList ≠ s.toList) := by unfold Hid; rw [HP.out]; exact ht
    clear ht
    go_wp2
    exact bodyPost_ret (v := .tuple #[nullP.val, .bool false]) (by simp [results, Tryd.results7, go_sem, c0, c1, c2, c3, c4, c5, c6, c7, nullP, Pcl.val]) rfl ⟨.inr ⟨HT.out, rfl⟩, by (iterate 8 (refine Below.setCell ?_ (by simp) _)); exact HB.out⟩
end Go.Proofs.YtpfemjenhnnfmaaDoor
