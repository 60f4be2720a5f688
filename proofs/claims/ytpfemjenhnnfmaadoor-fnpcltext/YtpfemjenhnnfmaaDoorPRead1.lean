/- The walk of the program's PclRead: a text's parcel and true, or nothing and false; conditions: the library's variables are as its text lays them. -/
import Derived.Test.YtpfemjenhnnfmaaDoorPText2
import Derived.Test.YtpfemjenhnnfmaaDoorRead5
import Derived.Test.YtpfemjenhnnfmaaDoorAgree
namespace Go.Proofs.YtpfemjenhnnfmaaDoor
open Go.RowKit
set_option linter.unusedVariables false

structure Pcl where
  pn : Int
  pk : Int
  i : Int
  a : Int
  n : Int
  s : Int
  l : Int
  pc : Int
def Pcl.val (P : Pcl) : Value := .agg #[.int .i64 P.pn, .int .i64 P.pk, .int .i64 P.i, .int .i64 P.a, .int .i64 P.n, .int .i64 P.s, .int .i64 P.l, .int .i64 P.pc]
def Pcl.text (P : Pcl) : ByteArray := pclText P.pn P.pk P.i P.a P.n P.s P.l P.pc
def nullP : Pcl := ⟨0, 0, 0, 0, 0, 0, 0, 0⟩

def COINS : ByteArray := ⟨#[99, 111, 105, 110, 115, 32]⟩
open Classical in
/-- What the program takes what stands behind the number for. -/
noncomputable def lpF (n : Int) (W : ByteArray) : Pcl :=
  if Lib.hasPrefix W.data.toList COINS.data.toList = true then ⟨n, 2, 0, 0, 0, 0, 0, atoiV (Lib.trimPrefix W.data.toList COINS.data.toList)⟩
  else if vOk W then ⟨n, 1, vF W 1, vF W 3, vF W 5, vF W 7, vF W 9, 0⟩ else ⟨n, 1, 0, 0, 0, 0, 0, 0⟩

theorem loose_list (l : List UInt8) (hl : l.length ≤ 1000) (w : World) (hE : Env w) :
    Calls Tryd.prog 18 #[.string ⟨l.toArray⟩] w fun e w' => e = .returned (.int .i64 (atoiV l)) ∧ Below w.heap.size w w' :=
  loose ⟨l.toArray⟩ (by simpa [ByteArray.size] using hl) w hE

theorem trim_len (s p : List UInt8) : (Lib.trimPrefix s p).length ≤ s.length := by
  unfold Lib.trimPrefix
  split
  · simp
  · exact Nat.le_refl _

theorem looseParcel (n : Int) (W : ByteArray) (hW : W.size ≤ 1000) (w : World) (hE : Env w) :
    Calls Tryd.prog 17 #[.int .i64 n, .string W] w fun e w' => e = .returned (lpF n W).val ∧ Below w.heap.size w w' := by
  have hlen : W.data.toList.length ≤ 1000 := by rw [size_len]; exact hW
  cases h : Lib.hasPrefix W.data.toList COINS.data.toList
  · by_cases hv : vOk W
    · skip
      have HQ : Hid (lpF n W = ⟨n, 1, vF W 1, vF W 3, vF W 5, vF W 7, vF W 9, 0⟩) := by show lpF n W = _; unfold lpF; rw [h, if_neg (by simp), if_pos hv]
      have HE : Hid (Env (w.alloc (.cells #[.int .i64 0, .int .i64 0, .int .i64 0, .int .i64 0, .int .i64 0, .int .i64 0, .int .i64 0, .int .i64 0] 26))) := hE.on ((Below.refl _ _).alloc (by simp) _)
      clear hE
      go_enter Tryd.func17, Tryd.ntmps17
      go_wp2_with fail
      refine (Tryd.strings_CutPrefix W COINS _).mono ?_
      rintro e w1 ⟨rfl, rfl⟩
      rw [h]
      go_wp2_with fail
      refine (read_impl W _ HE.out).mono ?_
      rintro e w2 ⟨hcase, hb⟩
      obtain ⟨hc, hf⟩ := bcell hb
      rcases hcase with ⟨hv2, rfl⟩ | ⟨hv2, rfl⟩
      · skip
        have hz2 : w.heap.size < w2.heap.size := by have := hb.size; simp at this; omega
        have c0 : w2.cell? ⟨w.heap.size, 0, none⟩ = some (.int .i64 0) := (hc _ 0 (by simp)).trans (by simp)
        have hne : w.heap.size ≠ w2.heap.size := by omega
        have hne' : w2.heap.size ≠ w.heap.size := by omega
        have c1 : w2.cell? ⟨w.heap.size, 1, none⟩ = some (.int .i64 0) := (hc _ 1 (by simp)).trans (by simp)
        have c2 : w2.cell? ⟨w.heap.size, 2, none⟩ = some (.int .i64 0) := (hc _ 2 (by simp)).trans (by simp)
        have c3 : w2.cell? ⟨w.heap.size, 3, none⟩ = some (.int .i64 0) := (hc _ 3 (by simp)).trans (by simp)
        have c4 : w2.cell? ⟨w.heap.size, 4, none⟩ = some (.int .i64 0) := (hc _ 4 (by simp)).trans (by simp)
        have c5 : w2.cell? ⟨w.heap.size, 5, none⟩ = some (.int .i64 0) := (hc _ 5 (by simp)).trans (by simp)
        have c6 : w2.cell? ⟨w.heap.size, 6, none⟩ = some (.int .i64 0) := (hc _ 6 (by simp)).trans (by simp)
        have c7 : w2.cell? ⟨w.heap.size, 7, none⟩ = some (.int .i64 0) := (hc _ 7 (by simp)).trans (by simp)
        have f0 : w2.frozen? ⟨w.heap.size, 0, none⟩ = false := (hf _ 0 (by simp)).trans (by simp)
        have fz : ∀ (X : World) (ob : Obj) (o : Nat), X.heap.size = w2.heap.size → (X.alloc ob).frozen? ⟨w.heap.size, o, none⟩ = X.frozen? ⟨w.heap.size, o, none⟩ := fun X ob o hX => frozen_alloc (by rw [hX]; exact hz2)
        have cz : ∀ (X : World) (ob : Obj) (o : Nat), X.heap.size = w2.heap.size → (X.alloc ob).cell? ⟨w.heap.size, o, none⟩ = X.cell? ⟨w.heap.size, o, none⟩ := fun X ob o hX => ((Below.refl _ _).alloc (Nat.le_refl _) _ : Below X.heap.size X (X.alloc ob)).cell (p := ⟨w.heap.size, o, none⟩) (by rw [hX]; exact hz2)
        have f1 : w2.frozen? ⟨w.heap.size, 1, none⟩ = false := (hf _ 1 (by simp)).trans (by simp)
        have f2 : w2.frozen? ⟨w.heap.size, 2, none⟩ = false := (hf _ 2 (by simp)).trans (by simp)
        have f3 : w2.frozen? ⟨w.heap.size, 3, none⟩ = false := (hf _ 3 (by simp)).trans (by simp)
        have f4 : w2.frozen? ⟨w.heap.size, 4, none⟩ = false := (hf _ 4 (by simp)).trans (by simp)
        have f5 : w2.frozen? ⟨w.heap.size, 5, none⟩ = false := (hf _ 5 (by simp)).trans (by simp)
        have f6 : w2.frozen? ⟨w.heap.size, 6, none⟩ = false := (hf _ 6 (by simp)).trans (by simp)
        have f7 : w2.frozen? ⟨w.heap.size, 7, none⟩ = false := (hf _ 7 (by simp)).trans (by simp)
        have HB : Hid (Below (w.alloc (.cells #[.int .i64 0, .int .i64 0, .int .i64 0, .int .i64 0, .int .i64 0, .int .i64 0, .int .i64 0, .int .i64 0] 26)).heap.size (w.alloc (.cells #[.int .i64 0, .int .i64 0, .int .i64 0, .int .i64 0, .int .i64 0, .int .i64 0, .int .i64 0, .int .i64 0] 26)) w2) := hb
        clear hc hf hb
        go_wp2
        rw [HQ.out]
        exact bodyPost_ret (v := Pcl.val ⟨n, 1, vF W 1, vF W 3, vF W 5, vF W 7, vF W 9, 0⟩) (by simp [results, Tryd.results17, go_sem, c0, c1, c2, c3, c4, c5, c6, c7, cz, Pcl.val]) rfl ⟨rfl, by refine Below.alloc ?_ (by simp [World.setCell]; omega) _; (iterate 8 (refine Below.setCell ?_ (by simp) _)); exact bthen ((Below.refl _ _).alloc (by simp) _) HB.out⟩
      · skip
        exact absurd hv hv2
    · skip
      have HQ : Hid (lpF n W = ⟨n, 1, 0, 0, 0, 0, 0, 0⟩) := by show lpF n W = _; unfold lpF; rw [h, if_neg (by simp), if_neg hv]
      have HE : Hid (Env (w.alloc (.cells #[.int .i64 0, .int .i64 0, .int .i64 0, .int .i64 0, .int .i64 0, .int .i64 0, .int .i64 0, .int .i64 0] 26))) := hE.on ((Below.refl _ _).alloc (by simp) _)
      clear hE
      go_enter Tryd.func17, Tryd.ntmps17
      go_wp2_with fail
      refine (Tryd.strings_CutPrefix W COINS _).mono ?_
      rintro e w1 ⟨rfl, rfl⟩
      rw [h]
      go_wp2_with fail
      refine (read_impl W _ HE.out).mono ?_
      rintro e w2 ⟨hcase, hb⟩
      obtain ⟨hc, hf⟩ := bcell hb
      rcases hcase with ⟨hv2, rfl⟩ | ⟨hv2, rfl⟩
      · skip
        exact absurd hv2 hv
      · skip
        have hz2 : w.heap.size < w2.heap.size := by have := hb.size; simp at this; omega
        have c0 : w2.cell? ⟨w.heap.size, 0, none⟩ = some (.int .i64 0) := (hc _ 0 (by simp)).trans (by simp)
        have hne : w.heap.size ≠ w2.heap.size := by omega
        have hne' : w2.heap.size ≠ w.heap.size := by omega
        have c1 : w2.cell? ⟨w.heap.size, 1, none⟩ = some (.int .i64 0) := (hc _ 1 (by simp)).trans (by simp)
        have c2 : w2.cell? ⟨w.heap.size, 2, none⟩ = some (.int .i64 0) := (hc _ 2 (by simp)).trans (by simp)
        have c3 : w2.cell? ⟨w.heap.size, 3, none⟩ = some (.int .i64 0) := (hc _ 3 (by simp)).trans (by simp)
        have c4 : w2.cell? ⟨w.heap.size, 4, none⟩ = some (.int .i64 0) := (hc _ 4 (by simp)).trans (by simp)
        have c5 : w2.cell? ⟨w.heap.size, 5, none⟩ = some (.int .i64 0) := (hc _ 5 (by simp)).trans (by simp)
        have c6 : w2.cell? ⟨w.heap.size, 6, none⟩ = some (.int .i64 0) := (hc _ 6 (by simp)).trans (by simp)
        have c7 : w2.cell? ⟨w.heap.size, 7, none⟩ = some (.int .i64 0) := (hc _ 7 (by simp)).trans (by simp)
        have f0 : w2.frozen? ⟨w.heap.size, 0, none⟩ = false := (hf _ 0 (by simp)).trans (by simp)
        have fz : ∀ (X : World) (ob : Obj) (o : Nat), X.heap.size = w2.heap.size → (X.alloc ob).frozen? ⟨w.heap.size, o, none⟩ = X.frozen? ⟨w.heap.size, o, none⟩ := fun X ob o hX => frozen_alloc (by rw [hX]; exact hz2)
        have cz : ∀ (X : World) (ob : Obj) (o : Nat), X.heap.size = w2.heap.size → (X.alloc ob).cell? ⟨w.heap.size, o, none⟩ = X.cell? ⟨w.heap.size, o, none⟩ := fun X ob o hX => ((Below.refl _ _).alloc (Nat.le_refl _) _ : Below X.heap.size X (X.alloc ob)).cell (p := ⟨w.heap.size, o, none⟩) (by rw [hX]; exact hz2)
        have f1 : w2.frozen? ⟨w.heap.size, 1, none⟩ = false := (hf _ 1 (by simp)).trans (by simp)
        have f2 : w2.frozen? ⟨w.heap.size, 2, none⟩ = false := (hf _ 2 (by simp)).trans (by simp)
        have f3 : w2.frozen? ⟨w.heap.size, 3, none⟩ = false := (hf _ 3 (by simp)).trans (by simp)
        have f4 : w2.frozen? ⟨w.heap.size, 4, none⟩ = false := (hf _ 4 (by simp)).trans (by simp)
        have f5 : w2.frozen? ⟨w.heap.size, 5, none⟩ = false := (hf _ 5 (by simp)).trans (by simp)
        have f6 : w2.frozen? ⟨w.heap.size, 6, none⟩ = false := (hf _ 6 (by simp)).trans (by simp)
        have f7 : w2.frozen? ⟨w.heap.size, 7, none⟩ = false := (hf _ 7 (by simp)).trans (by simp)
        have HB : Hid (Below (w.alloc (.cells #[.int .i64 0, .int .i64 0, .int .i64 0, .int .i64 0, .int .i64 0, .int .i64 0, .int .i64 0, .int .i64 0] 26)).heap.size (w.alloc (.cells #[.int .i64 0, .int .i64 0, .int .i64 0, .int .i64 0, .int .i64 0, .int .i64 0, .int .i64 0, .int .i64 0] 26)) w2) := hb
        clear hc hf hb
        go_wp2
        rw [HQ.out]
        exact bodyPost_ret (v := Pcl.val ⟨n, 1, 0, 0, 0, 0, 0, 0⟩) (by simp [results, Tryd.results17, go_sem, c0, c1, c2, c3, c4, c5, c6, c7, cz, Pcl.val]) rfl ⟨rfl, by refine Below.alloc ?_ (by simp [World.setCell]; omega) _; (iterate 8 (refine Below.setCell ?_ (by simp) _)); exact bthen ((Below.refl _ _).alloc (by simp) _) HB.out⟩
  · have HQ : Hid (lpF n W = ⟨n, 2, 0, 0, 0, 0, 0, atoiV (Lib.trimPrefix W.data.toList COINS.data.toList)⟩) := by show lpF n W = _; unfold lpF; rw [h, if_pos rfl]
    have HE : Hid (Env (w.alloc (.cells #[.int .i64 0, .int .i64 0, .int .i64 0, .int .i64 0, .int .i64 0, .int .i64 0, .int .i64 0, .int .i64 0] 26))) := hE.on ((Below.refl _ _).alloc (by simp) _)
    clear hE
    have htl : (Lib.trimPrefix W.data.toList COINS.data.toList).length ≤ 1000 := Nat.le_trans (trim_len _ _) hlen
    go_enter Tryd.func17, Tryd.ntmps17
    go_wp2_with fail
    refine (Tryd.strings_CutPrefix W COINS _).mono ?_
    rintro e w1 ⟨rfl, rfl⟩
    rw [h]
    generalize Lib.trimPrefix W.data.toList COINS.data.toList = R at *
    go_wp2_with fail
    refine (loose_list R htl _ HE.out).mono ?_
    rintro e w2 ⟨rfl, hb⟩
    obtain ⟨hc, hf⟩ := bcell hb
    go_wp2
    rw [HQ.out]
    exact bodyPost_ret (v := Pcl.val ⟨n, 2, 0, 0, 0, 0, 0, atoiV R⟩) (by simp [results, Tryd.results17, go_sem, hc, Pcl.val]) rfl ⟨rfl, by (iterate 8 (refine Below.setCell ?_ (by simp) _)); exact bthen ((Below.refl _ _).alloc (by simp) _) hb⟩

/-- The parcel that the program tries. -/
noncomputable def iP (s : ByteArray) : Pcl := lpF (atoiV (Lib.cut s.data.toList [32]).1) ⟨(Lib.cut s.data.toList [32]).2.1.toArray⟩

theorem cut_len (s : List UInt8) : (Lib.cut s [32]).1.length ≤ s.length ∧ (Lib.cut s [32]).2.1.length ≤ s.length := by
  unfold Lib.cut
  split
  · simp only [List.length_take, List.length_drop]; omega
  · simp

end Go.Proofs.YtpfemjenhnnfmaaDoor
