/- The words in memory, looked at by the model's readers of orders; conditions: those typed. -/
import Derived.Test.YtmccbbanganjlaaDoorSRead1
import Derived.Test.YtmccbbanganjlaaDoorORead3
namespace Go.Proofs.YtmccbbanganjlaaDoor
open Go.RowKit
set_option linter.unusedVariables false

def sT (s : ByteArray) (f : Nat) : Int := if f = 55 then sideF (wordB s 3) else if f = 57 then uF s 3 else if f = 60 then sideF (wordB s 3) else 0
def sN (s : ByteArray) (f : Nat) : Int := if f = 57 then uF s 4 else if f = 58 then uF s 3 else if f = 59 then uF s 3 else if f = 60 then uF s 4 else 0

theorem side_nil : sideF ⟨#[]⟩ = -1 := by decide +kernel

/-- The words of a text, as a row of the model's own, are looked at so. -/
theorem looked (s : ByteArray) (h : (s.size : Int) ≤ 100) (base g n cap : Nat) (hn : n = (words s.data.toList).length) (w : World) (ho : w.ownsRow base 9 1 (.slice (some ⟨g, 0, none⟩) n cap) n (strs (words s.data.toList))) :
    Looked (.slice (some ⟨g, 0, none⟩) n cap) w (uF s) (fun k => sideF (wordB s k)) := by
  intro w' hb
  have ho2 := ho.kept (w' := w') (row := none) ⟨hb.os, hb.tape, hb.output, hb.size, fun k hk _ => hb.block k hk⟩ (.inr (by simp [Value.ownBlock]))
  have wl : (words s.data.toList).length ≤ 200 := by have := wlen s.data.toList; rw [size_len] at this; omega
  subst hn
  refine ⟨fun k hk => ?_, fun k hk => ?_⟩
  · have := at_any s h _ k hk _ _ ho2
    unfold uF
    rw [if_pos (by omega)]
    exact this
  · by_cases hlt : k < (words s.data.toList).length
    · have hx : (words s.data.toList)[k]? = some ((words s.data.toList)[k]) := List.getElem?_eq_getElem hlt
      have hc := ho2.cells (g := g) rfl k (.string ⟨((words s.data.toList)[k]).toArray⟩) (by simp [strs, hx])
      rw [show (⟨g, 0, none⟩ : Addr).add k = ⟨g, k, none⟩ by unfold Addr.add; split <;> simp_all] at hc
      have hw : wordB s k = ⟨((words s.data.toList)[k]).toArray⟩ := by unfold wordB; rw [List.getD_eq_getElem?_getD, hx]; rfl
      have := where_some g (words s.data.toList).length cap k (by omega) (by omega) _ w' hc
      simp only [hw]
      exact this
    · have hw : wordB s k = ⟨#[]⟩ := by unfold wordB; rw [List.getD_eq_getElem?_getD, List.getElem?_eq_none (by omega)]; rfl
      have := where_none (some ⟨g, 0, none⟩) (words s.data.toList).length cap k (by omega) hk w'
      simp only [hw, side_nil]
      exact this

/-- What the model's l3What makes of the words. -/
theorem what_any (s : ByteArray) (h : (s.size : Int) ≤ 100) (h3 : 3 ≤ (words s.data.toList).length) (base g n cap : Nat) (hn : n = (words s.data.toList).length) (f : Nat) (hf : readerOf (wordB s 2) = some f) (who seq : Int) (w : World) (ho : w.ownsRow base 9 1 (.slice (some ⟨g, 0, none⟩) n cap) n (strs (words s.data.toList))) :
    Calls Tryd.prog 37 #[.agg #[.int .i64 who, .int .i64 seq, .int .i64 0, .int .i64 0, .int .i64 0], .slice (some ⟨g, 0, none⟩) n cap] w fun e w' => e = .returned (.agg #[.int .i64 who, .int .i64 seq, .int .i64 (ordK f), .int .i64 (sT s f), .int .i64 (sN s f)]) ∧ Below w.heap.size w w' := by
  have hL := looked s h base g n cap hn w ho
  have wl : (words s.data.toList).length ≤ 200 := by have := wlen s.data.toList; rw [size_len] at this; omega
  have hx : (words s.data.toList)[2]? = some ((words s.data.toList)[2]) := List.getElem?_eq_getElem (by omega)
  have hc := ho.cells (g := g) rfl 2 (.string ⟨((words s.data.toList)[2]).toArray⟩) (by simp [strs, hx])
  rw [show (⟨g, 0, none⟩ : Addr).add 2 = ⟨g, 2, none⟩ by unfold Addr.add; split <;> simp_all] at hc
  have hw : wordB s 2 = ⟨((words s.data.toList)[2]).toArray⟩ := by unfold wordB; rw [List.getD_eq_getElem?_getD, hx]; rfl
  rw [← hw] at hc
  have hg : g < w.heap.size := World.block_lt_of_cell? w _ hc
  unfold readerOf at hf
  repeat' split at hf
  all_goals first
    | (rename_i he; rw [he] at hc; simp only [Option.some.injEq] at hf; subst hf; first | exact what_step g n cap (by omega) (by omega) who seq _ _ w hg hc hL | exact what_give g n cap (by omega) (by omega) who seq _ _ w hg hc hL | exact what_drop g n cap (by omega) (by omega) who seq _ _ w hg hc hL | exact what_pick g n cap (by omega) (by omega) who seq _ _ w hg hc hL | exact what_throw g n cap (by omega) (by omega) who seq _ _ w hg hc hL | exact what_rest g n cap (by omega) (by omega) who seq _ _ w hg hc hL)
    | (simp at hf; done)

theorem what_else (s : ByteArray) (h : (s.size : Int) ≤ 100) (h3 : 3 ≤ (words s.data.toList).length) (base g n cap : Nat) (hn : n = (words s.data.toList).length) (hf : readerOf (wordB s 2) = none) (who seq : Int) (w : World) (ho : w.ownsRow base 9 1 (.slice (some ⟨g, 0, none⟩) n cap) n (strs (words s.data.toList))) :
    Calls Tryd.prog 37 #[.agg #[.int .i64 who, .int .i64 seq, .int .i64 0, .int .i64 0, .int .i64 0], .slice (some ⟨g, 0, none⟩) n cap] w fun e w' => e = .returned (.agg #[.int .i64 0, .int .i64 0, .int .i64 0, .int .i64 0, .int .i64 0]) ∧ Below w.heap.size w w' := by
  have wl : (words s.data.toList).length ≤ 200 := by have := wlen s.data.toList; rw [size_len] at this; omega
  have hx : (words s.data.toList)[2]? = some ((words s.data.toList)[2]) := List.getElem?_eq_getElem (by omega)
  have hc := ho.cells (g := g) rfl 2 (.string ⟨((words s.data.toList)[2]).toArray⟩) (by simp [strs, hx])
  rw [show (⟨g, 0, none⟩ : Addr).add 2 = ⟨g, 2, none⟩ by unfold Addr.add; split <;> simp_all] at hc
  have hw : wordB s 2 = ⟨((words s.data.toList)[2]).toArray⟩ := by unfold wordB; rw [List.getD_eq_getElem?_getD, hx]; rfl
  rw [← hw] at hc
  have hg : g < w.heap.size := World.block_lt_of_cell? w _ hc
  exact what_none g n cap (by omega) (by omega) who seq _ hf w hg hc
end Go.Proofs.YtmccbbanganjlaaDoor
