/- The walk of the program's WlkRead: a text's walker and true, or nothing and false; conditions: the library's variables are as its text lays them. -/
import Derived.Test.YtpfemjenhnnfmaaDoorRead3
namespace Go.Proofs.YtpfemjenhnnfmaaDoor
open Go.RowKit
set_option linter.unusedVariables false
set_option maxRecDepth 20000

/-- The number that the program reads in the k-th word. -/
def vF (s : ByteArray) (k : Nat) : Int := atoiV ((words s.data.toList).getD k [])
def vText (s : ByteArray) : ByteArray := textOf (vF s 1) (vF s 3) (vF s 5) (vF s 7) (vF s 9)
def vOk (s : ByteArray) : Prop := s.size ≤ 100 ∧ (words s.data.toList).length = 10 ∧ vText s = s

theorem pieces (s : ByteArray) : (Lib.splitB ⟨#[32]⟩ 0 (Lib.countB s ⟨#[32]⟩) s).map (fun x => x.data.toList) = words s.data.toList := by
  rw [Lib.splitB_data, ← split_words]
  have : Lib.countB s ⟨#[32]⟩ = s.data.toList.count 32 := by rw [← Lib.count_one]
  rw [this]
theorem pieces_len (s : ByteArray) : (Lib.splitB ⟨#[32]⟩ 0 (Lib.countB s ⟨#[32]⟩) s).length = (words s.data.toList).length := by
  rw [← pieces s, List.length_map]

theorem wcount : ∀ l : List UInt8, (words l).length = l.count 32 + 1
  | [] => rfl
  | b :: r => by
    have ih := wcount r
    obtain ⟨w', ws', e⟩ := words_cons r
    unfold words
    by_cases hb : b = 32
    · subst hb; simp [ih]
    · rw [if_neg hb, e, List.count_cons]
      rw [e] at ih
      simp [hb] at ih ⊢
      exact ih

/-- What Split leaves in memory: a row of strings whose bytes are the words. -/
theorem split_any (s : ByteArray) (hs : s.size ≤ 100) (w : World) (hE : Env w) :
    Calls Tryd.prog 40 #[.string s, .string ⟨#[32]⟩] w fun e w' => ∃ ps : List ByteArray, ps.map (fun x => x.data.toList) = words s.data.toList ∧
      e = .returned (.slice (some ⟨w.heap.size, 0, none⟩) ps.length ps.length) ∧ (∀ k x, ps[k]? = some x → w'.cell? ⟨w.heap.size, k, none⟩ = some (.string x)) ∧ Below w.heap.size w w' ∧ w'.heap.size = w.heap.size + 1 := by
  obtain ⟨⟨m, hm⟩, _⟩ := hE w (Below.refl _ _)
  have hlen : Lib.countB s ⟨#[32]⟩ + 1 = (Lib.splitB ⟨#[32]⟩ 0 (Lib.countB s ⟨#[32]⟩) s).length := by
    have h1 := pieces_len s
    have h2 : (words s.data.toList).length = s.data.toList.count 32 + 1 := wcount s.data.toList
    have h3 : Lib.countB s ⟨#[32]⟩ = s.data.toList.count 32 := by rw [← Lib.count_one]
    omega
  refine (Tryd.strings_Split s ⟨#[32]⟩ m w (by omega) hm (by decide)).mono ?_
  rintro e w' ⟨rfl, rfl⟩
  refine ⟨_, pieces s, by rw [hlen], ?_, (Below.refl _ _).alloc (by simp) _, by simp⟩
  intro k x hx
  simp [hx]
end Go.Proofs.YtpfemjenhnnfmaaDoor
