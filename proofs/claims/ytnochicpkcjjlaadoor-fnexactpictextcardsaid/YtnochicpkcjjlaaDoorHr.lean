/-
  Numbers in a row.
-/
import Derived.Test.YtnochicpkcjjlaaDoorJn
namespace Go.Proofs.YtnochicpkcjjlaaDoor
open Go.RowKit
set_option linter.unusedVariables false

/-- Numbers in a row, from an address on. -/
def R1At (w : World) (a : Option Addr) (xs : List Int) : Prop := xs = [] ∨ ∃ b off, a = some ⟨b, off, none⟩ ∧ b < w.heap.size ∧ ∀ i, i < xs.length → w.cell? ⟨b, off + i, none⟩ = some (.int .i64 (xs.getD i 0))
theorem R1At.below {w w' : World} {a : Option Addr} {xs : List Int} (h : R1At w a xs) (hb : Below w.heap.size w w') : R1At w' a xs := by
  rcases h with h | ⟨b, off, rfl, hbl, hc⟩
  · exact Or.inl h
  · exact Or.inr ⟨b, off, rfl, Nat.lt_of_lt_of_le hbl hb.size, fun i hi => keepc hb (hc i hi)⟩
theorem row1_at {w : World} {B : Nat} {v : Value} {xs : List Int} (h : OwnI w B v xs) : ∃ a cap, v = .slice a xs.length cap ∧ R1At w a xs := by
  obtain ⟨h1, h2⟩ := h
  rcases h2 with ⟨rfl, h2⟩ | ⟨g, cap, cur, rfl, hg, hh, _, _, _, ht⟩
  · exact ⟨none, 0, by rw [h2], Or.inl (List.length_eq_zero_iff.1 h2)⟩
  · refine ⟨_, cap, rfl, Or.inr ⟨g, 0, rfl, (Array.getElem?_eq_some_iff.1 hh).1, fun i hi => ?_⟩⟩
    simp only [Nat.zero_add]
    have e : (intsV xs)[i]? = some (.int .i64 (xs.getD i 0)) := by simp [intsV, List.getElem?_eq_getElem hi]
    rw [cell_of_row w g i cur 3 (0, 0) hh, ← e, ← ht, List.getElem?_take_of_lt (by omega)]
    simp
theorem R1At.at {w : World} {a : Option Addr} {xs : List Int} (h : R1At w a xs) {i : Nat} (hi : i < xs.length) : ∃ b off, a = some ⟨b, off, none⟩ ∧ b < w.heap.size ∧ w.cell? ⟨b, off + i, none⟩ = some (.int .i64 (xs.getD i 0)) := by
  rcases h with q | ⟨b, off, e, hb, hc⟩
  · rw [q] at hi; simp at hi
  · exact ⟨b, off, e, hb, hc i hi⟩
end Go.Proofs.YtnochicpkcjjlaaDoor
