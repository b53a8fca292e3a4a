/-
  A box that holds a grid: newly made behind the calls, or made ahead of them and filled behind them: the same facts either way.
-/
import Derived.Test.YtmnninhifiajhaaJr
import Derived.Test.YtmnninhifiajhaaJu
namespace Go.Proofs.Ytmnninhifiajhaa
open Go.RowKit
set_option linter.unusedVariables false

/-- A box holds a grid: its width, and where its cells lie. -/
def BoxAt (w : World) (blk : Nat) (x : Int) (cs : List (Int × Int)) : Prop :=
  ∃ (a : Option Addr) (c : Nat), blk < w.heap.size ∧ w.cell? ⟨blk, 0, none⟩ = some (.int .i64 x) ∧ w.cell? ⟨blk, 1, none⟩ = some (.slice a cs.length c) ∧ CellsAt w a cs

theorem box_new {w0 w6 : World} {a : Option Addr} {cs : List (Int × Int)} (hb : Below w0.heap.size w0 w6) (hC : CellsAt w6 a cs) (x : Int) (c : Nat) :
    BoxAt (w6.alloc (.cells #[.int .i64 x, .slice a cs.length c] 25)) w6.heap.size x cs ∧ Below w0.heap.size w0 (w6.alloc (.cells #[.int .i64 x, .slice a cs.length c] 25)) :=
  ⟨⟨a, c, by simp, by simp [go_sem], by simp [go_sem], hC.below ((Below.refl _ _).alloc (Nat.le_refl _) _)⟩, bcall hb hb.size ((Below.refl _ _).alloc (Nat.le_refl _) _)⟩

theorem box_set {w0 w6 : World} {a : Option Addr} {cs : List (Int × Int)} {blk B c : Nat} {u0 u1 : Value} (hb : Below w0.heap.size w0 w6) (h0 : w0.heap.size ≤ blk) (hC : CellsAt w6 a cs) (hO : Own w6 B (.slice a cs.length c) cs) (hB : blk < B) (h1 : 1 ≤ cs.length) (hz : blk < w6.heap.size)
    (z0 : w6.cell? ⟨blk, 0, none⟩ = some u0) (z1 : w6.cell? ⟨blk, 1, none⟩ = some u1) (x : Int) :
    BoxAt ((w6.setCell ⟨blk, 0, none⟩ (.int .i64 x)).setCell ⟨blk, 1, none⟩ (.slice a cs.length c)) blk x cs ∧ Below w0.heap.size w0 ((w6.setCell ⟨blk, 0, none⟩ (.int .i64 x)).setCell ⟨blk, 1, none⟩ (.slice a cs.length c)) := by
  have hna : ∀ b off, a = some ⟨b, off, none⟩ → b ≠ blk := by
    obtain ⟨g6, cap6, e6, hg6, _⟩ := own_form' hO (by omega)
    simp only [Value.slice.injEq] at e6
    intro b off e
    rw [e] at e6
    simp only [Option.some.injEq, Addr.mk.injEq, and_true] at e6
    omega
  have hb2 : Below w0.heap.size w0 ((w6.setCell ⟨blk, 0, none⟩ (.int .i64 x)).setCell ⟨blk, 1, none⟩ (.slice a cs.length c)) := (hb.setCell (p := ⟨blk, 0, none⟩) h0 _).setCell (p := ⟨blk, 1, none⟩) h0 _
  refine ⟨⟨a, c, ?_, ?_, ?_, (hC.set hna _).set hna _⟩, hb2⟩
  · simpa using hz
  · rw [World.cell?_setCell_other _ _ _ _ (by simp)]
    exact World.cell?_setCell_same _ _ _ z0
  · exact World.cell?_setCell_same _ _ _ (by rw [World.cell?_setCell_other _ _ _ _ (by simp)]; exact z1)

end Go.Proofs.Ytmnninhifiajhaa
