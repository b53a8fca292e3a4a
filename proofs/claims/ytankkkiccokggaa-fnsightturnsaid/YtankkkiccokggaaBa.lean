/-
  Small facts on worlds: what lies below a number of blocks stays, through one call and the next.
-/
import Derived.WalkKit
import Derived.WalkLawsBesides
import Derived.Below
import Derived.Deep.Draws
namespace Go.Proofs.Ytankkkiccokggaa
open Go.RowKit

/-- Behind a call that turned nothing old: old cells and old marks read as before. -/
theorem bcell {W w1 : World} (hb : Below W.heap.size W w1) : (∀ b o, b < W.heap.size → w1.cell? ⟨b, o, none⟩ = W.cell? ⟨b, o, none⟩) ∧ (∀ b o, b < W.heap.size → w1.frozen? ⟨b, o, none⟩ = W.frozen? ⟨b, o, none⟩) :=
  ⟨fun b o h => hb.cell (p := ⟨b, o, none⟩) h, fun b o h => hb.frozen (p := ⟨b, o, none⟩) h⟩

/-- One step, and then a call. -/
theorem bcall {B : Nat} {w w1 w2 : World} (h : Below B w w1) (hB : B ≤ w1.heap.size) (h2 : Below w1.heap.size w1 w2) : Below B w w2 :=
  h.trans (h2.mono hB)

/-- A cell that is there stays, and so does its mark. -/
theorem keepc {W w1 : World} (hb : Below W.heap.size W w1) {b o : Nat} {v : Value} (h : W.cell? ⟨b, o, none⟩ = some v) : w1.cell? ⟨b, o, none⟩ = some v :=
  (hb.cell (World.block_lt_of_cell? W _ h)).trans h
theorem keepf {W w1 : World} (hb : Below W.heap.size W w1) {b o : Nat} {v : Value} {c : Bool} (h : W.cell? ⟨b, o, none⟩ = some v) (hf : W.frozen? ⟨b, o, none⟩ = c) : w1.frozen? ⟨b, o, none⟩ = c :=
  (hb.frozen (World.block_lt_of_cell? W _ h)).trans hf

/-- A draw ahead of a call. -/
theorem bdrew {w w' : World} (h : Below w.drew.heap.size w.drew w') : Below w.heap.size w w' := ⟨h.os, h.tape, h.output, h.size, h.block⟩

theorem setc {w : World} {g j b o : Nat} {u v : Value} (hne : b ≠ g) (h : w.cell? ⟨b, o, none⟩ = some v) : (w.setCell ⟨g, j, none⟩ u).cell? ⟨b, o, none⟩ = some v := by
  rw [World.cell?_of_block (w := w) (Below.heap_setCell w ⟨g, j, none⟩ u b hne)]
  exact h
theorem setf {w : World} {g j b o : Nat} {u : Value} {c : Bool} (hne : b ≠ g) (h : w.frozen? ⟨b, o, none⟩ = c) : (w.setCell ⟨g, j, none⟩ u).frozen? ⟨b, o, none⟩ = c := by
  rw [World.frozen?_of_block (w := w) (Below.heap_setCell w ⟨g, j, none⟩ u b hne)]
  exact h
theorem bdrewN {w w' : World} {n : Nat} (h : Below (w.drewN n).heap.size (w.drewN n) w') : Below w.heap.size w w' := ⟨h.os, h.tape, h.output, h.size, h.block⟩

theorem valI {k : IntKind} {a b : Int} (h : a = b) : Value.int k a = Value.int k b := by rw [h]

end Go.Proofs.Ytankkkiccokggaa
