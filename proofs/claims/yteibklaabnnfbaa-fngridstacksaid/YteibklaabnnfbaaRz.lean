/-
  Helps for a grid that is put together of two rows of cells: what lies where, and the box that holds it.
-/
import Derived.Test.YteibklaabnnfbaaRx
import Derived.Test.YteibklaabnnfbaaRw
import Derived.Test.YteibklaabnnfbaaFb
import Derived.Deep.RegionHeldLaw
import Derived.Deep.AppendLies
import Derived.Deep.DrawnRows
import Derived.Deep.DeepCutAuto
namespace Go.Proofs.Yteibklaabnnfbaa
open Go.RowKit
set_option linter.unusedVariables false

theorem flat_oneR (cs : List (Int × Int)) : ∀ v ∈ flat cs, v.oneCell' = true := by
  intro v hv
  simp only [flat, List.mem_flatMap, List.mem_cons, List.not_mem_nil, or_false] at hv
  obtain ⟨c, _, rfl | rfl⟩ := hv <;> rfl
/-- Where the cells of a row lie, in whatever world behind w. -/
def SrcAt (w : World) (b off : Nat) (cs : List (Int × Int)) : Prop := ∀ j v, (flat cs)[j]? = some v → w.cell? ((⟨b, off, none⟩ : Addr).add j) = some v
theorem src_of {w : World} {b off : Nat} {cs : List (Int × Int)} (h : ∀ i, i < cs.length → w.cell? ⟨b, off + i * 2, none⟩ = some (.int .i64 (cs.getD i (0, 0)).1) ∧ w.cell? ⟨b, off + i * 2 + 1, none⟩ = some (.int .i64 (cs.getD i (0, 0)).2)) : SrcAt w b off cs := by
  intro j v hv
  have hadd : (⟨b, off, none⟩ : Addr).add j = ⟨b, off + j, none⟩ := by unfold Addr.add; split <;> simp_all
  rw [hadd]
  have hj : j < cs.length * 2 := by
    rw [← flat_len]
    exact (List.getElem?_eq_some_iff.1 hv).1
  obtain ⟨i, hi⟩ : ∃ i, j = i * 2 ∨ j = i * 2 + 1 := ⟨j / 2, by omega⟩
  have hl : i < cs.length := by omega
  obtain ⟨f1, f2⟩ := flat_at cs i hl
  obtain ⟨g1, g2⟩ := h i hl
  rcases hi with rfl | rfl
  · rw [f1] at hv
    rw [g1, ← hv]
  · rw [f2] at hv
    rw [← Nat.add_assoc, g2, ← hv]
theorem SrcAt.below {w v : World} {b off : Nat} {cs : List (Int × Int)} (h : SrcAt w b off cs) (hb : Below w.heap.size w v) (hl : b < w.heap.size) : SrcAt v b off cs := by
  intro j u hu
  rw [hb.cell (by unfold Addr.add; split <;> exact hl)]
  exact h j u hu
theorem own_emptyZ (w : World) (B : Nat) (hB : B ≤ w.heap.size) : (w.alloc (.cells #[] 44)).ownsRow B 44 2 (.slice (some ⟨w.heap.size, 0, none⟩) 0 0) 0 [] :=
  ⟨by simp, Or.inr ⟨w.heap.size, 0, #[], rfl, hB, heap_alloc_new w _, Nat.le_refl _, by unfold maxLen; omega, by simp, by simp⟩⟩

/-- A box that holds a grid of n cells. -/
def BoxR (w : World) (blk : Nat) (x : Int) (n : Nat) (cs : List (Int × Int)) : Prop :=
  ∃ (a : Option Addr) (c : Nat), blk < w.heap.size ∧ w.cell? ⟨blk, 0, none⟩ = some (.int .i64 x) ∧ w.cell? ⟨blk, 1, none⟩ = some (.slice a n c) ∧ CellsAt w a cs
theorem boxR_new {w0 w7 : World} {B g n c : Nat} {cs : List (Int × Int)} (hb : Below w0.heap.size w0 w7) (hO : Own w7 B (.slice (some ⟨g, 0, none⟩) n c) cs) (hn : n = cs.length) (x : Int) :
    BoxR (w7.alloc (.cells #[.int .i64 x, .slice (some ⟨g, 0, none⟩) n c] 26)) w7.heap.size x n cs ∧ Below w0.heap.size w0 (w7.alloc (.cells #[.int .i64 x, .slice (some ⟨g, 0, none⟩) n c] 26)) := by
  subst hn
  exact ⟨⟨_, c, by simp, by simp [go_sem], by simp [go_sem], (own_cellsD hO).below ((Below.refl _ _).alloc (Nat.le_refl _) _)⟩, bcall hb hb.size ((Below.refl _ _).alloc (Nat.le_refl _) _)⟩
theorem boxR_set {w0 w7 : World} {B g n c zb : Nat} {u0 u1 : Value} {cs : List (Int × Int)} (hb : Below w0.heap.size w0 w7) (h0 : w0.heap.size ≤ zb) (hO : Own w7 B (.slice (some ⟨g, 0, none⟩) n c) cs) (hn : n = cs.length) (hne : g ≠ zb)
    (z0 : w7.cell? ⟨zb, 0, none⟩ = some u0) (z1 : w7.cell? ⟨zb, 1, none⟩ = some u1) (x : Int) :
    BoxR ((w7.setCell ⟨zb, 0, none⟩ (.int .i64 x)).setCell ⟨zb, 1, none⟩ (.slice (some ⟨g, 0, none⟩) n c)) zb x n cs ∧ Below w0.heap.size w0 ((w7.setCell ⟨zb, 0, none⟩ (.int .i64 x)).setCell ⟨zb, 1, none⟩ (.slice (some ⟨g, 0, none⟩) n c)) := by
  subst hn
  have hz := World.block_lt_of_cell? w7 _ z0
  have hna : ∀ b off, (some ⟨g, 0, none⟩ : Option Addr) = some ⟨b, off, none⟩ → b ≠ zb := by
    intro b off e
    simp only [Option.some.injEq, Addr.mk.injEq, and_true] at e
    omega
  refine ⟨⟨_, c, by simpa using hz, ?_, ?_, ((own_cellsD hO).set hna _).set hna _⟩, (hb.setCell (p := ⟨zb, 0, none⟩) h0 _).setCell (p := ⟨zb, 1, none⟩) h0 _⟩
  · rw [World.cell?_setCell_other _ _ _ _ (by simp)]
    exact World.cell?_setCell_same _ _ _ z0
  · exact World.cell?_setCell_same _ _ _ (by rw [World.cell?_setCell_other _ _ _ _ (by simp)]; exact z1)
theorem own_joinA {w : World} {B g c : Nat} {cs ds : List (Int × Int)} (h : w.ownsRow B 44 2 (.slice (some ⟨g, 0, none⟩) (0 + cs.length + ds.length) c) (0 + cs.length + ds.length) (([] ++ flat cs) ++ flat ds)) : Own w B (.slice (some ⟨g, 0, none⟩) (cs.length + ds.length) c) (cs ++ ds) := by
  unfold Own
  rw [flat_append, List.length_append]
  simpa using h
theorem own_joinB {w : World} {B g c : Nat} {cs ds : List (Int × Int)} (h : w.ownsRow B 44 2 (.slice (some ⟨g, 0, none⟩) (cs.length + ds.length) c) (cs.length + ds.length) (flat cs ++ flat ds)) : Own w B (.slice (some ⟨g, 0, none⟩) (cs.length + ds.length) c) (cs ++ ds) := by
  unfold Own
  rw [flat_append, List.length_append]
  exact h
theorem own_first {w : World} {B g c : Nat} {cs : List (Int × Int)} (h : w.ownsRow B 44 2 (.slice (some ⟨g, 0, none⟩) (0 + cs.length) c) (0 + cs.length) ([] ++ flat cs)) : w.ownsRow B 44 2 (.slice (some ⟨g, 0, none⟩) cs.length c) cs.length (flat cs) := by
  simpa using h
end Go.Proofs.Yteibklaabnnfbaa
