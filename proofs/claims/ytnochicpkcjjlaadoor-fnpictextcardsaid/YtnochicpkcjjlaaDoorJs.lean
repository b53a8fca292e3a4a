/-
  Several texts in one: Vm, Vn, Vt.
-/
import Derived.Test.YtnochicpkcjjlaaDoorJr
import Derived.Test.YtnochicpkcjjlaaDoorJo
import Derived.Deep.RegionHeld3

/-
  l71Sight draws a sight: from -1 to 20.
-/
namespace Go.Proofs.YtnochicpkcjjlaaDoor
open Go.RowKit
set_option linter.unusedVariables false
attribute [local go_sem ↓] Go.wp_at_zero Go.wp_at_succ

theorem one3S (M : Int) (h1 : 0 ≤ M) (h2 : M ≤ 20) (v : Int) (h0 : 0 ≤ v) (h3 : v < 3) : ∃ x : Int, -1 ≤ x ∧ x ≤ 20 ∧ (#[Value.int .i64 (-1), .int .i64 M, .int .i64 20] : Array Value)[v.toNat]? = some (.int .i64 x) := by
  rcases (show v = 0 ∨ v = 1 ∨ v = 2 by omega) with rfl | rfl | rfl
  · exact ⟨-1, by omega, by omega, rfl⟩
  · exact ⟨M, by omega, by omega, rfl⟩
  · exact ⟨20, by omega, by omega, rfl⟩
theorem lit3S (w : World) (M v x : Int) (t : TypeId) (h : (#[Value.int .i64 (-1), .int .i64 M, .int .i64 20] : Array Value)[v.toNat]? = some (.int .i64 x)) : (w.alloc (.cells #[.int .i64 (-1), .int .i64 M, .int .i64 20] t)).cell? ⟨w.heap.size, v.toNat, none⟩ = some (.int .i64 x) := by
  rw [World.cell?_alloc_at _ _ _ _ rfl]
  exact h
theorem manyG_to (wd : Int) (cs : List (Int × Int)) : 0 ≤ manyG wd cs ∧ manyG wd cs ≤ 20 := by
  rcases hk : okG wd cs with _ | _
  · rw [manyG_bad hk]; omega
  · obtain ⟨W, H, rfl, h1, h2, h3, h4, el, hH, hHI⟩ := okG_nat wd cs hk
    rw [manyG_ok hk hHI]; omega

end Go.Proofs.YtnochicpkcjjlaaDoor

/-
  DrawSightRay and DrawSightTurn draw a grid and a sight: all lies in memory, at most 31 cells, the sight from -1 to 20.
-/
namespace Go.Proofs.YtnochicpkcjjlaaDoor
open Go.RowKit
set_option linter.unusedVariables false
attribute [local go_sem ↓] Go.wp_at_zero Go.wp_at_succ

/-- What stands while DrawSightRay draws: the box of the answer, the grid's box gb. -/
structure SigInv (w wr : World) (gb : Nat) (wd : Int) (v : Value) : Prop where
  hb : Below w.heap.size w wr
  p0 : wr.cell? ⟨w.heap.size, 0, none⟩ = some (.int .i64 0)
  p1 : wr.cell? ⟨w.heap.size, 1, none⟩ = some (.slice none 0 0)
  fp0 : wr.frozen? ⟨w.heap.size, 0, none⟩ = false
  fp1 : wr.frozen? ⟨w.heap.size, 1, none⟩ = false
  g0 : wr.cell? ⟨gb, 0, none⟩ = some (.int .i64 wd)
  g1 : wr.cell? ⟨gb, 1, none⟩ = some v
  sz : w.heap.size + 2 ≤ gb ∧ gb < wr.heap.size
theorem SigInv.call {w wr w2 : World} {gb : Nat} {wd : Int} {v : Value} (h : SigInv w wr gb wd v) (hg : wr.grownBy w2 (some (w.heap.size + 1))) : SigInv w w2 gb wd v := by
  obtain ⟨s1, s2⟩ := h.sz
  have hz := hg.size
  have n1 : w.heap.size ≠ w.heap.size + 1 := by omega
  have n3 : gb ≠ w.heap.size + 1 := by omega
  exact ⟨⟨hg.os.trans h.hb.os, hg.tape.trans h.hb.tape, hg.output.trans h.hb.output, Nat.le_trans h.hb.size hg.size, fun k hk => (hg.block k (by omega) (by simp; omega)).trans (h.hb.block k hk)⟩,
    gcell hg n1 h.p0, gcell hg n1 h.p1, gfroz hg n1 h.p0 h.fp0, gfroz hg n1 h.p1 h.fp1, gcell hg n3 h.g0, gcell hg n3 h.g1, by omega⟩

end Go.Proofs.YtnochicpkcjjlaaDoor

/-
  DrawSightRay draws a grid and a sight: as before, and the cells lie in new memory.
-/
namespace Go.Proofs.YtnochicpkcjjlaaDoor
open Go.RowKit
set_option linter.unusedVariables false
attribute [local go_sem ↓] Go.wp_at_zero Go.wp_at_succ

end Go.Proofs.YtnochicpkcjjlaaDoor
