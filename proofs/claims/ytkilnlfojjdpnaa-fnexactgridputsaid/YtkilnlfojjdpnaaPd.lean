/-
  The contracts of GridPut, of both packages, at every grid, place and cell: what the plain function 'putG' says, in new memory.
-/
import Derived.Test.YtkilnlfojjdpnaaPc
namespace Go.Proofs.Ytkilnlfojjdpnaa
open Go.RowKit
set_option linter.unusedVariables false

theorem own_cells {w : World} {B g cap : Nat} {cs : List (Int × Int)} (h : Own w B (.slice (some ⟨g, 0, none⟩) cs.length cap) cs) : CellsAt w (some ⟨g, 0, none⟩) cs := by
  obtain ⟨a, c, e, hC⟩ := h.slice
  simp only [Value.slice.injEq] at e
  rw [e.1]
  exact hC

/-- The grid with another cell, and whether there is one. -/
def putG (wd : Int) (cs : List (Int × Int)) (at_ k l : Int) : Int × List (Int × Int) × Bool := if canPut wd cs at_ k l then (wd, cs.set at_.toNat (k, l), true) else (0, [], false)

theorem putG_len (wd : Int) (cs : List (Int × Int)) (at_ k l : Int) : (putG wd cs at_ k l).2.1.length ≤ 25 := by
  unfold putG
  by_cases h : canPut wd cs at_ k l = true
  · rw [if_pos h]
    simp only [canPut, Bool.and_eq_true] at h
    have := okG_len wd cs h.1
    simp
    omega
  · rw [if_neg h]
    simp

theorem implGridPut_any (wd : Int) (a : Option Addr) (cap : Nat) (cs : List (Int × Int)) (at_ k l : Int) (w : World) (hC : CellsAt w a cs) (hm : cs.length ≤ 1048576) :
    Calls Try.prog 9 #[.agg #[.int .i64 wd, .slice a cs.length cap], .int .i64 at_, .agg #[.int .i64 k, .int .i64 l]] w fun e w' => ∃ v, e = .returned (.tuple #[.agg #[.int .i64 (putG wd cs at_ k l).1, v], .bool (putG wd cs at_ k l).2.2]) ∧ Own w' w.heap.size v (putG wd cs at_ k l).2.1 ∧ Below w.heap.size w w' := by
  by_cases h : canPut wd cs at_ k l = true
  · refine (implGridPut_yes wd a cap cs at_ k l w hC hm h).mono ?_
    rintro e w' ⟨g, rfl, hO, hb⟩
    simp only [putG, h, if_true]
    exact ⟨_, rfl, hO, hb⟩
  · have h' : canPut wd cs at_ k l = false := by simpa using h
    refine (implGridPut_no wd a cap cs at_ k l w hC hm h').mono ?_
    rintro e w' ⟨rfl, hb⟩
    simp only [putG, h']
    exact ⟨_, rfl, World.ownsRow_nil w' w.heap.size 27 2, hb⟩

theorem specGridPut_any (wd : Int) (a : Option Addr) (cap : Nat) (cs : List (Int × Int)) (at_ k l : Int) (w : World) (hC : CellsAt w a cs) (hm : cs.length ≤ 1048576) :
    Calls Try.prog 8 #[.agg #[.int .i64 wd, .slice a cs.length cap], .int .i64 at_, .agg #[.int .i64 k, .int .i64 l]] w fun e w' => ∃ v, e = .returned (.tuple #[.agg #[.int .i64 (putG wd cs at_ k l).1, v], .bool (putG wd cs at_ k l).2.2]) ∧ Own w' w.heap.size v (putG wd cs at_ k l).2.1 ∧ Below w.heap.size w w' := by
  by_cases h : canPut wd cs at_ k l = true
  · refine (specGridPut_yes wd a cap cs at_ k l w hC hm h).mono ?_
    rintro e w' ⟨g, cap', rfl, hO, hb⟩
    simp only [putG, h, if_true]
    exact ⟨_, rfl, hO, hb⟩
  · have h' : canPut wd cs at_ k l = false := by simpa using h
    refine (specGridPut_no wd a cap cs at_ k l w hC hm h').mono ?_
    rintro e w' ⟨rfl, hb⟩
    simp only [putG, h']
    exact ⟨_, rfl, World.ownsRow_nil w' w.heap.size 27 2, hb⟩

end Go.Proofs.Ytkilnlfojjdpnaa
