/-
  What an argument that came in is: a cell, a grid. Each opened once into plain numbers and the memory that holds them.
-/
import Derived.Test.YtjmdlppakinboaaDoorRows
import Derived.Test.YtjmdlppakinboaaDoorJq
import Derived.ProofKit
import Derived.OpenShut
import Derived.Lib.SmallJoins
import Derived.Deep.SlicePairs
import Derived.Carry
namespace Go.Proofs.YtjmdlppakinboaaDoor
open Go.ChangeShapes Go.WideShapes Go.ChangeAt Go.RowKit Go.Joins Go.Deep

theorem own : ownKnob Tryd.prog.godebug = none := by kernel_rfl
theorem laidOut : laidOutB Tryd.prog = true := by kernel_rfl
theorem cellsLC : Tryd.prog.cellsOf 84 = 2 := by kernel_rfl
theorem cellsLG : Tryd.prog.cellsOf 24 = 2 := by kernel_rfl
theorem cellsInt : Tryd.prog.cellsOf 3 = 1 := by kernel_rfl

theorem cells_of_pairs {H : Type} {enc : TypeId × Value → H} {W : World} {fuel : Nat} {vs : List Value} {x : DataW H × List MemPlace}
    (h : DataW.trod enc Tryd.prog W 0 (fun _ => true) true fuel 22 vs = some x) :
    ∃ a cap cs, vs = [.slice a (List.length cs) cap] ∧ CellsAt W a cs ∧ cs.length ≤ 9223372036854775807 := by
  rcases open_slice_pairs Tryd.underlying22 Tryd.underlying84 cellsLC rfl rfl cellsInt cellsInt h with ⟨rfl, _⟩ | ⟨a, len, cap, m, n, V0, V1, D0, D1, P0, P1, rfl, _, hl, hm, hmm, _, hc⟩
  · exact ⟨none, 0, [], rfl, Or.inl rfl, by simp⟩
  · have hm' : m = cap := by simpa using hmm
    have each : ∀ i, i < len → ∃ q : Int × Int, W.cell? (a.add (i * 2)) = some (.int .i64 q.1) ∧ W.cell? (a.add (i * 2 + 1)) = some (.int .i64 q.2) := by
      intro i hi
      obtain ⟨e0, e1, t0, t1⟩ := hc i (by omega)
      obtain ⟨x0, h0, _⟩ := DataW.trod_int Tryd.underlying3 t0
      obtain ⟨x1, h1, _⟩ := DataW.trod_int Tryd.underlying3 t1
      simp only [List.cons.injEq, and_true] at h0 h1
      rw [h0] at e0
      rw [h1] at e1
      exact ⟨(x0, x1), e0, e1⟩
    obtain ⟨q, hq⟩ := choose_lt each
    refine ⟨some a, cap, (List.range len).map q, by simp, ?_, by unfold maxLen at hm; simp; omega⟩
    by_cases h0 : len = 0
    · subst h0; exact Or.inl rfl
    · obtain ⟨b, off, spot⟩ := a
      have hs : spot = none := by simpa [Addr.add] using World.cell?_spot (hq 0 (by omega)).1
      subst hs
      have hadd : ∀ j, (⟨b, off, none⟩ : Addr).add j = ⟨b, off + j, none⟩ := by intro j; unfold Addr.add; split <;> simp_all
      refine Or.inr ⟨b, off, rfl, ?_, fun i hi => ?_⟩
      · have h1 := (hq 0 (by omega)).1
        rw [hadd] at h1
        exact World.block_lt_of_cell? W _ h1
      · have hi' : i < len := by simpa using hi
        have h1 := hq i hi'
        rw [hadd, hadd] at h1
        have hg : ((List.range len).map q).getD i (0, 0) = q i := by simp [hi']
        rw [hg]
        exact h1

set_option maxRecDepth 20000 in
theorem open_grid {H : Type} {enc : TypeId × Value → H} {W : World} {base : Nat} {v : Value} {d : DataW H} {p : List MemPlace}
    (hv : Value.okWide Tryd.prog W .any base 24 v) (h : DataW.Trod enc Tryd.prog W 0 (fun _ => true) true 24 v d p) :
    ∃ wd a cap cs, v = .agg #[.int .i64 wd, .slice a (List.length cs) cap] ∧ CellsAt W a cs ∧ cs.length ≤ 9223372036854775807 := by
  obtain ⟨c0, c1, y0, y1, m, rfl, rfl, rfl, hy0, hy1⟩ := open_agg2 Tryd.underlying24 (by kernel_rfl) cellsLG hv h
  obtain ⟨wd, e0, _⟩ := DataW.trod_int Tryd.underlying3 hy0
  obtain ⟨a, cap, cs, e1, hc, hm⟩ := cells_of_pairs hy1
  simp only [List.cons.injEq, and_true] at e0 e1
  exact ⟨wd, a, cap, cs, by rw [e0, e1], hc, hm⟩

end Go.Proofs.YtjmdlppakinboaaDoor
