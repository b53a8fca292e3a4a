/-
  spec.KeepNew: a keeper at its beginning, in new memory, or nothing.
-/
import Derived.Test.YtjmdlppakinboaaDoorKj
import Derived.Deep.AppendLies
namespace Go.Proofs.YtjmdlppakinboaaDoor
open Go.RowKit
set_option linter.unusedVariables false
set_option linter.unusedSimpArgs false

/-- A variable that holds a keeper. -/
def Box5 (w : World) (g : Nat) (u0 u1 u2 u3 u4 : Value) : Prop := w.heap[g]? = some (.cells #[u0, u1, u2, u3, u4] 33)
section
variable {w w' : World} {g : Nat} {u0 u1 u2 u3 u4 : Value}
theorem Box5.lt (h : Box5 w g u0 u1 u2 u3 u4) : g < w.heap.size := (Array.getElem?_eq_some_iff.1 h).1
theorem Box5.below (h : Box5 w g u0 u1 u2 u3 u4) (hb : Below w.heap.size w w') : Box5 w' g u0 u1 u2 u3 u4 := (hb.block g h.lt).trans h
theorem Box5.kept {row : Option Nat} (h : Box5 w g u0 u1 u2 u3 u4) (hg : w.grownBy w' row) (hne : some g ≠ row) : Box5 w' g u0 u1 u2 u3 u4 := (hg.block g h.lt hne).trans h
theorem Box5.drew (h : Box5 w g u0 u1 u2 u3 u4) : Box5 w.drew g u0 u1 u2 u3 u4 := h
theorem Box5.new (w : World) (u0 u1 u2 u3 u4 : Value) : Box5 (w.alloc (.cells #[u0, u1, u2, u3, u4] 33)) w.heap.size u0 u1 u2 u3 u4 := heap_alloc_new w _
theorem Box5.cells (h : Box5 w g u0 u1 u2 u3 u4) : w.cell? ⟨g, 0, none⟩ = some u0 ∧ w.cell? ⟨g, 1, none⟩ = some u1 ∧ w.cell? ⟨g, 2, none⟩ = some u2 ∧ w.cell? ⟨g, 3, none⟩ = some u3 ∧ w.cell? ⟨g, 4, none⟩ = some u4 :=
  ⟨(cell_of_row w g 0 _ _ (0, 0) h).trans rfl, (cell_of_row w g 1 _ _ (0, 0) h).trans rfl, (cell_of_row w g 2 _ _ (0, 0) h).trans rfl, (cell_of_row w g 3 _ _ (0, 0) h).trans rfl, (cell_of_row w g 4 _ _ (0, 0) h).trans rfl⟩
theorem Box5.thaw (h : Box5 w g u0 u1 u2 u3 u4) (j : Nat) : w.frozen? ⟨g, j, none⟩ = false := frozen_of_row w g j _ _ h
theorem Box5.set3 (h : Box5 w g u0 u1 u2 u3 u4) (v : Value) : Box5 (w.setCell ⟨g, 3, none⟩ v) g u0 u1 u2 v u4 := (heap_setCell_same w g 3 _ _ v h).trans rfl
end

set_option maxHeartbeats 2000000 in
theorem specKeepNew_no (wd : Int) (a : Option Addr) (cap : Nat) (cs : List (Int × Int)) (many : Int) (w : World) (hC : CellsAt w a cs) (hm : cs.length ≤ 1048576) (hno : startOk wd cs many = false) :
    Calls Tryd.prog 6 #[.agg #[.int .i64 wd, .slice a cs.length cap], .int .i64 many] w fun e w' => e = .returned (.tuple #[.agg #[.int .i64 0, .slice none 0 0, .slice none 0 0, .slice none 0 0, .slice none 0 0], .bool false]) ∧ Below w.heap.size w w' := by
  obtain ⟨ok, eok⟩ : ∃ ok, okG wd cs = ok := ⟨_, rfl⟩
  have hs : startOk wd cs many = (ok && decide (1 ≤ many ∧ many ≤ 3)) := by unfold startOk; rw [eok]
  rw [hs] at hno
  clear hs
  have HX : Hid (∀ w1 : World, CellsAt w1 a cs → Calls Tryd.prog 20 #[.agg #[.int .i64 wd, .slice a cs.length cap]] w1 fun e w' => e = .returned (.bool ok) ∧ Below w1.heap.size w1 w') := by
    intro w1 h1
    have := specGridOk_any wd a cap cs w1 h1 (by omega)
    rw [eok] at this
    exact this
  clear eok
  have hbX : Below w.heap.size w ((w.alloc (.cells #[.int .i64 wd, .slice a cs.length cap] 28)).alloc (.cells #[.int .i64 0, .slice none 0 0, .slice none 0 0, .slice none 0 0, .slice none 0 0] 33)) := (by repeat (first | exact Below.refl _ _ | refine Below.alloc ?_ (by first | exact Nat.le_refl _ | (simp; done) | (simp; omega)) _ | refine Below.drew ?_ | refine Below.setCell ?_ (by first | exact Nat.le_refl _ | (simp; done) | (simp; omega)) _))
  have hX : Box5 ((w.alloc (.cells #[.int .i64 wd, .slice a cs.length cap] 28)).alloc (.cells #[.int .i64 0, .slice none 0 0, .slice none 0 0, .slice none 0 0, .slice none 0 0] 33)) (w.heap.size + 1) (.int .i64 0) (.slice none 0 0) (.slice none 0 0) (.slice none 0 0) (.slice none 0 0) := by
    have := Box5.new (w.alloc (.cells #[.int .i64 wd, .slice a cs.length cap] 28)) (.int .i64 0) (.slice none 0 0) (.slice none 0 0) (.slice none 0 0) (.slice none 0 0)
    simpa using this
  go_enter Tryd.func6, Tryd.ntmps6
  go_wp2_with fail
  refine (HX.out _ (hC.below hbX)).mono ?_
  rintro e w1 ⟨rfl, hb1⟩
  replace hX := hX.below hb1
  have hB1 := bcall hbX hbX.size hb1
  have hz1 := hb1.size
  simp at hz1
  clear hb1 hbX
  cases ok with
  | false =>
    obtain ⟨q0, q1, q2, q3, q4⟩ := hX.cells
    have f0 := hX.thaw 0
    have f1 := hX.thaw 1
    have f2 := hX.thaw 2
    have f3 := hX.thaw 3
    have f4 := hX.thaw 4
    clear hX
    go_wp2
    refine bodyPost_ret (v := .tuple #[.agg #[.int .i64 0, .slice none 0 0, .slice none 0 0, .slice none 0 0, .slice none 0 0], .bool false]) (by simp [results, Tryd.results6, go_sem, q0, q1, q2, q3, q4]) rfl ⟨rfl, ?_⟩
    exact hB1.grown (grown_five _ _ _ _ _ _ _) (by omega) (fun k hk => by simp at hk; omega)
  | true =>
    have hin : inB many 1 3 = false := by
      have : ¬ (1 ≤ many ∧ many ≤ 3) := by simpa using hno
      unfold inB
      simp
      omega
    have HIN : Hid (inB many 1 3 = false) := hin
    clear hno hin
    go_wp2_with fail
    refine (l6In_any many 1 3 _).mono ?_
    rintro e w2 ⟨rfl, rfl⟩
    rw [HIN.out]
    obtain ⟨q0, q1, q2, q3, q4⟩ := hX.cells
    have f0 := hX.thaw 0
    have f1 := hX.thaw 1
    have f2 := hX.thaw 2
    have f3 := hX.thaw 3
    have f4 := hX.thaw 4
    clear hX
    go_wp2
    refine bodyPost_ret (v := .tuple #[.agg #[.int .i64 0, .slice none 0 0, .slice none 0 0, .slice none 0 0, .slice none 0 0], .bool false]) (by simp [results, Tryd.results6, go_sem, q0, q1, q2, q3, q4]) rfl ⟨rfl, ?_⟩
    exact hB1.grown (grown_five _ _ _ _ _ _ _) (by omega) (fun k hk => by simp at hk; omega)
end Go.Proofs.YtjmdlppakinboaaDoor
