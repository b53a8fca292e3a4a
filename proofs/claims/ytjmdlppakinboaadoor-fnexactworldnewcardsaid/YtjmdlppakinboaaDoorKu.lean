/-
  A world at its beginning: its keeper, painters that have nothing, no words.
-/
import Derived.Test.YtjmdlppakinboaaDoorKt
import Derived.Test.YtjmdlppakinboaaDoorKq
namespace Go.Proofs.YtjmdlppakinboaaDoor
open Go.RowKit
set_option linter.unusedVariables false
set_option linter.unusedSimpArgs false

/-- A variable that holds a world. -/
def Box7 (w : World) (g : Nat) (u0 u1 u2 u3 u4 u5 u6 : Value) : Prop := w.heap[g]? = some (.cells #[u0, u1, u2, u3, u4, u5, u6] 45)
section
variable {w w' : World} {g : Nat} {u0 u1 u2 u3 u4 u5 u6 : Value}
theorem Box7.lt (h : Box7 w g u0 u1 u2 u3 u4 u5 u6) : g < w.heap.size := (Array.getElem?_eq_some_iff.1 h).1
theorem Box7.below (h : Box7 w g u0 u1 u2 u3 u4 u5 u6) (hb : Below w.heap.size w w') : Box7 w' g u0 u1 u2 u3 u4 u5 u6 := (hb.block g h.lt).trans h
theorem Box7.kept {row : Option Nat} (h : Box7 w g u0 u1 u2 u3 u4 u5 u6) (hg : w.grownBy w' row) (hne : some g ≠ row) : Box7 w' g u0 u1 u2 u3 u4 u5 u6 := (hg.block g h.lt hne).trans h
theorem Box7.new (w : World) (u0 u1 u2 u3 u4 u5 u6 : Value) : Box7 (w.alloc (.cells #[u0, u1, u2, u3, u4, u5, u6] 45)) w.heap.size u0 u1 u2 u3 u4 u5 u6 := heap_alloc_new w _
theorem Box7.cells (h : Box7 w g u0 u1 u2 u3 u4 u5 u6) : w.cell? ⟨g, 0, none⟩ = some u0 ∧ w.cell? ⟨g, 1, none⟩ = some u1 ∧ w.cell? ⟨g, 2, none⟩ = some u2 ∧ w.cell? ⟨g, 3, none⟩ = some u3 ∧ w.cell? ⟨g, 4, none⟩ = some u4 ∧ w.cell? ⟨g, 5, none⟩ = some u5 ∧ w.cell? ⟨g, 6, none⟩ = some u6 :=
  ⟨(cell_of_row w g 0 _ _ (0, 0) h).trans rfl, (cell_of_row w g 1 _ _ (0, 0) h).trans rfl, (cell_of_row w g 2 _ _ (0, 0) h).trans rfl, (cell_of_row w g 3 _ _ (0, 0) h).trans rfl, (cell_of_row w g 4 _ _ (0, 0) h).trans rfl, (cell_of_row w g 5 _ _ (0, 0) h).trans rfl, (cell_of_row w g 6 _ _ (0, 0) h).trans rfl⟩
theorem Box7.thaw (h : Box7 w g u0 u1 u2 u3 u4 u5 u6) (j : Nat) : w.frozen? ⟨g, j, none⟩ = false := frozen_of_row w g j _ _ h
theorem Box7.set5 (h : Box7 w g u0 u1 u2 u3 u4 u5 u6) (v : Value) : Box7 (w.setCell ⟨g, 5, none⟩ v) g u0 u1 u2 u3 u4 v u6 := (heap_setCell_same w g 5 _ _ v h).trans rfl
theorem Ofs.box7 {S : Nat → Prop} (h : Ofs S w w') (hX : Box7 w g u0 u1 u2 u3 u4 u5 u6) (hg : ¬ S g) : Box7 w' g u0 u1 u2 u3 u4 u5 u6 := (h.block g hX.lt hg).trans hX
end
theorem grown_seven (w : World) (g : Nat) (u0 u1 u2 u3 u4 u5 u6 : Value) : w.grownBy (((((((w.setCell ⟨g, 0, none⟩ u0).setCell ⟨g, 1, none⟩ u1).setCell ⟨g, 2, none⟩ u2).setCell ⟨g, 3, none⟩ u3).setCell ⟨g, 4, none⟩ u4).setCell ⟨g, 5, none⟩ u5).setCell ⟨g, 6, none⟩ u6) (some g) :=
  grown_trans (grown_trans (grown_five w g u0 u1 u2 u3 u4) (grown_set _ _ _ _)) (grown_set _ _ _ _)
theorem PaintF.push {F F' : Nat → Value} {n : Nat} (h : PaintF F n (fun _ => true) (fun _ => false) (fun _ => 0) (fun _ => 0)) (q0 : ∀ j, j < n * 7 → F' j = F j) (e : F' (n * 7) = .bool true ∧ F' (n * 7 + 1) = .bool false ∧ F' (n * 7 + 2) = .int .i64 0 ∧ F' (n * 7 + 3) = .int .i64 0 ∧ F' (n * 7 + 4) = .slice none 0 0 ∧ F' (n * 7 + 5) = .slice none 0 0 ∧ F' (n * 7 + 6) = .slice none 0 0) : PaintF F' (n + 1) (fun _ => true) (fun _ => false) (fun _ => 0) (fun _ => 0) := by
  intro i hi
  by_cases q : i = n
  · subst q
    exact e
  · have := h i (by omega)
    rw [q0 _ (by omega), q0 _ (by omega), q0 _ (by omega), q0 _ (by omega), q0 _ (by omega), q0 _ (by omega), q0 _ (by omega)]
    exact this
/-- The words of one painter more. -/
def pushF (F : Nat → Value) (i j : Nat) : Value := if j < i * 7 then F j else if j = i * 7 then .bool true else if j = i * 7 + 1 then .bool false else if j = i * 7 + 2 then .int .i64 0 else if j = i * 7 + 3 then .int .i64 0 else .slice none 0 0
theorem pushF_at (F : Nat → Value) (i : Nat) : pushF F i (i * 7) = .bool true ∧ pushF F i (i * 7 + 1) = .bool false ∧ pushF F i (i * 7 + 2) = .int .i64 0 ∧ pushF F i (i * 7 + 3) = .int .i64 0 ∧ pushF F i (i * 7 + 4) = .slice none 0 0 ∧ pushF F i (i * 7 + 5) = .slice none 0 0 ∧ pushF F i (i * 7 + 6) = .slice none 0 0 := by
  unfold pushF
  refine ⟨?_, ?_, ?_, ?_, ?_, ?_, ?_⟩ <;> simp <;> (intro h; omega)
theorem pushF_old (F : Nat → Value) (i j : Nat) (h : j < i * 7) : pushF F i j = F j := by
  unfold pushF
  simp [h]

/-- A world: its keeper's rows, its painters; its rows lie from B on, apart. -/
structure Wp (w : World) (B : Nat) (v : Value) (wd : Int) (cs : List (Int × Int)) (n : Nat) (b : Nat → Bool) (x : Nat → Int) (pb pc : Nat → Bool) (px py : Nat → Int) (vc vp vq : Value) (a2 a4 a6 : Option Addr) (k2 k4 k6 : Nat) : Prop where
  form : v = .agg #[.int .i64 wd, vc, .slice a2 0 k2, vp, .slice a4 0 k4, vq, .slice a6 0 k6]
  kp : Kp w B (.agg #[.int .i64 wd, vc, .slice a2 0 k2, vp, .slice a4 0 k4]) wd cs n b x vc vp a2 a4 k2 k4
  paint : PaintAt w B vq n pb pc px py
  apart : ∀ k, (vc.ownBlock = some k ∨ vp.ownBlock = some k) → vq.ownBlock ≠ some k
section
variable {w w' : World} {B : Nat} {v : Value} {wd : Int} {cs : List (Int × Int)} {n : Nat} {b : Nat → Bool} {x : Nat → Int} {pb pc : Nat → Bool} {px py : Nat → Int} {vc vp vq : Value} {a2 a4 a6 : Option Addr} {k2 k4 k6 : Nat}
theorem Wp.below (h : Wp w B v wd cs n b x pb pc px py vc vp vq a2 a4 a6 k2 k4 k6) (hb : Below w.heap.size w w') : Wp w' B v wd cs n b x pb pc px py vc vp vq a2 a4 a6 k2 k4 k6 := ⟨h.form, h.kp.below hb, h.paint.below hb, h.apart⟩
theorem Wp.kept {row : Option Nat} (h : Wp w B v wd cs n b x pb pc px py vc vp vq a2 a4 a6 k2 k4 k6) (hg : w.grownBy w' row) (h1 : ∀ k, vc.ownBlock = some k → row ≠ some k) (h2 : ∀ k, vp.ownBlock = some k → row ≠ some k) (h3 : ∀ k, vq.ownBlock = some k → row ≠ some k) : Wp w' B v wd cs n b x pb pc px py vc vp vq a2 a4 a6 k2 k4 k6 := ⟨h.form, h.kp.kept hg h1 h2, h.paint.kept hg h3, h.apart⟩
theorem Ofs.paint {S : Nat → Prop} (h : Ofs S w w') (hP : PaintAt w B v n pb pc px py) (hv : ∀ k, v.ownBlock = some k → ¬ S k) : PaintAt w' B v n pb pc px py := by
  obtain ⟨F, hR, hF⟩ := hP
  exact ⟨F, h.grown1 v hv hR, hF⟩
theorem Ofs.wp {S : Nat → Prop} (h : Ofs S w w') (hW : Wp w B v wd cs n b x pb pc px py vc vp vq a2 a4 a6 k2 k4 k6) (h1 : ∀ k, vc.ownBlock = some k → ¬ S k) (h2 : ∀ k, vp.ownBlock = some k → ¬ S k) (h3 : ∀ k, vq.ownBlock = some k → ¬ S k) : Wp w' B v wd cs n b x pb pc px py vc vp vq a2 a4 a6 k2 k4 k6 :=
  ⟨hW.form, ⟨hW.kp.form, h.own hW.kp.own h1, h.parts hW.kp.parts h2, hW.kp.apart⟩, h.paint hW.paint h3, hW.apart⟩
end
theorem zero_wp (w : World) (B : Nat) : Wp w B (.agg #[.int .i64 0, .slice none 0 0, .slice none 0 0, .slice none 0 0, .slice none 0 0, .slice none 0 0, .slice none 0 0]) 0 [] 0 (fun _ => false) (fun _ => 0) (fun _ => true) (fun _ => false) (fun _ => 0) (fun _ => 0) (.slice none 0 0) (.slice none 0 0) (.slice none 0 0) none none none 0 0 0 :=
  ⟨rfl, zero_kp _ _, PaintAt.nil _ _ _ _ _ _, fun k hk => by simp [Value.ownBlock] at hk⟩
end Go.Proofs.YtjmdlppakinboaaDoor
