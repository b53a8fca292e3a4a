/-
  impl.RayNext answers what the plain function 'rayN' says of a grid, a place and a way.
-/
import Derived.Test.YtankkkiccokggaaYb
import Derived.Test.YtankkkiccokggaaPk
import Derived.Deep.DeepCutAuto
namespace Go.Proofs.Ytankkkiccokggaa
open Go.RowKit
set_option linter.unusedVariables false

/-- Light that leaves a cell, as it comes into the next one. -/
def rayN (wd : Int) (cs : List (Int × Int)) (x d : Int) : Int × Int × Bool :=
  if okG wd cs = true ∧ (0 ≤ x ∧ x < cs.length) ∧ (0 ≤ d ∧ d ≤ 3) ∧ inG (x / wd + dRow d) (x % wd + dCol d) wd ((cs.length : Int) / wd) = true then ((x / wd + dRow d) * wd + (x % wd + dCol d), d, true) else (0, 0, false)
/-- The same as a value. -/
def rayV (p : Int × Int × Bool) : Value := .tuple #[.agg #[.int .i64 p.1, .int .i64 p.2.1], .bool p.2.2]
theorem shapeG {wd : Int} {cs : List (Int × Int)} (h : okG wd cs = true) : ∃ W H : Nat, wd = (W : Int) ∧ 1 ≤ W ∧ W ≤ 5 ∧ 1 ≤ H ∧ H ≤ 5 ∧ cs.length = W * H ∧ cs.length / W = H ∧ (cs.length : Int) / (W : Int) = (H : Int) ∧ cs.length ≤ 25 := by
  have hs : sizeG wd cs.length = true := by unfold okG at h; simp only [Bool.and_eq_true] at h; exact h.1
  simp only [sizeG, decide_eq_true_eq] at hs
  obtain ⟨h1, h2, h3, h4, h5⟩ := hs
  obtain ⟨W, rfl⟩ : ∃ W : Nat, wd = (W : Int) := ⟨wd.toNat, by omega⟩
  obtain ⟨H, eH⟩ : ∃ H : Nat, (cs.length : Int) / (W : Int) = (H : Int) := ⟨((cs.length : Int) / (W : Int)).toNat, by omega⟩
  rw [eH] at h4 h5
  have e2 : (cs.length : Int) = (W : Int) * (H : Int) := by
    have := Int.mul_ediv_add_emod (cs.length : Int) (W : Int)
    rw [eH, h3] at this
    omega
  have e3 : cs.length = W * H := by exact_mod_cast e2
  refine ⟨W, H, rfl, by omega, by omega, by omega, by omega, e3, ?_, eH, ?_⟩
  · rw [e3]; exact Nat.mul_div_cancel_left H (by omega)
  · rw [e3]; exact Nat.le_trans (Nat.mul_le_mul (show W ≤ 5 by omega) (show H ≤ 5 by omega)) (by omega)

/-- A box that holds a spot, made behind w0. -/
def SpotAt (w0 wc : World) (blk : Nat) (r c : Int) : Prop := w0.heap.size ≤ blk ∧ wc.cell? ⟨blk, 0, none⟩ = some (.int .i64 r) ∧ wc.cell? ⟨blk, 1, none⟩ = some (.int .i64 c) ∧ Below w0.heap.size w0 wc
theorem spot_new {w0 wa : World} (h : Below w0.heap.size w0 wa) (r c : Int) : SpotAt w0 (wa.alloc (.cells #[.int .i64 r, .int .i64 c] 72)) wa.heap.size r c :=
  ⟨h.size, by simp [go_sem], by simp [go_sem], bcall h h.size ((Below.refl _ _).alloc (Nat.le_refl _) _)⟩
theorem spot_set {w0 wa : World} {blk : Nat} {u0 u1 : Value} (h : Below w0.heap.size w0 wa) (h0 : w0.heap.size ≤ blk) (z0 : wa.cell? ⟨blk, 0, none⟩ = some u0) (z1 : wa.cell? ⟨blk, 1, none⟩ = some u1) (r c : Int) :
    SpotAt w0 ((wa.setCell ⟨blk, 0, none⟩ (.int .i64 r)).setCell ⟨blk, 1, none⟩ (.int .i64 c)) blk r c := by
  refine ⟨h0, ?_, ?_, (h.setCell (p := ⟨blk, 0, none⟩) h0 _).setCell (p := ⟨blk, 1, none⟩) h0 _⟩
  · rw [World.cell?_setCell_other _ _ _ _ (by simp)]
    exact World.cell?_setCell_same _ _ _ z0
  · exact World.cell?_setCell_same _ _ _ (by rw [World.cell?_setCell_other _ _ _ _ (by simp)]; exact z1)

end Go.Proofs.Ytankkkiccokggaa
