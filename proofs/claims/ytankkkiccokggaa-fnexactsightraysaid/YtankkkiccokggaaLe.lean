/-
  The contracts of the laws' own helpers on grids: holding two against each other, marking the cells, looking at the marks.
-/
import Derived.Test.YtankkkiccokggaaLq
namespace Go.Proofs.Ytankkkiccokggaa
open Go.RowKit

def eqG (wd wd2 : Int) (cs ds : List (Int × Int)) : Bool := decide (wd = wd2 ∧ cs = ds)

set_option maxHeartbeats 400000 in
theorem eqGrid_any (wd wd2 : Int) (a a2 : Option Addr) (cap cap2 : Nat) (cs ds : List (Int × Int)) (w : World) (h : CellsAt w a cs) (h2 : CellsAt w a2 ds) (hm : cs.length ≤ 1048576) (hm2 : ds.length ≤ 1048576) :
    Calls Try.prog 32 #[.agg #[.int .i64 wd, .slice a cs.length cap], .agg #[.int .i64 wd2, .slice a2 ds.length cap2]] w fun e w' => e = .returned (.bool (eqG wd wd2 cs ds)) ∧ Below w.heap.size w w' := by
  by_cases h1 : wd = wd2
  · subst h1
    have hd : eqG wd wd cs ds = decide (cs = ds) := by simp [eqG]
    by_cases hc : decide (cs = ds) = true
    all_goals
      go_enter Try.func32, Try.ntmps32
      go_wp2_with fail
      refine (eqCellS_any _ _ _ _ cs ds _ (h.below (by repeat (first | exact Below.refl _ _ | refine Below.alloc ?_ (by first | exact Nat.le_refl _ | (simp; done) | (simp; omega)) _ | refine Below.drew ?_ | refine Below.setCell ?_ (by first | exact Nat.le_refl _ | (simp; done) | (simp; omega)) _))) (h2.below (by repeat (first | exact Below.refl _ _ | refine Below.alloc ?_ (by first | exact Nat.le_refl _ | (simp; done) | (simp; omega)) _ | refine Below.drew ?_ | refine Below.setCell ?_ (by first | exact Nat.le_refl _ | (simp; done) | (simp; omega)) _))) hm hm2).mono ?_
      rintro e w1 ⟨rfl, hb1⟩
      go_wp2
      go_ret
      exact ⟨by rw [hd]; simp [hc], bcall (by repeat (first | exact Below.refl _ _ | refine Below.alloc ?_ (by first | exact Nat.le_refl _ | (simp; done) | (simp; omega)) _ | refine Below.drew ?_ | refine Below.setCell ?_ (by first | exact Nat.le_refl _ | (simp; done) | (simp; omega)) _)) (by simp; omega) hb1⟩
  · go_enter Try.func32, Try.ntmps32
    go_wp2
    go_ret
    exact ⟨by simp [eqG, h1], (by repeat (first | exact Below.refl _ _ | refine Below.alloc ?_ (by first | exact Nat.le_refl _ | (simp; done) | (simp; omega)) _ | refine Below.drew ?_ | refine Below.setCell ?_ (by first | exact Nat.le_refl _ | (simp; done) | (simp; omega)) _))⟩


end Go.Proofs.Ytankkkiccokggaa
