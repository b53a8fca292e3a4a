/-
  impl.placeOk: whether a grid has such a place.
-/
import Derived.Test.YtankkkiccokggaaChecked
import Derived.Test.YtankkkiccokggaaBa
namespace Go.Proofs.Ytankkkiccokggaa
open Go.RowKit
set_option linter.unusedVariables false

/-- Whether there is such a place. -/
def inP (x : Int) (n : Nat) : Bool := decide (0 ≤ x ∧ x < n)

set_option maxHeartbeats 400000 in
theorem placeOk_any (x wd : Int) (a : Option Addr) (n cap : Nat) (hm : n ≤ 9223372036854775807) (w : World) :
    Calls Try.prog 45 #[.agg #[.int .i64 wd, .slice a n cap], .int .i64 x] w fun e w' => e = .returned (.bool (inP x n)) ∧ Below w.heap.size w w' := by
  by_cases h1 : 0 ≤ x
  · by_cases h2 : x < (n : Int)
    all_goals
      go_enter Try.func45, Try.ntmps45
      go_wp2
      go_ret
      exact ⟨by simp [inP, h1, h2], (by repeat (first | exact Below.refl _ _ | refine Below.alloc ?_ (by first | exact Nat.le_refl _ | (simp; done) | (simp; omega)) _ | refine Below.drew ?_ | refine Below.setCell ?_ (by first | exact Nat.le_refl _ | (simp; done) | (simp; omega)) _))⟩
  · go_enter Try.func45, Try.ntmps45
    go_wp2
    go_ret
    exact ⟨by simp [inP]; omega, (by repeat (first | exact Below.refl _ _ | refine Below.alloc ?_ (by first | exact Nat.le_refl _ | (simp; done) | (simp; omega)) _ | refine Below.drew ?_ | refine Below.setCell ?_ (by first | exact Nat.le_refl _ | (simp; done) | (simp; omega)) _))⟩

end Go.Proofs.Ytankkkiccokggaa
