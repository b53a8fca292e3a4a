/-
  How many rows a grid has: impl.gridRows.
-/
import Derived.Test.YtankkkiccokggaaChecked
import Derived.Test.YtankkkiccokggaaBa
namespace Go.Proofs.Ytankkkiccokggaa
open Go.RowKit
set_option linter.unusedVariables false

theorem rowsI_any (W H : Nat) (a : Option Addr) (n cap : Nat) (w : World) (hW : 1 ≤ W) (hn : n ≤ 1048576) (hH : n / W = H) :
    Calls Try.prog 59 #[.agg #[.int .i64 (W : Int), .slice a n cap]] w fun e w' => e = .returned (.int .i64 (H : Int)) ∧ Below w.heap.size w w' := by
  have h0 : (0 : Int) ≤ (n : Int) / (W : Int) := Int.ediv_nonneg (by omega) (by omega)
  have h1 : (n : Int) / (W : Int) ≤ n := Int.ediv_le_self _ (by omega)
  have hw : (1 : Int) ≤ (W : Int) := by omega
  have HH : Hid ((n : Int) / (W : Int) = (H : Int)) := by show _ = _; rw [← hH]; simp
  clear hH
  go_enter Try.func59, Try.ntmps59
  go_wp2
  go_ret
  exact ⟨by rw [← HH.out]; rfl, (by repeat (first | exact Below.refl _ _ | refine Below.alloc ?_ (by first | exact Nat.le_refl _ | (simp; done) | (simp; omega)) _ | refine Below.drew ?_ | refine Below.setCell ?_ (by first | exact Nat.le_refl _ | (simp; done) | (simp; omega)) _))⟩

end Go.Proofs.Ytankkkiccokggaa
