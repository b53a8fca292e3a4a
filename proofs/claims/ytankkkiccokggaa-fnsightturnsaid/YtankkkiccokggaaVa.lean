/-
  A side of a grid, as impl has it: whether it has a sight, what comes in there, and at which of its sights light comes into a cell.
-/
import Derived.Test.YtankkkiccokggaaChecked
import Derived.Test.YtankkkiccokggaaBa
namespace Go.Proofs.Ytankkkiccokggaa
open Go.RowKit
set_option linter.unusedVariables false

set_option maxHeartbeats 400000 in
theorem has_any (f m s o i u k : Int) (hf : 0 ≤ f ∧ f ≤ 100) (hm : 0 ≤ m ∧ m ≤ 100) (b : Bool) (hb : b = decide (f ≤ k ∧ k < f + m)) (w : World) :
    Calls Try.prog 42 #[.agg #[.int .i64 f, .int .i64 m, .int .i64 s, .int .i64 o, .int .i64 i, .int .i64 u], .int .i64 k] w fun e w' => e = .returned (.bool b) ∧ Below w.heap.size w w' := by
  by_cases h1 : f ≤ k
  · by_cases h2 : k < f + m
    · have e1 : b = true := by rw [hb]; exact decide_eq_true ⟨h1, h2⟩
      clear hb
      subst e1
      go_enter Try.func42, Try.ntmps42
      go_wp2
      go_ret
      exact ⟨rfl, (by repeat (first | exact Below.refl _ _ | refine Below.alloc ?_ (by first | exact Nat.le_refl _ | (simp; done) | (simp; omega)) _ | refine Below.drew ?_ | refine Below.setCell ?_ (by first | exact Nat.le_refl _ | (simp; done) | (simp; omega)) _))⟩
    · have e1 : b = false := by rw [hb]; exact decide_eq_false (by omega)
      clear hb
      subst e1
      go_enter Try.func42, Try.ntmps42
      go_wp2
      go_ret
      exact ⟨rfl, (by repeat (first | exact Below.refl _ _ | refine Below.alloc ?_ (by first | exact Nat.le_refl _ | (simp; done) | (simp; omega)) _ | refine Below.drew ?_ | refine Below.setCell ?_ (by first | exact Nat.le_refl _ | (simp; done) | (simp; omega)) _))⟩
  · have e1 : b = false := by rw [hb]; exact decide_eq_false (by omega)
    clear hb
    subst e1
    go_enter Try.func42, Try.ntmps42
    go_wp2
    go_ret
    exact ⟨rfl, (by repeat (first | exact Below.refl _ _ | refine Below.alloc ?_ (by first | exact Nat.le_refl _ | (simp; done) | (simp; omega)) _ | refine Below.drew ?_ | refine Below.setCell ?_ (by first | exact Nat.le_refl _ | (simp; done) | (simp; omega)) _))⟩

set_option maxHeartbeats 400000 in
theorem ray_any (f m s o i u k : Int) (p x : Int) (hf : 0 ≤ f ∧ f ≤ 100) (hk : 0 ≤ k ∧ k ≤ 100) (hp : (k - f) * o = p) (hp2 : -100 ≤ p ∧ p ≤ 100) (hs : -100 ≤ s ∧ s ≤ 100) (hx : s + p = x) (w : World) :
    Calls Try.prog 43 #[.agg #[.int .i64 f, .int .i64 m, .int .i64 s, .int .i64 o, .int .i64 i, .int .i64 u], .int .i64 k] w fun e w' => e = .returned (.agg #[.int .i64 x, .int .i64 i]) ∧ Below w.heap.size w w' := by
  have v1 : IntKind.i64.wrap ((k - f) * o) = p := by rw [hp]; exact IntWalk.i64_in _ (by omega)
  clear hp
  go_enter Try.func43, Try.ntmps43
  go_wp2
  refine bodyPost_ret (v := .agg #[.int .i64 x, .int .i64 i]) (by simp [results, Try.results43, go_sem]) rfl ⟨rfl, ?_⟩
  exact (by repeat (first | exact Below.refl _ _ | refine Below.alloc ?_ (by first | exact Nat.le_refl _ | (simp; done) | (simp; omega)) _ | refine Below.drew ?_ | refine Below.setCell ?_ (by first | exact Nat.le_refl _ | (simp; done) | (simp; omega)) _))
end Go.Proofs.Ytankkkiccokggaa
