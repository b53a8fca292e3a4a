/-
  impl.dirOk: whether light can go that way.
-/
import Derived.Test.YtankkkiccokggaaCa
namespace Go.Proofs.Ytankkkiccokggaa
open Go.RowKit
set_option linter.unusedVariables false

set_option maxHeartbeats 400000 in
theorem dirOk_any (d : Int) (w : World) :
    Calls Try.prog 46 #[.int .i64 d] w fun e w' => e = .returned (.bool (inB d 0 3)) ∧ w' = w := by
  by_cases h1 : 0 ≤ d
  · by_cases h2 : d ≤ 3
    all_goals
      go_enter Try.func46, Try.ntmps46
      go_wp2
      go_ret
      exact ⟨by simp [inB, h1, h2], rfl⟩
  · go_enter Try.func46, Try.ntmps46
    go_wp2
    go_ret
    exact ⟨by simp [inB]; omega, rfl⟩
end Go.Proofs.Ytankkkiccokggaa
