/-
  Several texts in one: Yc0, Yc1.
-/
import Derived.Test.YtnochicpkcjjlaaDoorJb

/-
  impl.RayNext at an ok grid, a place in it and the way 0.
-/
namespace Go.Proofs.YtnochicpkcjjlaaDoor
open Go.RowKit
set_option linter.unusedVariables false

end Go.Proofs.YtnochicpkcjjlaaDoor

/-
  impl.RayNext at an ok grid, a place in it and the way 1.
-/
namespace Go.Proofs.YtnochicpkcjjlaaDoor
open Go.RowKit
set_option linter.unusedVariables false

end Go.Proofs.YtnochicpkcjjlaaDoor
