/-
  Texts of the proof: NJk.
-/
import Derived.Test.YtfhhcfcjhlkdoaaGreatChecked
import Derived.Deep.AppendLies
import Derived.Laws.Rows
import Derived.Calls
import Derived.Laws.Sem
import Derived.WalkKit
import Derived.WalkLawsBesides
import Derived.Below
import Derived.Deep.Draws
import Derived.Laws.EntriesVeiled
import Derived.Deep.RegionHeld3
import Derived.BigQuiet
import Derived.Deep.DeepCutAuto
import Derived.Laws.CopyOwn
import Derived.Deep.WholeRow
import Derived.LoopN
import Derived.Test.YtfhhcfcjhlkdoaaGreatKAa
import Derived.Test.YtfhhcfcjhlkdoaaGreatKAb
import Derived.Test.YtfhhcfcjhlkdoaaGreatKAc
import Derived.Test.YtfhhcfcjhlkdoaaGreatKAn
import Derived.Test.YtfhhcfcjhlkdoaaGreatKAp
import Derived.Test.YtfhhcfcjhlkdoaaGreatKAq
import Derived.Test.YtfhhcfcjhlkdoaaGreatKAr
import Derived.Test.YtfhhcfcjhlkdoaaGreatKAs
import Derived.Test.YtfhhcfcjhlkdoaaGreatKAt
import Derived.Test.YtfhhcfcjhlkdoaaGreatKAu
import Derived.Test.YtfhhcfcjhlkdoaaGreatKAv
import Derived.Test.YtfhhcfcjhlkdoaaGreatKAw
import Derived.Test.YtfhhcfcjhlkdoaaGreatKAx
import Derived.Test.YtfhhcfcjhlkdoaaGreatKBb
import Derived.Test.YtfhhcfcjhlkdoaaGreatKBc
import Derived.Test.YtfhhcfcjhlkdoaaGreatKBd
import Derived.Test.YtfhhcfcjhlkdoaaGreatKBe
import Derived.Test.YtfhhcfcjhlkdoaaGreatKBf
import Derived.Test.YtfhhcfcjhlkdoaaGreatKBg

namespace Go.Proofs.YtfhhcfcjhlkdoaaGreat.Sp.Sn
open Go.RowKit
set_option linter.unusedVariables false

theorem infoVisit : (SqN.prog.info? 108).map (fun i => (i.zero, i.size, i.bytes)) = some (some (.agg #[.int .i64 0, .int .i64 0, .int .i64 0]), 3, 24) := by kernel_rfl
theorem infoEnd : (SqN.prog.info? 62).map (fun i => (i.zero, i.size, i.bytes)) = some (some (.agg #[.int .i64 0, .int .i64 0, .int .i64 0]), 3, 24) := by kernel_rfl

end Go.Proofs.YtfhhcfcjhlkdoaaGreat.Sp.Sn

namespace Go.Proofs.YtfhhcfcjhlkdoaaGreat.Sp.Sn
open Go.RowKit
set_option linter.unusedVariables false

end Go.Proofs.YtfhhcfcjhlkdoaaGreat.Sp.Sn

namespace Go.Proofs.YtfhhcfcjhlkdoaaGreat.Sp.Sn
open Go.RowKit
set_option linter.unusedVariables false

end Go.Proofs.YtfhhcfcjhlkdoaaGreat.Sp.Sn

namespace Go.Proofs.YtfhhcfcjhlkdoaaGreat.Sp.Sn
open Go.RowKit
set_option linter.unusedVariables false

end Go.Proofs.YtfhhcfcjhlkdoaaGreat.Sp.Sn

namespace Go.Proofs.YtfhhcfcjhlkdoaaGreat.Sp.Sn
open Go.RowKit
set_option linter.unusedVariables false

end Go.Proofs.YtfhhcfcjhlkdoaaGreat.Sp.Sn
