/- Of the proof: NJk -/
import Derived.Test.YtfhhcfcjhlkdoaaGreatLAw
import Derived.Test.YtfhhcfcjhlkdoaaGreatLBe
set_option linter.unusedVariables false
namespace Go.Proofs.YtfhhcfcjhlkdoaaGreat
namespace Sp.Sn
open Go.RowKit
theorem infoVisit : (SqN.prog.info? 108).map (fun i => (i.zero, i.size, i.bytes)) = some (some (.agg #[.int .i64 0, .int .i64 0, .int .i64 0]), 3, 24) := by kernel_rfl
theorem infoEnd : (SqN.prog.info? 62).map (fun i => (i.zero, i.size, i.bytes)) = some (some (.agg #[.int .i64 0, .int .i64 0, .int .i64 0]), 3, 24) := by kernel_rfl
end Sp.Sn
namespace Sp.Sn
open Go.RowKit
end Sp.Sn
namespace Sp.Sn
open Go.RowKit
end Sp.Sn
namespace Sp.Sn
open Go.RowKit
end Sp.Sn
namespace Sp.Sn
open Go.RowKit
end Sp.Sn
end Go.Proofs.YtfhhcfcjhlkdoaaGreat
