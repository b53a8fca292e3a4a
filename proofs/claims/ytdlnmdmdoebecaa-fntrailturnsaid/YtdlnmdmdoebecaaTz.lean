/-
  The contract of spec.l1Other: a cell whose mirror or glass leans the other way, as the plain function 'other' says.
-/
import Derived.Test.YtdlnmdmdoebecaaTa
namespace Go.Proofs.Ytdlnmdmdoebecaa
open Go.RowKit

end Go.Proofs.Ytdlnmdmdoebecaa
