/-
  No cell of these rows narrows 'for every input' (looked for: loops, veiled, ifaces, maps, wideKeys, modest, calm, conditions, laid).
  DERIVED. THE GIVEN ROWS OF THIS SEAT. 11 by the template 'for every input the law returns true; each argument reads behind the call as it read before'; 0 by the template 'total and deterministic' (their statements: YtffjogoamobfoaaTotals.lean).
  GIVEN WITH THE SEED: the statements are not yours to turn. If you find one false, say at which input.
  Laid BY PROGRAM, IN A SANDBOX (cutbox-rows.mjs): the forced cells as the released guide's own fill.sh prints them over the translation a95af5febacb8a31… (all of the seat's roots in one cut). By AI agents, Wed Nov 11 2026. No macro, syntax, notation, axiom, sorry.
-/
import Derived.Test.YtffjogoamobfoaaChecked
import GoSem.Claim
import GoSem.ClaimJoined
import GoSem.ClaimMapViews
import Derived.JoinedTies
import Derived.KernelRfl
namespace Go.Proofs.Ytffjogoamobfoaa
/- THE CELL 'sum', in the pinned program and in every row, IS THE sha256 OF THE DUMP (.gsa) THAT YtffjogoamobfoaaProg.lean LOADS. Nothing in Lean hashes anything: it is a label: what it is worth is what the hold of that sum in a sandbox is worth. -/
noncomputable def Try.pinned : Pinned := { name := "ytffjogoamobfoaa", sum := "a95af5febacb8a31f61d756404e67754c9108d8df39d8041c2c50e25019f67cc", checked := Try.checked }
namespace Rows
def none {H : Type} : Left H := { results := [], args := [] }

/-- 'laws.FnTrailUnseen': WHATEVER THE INPUT: true; the input reads as it did. -/
def fnTrailUnseenSpec : ChangeSpec := { name := "fnTrailUnseen", fn := fun _ => fun
  | [d1, d2] => { results := [.lit (.bool true)], args := [d1, d2] }
  | _ => none }
def fnTrailUnseenRow : OpenClaim := { program := "ytffjogoamobfoaa", sum := "a95af5febacb8a31f61d756404e67754c9108d8df39d8041c2c50e25019f67cc", func := "loop.example/lucarne/laws.FnTrailUnseen", spec := "fnTrailUnseen", unfollowed := true, recurses := true, apart := false }
def FnTrailUnseenSaid : Prop := fnTrailUnseenRow.holds Try.pinned (OpenSpec.ofChange fnTrailUnseenSpec)

/-- ITS FALSE NEIGHBOUR: 'it returns false'. Refute it at one input. -/
def fnTrailUnseenWrong : ChangeSpec := { name := "fnTrailUnseen", fn := fun _ => fun
  | [d1, d2] => { results := [.lit (.bool false)], args := [d1, d2] }
  | _ => none }
def FnTrailUnseenWrongFalsely : Prop := fnTrailUnseenRow.holds Try.pinned (OpenSpec.ofChange fnTrailUnseenWrong)

/-- 'laws.FnTrailTurn': WHATEVER THE INPUT: true; the input reads as it did. -/
def fnTrailTurnSpec : ChangeSpec := { name := "fnTrailTurn", fn := fun _ => fun
  | [d] => { results := [.lit (.bool true)], args := [d] }
  | _ => none }
def fnTrailTurnRow : OpenClaim := { program := "ytffjogoamobfoaa", sum := "a95af5febacb8a31f61d756404e67754c9108d8df39d8041c2c50e25019f67cc", func := "loop.example/lucarne/laws.FnTrailTurn", spec := "fnTrailTurn", unfollowed := true, recurses := true, apart := false }
def FnTrailTurnSaid : Prop := fnTrailTurnRow.holds Try.pinned (OpenSpec.ofChange fnTrailTurnSpec)

/-- ITS FALSE NEIGHBOUR: 'it returns false'. Refute it at one input. -/
def fnTrailTurnWrong : ChangeSpec := { name := "fnTrailTurn", fn := fun _ => fun
  | [d] => { results := [.lit (.bool false)], args := [d] }
  | _ => none }
def FnTrailTurnWrongFalsely : Prop := fnTrailTurnRow.holds Try.pinned (OpenSpec.ofChange fnTrailTurnWrong)

/-- 'laws.FnTrailWall': WHATEVER THE INPUT: true; the input reads as it did. -/
def fnTrailWallSpec : ChangeSpec := { name := "fnTrailWall", fn := fun _ => fun
  | [d] => { results := [.lit (.bool true)], args := [d] }
  | _ => none }
def fnTrailWallRow : OpenClaim := { program := "ytffjogoamobfoaa", sum := "a95af5febacb8a31f61d756404e67754c9108d8df39d8041c2c50e25019f67cc", func := "loop.example/lucarne/laws.FnTrailWall", spec := "fnTrailWall", unfollowed := true, recurses := true, apart := false }
def FnTrailWallSaid : Prop := fnTrailWallRow.holds Try.pinned (OpenSpec.ofChange fnTrailWallSpec)

/-- ITS FALSE NEIGHBOUR: 'it returns false'. Refute it at one input. -/
def fnTrailWallWrong : ChangeSpec := { name := "fnTrailWall", fn := fun _ => fun
  | [d] => { results := [.lit (.bool false)], args := [d] }
  | _ => none }
def FnTrailWallWrongFalsely : Prop := fnTrailWallRow.holds Try.pinned (OpenSpec.ofChange fnTrailWallWrong)

/-- 'laws.FnLightMore': WHATEVER THE INPUT: true; the input reads as it did. -/
def fnLightMoreSpec : ChangeSpec := { name := "fnLightMore", fn := fun _ => fun
  | [d] => { results := [.lit (.bool true)], args := [d] }
  | _ => none }
def fnLightMoreRow : OpenClaim := { program := "ytffjogoamobfoaa", sum := "a95af5febacb8a31f61d756404e67754c9108d8df39d8041c2c50e25019f67cc", func := "loop.example/lucarne/laws.FnLightMore", spec := "fnLightMore", unfollowed := true, recurses := true, apart := false }
def FnLightMoreSaid : Prop := fnLightMoreRow.holds Try.pinned (OpenSpec.ofChange fnLightMoreSpec)

/-- ITS FALSE NEIGHBOUR: 'it returns false'. Refute it at one input. -/
def fnLightMoreWrong : ChangeSpec := { name := "fnLightMore", fn := fun _ => fun
  | [d] => { results := [.lit (.bool false)], args := [d] }
  | _ => none }
def FnLightMoreWrongFalsely : Prop := fnLightMoreRow.holds Try.pinned (OpenSpec.ofChange fnLightMoreWrong)

/-- 'laws.FnTrailDim': WHATEVER THE INPUT: true; the input reads as it did. -/
def fnTrailDimSpec : ChangeSpec := { name := "fnTrailDim", fn := fun _ => fun
  | [d] => { results := [.lit (.bool true)], args := [d] }
  | _ => none }
def fnTrailDimRow : OpenClaim := { program := "ytffjogoamobfoaa", sum := "a95af5febacb8a31f61d756404e67754c9108d8df39d8041c2c50e25019f67cc", func := "loop.example/lucarne/laws.FnTrailDim", spec := "fnTrailDim", unfollowed := true, recurses := true, apart := false }
def FnTrailDimSaid : Prop := fnTrailDimRow.holds Try.pinned (OpenSpec.ofChange fnTrailDimSpec)

/-- ITS FALSE NEIGHBOUR: 'it returns false'. Refute it at one input. -/
def fnTrailDimWrong : ChangeSpec := { name := "fnTrailDim", fn := fun _ => fun
  | [d] => { results := [.lit (.bool false)], args := [d] }
  | _ => none }
def FnTrailDimWrongFalsely : Prop := fnTrailDimRow.holds Try.pinned (OpenSpec.ofChange fnTrailDimWrong)

/-- 'laws.FnTrailLamp': WHATEVER THE INPUT: true; the input reads as it did. -/
def fnTrailLampSpec : ChangeSpec := { name := "fnTrailLamp", fn := fun _ => fun
  | [d] => { results := [.lit (.bool true)], args := [d] }
  | _ => none }
def fnTrailLampRow : OpenClaim := { program := "ytffjogoamobfoaa", sum := "a95af5febacb8a31f61d756404e67754c9108d8df39d8041c2c50e25019f67cc", func := "loop.example/lucarne/laws.FnTrailLamp", spec := "fnTrailLamp", unfollowed := true, recurses := true, apart := false }
def FnTrailLampSaid : Prop := fnTrailLampRow.holds Try.pinned (OpenSpec.ofChange fnTrailLampSpec)

/-- ITS FALSE NEIGHBOUR: 'it returns false'. Refute it at one input. -/
def fnTrailLampWrong : ChangeSpec := { name := "fnTrailLamp", fn := fun _ => fun
  | [d] => { results := [.lit (.bool false)], args := [d] }
  | _ => none }
def FnTrailLampWrongFalsely : Prop := fnTrailLampRow.holds Try.pinned (OpenSpec.ofChange fnTrailLampWrong)

/-- 'laws.FnExactTrailVisits': WHATEVER THE INPUT: true; the input reads as it did. -/
def fnExactTrailVisitsSpec : ChangeSpec := { name := "fnExactTrailVisits", fn := fun _ => fun
  | [d1, d2] => { results := [.lit (.bool true)], args := [d1, d2] }
  | _ => none }
def fnExactTrailVisitsRow : OpenClaim := { program := "ytffjogoamobfoaa", sum := "a95af5febacb8a31f61d756404e67754c9108d8df39d8041c2c50e25019f67cc", func := "loop.example/lucarne/laws.FnExactTrailVisits", spec := "fnExactTrailVisits", unfollowed := true, recurses := true, apart := false }
def FnExactTrailVisitsSaid : Prop := fnExactTrailVisitsRow.holds Try.pinned (OpenSpec.ofChange fnExactTrailVisitsSpec)

/-- ITS FALSE NEIGHBOUR: 'it returns false'. Refute it at one input. -/
def fnExactTrailVisitsWrong : ChangeSpec := { name := "fnExactTrailVisits", fn := fun _ => fun
  | [d1, d2] => { results := [.lit (.bool false)], args := [d1, d2] }
  | _ => none }
def FnExactTrailVisitsWrongFalsely : Prop := fnExactTrailVisitsRow.holds Try.pinned (OpenSpec.ofChange fnExactTrailVisitsWrong)

/-- 'laws.FnExactTrailEnds': WHATEVER THE INPUT: true; the input reads as it did. -/
def fnExactTrailEndsSpec : ChangeSpec := { name := "fnExactTrailEnds", fn := fun _ => fun
  | [d1, d2] => { results := [.lit (.bool true)], args := [d1, d2] }
  | _ => none }
def fnExactTrailEndsRow : OpenClaim := { program := "ytffjogoamobfoaa", sum := "a95af5febacb8a31f61d756404e67754c9108d8df39d8041c2c50e25019f67cc", func := "loop.example/lucarne/laws.FnExactTrailEnds", spec := "fnExactTrailEnds", unfollowed := true, recurses := true, apart := false }
def FnExactTrailEndsSaid : Prop := fnExactTrailEndsRow.holds Try.pinned (OpenSpec.ofChange fnExactTrailEndsSpec)

/-- ITS FALSE NEIGHBOUR: 'it returns false'. Refute it at one input. -/
def fnExactTrailEndsWrong : ChangeSpec := { name := "fnExactTrailEnds", fn := fun _ => fun
  | [d1, d2] => { results := [.lit (.bool false)], args := [d1, d2] }
  | _ => none }
def FnExactTrailEndsWrongFalsely : Prop := fnExactTrailEndsRow.holds Try.pinned (OpenSpec.ofChange fnExactTrailEndsWrong)

/-- 'laws.FnExactTrailFoot': WHATEVER THE INPUT: true; the input reads as it did. -/
def fnExactTrailFootSpec : ChangeSpec := { name := "fnExactTrailFoot", fn := fun _ => fun
  | [d1, d2] => { results := [.lit (.bool true)], args := [d1, d2] }
  | _ => none }
def fnExactTrailFootRow : OpenClaim := { program := "ytffjogoamobfoaa", sum := "a95af5febacb8a31f61d756404e67754c9108d8df39d8041c2c50e25019f67cc", func := "loop.example/lucarne/laws.FnExactTrailFoot", spec := "fnExactTrailFoot", unfollowed := true, recurses := true, apart := false }
def FnExactTrailFootSaid : Prop := fnExactTrailFootRow.holds Try.pinned (OpenSpec.ofChange fnExactTrailFootSpec)

/-- ITS FALSE NEIGHBOUR: 'it returns false'. Refute it at one input. -/
def fnExactTrailFootWrong : ChangeSpec := { name := "fnExactTrailFoot", fn := fun _ => fun
  | [d1, d2] => { results := [.lit (.bool false)], args := [d1, d2] }
  | _ => none }
def FnExactTrailFootWrongFalsely : Prop := fnExactTrailFootRow.holds Try.pinned (OpenSpec.ofChange fnExactTrailFootWrong)

/-- 'laws.FnExactTrailTo': WHATEVER THE INPUT: true; the input reads as it did. -/
def fnExactTrailToSpec : ChangeSpec := { name := "fnExactTrailTo", fn := fun _ => fun
  | [d1, d2, d3] => { results := [.lit (.bool true)], args := [d1, d2, d3] }
  | _ => none }
def fnExactTrailToRow : OpenClaim := { program := "ytffjogoamobfoaa", sum := "a95af5febacb8a31f61d756404e67754c9108d8df39d8041c2c50e25019f67cc", func := "loop.example/lucarne/laws.FnExactTrailTo", spec := "fnExactTrailTo", unfollowed := true, recurses := true, apart := false }
def FnExactTrailToSaid : Prop := fnExactTrailToRow.holds Try.pinned (OpenSpec.ofChange fnExactTrailToSpec)

/-- ITS FALSE NEIGHBOUR: 'it returns false'. Refute it at one input. -/
def fnExactTrailToWrong : ChangeSpec := { name := "fnExactTrailTo", fn := fun _ => fun
  | [d1, d2, d3] => { results := [.lit (.bool false)], args := [d1, d2, d3] }
  | _ => none }
def FnExactTrailToWrongFalsely : Prop := fnExactTrailToRow.holds Try.pinned (OpenSpec.ofChange fnExactTrailToWrong)

/-- 'laws.FnExactTrailLight': WHATEVER THE INPUT: true; the input reads as it did. -/
def fnExactTrailLightSpec : ChangeSpec := { name := "fnExactTrailLight", fn := fun _ => fun
  | [d1, d2] => { results := [.lit (.bool true)], args := [d1, d2] }
  | _ => none }
def fnExactTrailLightRow : OpenClaim := { program := "ytffjogoamobfoaa", sum := "a95af5febacb8a31f61d756404e67754c9108d8df39d8041c2c50e25019f67cc", func := "loop.example/lucarne/laws.FnExactTrailLight", spec := "fnExactTrailLight", unfollowed := true, recurses := true, apart := false }
def FnExactTrailLightSaid : Prop := fnExactTrailLightRow.holds Try.pinned (OpenSpec.ofChange fnExactTrailLightSpec)

/-- ITS FALSE NEIGHBOUR: 'it returns false'. Refute it at one input. -/
def fnExactTrailLightWrong : ChangeSpec := { name := "fnExactTrailLight", fn := fun _ => fun
  | [d1, d2] => { results := [.lit (.bool false)], args := [d1, d2] }
  | _ => none }
def FnExactTrailLightWrongFalsely : Prop := fnExactTrailLightRow.holds Try.pinned (OpenSpec.ofChange fnExactTrailLightWrong)

/- THE SECOND FORM. 'bulk': how many values and letters a reading holds, each counted each time it is reached (what is shared counts as often as it is met; a slice's spare places count too). A statement '..UptoSaid' is the law's where the arguments, and the package variables that the reading takes, are together of bulk at most 1048576: NARROWER than '..Said'. Prove '..Said' where nothing that the law and all that it calls make is longer than what came in: it says more and counts as full. Else prove '..UptoSaid'. A law counts once. -/
mutual
def uptoBulk {H : Type} : DataW H → Nat
  | .lit (.string bytes) => bytes.length + 1
  | .lit _ => 1
  | .nil => 1
  | .ptr d => uptoBulk d + 1
  | .slice elems spare => uptoBulkAll elems + uptoBulkAll spare + 1
  | .agg parts => uptoBulkAll parts + 1
  | .iface _ d => uptoBulk d + 1
  | .map entries => uptoBulkEntries entries + 1
  | .held _ => 1
def uptoBulkAll {H : Type} : List (DataW H) → Nat
  | [] => 0
  | d :: r => uptoBulk d + uptoBulkAll r
def uptoBulkEntries {H : Type} : List (Lit × DataW H) → Nat
  | [] => 0
  | x :: r => uptoBulkEntry x + uptoBulkEntries r
def uptoBulkEntry {H : Type} : Lit × DataW H → Nat
  | (.string bytes, d) => bytes.length + uptoBulk d + 1
  | (_, d) => uptoBulk d + 1
 end
def uptoSmall : (H : Type) → List (DataW H) → Bool := fun _ ds => decide (uptoBulkAll ds ≤ 1048576)
def OpenSpec.upto (s : _root_.Go.ChangeSpec) : _root_.Go.OpenSpec := { _root_.Go.OpenSpec.ofChange s with cond := some uptoSmall }

/-- 'laws.FnTrailUnseen', WHERE WHAT IT READS IS OF BULK AT MOST 1048576: true; the input reads as it did. -/
def fnTrailUnseenUptoRow : OpenClaim := { program := "ytffjogoamobfoaa", sum := "a95af5febacb8a31f61d756404e67754c9108d8df39d8041c2c50e25019f67cc", func := "loop.example/lucarne/laws.FnTrailUnseen", spec := "fnTrailUnseen", unfollowed := true, recurses := true, apart := false, narrowed := true }
def FnTrailUnseenUptoSaid : Prop := fnTrailUnseenUptoRow.holds Try.pinned (OpenSpec.upto fnTrailUnseenSpec)

/-- 'laws.FnTrailTurn', WHERE WHAT IT READS IS OF BULK AT MOST 1048576: true; the input reads as it did. -/
def fnTrailTurnUptoRow : OpenClaim := { program := "ytffjogoamobfoaa", sum := "a95af5febacb8a31f61d756404e67754c9108d8df39d8041c2c50e25019f67cc", func := "loop.example/lucarne/laws.FnTrailTurn", spec := "fnTrailTurn", unfollowed := true, recurses := true, apart := false, narrowed := true }
def FnTrailTurnUptoSaid : Prop := fnTrailTurnUptoRow.holds Try.pinned (OpenSpec.upto fnTrailTurnSpec)

/-- 'laws.FnTrailWall', WHERE WHAT IT READS IS OF BULK AT MOST 1048576: true; the input reads as it did. -/
def fnTrailWallUptoRow : OpenClaim := { program := "ytffjogoamobfoaa", sum := "a95af5febacb8a31f61d756404e67754c9108d8df39d8041c2c50e25019f67cc", func := "loop.example/lucarne/laws.FnTrailWall", spec := "fnTrailWall", unfollowed := true, recurses := true, apart := false, narrowed := true }
def FnTrailWallUptoSaid : Prop := fnTrailWallUptoRow.holds Try.pinned (OpenSpec.upto fnTrailWallSpec)

/-- 'laws.FnLightMore', WHERE WHAT IT READS IS OF BULK AT MOST 1048576: true; the input reads as it did. -/
def fnLightMoreUptoRow : OpenClaim := { program := "ytffjogoamobfoaa", sum := "a95af5febacb8a31f61d756404e67754c9108d8df39d8041c2c50e25019f67cc", func := "loop.example/lucarne/laws.FnLightMore", spec := "fnLightMore", unfollowed := true, recurses := true, apart := false, narrowed := true }
def FnLightMoreUptoSaid : Prop := fnLightMoreUptoRow.holds Try.pinned (OpenSpec.upto fnLightMoreSpec)

/-- 'laws.FnTrailDim', WHERE WHAT IT READS IS OF BULK AT MOST 1048576: true; the input reads as it did. -/
def fnTrailDimUptoRow : OpenClaim := { program := "ytffjogoamobfoaa", sum := "a95af5febacb8a31f61d756404e67754c9108d8df39d8041c2c50e25019f67cc", func := "loop.example/lucarne/laws.FnTrailDim", spec := "fnTrailDim", unfollowed := true, recurses := true, apart := false, narrowed := true }
def FnTrailDimUptoSaid : Prop := fnTrailDimUptoRow.holds Try.pinned (OpenSpec.upto fnTrailDimSpec)

/-- 'laws.FnTrailLamp', WHERE WHAT IT READS IS OF BULK AT MOST 1048576: true; the input reads as it did. -/
def fnTrailLampUptoRow : OpenClaim := { program := "ytffjogoamobfoaa", sum := "a95af5febacb8a31f61d756404e67754c9108d8df39d8041c2c50e25019f67cc", func := "loop.example/lucarne/laws.FnTrailLamp", spec := "fnTrailLamp", unfollowed := true, recurses := true, apart := false, narrowed := true }
def FnTrailLampUptoSaid : Prop := fnTrailLampUptoRow.holds Try.pinned (OpenSpec.upto fnTrailLampSpec)

/-- 'laws.FnExactTrailVisits', WHERE WHAT IT READS IS OF BULK AT MOST 1048576: true; the input reads as it did. -/
def fnExactTrailVisitsUptoRow : OpenClaim := { program := "ytffjogoamobfoaa", sum := "a95af5febacb8a31f61d756404e67754c9108d8df39d8041c2c50e25019f67cc", func := "loop.example/lucarne/laws.FnExactTrailVisits", spec := "fnExactTrailVisits", unfollowed := true, recurses := true, apart := false, narrowed := true }
def FnExactTrailVisitsUptoSaid : Prop := fnExactTrailVisitsUptoRow.holds Try.pinned (OpenSpec.upto fnExactTrailVisitsSpec)

/-- 'laws.FnExactTrailEnds', WHERE WHAT IT READS IS OF BULK AT MOST 1048576: true; the input reads as it did. -/
def fnExactTrailEndsUptoRow : OpenClaim := { program := "ytffjogoamobfoaa", sum := "a95af5febacb8a31f61d756404e67754c9108d8df39d8041c2c50e25019f67cc", func := "loop.example/lucarne/laws.FnExactTrailEnds", spec := "fnExactTrailEnds", unfollowed := true, recurses := true, apart := false, narrowed := true }
def FnExactTrailEndsUptoSaid : Prop := fnExactTrailEndsUptoRow.holds Try.pinned (OpenSpec.upto fnExactTrailEndsSpec)

/-- 'laws.FnExactTrailFoot', WHERE WHAT IT READS IS OF BULK AT MOST 1048576: true; the input reads as it did. -/
def fnExactTrailFootUptoRow : OpenClaim := { program := "ytffjogoamobfoaa", sum := "a95af5febacb8a31f61d756404e67754c9108d8df39d8041c2c50e25019f67cc", func := "loop.example/lucarne/laws.FnExactTrailFoot", spec := "fnExactTrailFoot", unfollowed := true, recurses := true, apart := false, narrowed := true }
def FnExactTrailFootUptoSaid : Prop := fnExactTrailFootUptoRow.holds Try.pinned (OpenSpec.upto fnExactTrailFootSpec)

/-- 'laws.FnExactTrailTo', WHERE WHAT IT READS IS OF BULK AT MOST 1048576: true; the input reads as it did. -/
def fnExactTrailToUptoRow : OpenClaim := { program := "ytffjogoamobfoaa", sum := "a95af5febacb8a31f61d756404e67754c9108d8df39d8041c2c50e25019f67cc", func := "loop.example/lucarne/laws.FnExactTrailTo", spec := "fnExactTrailTo", unfollowed := true, recurses := true, apart := false, narrowed := true }
def FnExactTrailToUptoSaid : Prop := fnExactTrailToUptoRow.holds Try.pinned (OpenSpec.upto fnExactTrailToSpec)

/-- 'laws.FnExactTrailLight', WHERE WHAT IT READS IS OF BULK AT MOST 1048576: true; the input reads as it did. -/
def fnExactTrailLightUptoRow : OpenClaim := { program := "ytffjogoamobfoaa", sum := "a95af5febacb8a31f61d756404e67754c9108d8df39d8041c2c50e25019f67cc", func := "loop.example/lucarne/laws.FnExactTrailLight", spec := "fnExactTrailLight", unfollowed := true, recurses := true, apart := false, narrowed := true }
def FnExactTrailLightUptoSaid : Prop := fnExactTrailLightUptoRow.holds Try.pinned (OpenSpec.upto fnExactTrailLightSpec)

end Rows
end Go.Proofs.Ytffjogoamobfoaa
