/-
  No cell of these rows narrows 'for every input' (looked for: loops, veiled, ifaces, maps, wideKeys, modest, calm, conditions, laid).
  DERIVED. THE GIVEN ROWS OF THIS SEAT. 7 by the template 'for every input the law returns true; each argument reads behind the call as it read before'; 0 by the template 'total and deterministic' (their statements: YtgikknbjmbolaaaTotals.lean).
  GIVEN WITH THE SEED: the statements are not yours to turn. If you find one false, say at which input.
  Laid BY PROGRAM, IN A SANDBOX (cutbox-rows.mjs): the forced cells as the released guide's own fill.sh prints them over the translation 4094eff86fcd69c6… (all of the seat's roots in one cut). By AI agents, Wed Nov 11 2026. No macro, syntax, notation, axiom, sorry.
-/
import Derived.Test.YtgikknbjmbolaaaChecked
import GoSem.Claim
import GoSem.ClaimJoined
import GoSem.ClaimMapViews
import Derived.JoinedTies
import Derived.KernelRfl
namespace Go.Proofs.Ytgikknbjmbolaaa
/- THE CELL 'sum', in the pinned program and in every row, IS THE sha256 OF THE DUMP (.gsa) THAT YtgikknbjmbolaaaProg.lean LOADS. Nothing in Lean hashes anything: it is a label: what it is worth is what the hold of that sum in a sandbox is worth. -/
noncomputable def Try.pinned : Pinned := { name := "ytgikknbjmbolaaa", sum := "4094eff86fcd69c69029198d1f77f84be1ecaf40203f41a2e68074c1f56839ef", checked := Try.checked }
namespace Rows
def none {H : Type} : Left H := { results := [], args := [] }

/-- 'laws.FnDirBack': WHATEVER THE INPUT: true; the input reads as it did. -/
def fnDirBackSpec : ChangeSpec := { name := "fnDirBack", fn := fun _ => fun
  | [d] => { results := [.lit (.bool true)], args := [d] }
  | _ => none }
def fnDirBackRow : OpenClaim := { program := "ytgikknbjmbolaaa", sum := "4094eff86fcd69c69029198d1f77f84be1ecaf40203f41a2e68074c1f56839ef", func := "loop.example/lucarne/laws.FnDirBack", spec := "fnDirBack", unfollowed := true, recurses := true, apart := false }
def FnDirBackSaid : Prop := fnDirBackRow.holds Try.pinned (OpenSpec.ofChange fnDirBackSpec)

/-- ITS FALSE NEIGHBOUR: 'it returns false'. Refute it at one input. -/
def fnDirBackWrong : ChangeSpec := { name := "fnDirBack", fn := fun _ => fun
  | [d] => { results := [.lit (.bool false)], args := [d] }
  | _ => none }
def FnDirBackWrongFalsely : Prop := fnDirBackRow.holds Try.pinned (OpenSpec.ofChange fnDirBackWrong)

/-- 'laws.FnDirAll': WHATEVER THE INPUT: true; the input reads as it did. -/
def fnDirAllSpec : ChangeSpec := { name := "fnDirAll", fn := fun _ => fun
  | [d] => { results := [.lit (.bool true)], args := [d] }
  | _ => none }
def fnDirAllRow : OpenClaim := { program := "ytgikknbjmbolaaa", sum := "4094eff86fcd69c69029198d1f77f84be1ecaf40203f41a2e68074c1f56839ef", func := "loop.example/lucarne/laws.FnDirAll", spec := "fnDirAll", unfollowed := true, recurses := true, apart := false }
def FnDirAllSaid : Prop := fnDirAllRow.holds Try.pinned (OpenSpec.ofChange fnDirAllSpec)

/-- ITS FALSE NEIGHBOUR: 'it returns false'. Refute it at one input. -/
def fnDirAllWrong : ChangeSpec := { name := "fnDirAll", fn := fun _ => fun
  | [d] => { results := [.lit (.bool false)], args := [d] }
  | _ => none }
def FnDirAllWrongFalsely : Prop := fnDirAllRow.holds Try.pinned (OpenSpec.ofChange fnDirAllWrong)

/-- 'laws.FnRayBack': WHATEVER THE INPUT: true; the input reads as it did. -/
def fnRayBackSpec : ChangeSpec := { name := "fnRayBack", fn := fun _ => fun
  | [d] => { results := [.lit (.bool true)], args := [d] }
  | _ => none }
def fnRayBackRow : OpenClaim := { program := "ytgikknbjmbolaaa", sum := "4094eff86fcd69c69029198d1f77f84be1ecaf40203f41a2e68074c1f56839ef", func := "loop.example/lucarne/laws.FnRayBack", spec := "fnRayBack", unfollowed := true, recurses := true, apart := false }
def FnRayBackSaid : Prop := fnRayBackRow.holds Try.pinned (OpenSpec.ofChange fnRayBackSpec)

/-- ITS FALSE NEIGHBOUR: 'it returns false'. Refute it at one input. -/
def fnRayBackWrong : ChangeSpec := { name := "fnRayBack", fn := fun _ => fun
  | [d] => { results := [.lit (.bool false)], args := [d] }
  | _ => none }
def FnRayBackWrongFalsely : Prop := fnRayBackRow.holds Try.pinned (OpenSpec.ofChange fnRayBackWrong)

/-- 'laws.FnRayRound': WHATEVER THE INPUT: true; the input reads as it did. -/
def fnRayRoundSpec : ChangeSpec := { name := "fnRayRound", fn := fun _ => fun
  | [d] => { results := [.lit (.bool true)], args := [d] }
  | _ => none }
def fnRayRoundRow : OpenClaim := { program := "ytgikknbjmbolaaa", sum := "4094eff86fcd69c69029198d1f77f84be1ecaf40203f41a2e68074c1f56839ef", func := "loop.example/lucarne/laws.FnRayRound", spec := "fnRayRound", unfollowed := true, recurses := true, apart := false }
def FnRayRoundSaid : Prop := fnRayRoundRow.holds Try.pinned (OpenSpec.ofChange fnRayRoundSpec)

/-- ITS FALSE NEIGHBOUR: 'it returns false'. Refute it at one input. -/
def fnRayRoundWrong : ChangeSpec := { name := "fnRayRound", fn := fun _ => fun
  | [d] => { results := [.lit (.bool false)], args := [d] }
  | _ => none }
def FnRayRoundWrongFalsely : Prop := fnRayRoundRow.holds Try.pinned (OpenSpec.ofChange fnRayRoundWrong)

/-- 'laws.FnRayEdge': WHATEVER THE INPUT: true; the input reads as it did. -/
def fnRayEdgeSpec : ChangeSpec := { name := "fnRayEdge", fn := fun _ => fun
  | [d] => { results := [.lit (.bool true)], args := [d] }
  | _ => none }
def fnRayEdgeRow : OpenClaim := { program := "ytgikknbjmbolaaa", sum := "4094eff86fcd69c69029198d1f77f84be1ecaf40203f41a2e68074c1f56839ef", func := "loop.example/lucarne/laws.FnRayEdge", spec := "fnRayEdge", unfollowed := true, recurses := true, apart := false }
def FnRayEdgeSaid : Prop := fnRayEdgeRow.holds Try.pinned (OpenSpec.ofChange fnRayEdgeSpec)

/-- ITS FALSE NEIGHBOUR: 'it returns false'. Refute it at one input. -/
def fnRayEdgeWrong : ChangeSpec := { name := "fnRayEdge", fn := fun _ => fun
  | [d] => { results := [.lit (.bool false)], args := [d] }
  | _ => none }
def FnRayEdgeWrongFalsely : Prop := fnRayEdgeRow.holds Try.pinned (OpenSpec.ofChange fnRayEdgeWrong)

/-- 'laws.FnExactDirTurn': WHATEVER THE INPUT: true; the input reads as it did. -/
def fnExactDirTurnSpec : ChangeSpec := { name := "fnExactDirTurn", fn := fun _ => fun
  | [d1, d2] => { results := [.lit (.bool true)], args := [d1, d2] }
  | _ => none }
def fnExactDirTurnRow : OpenClaim := { program := "ytgikknbjmbolaaa", sum := "4094eff86fcd69c69029198d1f77f84be1ecaf40203f41a2e68074c1f56839ef", func := "loop.example/lucarne/laws.FnExactDirTurn", spec := "fnExactDirTurn", unfollowed := true, recurses := true, apart := false }
def FnExactDirTurnSaid : Prop := fnExactDirTurnRow.holds Try.pinned (OpenSpec.ofChange fnExactDirTurnSpec)

/-- ITS FALSE NEIGHBOUR: 'it returns false'. Refute it at one input. -/
def fnExactDirTurnWrong : ChangeSpec := { name := "fnExactDirTurn", fn := fun _ => fun
  | [d1, d2] => { results := [.lit (.bool false)], args := [d1, d2] }
  | _ => none }
def FnExactDirTurnWrongFalsely : Prop := fnExactDirTurnRow.holds Try.pinned (OpenSpec.ofChange fnExactDirTurnWrong)

/-- 'laws.FnExactRayNext': WHATEVER THE INPUT: true; the input reads as it did. -/
def fnExactRayNextSpec : ChangeSpec := { name := "fnExactRayNext", fn := fun _ => fun
  | [d1, d2, d3] => { results := [.lit (.bool true)], args := [d1, d2, d3] }
  | _ => none }
def fnExactRayNextRow : OpenClaim := { program := "ytgikknbjmbolaaa", sum := "4094eff86fcd69c69029198d1f77f84be1ecaf40203f41a2e68074c1f56839ef", func := "loop.example/lucarne/laws.FnExactRayNext", spec := "fnExactRayNext", unfollowed := true, recurses := true, apart := false }
def FnExactRayNextSaid : Prop := fnExactRayNextRow.holds Try.pinned (OpenSpec.ofChange fnExactRayNextSpec)

/-- ITS FALSE NEIGHBOUR: 'it returns false'. Refute it at one input. -/
def fnExactRayNextWrong : ChangeSpec := { name := "fnExactRayNext", fn := fun _ => fun
  | [d1, d2, d3] => { results := [.lit (.bool false)], args := [d1, d2, d3] }
  | _ => none }
def FnExactRayNextWrongFalsely : Prop := fnExactRayNextRow.holds Try.pinned (OpenSpec.ofChange fnExactRayNextWrong)

/- THE SECOND FORM. 'bulk': how many values and letters a reading holds, each counted each time it is reached (what is shared counts as often as it is met; a slice's spare places count too). A statement '..UptoSaid' is the law's where the arguments, and the package variables that the reading takes, are together of bulk at most 1048576: NARROWER than '..Said'. Prove '..Said' where nothing that the law and all that it calls make is longer than what came in: it says more and counts as full. Else prove '..UptoSaid'. A law counts once. -/
mutual
def uptoBulk {H : Type} : DataW H → Nat
  | .lit (.string bytes) => bytes.length + 1
  | .lit _ => 1
  | .nil => 1
  | .ptr d => uptoBulk d + 1
  | .slice elems spare => uptoBulkAll elems + uptoBulkAll spare + 1
  | .agg parts => uptoBulkAll parts + 1
  | .iface _ d => uptoBulk d + 1
  | .map entries => uptoBulkEntries entries + 1
  | .held _ => 1
def uptoBulkAll {H : Type} : List (DataW H) → Nat
  | [] => 0
  | d :: r => uptoBulk d + uptoBulkAll r
def uptoBulkEntries {H : Type} : List (Lit × DataW H) → Nat
  | [] => 0
  | x :: r => uptoBulkEntry x + uptoBulkEntries r
def uptoBulkEntry {H : Type} : Lit × DataW H → Nat
  | (.string bytes, d) => bytes.length + uptoBulk d + 1
  | (_, d) => uptoBulk d + 1
 end
def uptoSmall : (H : Type) → List (DataW H) → Bool := fun _ ds => decide (uptoBulkAll ds ≤ 1048576)
def OpenSpec.upto (s : _root_.Go.ChangeSpec) : _root_.Go.OpenSpec := { _root_.Go.OpenSpec.ofChange s with cond := some uptoSmall }

/-- 'laws.FnDirBack', WHERE WHAT IT READS IS OF BULK AT MOST 1048576: true; the input reads as it did. -/
def fnDirBackUptoRow : OpenClaim := { program := "ytgikknbjmbolaaa", sum := "4094eff86fcd69c69029198d1f77f84be1ecaf40203f41a2e68074c1f56839ef", func := "loop.example/lucarne/laws.FnDirBack", spec := "fnDirBack", unfollowed := true, recurses := true, apart := false, narrowed := true }
def FnDirBackUptoSaid : Prop := fnDirBackUptoRow.holds Try.pinned (OpenSpec.upto fnDirBackSpec)

/-- 'laws.FnDirAll', WHERE WHAT IT READS IS OF BULK AT MOST 1048576: true; the input reads as it did. -/
def fnDirAllUptoRow : OpenClaim := { program := "ytgikknbjmbolaaa", sum := "4094eff86fcd69c69029198d1f77f84be1ecaf40203f41a2e68074c1f56839ef", func := "loop.example/lucarne/laws.FnDirAll", spec := "fnDirAll", unfollowed := true, recurses := true, apart := false, narrowed := true }
def FnDirAllUptoSaid : Prop := fnDirAllUptoRow.holds Try.pinned (OpenSpec.upto fnDirAllSpec)

/-- 'laws.FnRayBack', WHERE WHAT IT READS IS OF BULK AT MOST 1048576: true; the input reads as it did. -/
def fnRayBackUptoRow : OpenClaim := { program := "ytgikknbjmbolaaa", sum := "4094eff86fcd69c69029198d1f77f84be1ecaf40203f41a2e68074c1f56839ef", func := "loop.example/lucarne/laws.FnRayBack", spec := "fnRayBack", unfollowed := true, recurses := true, apart := false, narrowed := true }
def FnRayBackUptoSaid : Prop := fnRayBackUptoRow.holds Try.pinned (OpenSpec.upto fnRayBackSpec)

/-- 'laws.FnRayRound', WHERE WHAT IT READS IS OF BULK AT MOST 1048576: true; the input reads as it did. -/
def fnRayRoundUptoRow : OpenClaim := { program := "ytgikknbjmbolaaa", sum := "4094eff86fcd69c69029198d1f77f84be1ecaf40203f41a2e68074c1f56839ef", func := "loop.example/lucarne/laws.FnRayRound", spec := "fnRayRound", unfollowed := true, recurses := true, apart := false, narrowed := true }
def FnRayRoundUptoSaid : Prop := fnRayRoundUptoRow.holds Try.pinned (OpenSpec.upto fnRayRoundSpec)

/-- 'laws.FnRayEdge', WHERE WHAT IT READS IS OF BULK AT MOST 1048576: true; the input reads as it did. -/
def fnRayEdgeUptoRow : OpenClaim := { program := "ytgikknbjmbolaaa", sum := "4094eff86fcd69c69029198d1f77f84be1ecaf40203f41a2e68074c1f56839ef", func := "loop.example/lucarne/laws.FnRayEdge", spec := "fnRayEdge", unfollowed := true, recurses := true, apart := false, narrowed := true }
def FnRayEdgeUptoSaid : Prop := fnRayEdgeUptoRow.holds Try.pinned (OpenSpec.upto fnRayEdgeSpec)

/-- 'laws.FnExactDirTurn', WHERE WHAT IT READS IS OF BULK AT MOST 1048576: true; the input reads as it did. -/
def fnExactDirTurnUptoRow : OpenClaim := { program := "ytgikknbjmbolaaa", sum := "4094eff86fcd69c69029198d1f77f84be1ecaf40203f41a2e68074c1f56839ef", func := "loop.example/lucarne/laws.FnExactDirTurn", spec := "fnExactDirTurn", unfollowed := true, recurses := true, apart := false, narrowed := true }
def FnExactDirTurnUptoSaid : Prop := fnExactDirTurnUptoRow.holds Try.pinned (OpenSpec.upto fnExactDirTurnSpec)

/-- 'laws.FnExactRayNext', WHERE WHAT IT READS IS OF BULK AT MOST 1048576: true; the input reads as it did. -/
def fnExactRayNextUptoRow : OpenClaim := { program := "ytgikknbjmbolaaa", sum := "4094eff86fcd69c69029198d1f77f84be1ecaf40203f41a2e68074c1f56839ef", func := "loop.example/lucarne/laws.FnExactRayNext", spec := "fnExactRayNext", unfollowed := true, recurses := true, apart := false, narrowed := true }
def FnExactRayNextUptoSaid : Prop := fnExactRayNextUptoRow.holds Try.pinned (OpenSpec.upto fnExactRayNextSpec)

end Rows
end Go.Proofs.Ytgikknbjmbolaaa
