/-
  No cell of these rows narrows 'for every input' (looked for: loops, veiled, ifaces, maps, wideKeys, modest, calm, conditions, laid).
  DERIVED. THE GIVEN ROWS OF THIS SEAT. 10 by the template 'for every input the law returns true; each argument reads behind the call as it read before'; 0 by the template 'total and deterministic' (their statements: YtankkkiccokggaaTotals.lean).
  GIVEN WITH THE SEED: the statements are not yours to turn. If you find one false, say at which input.
  Laid BY PROGRAM, IN A SANDBOX (cutbox-rows.mjs): the forced cells as the released guide's own fill.sh prints them over the translation 14205b6174da0a21… (all of the seat's roots in one cut). By AI agents, Wed Nov 11 2026. No macro, syntax, notation, axiom, sorry.
-/
import Derived.Test.YtankkkiccokggaaChecked
import GoSem.Claim
import GoSem.ClaimJoined
import GoSem.ClaimMapViews
import Derived.JoinedTies
import Derived.KernelRfl
namespace Go.Proofs.Ytankkkiccokggaa
/- THE CELL 'sum', in the pinned program and in every row, IS THE sha256 OF THE DUMP (.gsa) THAT YtankkkiccokggaaProg.lean LOADS. Nothing in Lean hashes anything: it is a label: what it is worth is what the hold of that sum in a sandbox is worth. -/
noncomputable def Try.pinned : Pinned := { name := "ytankkkiccokggaa", sum := "14205b6174da0a215c7de7b3b5b33ee3b63324c1e6ede4fdaa75783a95ddeebe", checked := Try.checked }
namespace Rows
def none {H : Type} : Left H := { results := [], args := [] }

/-- 'laws.FnSightBack': WHATEVER THE INPUT: true; the input reads as it did. -/
def fnSightBackSpec : ChangeSpec := { name := "fnSightBack", fn := fun _ => fun
  | [d] => { results := [.lit (.bool true)], args := [d] }
  | _ => none }
def fnSightBackRow : OpenClaim := { program := "ytankkkiccokggaa", sum := "14205b6174da0a215c7de7b3b5b33ee3b63324c1e6ede4fdaa75783a95ddeebe", func := "loop.example/lucarne/laws.FnSightBack", spec := "fnSightBack", unfollowed := true, recurses := true, apart := false }
def FnSightBackSaid : Prop := fnSightBackRow.holds Try.pinned (OpenSpec.ofChange fnSightBackSpec)

/-- ITS FALSE NEIGHBOUR: 'it returns false'. Refute it at one input. -/
def fnSightBackWrong : ChangeSpec := { name := "fnSightBack", fn := fun _ => fun
  | [d] => { results := [.lit (.bool false)], args := [d] }
  | _ => none }
def FnSightBackWrongFalsely : Prop := fnSightBackRow.holds Try.pinned (OpenSpec.ofChange fnSightBackWrong)

/-- 'laws.FnSightOut': WHATEVER THE INPUT: true; the input reads as it did. -/
def fnSightOutSpec : ChangeSpec := { name := "fnSightOut", fn := fun _ => fun
  | [d] => { results := [.lit (.bool true)], args := [d] }
  | _ => none }
def fnSightOutRow : OpenClaim := { program := "ytankkkiccokggaa", sum := "14205b6174da0a215c7de7b3b5b33ee3b63324c1e6ede4fdaa75783a95ddeebe", func := "loop.example/lucarne/laws.FnSightOut", spec := "fnSightOut", unfollowed := true, recurses := true, apart := false }
def FnSightOutSaid : Prop := fnSightOutRow.holds Try.pinned (OpenSpec.ofChange fnSightOutSpec)

/-- ITS FALSE NEIGHBOUR: 'it returns false'. Refute it at one input. -/
def fnSightOutWrong : ChangeSpec := { name := "fnSightOut", fn := fun _ => fun
  | [d] => { results := [.lit (.bool false)], args := [d] }
  | _ => none }
def FnSightOutWrongFalsely : Prop := fnSightOutRow.holds Try.pinned (OpenSpec.ofChange fnSightOutWrong)

/-- 'laws.FnSightSides': WHATEVER THE INPUT: true; the input reads as it did. -/
def fnSightSidesSpec : ChangeSpec := { name := "fnSightSides", fn := fun _ => fun
  | [d] => { results := [.lit (.bool true)], args := [d] }
  | _ => none }
def fnSightSidesRow : OpenClaim := { program := "ytankkkiccokggaa", sum := "14205b6174da0a215c7de7b3b5b33ee3b63324c1e6ede4fdaa75783a95ddeebe", func := "loop.example/lucarne/laws.FnSightSides", spec := "fnSightSides", unfollowed := true, recurses := true, apart := false }
def FnSightSidesSaid : Prop := fnSightSidesRow.holds Try.pinned (OpenSpec.ofChange fnSightSidesSpec)

/-- ITS FALSE NEIGHBOUR: 'it returns false'. Refute it at one input. -/
def fnSightSidesWrong : ChangeSpec := { name := "fnSightSides", fn := fun _ => fun
  | [d] => { results := [.lit (.bool false)], args := [d] }
  | _ => none }
def FnSightSidesWrongFalsely : Prop := fnSightSidesRow.holds Try.pinned (OpenSpec.ofChange fnSightSidesWrong)

/-- 'laws.FnSightTurn': WHATEVER THE INPUT: true; the input reads as it did. -/
def fnSightTurnSpec : ChangeSpec := { name := "fnSightTurn", fn := fun _ => fun
  | [d] => { results := [.lit (.bool true)], args := [d] }
  | _ => none }
def fnSightTurnRow : OpenClaim := { program := "ytankkkiccokggaa", sum := "14205b6174da0a215c7de7b3b5b33ee3b63324c1e6ede4fdaa75783a95ddeebe", func := "loop.example/lucarne/laws.FnSightTurn", spec := "fnSightTurn", unfollowed := true, recurses := true, apart := false }
def FnSightTurnSaid : Prop := fnSightTurnRow.holds Try.pinned (OpenSpec.ofChange fnSightTurnSpec)

/-- ITS FALSE NEIGHBOUR: 'it returns false'. Refute it at one input. -/
def fnSightTurnWrong : ChangeSpec := { name := "fnSightTurn", fn := fun _ => fun
  | [d] => { results := [.lit (.bool false)], args := [d] }
  | _ => none }
def FnSightTurnWrongFalsely : Prop := fnSightTurnRow.holds Try.pinned (OpenSpec.ofChange fnSightTurnWrong)

/-- 'laws.FnSightCells': WHATEVER THE INPUT: true; the input reads as it did. -/
def fnSightCellsSpec : ChangeSpec := { name := "fnSightCells", fn := fun _ => fun
  | [d] => { results := [.lit (.bool true)], args := [d] }
  | _ => none }
def fnSightCellsRow : OpenClaim := { program := "ytankkkiccokggaa", sum := "14205b6174da0a215c7de7b3b5b33ee3b63324c1e6ede4fdaa75783a95ddeebe", func := "loop.example/lucarne/laws.FnSightCells", spec := "fnSightCells", unfollowed := true, recurses := true, apart := false }
def FnSightCellsSaid : Prop := fnSightCellsRow.holds Try.pinned (OpenSpec.ofChange fnSightCellsSpec)

/-- ITS FALSE NEIGHBOUR: 'it returns false'. Refute it at one input. -/
def fnSightCellsWrong : ChangeSpec := { name := "fnSightCells", fn := fun _ => fun
  | [d] => { results := [.lit (.bool false)], args := [d] }
  | _ => none }
def FnSightCellsWrongFalsely : Prop := fnSightCellsRow.holds Try.pinned (OpenSpec.ofChange fnSightCellsWrong)

/-- 'laws.FnExactSightMany': WHATEVER THE INPUT: true; the input reads as it did. -/
def fnExactSightManySpec : ChangeSpec := { name := "fnExactSightMany", fn := fun _ => fun
  | [d] => { results := [.lit (.bool true)], args := [d] }
  | _ => none }
def fnExactSightManyRow : OpenClaim := { program := "ytankkkiccokggaa", sum := "14205b6174da0a215c7de7b3b5b33ee3b63324c1e6ede4fdaa75783a95ddeebe", func := "loop.example/lucarne/laws.FnExactSightMany", spec := "fnExactSightMany", unfollowed := true, recurses := true, apart := false }
def FnExactSightManySaid : Prop := fnExactSightManyRow.holds Try.pinned (OpenSpec.ofChange fnExactSightManySpec)

/-- ITS FALSE NEIGHBOUR: 'it returns false'. Refute it at one input. -/
def fnExactSightManyWrong : ChangeSpec := { name := "fnExactSightMany", fn := fun _ => fun
  | [d] => { results := [.lit (.bool false)], args := [d] }
  | _ => none }
def FnExactSightManyWrongFalsely : Prop := fnExactSightManyRow.holds Try.pinned (OpenSpec.ofChange fnExactSightManyWrong)

/-- 'laws.FnExactSightRay': WHATEVER THE INPUT: true; the input reads as it did. -/
def fnExactSightRaySpec : ChangeSpec := { name := "fnExactSightRay", fn := fun _ => fun
  | [d1, d2] => { results := [.lit (.bool true)], args := [d1, d2] }
  | _ => none }
def fnExactSightRayRow : OpenClaim := { program := "ytankkkiccokggaa", sum := "14205b6174da0a215c7de7b3b5b33ee3b63324c1e6ede4fdaa75783a95ddeebe", func := "loop.example/lucarne/laws.FnExactSightRay", spec := "fnExactSightRay", unfollowed := true, recurses := true, apart := false }
def FnExactSightRaySaid : Prop := fnExactSightRayRow.holds Try.pinned (OpenSpec.ofChange fnExactSightRaySpec)

/-- ITS FALSE NEIGHBOUR: 'it returns false'. Refute it at one input. -/
def fnExactSightRayWrong : ChangeSpec := { name := "fnExactSightRay", fn := fun _ => fun
  | [d1, d2] => { results := [.lit (.bool false)], args := [d1, d2] }
  | _ => none }
def FnExactSightRayWrongFalsely : Prop := fnExactSightRayRow.holds Try.pinned (OpenSpec.ofChange fnExactSightRayWrong)

/-- 'laws.FnExactSightOf': WHATEVER THE INPUT: true; the input reads as it did. -/
def fnExactSightOfSpec : ChangeSpec := { name := "fnExactSightOf", fn := fun _ => fun
  | [d1, d2, d3] => { results := [.lit (.bool true)], args := [d1, d2, d3] }
  | _ => none }
def fnExactSightOfRow : OpenClaim := { program := "ytankkkiccokggaa", sum := "14205b6174da0a215c7de7b3b5b33ee3b63324c1e6ede4fdaa75783a95ddeebe", func := "loop.example/lucarne/laws.FnExactSightOf", spec := "fnExactSightOf", unfollowed := true, recurses := true, apart := false }
def FnExactSightOfSaid : Prop := fnExactSightOfRow.holds Try.pinned (OpenSpec.ofChange fnExactSightOfSpec)

/-- ITS FALSE NEIGHBOUR: 'it returns false'. Refute it at one input. -/
def fnExactSightOfWrong : ChangeSpec := { name := "fnExactSightOf", fn := fun _ => fun
  | [d1, d2, d3] => { results := [.lit (.bool false)], args := [d1, d2, d3] }
  | _ => none }
def FnExactSightOfWrongFalsely : Prop := fnExactSightOfRow.holds Try.pinned (OpenSpec.ofChange fnExactSightOfWrong)

/-- 'laws.FnExactSightTurn': WHATEVER THE INPUT: true; the input reads as it did. -/
def fnExactSightTurnSpec : ChangeSpec := { name := "fnExactSightTurn", fn := fun _ => fun
  | [d1, d2] => { results := [.lit (.bool true)], args := [d1, d2] }
  | _ => none }
def fnExactSightTurnRow : OpenClaim := { program := "ytankkkiccokggaa", sum := "14205b6174da0a215c7de7b3b5b33ee3b63324c1e6ede4fdaa75783a95ddeebe", func := "loop.example/lucarne/laws.FnExactSightTurn", spec := "fnExactSightTurn", unfollowed := true, recurses := true, apart := false }
def FnExactSightTurnSaid : Prop := fnExactSightTurnRow.holds Try.pinned (OpenSpec.ofChange fnExactSightTurnSpec)

/-- ITS FALSE NEIGHBOUR: 'it returns false'. Refute it at one input. -/
def fnExactSightTurnWrong : ChangeSpec := { name := "fnExactSightTurn", fn := fun _ => fun
  | [d1, d2] => { results := [.lit (.bool false)], args := [d1, d2] }
  | _ => none }
def FnExactSightTurnWrongFalsely : Prop := fnExactSightTurnRow.holds Try.pinned (OpenSpec.ofChange fnExactSightTurnWrong)

/-- 'laws.FnExactSightFlip': WHATEVER THE INPUT: true; the input reads as it did. -/
def fnExactSightFlipSpec : ChangeSpec := { name := "fnExactSightFlip", fn := fun _ => fun
  | [d1, d2] => { results := [.lit (.bool true)], args := [d1, d2] }
  | _ => none }
def fnExactSightFlipRow : OpenClaim := { program := "ytankkkiccokggaa", sum := "14205b6174da0a215c7de7b3b5b33ee3b63324c1e6ede4fdaa75783a95ddeebe", func := "loop.example/lucarne/laws.FnExactSightFlip", spec := "fnExactSightFlip", unfollowed := true, recurses := true, apart := false }
def FnExactSightFlipSaid : Prop := fnExactSightFlipRow.holds Try.pinned (OpenSpec.ofChange fnExactSightFlipSpec)

/-- ITS FALSE NEIGHBOUR: 'it returns false'. Refute it at one input. -/
def fnExactSightFlipWrong : ChangeSpec := { name := "fnExactSightFlip", fn := fun _ => fun
  | [d1, d2] => { results := [.lit (.bool false)], args := [d1, d2] }
  | _ => none }
def FnExactSightFlipWrongFalsely : Prop := fnExactSightFlipRow.holds Try.pinned (OpenSpec.ofChange fnExactSightFlipWrong)

/- THE SECOND FORM. 'bulk': how many values and letters a reading holds, each counted each time it is reached (what is shared counts as often as it is met; a slice's spare places count too). A statement '..UptoSaid' is the law's where the arguments, and the package variables that the reading takes, are together of bulk at most 1048576: NARROWER than '..Said'. Prove '..Said' where nothing that the law and all that it calls make is longer than what came in: it says more and counts as full. Else prove '..UptoSaid'. A law counts once. -/
mutual
def uptoBulk {H : Type} : DataW H → Nat
  | .lit (.string bytes) => bytes.length + 1
  | .lit _ => 1
  | .nil => 1
  | .ptr d => uptoBulk d + 1
  | .slice elems spare => uptoBulkAll elems + uptoBulkAll spare + 1
  | .agg parts => uptoBulkAll parts + 1
  | .iface _ d => uptoBulk d + 1
  | .map entries => uptoBulkEntries entries + 1
  | .held _ => 1
def uptoBulkAll {H : Type} : List (DataW H) → Nat
  | [] => 0
  | d :: r => uptoBulk d + uptoBulkAll r
def uptoBulkEntries {H : Type} : List (Lit × DataW H) → Nat
  | [] => 0
  | x :: r => uptoBulkEntry x + uptoBulkEntries r
def uptoBulkEntry {H : Type} : Lit × DataW H → Nat
  | (.string bytes, d) => bytes.length + uptoBulk d + 1
  | (_, d) => uptoBulk d + 1
 end
def uptoSmall : (H : Type) → List (DataW H) → Bool := fun _ ds => decide (uptoBulkAll ds ≤ 1048576)
def OpenSpec.upto (s : _root_.Go.ChangeSpec) : _root_.Go.OpenSpec := { _root_.Go.OpenSpec.ofChange s with cond := some uptoSmall }

/-- 'laws.FnSightBack', WHERE WHAT IT READS IS OF BULK AT MOST 1048576: true; the input reads as it did. -/
def fnSightBackUptoRow : OpenClaim := { program := "ytankkkiccokggaa", sum := "14205b6174da0a215c7de7b3b5b33ee3b63324c1e6ede4fdaa75783a95ddeebe", func := "loop.example/lucarne/laws.FnSightBack", spec := "fnSightBack", unfollowed := true, recurses := true, apart := false, narrowed := true }
def FnSightBackUptoSaid : Prop := fnSightBackUptoRow.holds Try.pinned (OpenSpec.upto fnSightBackSpec)

/-- 'laws.FnSightOut', WHERE WHAT IT READS IS OF BULK AT MOST 1048576: true; the input reads as it did. -/
def fnSightOutUptoRow : OpenClaim := { program := "ytankkkiccokggaa", sum := "14205b6174da0a215c7de7b3b5b33ee3b63324c1e6ede4fdaa75783a95ddeebe", func := "loop.example/lucarne/laws.FnSightOut", spec := "fnSightOut", unfollowed := true, recurses := true, apart := false, narrowed := true }
def FnSightOutUptoSaid : Prop := fnSightOutUptoRow.holds Try.pinned (OpenSpec.upto fnSightOutSpec)

/-- 'laws.FnSightSides', WHERE WHAT IT READS IS OF BULK AT MOST 1048576: true; the input reads as it did. -/
def fnSightSidesUptoRow : OpenClaim := { program := "ytankkkiccokggaa", sum := "14205b6174da0a215c7de7b3b5b33ee3b63324c1e6ede4fdaa75783a95ddeebe", func := "loop.example/lucarne/laws.FnSightSides", spec := "fnSightSides", unfollowed := true, recurses := true, apart := false, narrowed := true }
def FnSightSidesUptoSaid : Prop := fnSightSidesUptoRow.holds Try.pinned (OpenSpec.upto fnSightSidesSpec)

/-- 'laws.FnSightTurn', WHERE WHAT IT READS IS OF BULK AT MOST 1048576: true; the input reads as it did. -/
def fnSightTurnUptoRow : OpenClaim := { program := "ytankkkiccokggaa", sum := "14205b6174da0a215c7de7b3b5b33ee3b63324c1e6ede4fdaa75783a95ddeebe", func := "loop.example/lucarne/laws.FnSightTurn", spec := "fnSightTurn", unfollowed := true, recurses := true, apart := false, narrowed := true }
def FnSightTurnUptoSaid : Prop := fnSightTurnUptoRow.holds Try.pinned (OpenSpec.upto fnSightTurnSpec)

/-- 'laws.FnSightCells', WHERE WHAT IT READS IS OF BULK AT MOST 1048576: true; the input reads as it did. -/
def fnSightCellsUptoRow : OpenClaim := { program := "ytankkkiccokggaa", sum := "14205b6174da0a215c7de7b3b5b33ee3b63324c1e6ede4fdaa75783a95ddeebe", func := "loop.example/lucarne/laws.FnSightCells", spec := "fnSightCells", unfollowed := true, recurses := true, apart := false, narrowed := true }
def FnSightCellsUptoSaid : Prop := fnSightCellsUptoRow.holds Try.pinned (OpenSpec.upto fnSightCellsSpec)

/-- 'laws.FnExactSightMany', WHERE WHAT IT READS IS OF BULK AT MOST 1048576: true; the input reads as it did. -/
def fnExactSightManyUptoRow : OpenClaim := { program := "ytankkkiccokggaa", sum := "14205b6174da0a215c7de7b3b5b33ee3b63324c1e6ede4fdaa75783a95ddeebe", func := "loop.example/lucarne/laws.FnExactSightMany", spec := "fnExactSightMany", unfollowed := true, recurses := true, apart := false, narrowed := true }
def FnExactSightManyUptoSaid : Prop := fnExactSightManyUptoRow.holds Try.pinned (OpenSpec.upto fnExactSightManySpec)

/-- 'laws.FnExactSightRay', WHERE WHAT IT READS IS OF BULK AT MOST 1048576: true; the input reads as it did. -/
def fnExactSightRayUptoRow : OpenClaim := { program := "ytankkkiccokggaa", sum := "14205b6174da0a215c7de7b3b5b33ee3b63324c1e6ede4fdaa75783a95ddeebe", func := "loop.example/lucarne/laws.FnExactSightRay", spec := "fnExactSightRay", unfollowed := true, recurses := true, apart := false, narrowed := true }
def FnExactSightRayUptoSaid : Prop := fnExactSightRayUptoRow.holds Try.pinned (OpenSpec.upto fnExactSightRaySpec)

/-- 'laws.FnExactSightOf', WHERE WHAT IT READS IS OF BULK AT MOST 1048576: true; the input reads as it did. -/
def fnExactSightOfUptoRow : OpenClaim := { program := "ytankkkiccokggaa", sum := "14205b6174da0a215c7de7b3b5b33ee3b63324c1e6ede4fdaa75783a95ddeebe", func := "loop.example/lucarne/laws.FnExactSightOf", spec := "fnExactSightOf", unfollowed := true, recurses := true, apart := false, narrowed := true }
def FnExactSightOfUptoSaid : Prop := fnExactSightOfUptoRow.holds Try.pinned (OpenSpec.upto fnExactSightOfSpec)

/-- 'laws.FnExactSightTurn', WHERE WHAT IT READS IS OF BULK AT MOST 1048576: true; the input reads as it did. -/
def fnExactSightTurnUptoRow : OpenClaim := { program := "ytankkkiccokggaa", sum := "14205b6174da0a215c7de7b3b5b33ee3b63324c1e6ede4fdaa75783a95ddeebe", func := "loop.example/lucarne/laws.FnExactSightTurn", spec := "fnExactSightTurn", unfollowed := true, recurses := true, apart := false, narrowed := true }
def FnExactSightTurnUptoSaid : Prop := fnExactSightTurnUptoRow.holds Try.pinned (OpenSpec.upto fnExactSightTurnSpec)

/-- 'laws.FnExactSightFlip', WHERE WHAT IT READS IS OF BULK AT MOST 1048576: true; the input reads as it did. -/
def fnExactSightFlipUptoRow : OpenClaim := { program := "ytankkkiccokggaa", sum := "14205b6174da0a215c7de7b3b5b33ee3b63324c1e6ede4fdaa75783a95ddeebe", func := "loop.example/lucarne/laws.FnExactSightFlip", spec := "fnExactSightFlip", unfollowed := true, recurses := true, apart := false, narrowed := true }
def FnExactSightFlipUptoSaid : Prop := fnExactSightFlipUptoRow.holds Try.pinned (OpenSpec.upto fnExactSightFlipSpec)

end Rows
end Go.Proofs.Ytankkkiccokggaa
