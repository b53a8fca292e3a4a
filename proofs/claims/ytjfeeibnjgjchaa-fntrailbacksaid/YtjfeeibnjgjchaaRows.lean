/-
  No cell of these rows narrows 'for every input' (looked for: loops, veiled, ifaces, maps, wideKeys, modest, calm, conditions, laid).
  DERIVED. THE GIVEN ROWS OF THIS SEAT. 12 by the template 'for every input the law returns true; each argument reads behind the call as it read before'; 0 by the template 'total and deterministic' (their statements: YtjfeeibnjgjchaaTotals.lean).
  GIVEN WITH THE SEED: the statements are not yours to turn. If you find one false, say at which input.
  Laid BY PROGRAM, IN A SANDBOX (cutbox-rows.mjs): the forced cells as the released guide's own fill.sh prints them over the translation 74206e29de6a8879… (all of the seat's roots in one cut). By AI agents, Wed Nov 11 2026. No macro, syntax, notation, axiom, sorry.
-/
import Derived.Test.YtjfeeibnjgjchaaChecked
import GoSem.Claim
import GoSem.ClaimJoined
import GoSem.ClaimMapViews
import Derived.JoinedTies
import Derived.KernelRfl
namespace Go.Proofs.Ytjfeeibnjgjchaa
/- THE CELL 'sum', in the pinned program and in every row, IS THE sha256 OF THE DUMP (.gsa) THAT YtjfeeibnjgjchaaProg.lean LOADS. Nothing in Lean hashes anything: it is a label: what it is worth is what the hold of that sum in a sandbox is worth. -/
noncomputable def Try.pinned : Pinned := { name := "ytjfeeibnjgjchaa", sum := "74206e29de6a887988ccfc5abd367210c121ab19893768112750368f9c2e8b11", checked := Try.checked }
namespace Rows
def none {H : Type} : Left H := { results := [], args := [] }

/-- 'laws.FnTrailAll': WHATEVER THE INPUT: true; the input reads as it did. -/
def fnTrailAllSpec : ChangeSpec := { name := "fnTrailAll", fn := fun _ => fun
  | [d] => { results := [.lit (.bool true)], args := [d] }
  | _ => none }
def fnTrailAllRow : OpenClaim := { program := "ytjfeeibnjgjchaa", sum := "74206e29de6a887988ccfc5abd367210c121ab19893768112750368f9c2e8b11", func := "loop.example/lucarne/laws.FnTrailAll", spec := "fnTrailAll", unfollowed := true, recurses := true, apart := false }
def FnTrailAllSaid : Prop := fnTrailAllRow.holds Try.pinned (OpenSpec.ofChange fnTrailAllSpec)

/-- ITS FALSE NEIGHBOUR: 'it returns false'. Refute it at one input. -/
def fnTrailAllWrong : ChangeSpec := { name := "fnTrailAll", fn := fun _ => fun
  | [d] => { results := [.lit (.bool false)], args := [d] }
  | _ => none }
def FnTrailAllWrongFalsely : Prop := fnTrailAllRow.holds Try.pinned (OpenSpec.ofChange fnTrailAllWrong)

/-- 'laws.FnTrailFirst': WHATEVER THE INPUT: true; the input reads as it did. -/
def fnTrailFirstSpec : ChangeSpec := { name := "fnTrailFirst", fn := fun _ => fun
  | [d] => { results := [.lit (.bool true)], args := [d] }
  | _ => none }
def fnTrailFirstRow : OpenClaim := { program := "ytjfeeibnjgjchaa", sum := "74206e29de6a887988ccfc5abd367210c121ab19893768112750368f9c2e8b11", func := "loop.example/lucarne/laws.FnTrailFirst", spec := "fnTrailFirst", unfollowed := true, recurses := true, apart := false }
def FnTrailFirstSaid : Prop := fnTrailFirstRow.holds Try.pinned (OpenSpec.ofChange fnTrailFirstSpec)

/-- ITS FALSE NEIGHBOUR: 'it returns false'. Refute it at one input. -/
def fnTrailFirstWrong : ChangeSpec := { name := "fnTrailFirst", fn := fun _ => fun
  | [d] => { results := [.lit (.bool false)], args := [d] }
  | _ => none }
def FnTrailFirstWrongFalsely : Prop := fnTrailFirstRow.holds Try.pinned (OpenSpec.ofChange fnTrailFirstWrong)

/-- 'laws.FnTrailStep': WHATEVER THE INPUT: true; the input reads as it did. -/
def fnTrailStepSpec : ChangeSpec := { name := "fnTrailStep", fn := fun _ => fun
  | [d] => { results := [.lit (.bool true)], args := [d] }
  | _ => none }
def fnTrailStepRow : OpenClaim := { program := "ytjfeeibnjgjchaa", sum := "74206e29de6a887988ccfc5abd367210c121ab19893768112750368f9c2e8b11", func := "loop.example/lucarne/laws.FnTrailStep", spec := "fnTrailStep", unfollowed := true, recurses := true, apart := false }
def FnTrailStepSaid : Prop := fnTrailStepRow.holds Try.pinned (OpenSpec.ofChange fnTrailStepSpec)

/-- ITS FALSE NEIGHBOUR: 'it returns false'. Refute it at one input. -/
def fnTrailStepWrong : ChangeSpec := { name := "fnTrailStep", fn := fun _ => fun
  | [d] => { results := [.lit (.bool false)], args := [d] }
  | _ => none }
def FnTrailStepWrongFalsely : Prop := fnTrailStepRow.holds Try.pinned (OpenSpec.ofChange fnTrailStepWrong)

/-- 'laws.FnTrailKinds': WHATEVER THE INPUT: true; the input reads as it did. -/
def fnTrailKindsSpec : ChangeSpec := { name := "fnTrailKinds", fn := fun _ => fun
  | [d] => { results := [.lit (.bool true)], args := [d] }
  | _ => none }
def fnTrailKindsRow : OpenClaim := { program := "ytjfeeibnjgjchaa", sum := "74206e29de6a887988ccfc5abd367210c121ab19893768112750368f9c2e8b11", func := "loop.example/lucarne/laws.FnTrailKinds", spec := "fnTrailKinds", unfollowed := true, recurses := true, apart := false }
def FnTrailKindsSaid : Prop := fnTrailKindsRow.holds Try.pinned (OpenSpec.ofChange fnTrailKindsSpec)

/-- ITS FALSE NEIGHBOUR: 'it returns false'. Refute it at one input. -/
def fnTrailKindsWrong : ChangeSpec := { name := "fnTrailKinds", fn := fun _ => fun
  | [d] => { results := [.lit (.bool false)], args := [d] }
  | _ => none }
def FnTrailKindsWrongFalsely : Prop := fnTrailKindsRow.holds Try.pinned (OpenSpec.ofChange fnTrailKindsWrong)

/-- 'laws.FnTrailFoot': WHATEVER THE INPUT: true; the input reads as it did. -/
def fnTrailFootSpec : ChangeSpec := { name := "fnTrailFoot", fn := fun _ => fun
  | [d] => { results := [.lit (.bool true)], args := [d] }
  | _ => none }
def fnTrailFootRow : OpenClaim := { program := "ytjfeeibnjgjchaa", sum := "74206e29de6a887988ccfc5abd367210c121ab19893768112750368f9c2e8b11", func := "loop.example/lucarne/laws.FnTrailFoot", spec := "fnTrailFoot", unfollowed := true, recurses := true, apart := false }
def FnTrailFootSaid : Prop := fnTrailFootRow.holds Try.pinned (OpenSpec.ofChange fnTrailFootSpec)

/-- ITS FALSE NEIGHBOUR: 'it returns false'. Refute it at one input. -/
def fnTrailFootWrong : ChangeSpec := { name := "fnTrailFoot", fn := fun _ => fun
  | [d] => { results := [.lit (.bool false)], args := [d] }
  | _ => none }
def FnTrailFootWrongFalsely : Prop := fnTrailFootRow.holds Try.pinned (OpenSpec.ofChange fnTrailFootWrong)

/-- 'laws.FnTrailBack': WHATEVER THE INPUT: true; the input reads as it did. -/
def fnTrailBackSpec : ChangeSpec := { name := "fnTrailBack", fn := fun _ => fun
  | [d] => { results := [.lit (.bool true)], args := [d] }
  | _ => none }
def fnTrailBackRow : OpenClaim := { program := "ytjfeeibnjgjchaa", sum := "74206e29de6a887988ccfc5abd367210c121ab19893768112750368f9c2e8b11", func := "loop.example/lucarne/laws.FnTrailBack", spec := "fnTrailBack", unfollowed := true, recurses := true, apart := false }
def FnTrailBackSaid : Prop := fnTrailBackRow.holds Try.pinned (OpenSpec.ofChange fnTrailBackSpec)

/-- ITS FALSE NEIGHBOUR: 'it returns false'. Refute it at one input. -/
def fnTrailBackWrong : ChangeSpec := { name := "fnTrailBack", fn := fun _ => fun
  | [d] => { results := [.lit (.bool false)], args := [d] }
  | _ => none }
def FnTrailBackWrongFalsely : Prop := fnTrailBackRow.holds Try.pinned (OpenSpec.ofChange fnTrailBackWrong)

/-- 'laws.FnTrailClear': WHATEVER THE INPUT: true; the input reads as it did. -/
def fnTrailClearSpec : ChangeSpec := { name := "fnTrailClear", fn := fun _ => fun
  | [d] => { results := [.lit (.bool true)], args := [d] }
  | _ => none }
def fnTrailClearRow : OpenClaim := { program := "ytjfeeibnjgjchaa", sum := "74206e29de6a887988ccfc5abd367210c121ab19893768112750368f9c2e8b11", func := "loop.example/lucarne/laws.FnTrailClear", spec := "fnTrailClear", unfollowed := true, recurses := true, apart := false }
def FnTrailClearSaid : Prop := fnTrailClearRow.holds Try.pinned (OpenSpec.ofChange fnTrailClearSpec)

/-- ITS FALSE NEIGHBOUR: 'it returns false'. Refute it at one input. -/
def fnTrailClearWrong : ChangeSpec := { name := "fnTrailClear", fn := fun _ => fun
  | [d] => { results := [.lit (.bool false)], args := [d] }
  | _ => none }
def FnTrailClearWrongFalsely : Prop := fnTrailClearRow.holds Try.pinned (OpenSpec.ofChange fnTrailClearWrong)

/-- 'laws.FnTrailStraight': WHATEVER THE INPUT: true; the input reads as it did. -/
def fnTrailStraightSpec : ChangeSpec := { name := "fnTrailStraight", fn := fun _ => fun
  | [d] => { results := [.lit (.bool true)], args := [d] }
  | _ => none }
def fnTrailStraightRow : OpenClaim := { program := "ytjfeeibnjgjchaa", sum := "74206e29de6a887988ccfc5abd367210c121ab19893768112750368f9c2e8b11", func := "loop.example/lucarne/laws.FnTrailStraight", spec := "fnTrailStraight", unfollowed := true, recurses := true, apart := false }
def FnTrailStraightSaid : Prop := fnTrailStraightRow.holds Try.pinned (OpenSpec.ofChange fnTrailStraightSpec)

/-- ITS FALSE NEIGHBOUR: 'it returns false'. Refute it at one input. -/
def fnTrailStraightWrong : ChangeSpec := { name := "fnTrailStraight", fn := fun _ => fun
  | [d] => { results := [.lit (.bool false)], args := [d] }
  | _ => none }
def FnTrailStraightWrongFalsely : Prop := fnTrailStraightRow.holds Try.pinned (OpenSpec.ofChange fnTrailStraightWrong)

/-- 'laws.FnLightEnds': WHATEVER THE INPUT: true; the input reads as it did. -/
def fnLightEndsSpec : ChangeSpec := { name := "fnLightEnds", fn := fun _ => fun
  | [d] => { results := [.lit (.bool true)], args := [d] }
  | _ => none }
def fnLightEndsRow : OpenClaim := { program := "ytjfeeibnjgjchaa", sum := "74206e29de6a887988ccfc5abd367210c121ab19893768112750368f9c2e8b11", func := "loop.example/lucarne/laws.FnLightEnds", spec := "fnLightEnds", unfollowed := true, recurses := true, apart := false }
def FnLightEndsSaid : Prop := fnLightEndsRow.holds Try.pinned (OpenSpec.ofChange fnLightEndsSpec)

/-- ITS FALSE NEIGHBOUR: 'it returns false'. Refute it at one input. -/
def fnLightEndsWrong : ChangeSpec := { name := "fnLightEnds", fn := fun _ => fun
  | [d] => { results := [.lit (.bool false)], args := [d] }
  | _ => none }
def FnLightEndsWrongFalsely : Prop := fnLightEndsRow.holds Try.pinned (OpenSpec.ofChange fnLightEndsWrong)

/-- 'laws.FnTrailHalves': WHATEVER THE INPUT: true; the input reads as it did. -/
def fnTrailHalvesSpec : ChangeSpec := { name := "fnTrailHalves", fn := fun _ => fun
  | [d] => { results := [.lit (.bool true)], args := [d] }
  | _ => none }
def fnTrailHalvesRow : OpenClaim := { program := "ytjfeeibnjgjchaa", sum := "74206e29de6a887988ccfc5abd367210c121ab19893768112750368f9c2e8b11", func := "loop.example/lucarne/laws.FnTrailHalves", spec := "fnTrailHalves", unfollowed := true, recurses := true, apart := false }
def FnTrailHalvesSaid : Prop := fnTrailHalvesRow.holds Try.pinned (OpenSpec.ofChange fnTrailHalvesSpec)

/-- ITS FALSE NEIGHBOUR: 'it returns false'. Refute it at one input. -/
def fnTrailHalvesWrong : ChangeSpec := { name := "fnTrailHalves", fn := fun _ => fun
  | [d] => { results := [.lit (.bool false)], args := [d] }
  | _ => none }
def FnTrailHalvesWrongFalsely : Prop := fnTrailHalvesRow.holds Try.pinned (OpenSpec.ofChange fnTrailHalvesWrong)

/-- 'laws.FnTrailNever': WHATEVER THE INPUT: true; the input reads as it did. -/
def fnTrailNeverSpec : ChangeSpec := { name := "fnTrailNever", fn := fun _ => fun
  | [d] => { results := [.lit (.bool true)], args := [d] }
  | _ => none }
def fnTrailNeverRow : OpenClaim := { program := "ytjfeeibnjgjchaa", sum := "74206e29de6a887988ccfc5abd367210c121ab19893768112750368f9c2e8b11", func := "loop.example/lucarne/laws.FnTrailNever", spec := "fnTrailNever", unfollowed := true, recurses := true, apart := false }
def FnTrailNeverSaid : Prop := fnTrailNeverRow.holds Try.pinned (OpenSpec.ofChange fnTrailNeverSpec)

/-- ITS FALSE NEIGHBOUR: 'it returns false'. Refute it at one input. -/
def fnTrailNeverWrong : ChangeSpec := { name := "fnTrailNever", fn := fun _ => fun
  | [d] => { results := [.lit (.bool false)], args := [d] }
  | _ => none }
def FnTrailNeverWrongFalsely : Prop := fnTrailNeverRow.holds Try.pinned (OpenSpec.ofChange fnTrailNeverWrong)

/-- 'laws.FnTrailPairs': WHATEVER THE INPUT: true; the input reads as it did. -/
def fnTrailPairsSpec : ChangeSpec := { name := "fnTrailPairs", fn := fun _ => fun
  | [d] => { results := [.lit (.bool true)], args := [d] }
  | _ => none }
def fnTrailPairsRow : OpenClaim := { program := "ytjfeeibnjgjchaa", sum := "74206e29de6a887988ccfc5abd367210c121ab19893768112750368f9c2e8b11", func := "loop.example/lucarne/laws.FnTrailPairs", spec := "fnTrailPairs", unfollowed := true, recurses := true, apart := false }
def FnTrailPairsSaid : Prop := fnTrailPairsRow.holds Try.pinned (OpenSpec.ofChange fnTrailPairsSpec)

/-- ITS FALSE NEIGHBOUR: 'it returns false'. Refute it at one input. -/
def fnTrailPairsWrong : ChangeSpec := { name := "fnTrailPairs", fn := fun _ => fun
  | [d] => { results := [.lit (.bool false)], args := [d] }
  | _ => none }
def FnTrailPairsWrongFalsely : Prop := fnTrailPairsRow.holds Try.pinned (OpenSpec.ofChange fnTrailPairsWrong)

/- THE SECOND FORM. 'bulk': how many values and letters a reading holds, each counted each time it is reached (what is shared counts as often as it is met; a slice's spare places count too). A statement '..UptoSaid' is the law's where the arguments, and the package variables that the reading takes, are together of bulk at most 1048576: NARROWER than '..Said'. Prove '..Said' where nothing that the law and all that it calls make is longer than what came in: it says more and counts as full. Else prove '..UptoSaid'. A law counts once. -/
mutual
def uptoBulk {H : Type} : DataW H → Nat
  | .lit (.string bytes) => bytes.length + 1
  | .lit _ => 1
  | .nil => 1
  | .ptr d => uptoBulk d + 1
  | .slice elems spare => uptoBulkAll elems + uptoBulkAll spare + 1
  | .agg parts => uptoBulkAll parts + 1
  | .iface _ d => uptoBulk d + 1
  | .map entries => uptoBulkEntries entries + 1
  | .held _ => 1
def uptoBulkAll {H : Type} : List (DataW H) → Nat
  | [] => 0
  | d :: r => uptoBulk d + uptoBulkAll r
def uptoBulkEntries {H : Type} : List (Lit × DataW H) → Nat
  | [] => 0
  | x :: r => uptoBulkEntry x + uptoBulkEntries r
def uptoBulkEntry {H : Type} : Lit × DataW H → Nat
  | (.string bytes, d) => bytes.length + uptoBulk d + 1
  | (_, d) => uptoBulk d + 1
 end
def uptoSmall : (H : Type) → List (DataW H) → Bool := fun _ ds => decide (uptoBulkAll ds ≤ 1048576)
def OpenSpec.upto (s : _root_.Go.ChangeSpec) : _root_.Go.OpenSpec := { _root_.Go.OpenSpec.ofChange s with cond := some uptoSmall }

/-- 'laws.FnTrailAll', WHERE WHAT IT READS IS OF BULK AT MOST 1048576: true; the input reads as it did. -/
def fnTrailAllUptoRow : OpenClaim := { program := "ytjfeeibnjgjchaa", sum := "74206e29de6a887988ccfc5abd367210c121ab19893768112750368f9c2e8b11", func := "loop.example/lucarne/laws.FnTrailAll", spec := "fnTrailAll", unfollowed := true, recurses := true, apart := false, narrowed := true }
def FnTrailAllUptoSaid : Prop := fnTrailAllUptoRow.holds Try.pinned (OpenSpec.upto fnTrailAllSpec)

/-- 'laws.FnTrailFirst', WHERE WHAT IT READS IS OF BULK AT MOST 1048576: true; the input reads as it did. -/
def fnTrailFirstUptoRow : OpenClaim := { program := "ytjfeeibnjgjchaa", sum := "74206e29de6a887988ccfc5abd367210c121ab19893768112750368f9c2e8b11", func := "loop.example/lucarne/laws.FnTrailFirst", spec := "fnTrailFirst", unfollowed := true, recurses := true, apart := false, narrowed := true }
def FnTrailFirstUptoSaid : Prop := fnTrailFirstUptoRow.holds Try.pinned (OpenSpec.upto fnTrailFirstSpec)

/-- 'laws.FnTrailStep', WHERE WHAT IT READS IS OF BULK AT MOST 1048576: true; the input reads as it did. -/
def fnTrailStepUptoRow : OpenClaim := { program := "ytjfeeibnjgjchaa", sum := "74206e29de6a887988ccfc5abd367210c121ab19893768112750368f9c2e8b11", func := "loop.example/lucarne/laws.FnTrailStep", spec := "fnTrailStep", unfollowed := true, recurses := true, apart := false, narrowed := true }
def FnTrailStepUptoSaid : Prop := fnTrailStepUptoRow.holds Try.pinned (OpenSpec.upto fnTrailStepSpec)

/-- 'laws.FnTrailKinds', WHERE WHAT IT READS IS OF BULK AT MOST 1048576: true; the input reads as it did. -/
def fnTrailKindsUptoRow : OpenClaim := { program := "ytjfeeibnjgjchaa", sum := "74206e29de6a887988ccfc5abd367210c121ab19893768112750368f9c2e8b11", func := "loop.example/lucarne/laws.FnTrailKinds", spec := "fnTrailKinds", unfollowed := true, recurses := true, apart := false, narrowed := true }
def FnTrailKindsUptoSaid : Prop := fnTrailKindsUptoRow.holds Try.pinned (OpenSpec.upto fnTrailKindsSpec)

/-- 'laws.FnTrailFoot', WHERE WHAT IT READS IS OF BULK AT MOST 1048576: true; the input reads as it did. -/
def fnTrailFootUptoRow : OpenClaim := { program := "ytjfeeibnjgjchaa", sum := "74206e29de6a887988ccfc5abd367210c121ab19893768112750368f9c2e8b11", func := "loop.example/lucarne/laws.FnTrailFoot", spec := "fnTrailFoot", unfollowed := true, recurses := true, apart := false, narrowed := true }
def FnTrailFootUptoSaid : Prop := fnTrailFootUptoRow.holds Try.pinned (OpenSpec.upto fnTrailFootSpec)

/-- 'laws.FnTrailBack', WHERE WHAT IT READS IS OF BULK AT MOST 1048576: true; the input reads as it did. -/
def fnTrailBackUptoRow : OpenClaim := { program := "ytjfeeibnjgjchaa", sum := "74206e29de6a887988ccfc5abd367210c121ab19893768112750368f9c2e8b11", func := "loop.example/lucarne/laws.FnTrailBack", spec := "fnTrailBack", unfollowed := true, recurses := true, apart := false, narrowed := true }
def FnTrailBackUptoSaid : Prop := fnTrailBackUptoRow.holds Try.pinned (OpenSpec.upto fnTrailBackSpec)

/-- 'laws.FnTrailClear', WHERE WHAT IT READS IS OF BULK AT MOST 1048576: true; the input reads as it did. -/
def fnTrailClearUptoRow : OpenClaim := { program := "ytjfeeibnjgjchaa", sum := "74206e29de6a887988ccfc5abd367210c121ab19893768112750368f9c2e8b11", func := "loop.example/lucarne/laws.FnTrailClear", spec := "fnTrailClear", unfollowed := true, recurses := true, apart := false, narrowed := true }
def FnTrailClearUptoSaid : Prop := fnTrailClearUptoRow.holds Try.pinned (OpenSpec.upto fnTrailClearSpec)

/-- 'laws.FnTrailStraight', WHERE WHAT IT READS IS OF BULK AT MOST 1048576: true; the input reads as it did. -/
def fnTrailStraightUptoRow : OpenClaim := { program := "ytjfeeibnjgjchaa", sum := "74206e29de6a887988ccfc5abd367210c121ab19893768112750368f9c2e8b11", func := "loop.example/lucarne/laws.FnTrailStraight", spec := "fnTrailStraight", unfollowed := true, recurses := true, apart := false, narrowed := true }
def FnTrailStraightUptoSaid : Prop := fnTrailStraightUptoRow.holds Try.pinned (OpenSpec.upto fnTrailStraightSpec)

/-- 'laws.FnLightEnds', WHERE WHAT IT READS IS OF BULK AT MOST 1048576: true; the input reads as it did. -/
def fnLightEndsUptoRow : OpenClaim := { program := "ytjfeeibnjgjchaa", sum := "74206e29de6a887988ccfc5abd367210c121ab19893768112750368f9c2e8b11", func := "loop.example/lucarne/laws.FnLightEnds", spec := "fnLightEnds", unfollowed := true, recurses := true, apart := false, narrowed := true }
def FnLightEndsUptoSaid : Prop := fnLightEndsUptoRow.holds Try.pinned (OpenSpec.upto fnLightEndsSpec)

/-- 'laws.FnTrailHalves', WHERE WHAT IT READS IS OF BULK AT MOST 1048576: true; the input reads as it did. -/
def fnTrailHalvesUptoRow : OpenClaim := { program := "ytjfeeibnjgjchaa", sum := "74206e29de6a887988ccfc5abd367210c121ab19893768112750368f9c2e8b11", func := "loop.example/lucarne/laws.FnTrailHalves", spec := "fnTrailHalves", unfollowed := true, recurses := true, apart := false, narrowed := true }
def FnTrailHalvesUptoSaid : Prop := fnTrailHalvesUptoRow.holds Try.pinned (OpenSpec.upto fnTrailHalvesSpec)

/-- 'laws.FnTrailNever', WHERE WHAT IT READS IS OF BULK AT MOST 1048576: true; the input reads as it did. -/
def fnTrailNeverUptoRow : OpenClaim := { program := "ytjfeeibnjgjchaa", sum := "74206e29de6a887988ccfc5abd367210c121ab19893768112750368f9c2e8b11", func := "loop.example/lucarne/laws.FnTrailNever", spec := "fnTrailNever", unfollowed := true, recurses := true, apart := false, narrowed := true }
def FnTrailNeverUptoSaid : Prop := fnTrailNeverUptoRow.holds Try.pinned (OpenSpec.upto fnTrailNeverSpec)

/-- 'laws.FnTrailPairs', WHERE WHAT IT READS IS OF BULK AT MOST 1048576: true; the input reads as it did. -/
def fnTrailPairsUptoRow : OpenClaim := { program := "ytjfeeibnjgjchaa", sum := "74206e29de6a887988ccfc5abd367210c121ab19893768112750368f9c2e8b11", func := "loop.example/lucarne/laws.FnTrailPairs", spec := "fnTrailPairs", unfollowed := true, recurses := true, apart := false, narrowed := true }
def FnTrailPairsUptoSaid : Prop := fnTrailPairsUptoRow.holds Try.pinned (OpenSpec.upto fnTrailPairsSpec)

end Rows
end Go.Proofs.Ytjfeeibnjgjchaa
