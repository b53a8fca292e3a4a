/-
  No cell of these rows narrows 'for every input' (looked for: loops, veiled, ifaces, maps, wideKeys, modest, calm, conditions, laid).
  DERIVED. THE GIVEN ROWS OF THIS SEAT. 9 by the template 'for every input the law returns true; each argument reads behind the call as it read before'; 0 by the template 'total and deterministic' (their statements: YtmnninhifiajhaaTotals.lean).
  GIVEN WITH THE SEED: the statements are not yours to turn. If you find one false, say at which input.
  Laid BY PROGRAM, IN A SANDBOX (cutbox-rows.mjs): the forced cells as the released guide's own fill.sh prints them over the translation 9e155de98f2a5a0c… (all of the seat's roots in one cut). By AI agents, Wed Nov 11 2026. No macro, syntax, notation, axiom, sorry.
-/
import Derived.Test.YtmnninhifiajhaaChecked
import GoSem.Claim
import GoSem.ClaimJoined
import GoSem.ClaimMapViews
import Derived.JoinedTies
import Derived.KernelRfl
namespace Go.Proofs.Ytmnninhifiajhaa
/- THE CELL 'sum', in the pinned program and in every row, IS THE sha256 OF THE DUMP (.gsa) THAT YtmnninhifiajhaaProg.lean LOADS. Nothing in Lean hashes anything: it is a label: what it is worth is what the hold of that sum in a sandbox is worth. -/
noncomputable def Try.pinned : Pinned := { name := "ytmnninhifiajhaa", sum := "9e155de98f2a5a0cbcee7e6cf821166641fc799bece2c11eb944212d00abcc5b", checked := Try.checked }
namespace Rows
def none {H : Type} : Left H := { results := [], args := [] }

/-- 'laws.FnPutThere': WHATEVER THE INPUT: true; the input reads as it did. -/
def fnPutThereSpec : ChangeSpec := { name := "fnPutThere", fn := fun _ => fun
  | [d] => { results := [.lit (.bool true)], args := [d] }
  | _ => none }
def fnPutThereRow : OpenClaim := { program := "ytmnninhifiajhaa", sum := "9e155de98f2a5a0cbcee7e6cf821166641fc799bece2c11eb944212d00abcc5b", func := "loop.example/lucarne/laws.FnPutThere", spec := "fnPutThere", unfollowed := true, recurses := true, apart := false }
def FnPutThereSaid : Prop := fnPutThereRow.holds Try.pinned (OpenSpec.ofChange fnPutThereSpec)

/-- ITS FALSE NEIGHBOUR: 'it returns false'. Refute it at one input. -/
def fnPutThereWrong : ChangeSpec := { name := "fnPutThere", fn := fun _ => fun
  | [d] => { results := [.lit (.bool false)], args := [d] }
  | _ => none }
def FnPutThereWrongFalsely : Prop := fnPutThereRow.holds Try.pinned (OpenSpec.ofChange fnPutThereWrong)

/-- 'laws.FnPutLast': WHATEVER THE INPUT: true; the input reads as it did. -/
def fnPutLastSpec : ChangeSpec := { name := "fnPutLast", fn := fun _ => fun
  | [d1, d2] => { results := [.lit (.bool true)], args := [d1, d2] }
  | _ => none }
def fnPutLastRow : OpenClaim := { program := "ytmnninhifiajhaa", sum := "9e155de98f2a5a0cbcee7e6cf821166641fc799bece2c11eb944212d00abcc5b", func := "loop.example/lucarne/laws.FnPutLast", spec := "fnPutLast", unfollowed := true, recurses := true, apart := false }
def FnPutLastSaid : Prop := fnPutLastRow.holds Try.pinned (OpenSpec.ofChange fnPutLastSpec)

/-- ITS FALSE NEIGHBOUR: 'it returns false'. Refute it at one input. -/
def fnPutLastWrong : ChangeSpec := { name := "fnPutLast", fn := fun _ => fun
  | [d1, d2] => { results := [.lit (.bool false)], args := [d1, d2] }
  | _ => none }
def FnPutLastWrongFalsely : Prop := fnPutLastRow.holds Try.pinned (OpenSpec.ofChange fnPutLastWrong)

/-- 'laws.FnTurnFour': WHATEVER THE INPUT: true; the input reads as it did. -/
def fnTurnFourSpec : ChangeSpec := { name := "fnTurnFour", fn := fun _ => fun
  | [d] => { results := [.lit (.bool true)], args := [d] }
  | _ => none }
def fnTurnFourRow : OpenClaim := { program := "ytmnninhifiajhaa", sum := "9e155de98f2a5a0cbcee7e6cf821166641fc799bece2c11eb944212d00abcc5b", func := "loop.example/lucarne/laws.FnTurnFour", spec := "fnTurnFour", unfollowed := true, recurses := true, apart := false }
def FnTurnFourSaid : Prop := fnTurnFourRow.holds Try.pinned (OpenSpec.ofChange fnTurnFourSpec)

/-- ITS FALSE NEIGHBOUR: 'it returns false'. Refute it at one input. -/
def fnTurnFourWrong : ChangeSpec := { name := "fnTurnFour", fn := fun _ => fun
  | [d] => { results := [.lit (.bool false)], args := [d] }
  | _ => none }
def FnTurnFourWrongFalsely : Prop := fnTurnFourRow.holds Try.pinned (OpenSpec.ofChange fnTurnFourWrong)

/-- 'laws.FnTurnPut': WHATEVER THE INPUT: true; the input reads as it did. -/
def fnTurnPutSpec : ChangeSpec := { name := "fnTurnPut", fn := fun _ => fun
  | [d] => { results := [.lit (.bool true)], args := [d] }
  | _ => none }
def fnTurnPutRow : OpenClaim := { program := "ytmnninhifiajhaa", sum := "9e155de98f2a5a0cbcee7e6cf821166641fc799bece2c11eb944212d00abcc5b", func := "loop.example/lucarne/laws.FnTurnPut", spec := "fnTurnPut", unfollowed := true, recurses := true, apart := false }
def FnTurnPutSaid : Prop := fnTurnPutRow.holds Try.pinned (OpenSpec.ofChange fnTurnPutSpec)

/-- ITS FALSE NEIGHBOUR: 'it returns false'. Refute it at one input. -/
def fnTurnPutWrong : ChangeSpec := { name := "fnTurnPut", fn := fun _ => fun
  | [d] => { results := [.lit (.bool false)], args := [d] }
  | _ => none }
def FnTurnPutWrongFalsely : Prop := fnTurnPutRow.holds Try.pinned (OpenSpec.ofChange fnTurnPutWrong)

/-- 'laws.FnExactGridPut': WHATEVER THE INPUT: true; the input reads as it did. -/
def fnExactGridPutSpec : ChangeSpec := { name := "fnExactGridPut", fn := fun _ => fun
  | [d1, d2, d3] => { results := [.lit (.bool true)], args := [d1, d2, d3] }
  | _ => none }
def fnExactGridPutRow : OpenClaim := { program := "ytmnninhifiajhaa", sum := "9e155de98f2a5a0cbcee7e6cf821166641fc799bece2c11eb944212d00abcc5b", func := "loop.example/lucarne/laws.FnExactGridPut", spec := "fnExactGridPut", unfollowed := true, recurses := true, apart := false }
def FnExactGridPutSaid : Prop := fnExactGridPutRow.holds Try.pinned (OpenSpec.ofChange fnExactGridPutSpec)

/-- ITS FALSE NEIGHBOUR: 'it returns false'. Refute it at one input. -/
def fnExactGridPutWrong : ChangeSpec := { name := "fnExactGridPut", fn := fun _ => fun
  | [d1, d2, d3] => { results := [.lit (.bool false)], args := [d1, d2, d3] }
  | _ => none }
def FnExactGridPutWrongFalsely : Prop := fnExactGridPutRow.holds Try.pinned (OpenSpec.ofChange fnExactGridPutWrong)

/-- 'laws.FnTrailUnseen': WHATEVER THE INPUT: true; the input reads as it did. -/
def fnTrailUnseenSpec : ChangeSpec := { name := "fnTrailUnseen", fn := fun _ => fun
  | [d1, d2] => { results := [.lit (.bool true)], args := [d1, d2] }
  | _ => none }
def fnTrailUnseenRow : OpenClaim := { program := "ytmnninhifiajhaa", sum := "9e155de98f2a5a0cbcee7e6cf821166641fc799bece2c11eb944212d00abcc5b", func := "loop.example/lucarne/laws.FnTrailUnseen", spec := "fnTrailUnseen", unfollowed := true, recurses := true, apart := false }
def FnTrailUnseenSaid : Prop := fnTrailUnseenRow.holds Try.pinned (OpenSpec.ofChange fnTrailUnseenSpec)

/-- ITS FALSE NEIGHBOUR: 'it returns false'. Refute it at one input. -/
def fnTrailUnseenWrong : ChangeSpec := { name := "fnTrailUnseen", fn := fun _ => fun
  | [d1, d2] => { results := [.lit (.bool false)], args := [d1, d2] }
  | _ => none }
def FnTrailUnseenWrongFalsely : Prop := fnTrailUnseenRow.holds Try.pinned (OpenSpec.ofChange fnTrailUnseenWrong)

/-- 'laws.FnTrailWall': WHATEVER THE INPUT: true; the input reads as it did. -/
def fnTrailWallSpec : ChangeSpec := { name := "fnTrailWall", fn := fun _ => fun
  | [d] => { results := [.lit (.bool true)], args := [d] }
  | _ => none }
def fnTrailWallRow : OpenClaim := { program := "ytmnninhifiajhaa", sum := "9e155de98f2a5a0cbcee7e6cf821166641fc799bece2c11eb944212d00abcc5b", func := "loop.example/lucarne/laws.FnTrailWall", spec := "fnTrailWall", unfollowed := true, recurses := true, apart := false }
def FnTrailWallSaid : Prop := fnTrailWallRow.holds Try.pinned (OpenSpec.ofChange fnTrailWallSpec)

/-- ITS FALSE NEIGHBOUR: 'it returns false'. Refute it at one input. -/
def fnTrailWallWrong : ChangeSpec := { name := "fnTrailWall", fn := fun _ => fun
  | [d] => { results := [.lit (.bool false)], args := [d] }
  | _ => none }
def FnTrailWallWrongFalsely : Prop := fnTrailWallRow.holds Try.pinned (OpenSpec.ofChange fnTrailWallWrong)

/-- 'laws.FnLightMore': WHATEVER THE INPUT: true; the input reads as it did. -/
def fnLightMoreSpec : ChangeSpec := { name := "fnLightMore", fn := fun _ => fun
  | [d] => { results := [.lit (.bool true)], args := [d] }
  | _ => none }
def fnLightMoreRow : OpenClaim := { program := "ytmnninhifiajhaa", sum := "9e155de98f2a5a0cbcee7e6cf821166641fc799bece2c11eb944212d00abcc5b", func := "loop.example/lucarne/laws.FnLightMore", spec := "fnLightMore", unfollowed := true, recurses := true, apart := false }
def FnLightMoreSaid : Prop := fnLightMoreRow.holds Try.pinned (OpenSpec.ofChange fnLightMoreSpec)

/-- ITS FALSE NEIGHBOUR: 'it returns false'. Refute it at one input. -/
def fnLightMoreWrong : ChangeSpec := { name := "fnLightMore", fn := fun _ => fun
  | [d] => { results := [.lit (.bool false)], args := [d] }
  | _ => none }
def FnLightMoreWrongFalsely : Prop := fnLightMoreRow.holds Try.pinned (OpenSpec.ofChange fnLightMoreWrong)

/-- 'laws.FnTrailDim': WHATEVER THE INPUT: true; the input reads as it did. -/
def fnTrailDimSpec : ChangeSpec := { name := "fnTrailDim", fn := fun _ => fun
  | [d] => { results := [.lit (.bool true)], args := [d] }
  | _ => none }
def fnTrailDimRow : OpenClaim := { program := "ytmnninhifiajhaa", sum := "9e155de98f2a5a0cbcee7e6cf821166641fc799bece2c11eb944212d00abcc5b", func := "loop.example/lucarne/laws.FnTrailDim", spec := "fnTrailDim", unfollowed := true, recurses := true, apart := false }
def FnTrailDimSaid : Prop := fnTrailDimRow.holds Try.pinned (OpenSpec.ofChange fnTrailDimSpec)

/-- ITS FALSE NEIGHBOUR: 'it returns false'. Refute it at one input. -/
def fnTrailDimWrong : ChangeSpec := { name := "fnTrailDim", fn := fun _ => fun
  | [d] => { results := [.lit (.bool false)], args := [d] }
  | _ => none }
def FnTrailDimWrongFalsely : Prop := fnTrailDimRow.holds Try.pinned (OpenSpec.ofChange fnTrailDimWrong)

/- THE SECOND FORM. 'bulk': how many values and letters a reading holds, each counted each time it is reached (what is shared counts as often as it is met; a slice's spare places count too). A statement '..UptoSaid' is the law's where the arguments, and the package variables that the reading takes, are together of bulk at most 1048576: NARROWER than '..Said'. Prove '..Said' where nothing that the law and all that it calls make is longer than what came in: it says more and counts as full. Else prove '..UptoSaid'. A law counts once. -/
mutual
def uptoBulk {H : Type} : DataW H → Nat
  | .lit (.string bytes) => bytes.length + 1
  | .lit _ => 1
  | .nil => 1
  | .ptr d => uptoBulk d + 1
  | .slice elems spare => uptoBulkAll elems + uptoBulkAll spare + 1
  | .agg parts => uptoBulkAll parts + 1
  | .iface _ d => uptoBulk d + 1
  | .map entries => uptoBulkEntries entries + 1
  | .held _ => 1
def uptoBulkAll {H : Type} : List (DataW H) → Nat
  | [] => 0
  | d :: r => uptoBulk d + uptoBulkAll r
def uptoBulkEntries {H : Type} : List (Lit × DataW H) → Nat
  | [] => 0
  | x :: r => uptoBulkEntry x + uptoBulkEntries r
def uptoBulkEntry {H : Type} : Lit × DataW H → Nat
  | (.string bytes, d) => bytes.length + uptoBulk d + 1
  | (_, d) => uptoBulk d + 1
 end
def uptoSmall : (H : Type) → List (DataW H) → Bool := fun _ ds => decide (uptoBulkAll ds ≤ 1048576)
def OpenSpec.upto (s : _root_.Go.ChangeSpec) : _root_.Go.OpenSpec := { _root_.Go.OpenSpec.ofChange s with cond := some uptoSmall }

/-- 'laws.FnPutThere', WHERE WHAT IT READS IS OF BULK AT MOST 1048576: true; the input reads as it did. -/
def fnPutThereUptoRow : OpenClaim := { program := "ytmnninhifiajhaa", sum := "9e155de98f2a5a0cbcee7e6cf821166641fc799bece2c11eb944212d00abcc5b", func := "loop.example/lucarne/laws.FnPutThere", spec := "fnPutThere", unfollowed := true, recurses := true, apart := false, narrowed := true }
def FnPutThereUptoSaid : Prop := fnPutThereUptoRow.holds Try.pinned (OpenSpec.upto fnPutThereSpec)

/-- 'laws.FnPutLast', WHERE WHAT IT READS IS OF BULK AT MOST 1048576: true; the input reads as it did. -/
def fnPutLastUptoRow : OpenClaim := { program := "ytmnninhifiajhaa", sum := "9e155de98f2a5a0cbcee7e6cf821166641fc799bece2c11eb944212d00abcc5b", func := "loop.example/lucarne/laws.FnPutLast", spec := "fnPutLast", unfollowed := true, recurses := true, apart := false, narrowed := true }
def FnPutLastUptoSaid : Prop := fnPutLastUptoRow.holds Try.pinned (OpenSpec.upto fnPutLastSpec)

/-- 'laws.FnTurnFour', WHERE WHAT IT READS IS OF BULK AT MOST 1048576: true; the input reads as it did. -/
def fnTurnFourUptoRow : OpenClaim := { program := "ytmnninhifiajhaa", sum := "9e155de98f2a5a0cbcee7e6cf821166641fc799bece2c11eb944212d00abcc5b", func := "loop.example/lucarne/laws.FnTurnFour", spec := "fnTurnFour", unfollowed := true, recurses := true, apart := false, narrowed := true }
def FnTurnFourUptoSaid : Prop := fnTurnFourUptoRow.holds Try.pinned (OpenSpec.upto fnTurnFourSpec)

/-- 'laws.FnTurnPut', WHERE WHAT IT READS IS OF BULK AT MOST 1048576: true; the input reads as it did. -/
def fnTurnPutUptoRow : OpenClaim := { program := "ytmnninhifiajhaa", sum := "9e155de98f2a5a0cbcee7e6cf821166641fc799bece2c11eb944212d00abcc5b", func := "loop.example/lucarne/laws.FnTurnPut", spec := "fnTurnPut", unfollowed := true, recurses := true, apart := false, narrowed := true }
def FnTurnPutUptoSaid : Prop := fnTurnPutUptoRow.holds Try.pinned (OpenSpec.upto fnTurnPutSpec)

/-- 'laws.FnExactGridPut', WHERE WHAT IT READS IS OF BULK AT MOST 1048576: true; the input reads as it did. -/
def fnExactGridPutUptoRow : OpenClaim := { program := "ytmnninhifiajhaa", sum := "9e155de98f2a5a0cbcee7e6cf821166641fc799bece2c11eb944212d00abcc5b", func := "loop.example/lucarne/laws.FnExactGridPut", spec := "fnExactGridPut", unfollowed := true, recurses := true, apart := false, narrowed := true }
def FnExactGridPutUptoSaid : Prop := fnExactGridPutUptoRow.holds Try.pinned (OpenSpec.upto fnExactGridPutSpec)

/-- 'laws.FnTrailUnseen', WHERE WHAT IT READS IS OF BULK AT MOST 1048576: true; the input reads as it did. -/
def fnTrailUnseenUptoRow : OpenClaim := { program := "ytmnninhifiajhaa", sum := "9e155de98f2a5a0cbcee7e6cf821166641fc799bece2c11eb944212d00abcc5b", func := "loop.example/lucarne/laws.FnTrailUnseen", spec := "fnTrailUnseen", unfollowed := true, recurses := true, apart := false, narrowed := true }
def FnTrailUnseenUptoSaid : Prop := fnTrailUnseenUptoRow.holds Try.pinned (OpenSpec.upto fnTrailUnseenSpec)

/-- 'laws.FnTrailWall', WHERE WHAT IT READS IS OF BULK AT MOST 1048576: true; the input reads as it did. -/
def fnTrailWallUptoRow : OpenClaim := { program := "ytmnninhifiajhaa", sum := "9e155de98f2a5a0cbcee7e6cf821166641fc799bece2c11eb944212d00abcc5b", func := "loop.example/lucarne/laws.FnTrailWall", spec := "fnTrailWall", unfollowed := true, recurses := true, apart := false, narrowed := true }
def FnTrailWallUptoSaid : Prop := fnTrailWallUptoRow.holds Try.pinned (OpenSpec.upto fnTrailWallSpec)

/-- 'laws.FnLightMore', WHERE WHAT IT READS IS OF BULK AT MOST 1048576: true; the input reads as it did. -/
def fnLightMoreUptoRow : OpenClaim := { program := "ytmnninhifiajhaa", sum := "9e155de98f2a5a0cbcee7e6cf821166641fc799bece2c11eb944212d00abcc5b", func := "loop.example/lucarne/laws.FnLightMore", spec := "fnLightMore", unfollowed := true, recurses := true, apart := false, narrowed := true }
def FnLightMoreUptoSaid : Prop := fnLightMoreUptoRow.holds Try.pinned (OpenSpec.upto fnLightMoreSpec)

/-- 'laws.FnTrailDim', WHERE WHAT IT READS IS OF BULK AT MOST 1048576: true; the input reads as it did. -/
def fnTrailDimUptoRow : OpenClaim := { program := "ytmnninhifiajhaa", sum := "9e155de98f2a5a0cbcee7e6cf821166641fc799bece2c11eb944212d00abcc5b", func := "loop.example/lucarne/laws.FnTrailDim", spec := "fnTrailDim", unfollowed := true, recurses := true, apart := false, narrowed := true }
def FnTrailDimUptoSaid : Prop := fnTrailDimUptoRow.holds Try.pinned (OpenSpec.upto fnTrailDimSpec)

end Rows
end Go.Proofs.Ytmnninhifiajhaa
