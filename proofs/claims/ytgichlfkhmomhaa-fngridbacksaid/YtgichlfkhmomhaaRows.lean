/-
  No cell of these rows narrows 'for every input' (looked for: loops, veiled, ifaces, maps, wideKeys, modest, calm, conditions, laid).
  DERIVED. THE GIVEN ROWS OF THIS SEAT. 8 by the template 'for every input the law returns true; each argument reads behind the call as it read before'; 0 by the template 'total and deterministic' (their statements: YtgichlfkhmomhaaTotals.lean).
  GIVEN WITH THE SEED: the statements are not yours to turn. If you find one false, say at which input.
  Laid BY PROGRAM, IN A SANDBOX (cutbox-rows.mjs): the forced cells as the released guide's own fill.sh prints them over the translation acc2678685837278… (all of the seat's roots in one cut). By AI agents, Wed Nov 11 2026. No macro, syntax, notation, axiom, sorry.
-/
import Derived.Test.YtgichlfkhmomhaaChecked
import GoSem.Claim
import GoSem.ClaimJoined
import GoSem.ClaimMapViews
import Derived.JoinedTies
import Derived.KernelRfl
namespace Go.Proofs.Ytgichlfkhmomhaa
/- THE CELL 'sum', in the pinned program and in every row, IS THE sha256 OF THE DUMP (.gsa) THAT YtgichlfkhmomhaaProg.lean LOADS. Nothing in Lean hashes anything: it is a label: what it is worth is what the hold of that sum in a sandbox is worth. -/
noncomputable def Try.pinned : Pinned := { name := "ytgichlfkhmomhaa", sum := "acc26786858372789171db9c8ada5d5de610024faa0700286b7d308375e806f2", checked := Try.checked }
namespace Rows
def none {H : Type} : Left H := { results := [], args := [] }

/-- 'laws.FnGridBack': WHATEVER THE INPUT: true; the input reads as it did. -/
def fnGridBackSpec : ChangeSpec := { name := "fnGridBack", fn := fun _ => fun
  | [d] => { results := [.lit (.bool true)], args := [d] }
  | _ => none }
def fnGridBackRow : OpenClaim := { program := "ytgichlfkhmomhaa", sum := "acc26786858372789171db9c8ada5d5de610024faa0700286b7d308375e806f2", func := "loop.example/lucarne/laws.FnGridBack", spec := "fnGridBack", inPlace := ["internal/bytealg.IndexByteString"], unfollowed := true, recurses := true, apart := false }
def FnGridBackSaid : Prop := fnGridBackRow.holds Try.pinned (OpenSpec.ofChange fnGridBackSpec)

/-- ITS FALSE NEIGHBOUR: 'it returns false'. Refute it at one input. -/
def fnGridBackWrong : ChangeSpec := { name := "fnGridBack", fn := fun _ => fun
  | [d] => { results := [.lit (.bool false)], args := [d] }
  | _ => none }
def FnGridBackWrongFalsely : Prop := fnGridBackRow.holds Try.pinned (OpenSpec.ofChange fnGridBackWrong)

/-- 'laws.FnGridStrict': WHATEVER THE INPUT: true; the input reads as it did. -/
def fnGridStrictSpec : ChangeSpec := { name := "fnGridStrict", fn := fun _ => fun
  | [d] => { results := [.lit (.bool true)], args := [d] }
  | _ => none }
def fnGridStrictRow : OpenClaim := { program := "ytgichlfkhmomhaa", sum := "acc26786858372789171db9c8ada5d5de610024faa0700286b7d308375e806f2", func := "loop.example/lucarne/laws.FnGridStrict", spec := "fnGridStrict", inPlace := ["internal/bytealg.IndexByteString"], unfollowed := true, recurses := true, apart := false }
def FnGridStrictSaid : Prop := fnGridStrictRow.holds Try.pinned (OpenSpec.ofChange fnGridStrictSpec)

/-- ITS FALSE NEIGHBOUR: 'it returns false'. Refute it at one input. -/
def fnGridStrictWrong : ChangeSpec := { name := "fnGridStrict", fn := fun _ => fun
  | [d] => { results := [.lit (.bool false)], args := [d] }
  | _ => none }
def FnGridStrictWrongFalsely : Prop := fnGridStrictRow.holds Try.pinned (OpenSpec.ofChange fnGridStrictWrong)

/-- 'laws.FnGridOne': WHATEVER THE INPUT: true; the input reads as it did. -/
def fnGridOneSpec : ChangeSpec := { name := "fnGridOne", fn := fun _ => fun
  | [d1, d2] => { results := [.lit (.bool true)], args := [d1, d2] }
  | _ => none }
def fnGridOneRow : OpenClaim := { program := "ytgichlfkhmomhaa", sum := "acc26786858372789171db9c8ada5d5de610024faa0700286b7d308375e806f2", func := "loop.example/lucarne/laws.FnGridOne", spec := "fnGridOne", unfollowed := true, recurses := true, apart := false }
def FnGridOneSaid : Prop := fnGridOneRow.holds Try.pinned (OpenSpec.ofChange fnGridOneSpec)

/-- ITS FALSE NEIGHBOUR: 'it returns false'. Refute it at one input. -/
def fnGridOneWrong : ChangeSpec := { name := "fnGridOne", fn := fun _ => fun
  | [d1, d2] => { results := [.lit (.bool false)], args := [d1, d2] }
  | _ => none }
def FnGridOneWrongFalsely : Prop := fnGridOneRow.holds Try.pinned (OpenSpec.ofChange fnGridOneWrong)

/-- 'laws.FnGridStack': WHATEVER THE INPUT: true; the input reads as it did. -/
def fnGridStackSpec : ChangeSpec := { name := "fnGridStack", fn := fun _ => fun
  | [d1, d2] => { results := [.lit (.bool true)], args := [d1, d2] }
  | _ => none }
def fnGridStackRow : OpenClaim := { program := "ytgichlfkhmomhaa", sum := "acc26786858372789171db9c8ada5d5de610024faa0700286b7d308375e806f2", func := "loop.example/lucarne/laws.FnGridStack", spec := "fnGridStack", inPlace := ["internal/bytealg.IndexByteString"], unfollowed := true, recurses := true, apart := false }
def FnGridStackSaid : Prop := fnGridStackRow.holds Try.pinned (OpenSpec.ofChange fnGridStackSpec)

/-- ITS FALSE NEIGHBOUR: 'it returns false'. Refute it at one input. -/
def fnGridStackWrong : ChangeSpec := { name := "fnGridStack", fn := fun _ => fun
  | [d1, d2] => { results := [.lit (.bool false)], args := [d1, d2] }
  | _ => none }
def FnGridStackWrongFalsely : Prop := fnGridStackRow.holds Try.pinned (OpenSpec.ofChange fnGridStackWrong)

/-- 'laws.FnCellSign': WHATEVER THE INPUT: true; the input reads as it did. -/
def fnCellSignSpec : ChangeSpec := { name := "fnCellSign", fn := fun _ => fun
  | [d1, d2] => { results := [.lit (.bool true)], args := [d1, d2] }
  | _ => none }
def fnCellSignRow : OpenClaim := { program := "ytgichlfkhmomhaa", sum := "acc26786858372789171db9c8ada5d5de610024faa0700286b7d308375e806f2", func := "loop.example/lucarne/laws.FnCellSign", spec := "fnCellSign", unfollowed := true, recurses := true, apart := false }
def FnCellSignSaid : Prop := fnCellSignRow.holds Try.pinned (OpenSpec.ofChange fnCellSignSpec)

/-- ITS FALSE NEIGHBOUR: 'it returns false'. Refute it at one input. -/
def fnCellSignWrong : ChangeSpec := { name := "fnCellSign", fn := fun _ => fun
  | [d1, d2] => { results := [.lit (.bool false)], args := [d1, d2] }
  | _ => none }
def FnCellSignWrongFalsely : Prop := fnCellSignRow.holds Try.pinned (OpenSpec.ofChange fnCellSignWrong)

/-- 'laws.FnExactGridText': WHATEVER THE INPUT: true; the input reads as it did. -/
def fnExactGridTextSpec : ChangeSpec := { name := "fnExactGridText", fn := fun _ => fun
  | [d] => { results := [.lit (.bool true)], args := [d] }
  | _ => none }
def fnExactGridTextRow : OpenClaim := { program := "ytgichlfkhmomhaa", sum := "acc26786858372789171db9c8ada5d5de610024faa0700286b7d308375e806f2", func := "loop.example/lucarne/laws.FnExactGridText", spec := "fnExactGridText", unfollowed := true, recurses := true, apart := false }
def FnExactGridTextSaid : Prop := fnExactGridTextRow.holds Try.pinned (OpenSpec.ofChange fnExactGridTextSpec)

/-- ITS FALSE NEIGHBOUR: 'it returns false'. Refute it at one input. -/
def fnExactGridTextWrong : ChangeSpec := { name := "fnExactGridText", fn := fun _ => fun
  | [d] => { results := [.lit (.bool false)], args := [d] }
  | _ => none }
def FnExactGridTextWrongFalsely : Prop := fnExactGridTextRow.holds Try.pinned (OpenSpec.ofChange fnExactGridTextWrong)

/-- 'laws.FnExactGridRead': WHATEVER THE INPUT: true; the input reads as it did. -/
def fnExactGridReadSpec : ChangeSpec := { name := "fnExactGridRead", fn := fun _ => fun
  | [d] => { results := [.lit (.bool true)], args := [d] }
  | _ => none }
def fnExactGridReadRow : OpenClaim := { program := "ytgichlfkhmomhaa", sum := "acc26786858372789171db9c8ada5d5de610024faa0700286b7d308375e806f2", func := "loop.example/lucarne/laws.FnExactGridRead", spec := "fnExactGridRead", inPlace := ["internal/bytealg.IndexByteString"], unfollowed := true, recurses := true, apart := false }
def FnExactGridReadSaid : Prop := fnExactGridReadRow.holds Try.pinned (OpenSpec.ofChange fnExactGridReadSpec)

/-- ITS FALSE NEIGHBOUR: 'it returns false'. Refute it at one input. -/
def fnExactGridReadWrong : ChangeSpec := { name := "fnExactGridRead", fn := fun _ => fun
  | [d] => { results := [.lit (.bool false)], args := [d] }
  | _ => none }
def FnExactGridReadWrongFalsely : Prop := fnExactGridReadRow.holds Try.pinned (OpenSpec.ofChange fnExactGridReadWrong)

/-- 'laws.FnExactGridPut': WHATEVER THE INPUT: true; the input reads as it did. -/
def fnExactGridPutSpec : ChangeSpec := { name := "fnExactGridPut", fn := fun _ => fun
  | [d1, d2, d3] => { results := [.lit (.bool true)], args := [d1, d2, d3] }
  | _ => none }
def fnExactGridPutRow : OpenClaim := { program := "ytgichlfkhmomhaa", sum := "acc26786858372789171db9c8ada5d5de610024faa0700286b7d308375e806f2", func := "loop.example/lucarne/laws.FnExactGridPut", spec := "fnExactGridPut", unfollowed := true, recurses := true, apart := false }
def FnExactGridPutSaid : Prop := fnExactGridPutRow.holds Try.pinned (OpenSpec.ofChange fnExactGridPutSpec)

/-- ITS FALSE NEIGHBOUR: 'it returns false'. Refute it at one input. -/
def fnExactGridPutWrong : ChangeSpec := { name := "fnExactGridPut", fn := fun _ => fun
  | [d1, d2, d3] => { results := [.lit (.bool false)], args := [d1, d2, d3] }
  | _ => none }
def FnExactGridPutWrongFalsely : Prop := fnExactGridPutRow.holds Try.pinned (OpenSpec.ofChange fnExactGridPutWrong)

/- THE SECOND FORM. 'bulk': how many values and letters a reading holds, each counted each time it is reached (what is shared counts as often as it is met; a slice's spare places count too). A statement '..UptoSaid' is the law's where the arguments, and the package variables that the reading takes, are together of bulk at most 1048576: NARROWER than '..Said'. Prove '..Said' where nothing that the law and all that it calls make is longer than what came in: it says more and counts as full. Else prove '..UptoSaid'. A law counts once. -/
mutual
def uptoBulk {H : Type} : DataW H → Nat
  | .lit (.string bytes) => bytes.length + 1
  | .lit _ => 1
  | .nil => 1
  | .ptr d => uptoBulk d + 1
  | .slice elems spare => uptoBulkAll elems + uptoBulkAll spare + 1
  | .agg parts => uptoBulkAll parts + 1
  | .iface _ d => uptoBulk d + 1
  | .map entries => uptoBulkEntries entries + 1
  | .held _ => 1
def uptoBulkAll {H : Type} : List (DataW H) → Nat
  | [] => 0
  | d :: r => uptoBulk d + uptoBulkAll r
def uptoBulkEntries {H : Type} : List (Lit × DataW H) → Nat
  | [] => 0
  | x :: r => uptoBulkEntry x + uptoBulkEntries r
def uptoBulkEntry {H : Type} : Lit × DataW H → Nat
  | (.string bytes, d) => bytes.length + uptoBulk d + 1
  | (_, d) => uptoBulk d + 1
 end
def uptoSmall : (H : Type) → List (DataW H) → Bool := fun _ ds => decide (uptoBulkAll ds ≤ 1048576)
def OpenSpec.upto (s : _root_.Go.ChangeSpec) : _root_.Go.OpenSpec := { _root_.Go.OpenSpec.ofChange s with cond := some uptoSmall }

/-- 'laws.FnGridBack', WHERE WHAT IT READS IS OF BULK AT MOST 1048576: true; the input reads as it did. -/
def fnGridBackUptoRow : OpenClaim := { program := "ytgichlfkhmomhaa", sum := "acc26786858372789171db9c8ada5d5de610024faa0700286b7d308375e806f2", func := "loop.example/lucarne/laws.FnGridBack", spec := "fnGridBack", inPlace := ["internal/bytealg.IndexByteString"], unfollowed := true, recurses := true, apart := false, narrowed := true }
def FnGridBackUptoSaid : Prop := fnGridBackUptoRow.holds Try.pinned (OpenSpec.upto fnGridBackSpec)

/-- 'laws.FnGridStrict', WHERE WHAT IT READS IS OF BULK AT MOST 1048576: true; the input reads as it did. -/
def fnGridStrictUptoRow : OpenClaim := { program := "ytgichlfkhmomhaa", sum := "acc26786858372789171db9c8ada5d5de610024faa0700286b7d308375e806f2", func := "loop.example/lucarne/laws.FnGridStrict", spec := "fnGridStrict", inPlace := ["internal/bytealg.IndexByteString"], unfollowed := true, recurses := true, apart := false, narrowed := true }
def FnGridStrictUptoSaid : Prop := fnGridStrictUptoRow.holds Try.pinned (OpenSpec.upto fnGridStrictSpec)

/-- 'laws.FnGridOne', WHERE WHAT IT READS IS OF BULK AT MOST 1048576: true; the input reads as it did. -/
def fnGridOneUptoRow : OpenClaim := { program := "ytgichlfkhmomhaa", sum := "acc26786858372789171db9c8ada5d5de610024faa0700286b7d308375e806f2", func := "loop.example/lucarne/laws.FnGridOne", spec := "fnGridOne", unfollowed := true, recurses := true, apart := false, narrowed := true }
def FnGridOneUptoSaid : Prop := fnGridOneUptoRow.holds Try.pinned (OpenSpec.upto fnGridOneSpec)

/-- 'laws.FnGridStack', WHERE WHAT IT READS IS OF BULK AT MOST 1048576: true; the input reads as it did. -/
def fnGridStackUptoRow : OpenClaim := { program := "ytgichlfkhmomhaa", sum := "acc26786858372789171db9c8ada5d5de610024faa0700286b7d308375e806f2", func := "loop.example/lucarne/laws.FnGridStack", spec := "fnGridStack", inPlace := ["internal/bytealg.IndexByteString"], unfollowed := true, recurses := true, apart := false, narrowed := true }
def FnGridStackUptoSaid : Prop := fnGridStackUptoRow.holds Try.pinned (OpenSpec.upto fnGridStackSpec)

/-- 'laws.FnCellSign', WHERE WHAT IT READS IS OF BULK AT MOST 1048576: true; the input reads as it did. -/
def fnCellSignUptoRow : OpenClaim := { program := "ytgichlfkhmomhaa", sum := "acc26786858372789171db9c8ada5d5de610024faa0700286b7d308375e806f2", func := "loop.example/lucarne/laws.FnCellSign", spec := "fnCellSign", unfollowed := true, recurses := true, apart := false, narrowed := true }
def FnCellSignUptoSaid : Prop := fnCellSignUptoRow.holds Try.pinned (OpenSpec.upto fnCellSignSpec)

/-- 'laws.FnExactGridText', WHERE WHAT IT READS IS OF BULK AT MOST 1048576: true; the input reads as it did. -/
def fnExactGridTextUptoRow : OpenClaim := { program := "ytgichlfkhmomhaa", sum := "acc26786858372789171db9c8ada5d5de610024faa0700286b7d308375e806f2", func := "loop.example/lucarne/laws.FnExactGridText", spec := "fnExactGridText", unfollowed := true, recurses := true, apart := false, narrowed := true }
def FnExactGridTextUptoSaid : Prop := fnExactGridTextUptoRow.holds Try.pinned (OpenSpec.upto fnExactGridTextSpec)

/-- 'laws.FnExactGridRead', WHERE WHAT IT READS IS OF BULK AT MOST 1048576: true; the input reads as it did. -/
def fnExactGridReadUptoRow : OpenClaim := { program := "ytgichlfkhmomhaa", sum := "acc26786858372789171db9c8ada5d5de610024faa0700286b7d308375e806f2", func := "loop.example/lucarne/laws.FnExactGridRead", spec := "fnExactGridRead", inPlace := ["internal/bytealg.IndexByteString"], unfollowed := true, recurses := true, apart := false, narrowed := true }
def FnExactGridReadUptoSaid : Prop := fnExactGridReadUptoRow.holds Try.pinned (OpenSpec.upto fnExactGridReadSpec)

/-- 'laws.FnExactGridPut', WHERE WHAT IT READS IS OF BULK AT MOST 1048576: true; the input reads as it did. -/
def fnExactGridPutUptoRow : OpenClaim := { program := "ytgichlfkhmomhaa", sum := "acc26786858372789171db9c8ada5d5de610024faa0700286b7d308375e806f2", func := "loop.example/lucarne/laws.FnExactGridPut", spec := "fnExactGridPut", unfollowed := true, recurses := true, apart := false, narrowed := true }
def FnExactGridPutUptoSaid : Prop := fnExactGridPutUptoRow.holds Try.pinned (OpenSpec.upto fnExactGridPutSpec)

end Rows
end Go.Proofs.Ytgichlfkhmomhaa
