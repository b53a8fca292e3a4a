/-
  How many cells of a kind there are, mirrors and glass that lean either way taken as one: llKinds counts it.
-/
import Derived.Test.YtmnninhifiajhaaJa
namespace Go.Proofs.Ytmnninhifiajhaa
open Go.RowKit
set_option linter.unusedVariables false

def backK (k : Int) : Int := if k = 3 then 2 else k
def normK (k : Int) : Int := if backK k = 5 then 4 else backK k
def isK (kind : Int) (c : Int × Int) : Bool := normK c.1 == kind
def cntK (kind : Int) (cs : List (Int × Int)) : Nat := cs.countP (isK kind)

theorem cntK_take (kind : Int) (cs : List (Int × Int)) (k : Nat) (hk : k < cs.length) (c : Int × Int) (hc : cs.getD k (0, 0) = c) : cntK kind (cs.take (k + 1)) = cntK kind (cs.take k) + (if isK kind c then 1 else 0) := by
  have : cs[k] = c := by rw [← hc]; simp [hk]
  unfold cntK
  rw [List.take_succ_eq_append_getElem hk, List.countP_append, this]
  simp [List.countP_cons]
theorem cntK_le (kind : Int) (cs : List (Int × Int)) (k : Nat) : cntK kind (cs.take k) ≤ k := Nat.le_trans List.countP_le_length (by simp; omega)

end Go.Proofs.Ytmnninhifiajhaa
