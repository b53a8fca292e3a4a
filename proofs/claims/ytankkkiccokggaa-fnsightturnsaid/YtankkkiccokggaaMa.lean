/-
  Plain facts on turning and mirroring a list of cells: no program in sight.
-/
import Derived.Test.YtankkkiccokggaaTa
import Derived.Test.YtankkkiccokggaaNa
namespace Go.Proofs.Ytankkkiccokggaa
set_option linter.unusedVariables false

/-- From which place a place of the turned grid comes: W wide, H high. -/
def turnAt (W H j : Nat) : Nat := (H - 1 - j % H) * W + j / H
def turnC (W H : Nat) (cs : List (Int × Int)) : List (Int × Int) := (List.range cs.length).map fun j => other (cs.getD (turnAt W H j) (0, 0))
def flipAt (W j : Nat) : Nat := j / W * W + (W - 1 - j % W)
def flipC (W : Nat) (cs : List (Int × Int)) : List (Int × Int) := (List.range cs.length).map fun j => other (cs.getD (flipAt W j) (0, 0))
/-- The turned grid: its width and its cells. -/
def turnG (wd : Int) (cs : List (Int × Int)) : Int × List (Int × Int) := if okG wd cs then ((cs.length : Int) / wd, turnC wd.toNat (cs.length / wd.toNat) cs) else (0, [])
def flipG (wd : Int) (cs : List (Int × Int)) : Int × List (Int × Int) := if okG wd cs then (wd, flipC wd.toNat cs) else (0, [])

theorem scatter (n k : Nat) (src f : Nat → Nat) (g : Nat → Int × Int) (z : Int × Int) (hk : k < n) (hf : f k < n) (h : ∀ j, j < n → (src j = k ↔ j = f k)) :
    ((List.range n).map fun j => if src j < k then g (src j) else z).set (f k) (g k) = (List.range n).map fun j => if src j < k + 1 then g (src j) else z := by
  apply List.ext_getElem
  · simp
  · intro j h1 h2
    have hj : j < n := by simpa using h2
    rw [List.getElem_set]
    simp only [List.getElem_map, List.getElem_range]
    have hh := h j hj
    by_cases e : f k = j
    · have e2 : src j = k := hh.2 e.symm
      rw [if_pos e, if_pos (by omega), e2]
    · have e2 : src j ≠ k := fun x => e (hh.1 x).symm
      rw [if_neg e]
      by_cases e3 : src j < k
      · rw [if_pos e3, if_pos (by omega)]
      · rw [if_neg e3, if_neg (by omega)]

theorem turn_inv (W H j k : Nat) (hW : 1 ≤ W ∧ W ≤ 5) (hH : 1 ≤ H ∧ H ≤ 5) (hj : j < W * H) (hk : k < W * H) : (turnAt W H j = k ↔ j = k % W * H + H - 1 - k / W) := by
  obtain ⟨a, b⟩ := hW
  obtain ⟨c, d⟩ := hH
  unfold turnAt
  rcases (show W = 1 ∨ W = 2 ∨ W = 3 ∨ W = 4 ∨ W = 5 by omega) with rfl | rfl | rfl | rfl | rfl <;>
  rcases (show H = 1 ∨ H = 2 ∨ H = 3 ∨ H = 4 ∨ H = 5 by omega) with rfl | rfl | rfl | rfl | rfl <;> omega
theorem turn_lt (W H k : Nat) (hW : 1 ≤ W ∧ W ≤ 5) (hH : 1 ≤ H ∧ H ≤ 5) (hk : k < W * H) : k % W * H + H - 1 - k / W < W * H ∧ turnAt W H k < W * H ∧ k / W < H ∧ k % W < W := by
  obtain ⟨a, b⟩ := hW
  obtain ⟨c, d⟩ := hH
  unfold turnAt
  rcases (show W = 1 ∨ W = 2 ∨ W = 3 ∨ W = 4 ∨ W = 5 by omega) with rfl | rfl | rfl | rfl | rfl <;>
  rcases (show H = 1 ∨ H = 2 ∨ H = 3 ∨ H = 4 ∨ H = 5 by omega) with rfl | rfl | rfl | rfl | rfl <;> omega
theorem flip_inv (W j k n : Nat) (hW : 1 ≤ W ∧ W ≤ 5) (hn : n % W = 0) (hj : j < n) (hk : k < n) : (flipAt W j = k ↔ j = k / W * W + W - 1 - k % W) := by
  obtain ⟨a, b⟩ := hW
  unfold flipAt
  rcases (show W = 1 ∨ W = 2 ∨ W = 3 ∨ W = 4 ∨ W = 5 by omega) with rfl | rfl | rfl | rfl | rfl <;> omega
theorem flip_lt (W k n : Nat) (hW : 1 ≤ W ∧ W ≤ 5) (hn : n % W = 0) (hk : k < n) : k / W * W + W - 1 - k % W < n ∧ flipAt W k < n ∧ k % W < W := by
  obtain ⟨a, b⟩ := hW
  unfold flipAt
  rcases (show W = 1 ∨ W = 2 ∨ W = 3 ∨ W = 4 ∨ W = 5 by omega) with rfl | rfl | rfl | rfl | rfl <;> omega

end Go.Proofs.Ytankkkiccokggaa
