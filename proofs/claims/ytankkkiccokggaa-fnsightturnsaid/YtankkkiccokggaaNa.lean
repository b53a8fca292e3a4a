/-
  Plain facts on ok grids.
-/
import Derived.Test.YtankkkiccokggaaOa
namespace Go.Proofs.Ytankkkiccokggaa
set_option linter.unusedVariables false

theorem okG_nat (wd : Int) (cs : List (Int × Int)) (h : okG wd cs = true) : ∃ W H : Nat, wd = W ∧ 1 ≤ W ∧ W ≤ 5 ∧ 1 ≤ H ∧ H ≤ 5 ∧ cs.length = W * H ∧ cs.length / W = H ∧ (cs.length : Int) / wd = H := by
  simp only [okG, sizeG, Bool.and_eq_true, decide_eq_true_eq] at h
  obtain ⟨⟨h1, h2, h3, h4, h5⟩, _⟩ := h
  obtain ⟨W, rfl⟩ := Int.eq_ofNat_of_zero_le (show 0 ≤ wd by omega)
  refine ⟨W, cs.length / W, rfl, by omega, by omega, ?_, ?_, ?_, rfl, by simp⟩
  all_goals
    rcases (show W = 1 ∨ W = 2 ∨ W = 3 ∨ W = 4 ∨ W = 5 by omega) with rfl | rfl | rfl | rfl | rfl <;> omega

theorem okG_cell (wd : Int) (cs : List (Int × Int)) (h : okG wd cs = true) (k : Nat) (hk : k < cs.length) : okC cs[k].1 cs[k].2 = true := by
  simp only [okG, Bool.and_eq_true, List.all_eq_true] at h
  exact h.2 cs[k] (List.getElem_mem hk)

end Go.Proofs.Ytankkkiccokggaa
