/-
  The cell of a sign: impl.cellOfSign and spec.l1Cell.
-/
import Derived.Test.YteibklaabnnfbaaSf
namespace Go.Proofs.Yteibklaabnnfbaa
open Go.RowKit
set_option linter.unusedVariables false
attribute [local go_sem ↓] Go.wp_at_zero Go.wp_at_succ

/-- The cell that has a sign; of kind -1, if none has it. -/
def cellI (x : Int) : Int × Int := if 49 ≤ x ∧ x ≤ 57 then (7, x - 48) else if x = 46 then (0, 0) else if x = 35 then (1, 0) else if x = 47 then (2, 0) else if x = 92 then (3, 0) else if x = 120 then (4, 0) else if x = 122 then (5, 0) else if x = 58 then (6, 0) else (-1, 0)

theorem cellI_sign (k l : Int) (h : okC k l = true) : cellI (signC k l) = (k, l) := by
  rcases okC_cases k l h with ⟨rfl, a1, a2⟩ | ⟨rfl, rfl | rfl | rfl | rfl | rfl | rfl | rfl⟩
  · simp only [signC, if_true]
    unfold cellI
    rw [if_pos (by omega)]
    congr 1
    omega
  all_goals simp [signC, cellI]
theorem cellI_cases (x : Int) : (okC (cellI x).1 (cellI x).2 = true ∧ signC (cellI x).1 (cellI x).2 = x) ∨ (cellI x = (-1, 0) ∧ ∀ k l, okC k l = true → signC k l ≠ x) := by
  by_cases h : okC (cellI x).1 (cellI x).2 = true
  · left
    refine ⟨h, ?_⟩
    unfold cellI at h ⊢
    split at h <;> rename_i q
    · rw [if_pos q]; simp only [signC, if_true]; omega
    rw [if_neg q]
    split at h <;> rename_i q
    · rw [if_pos q]; simp [signC, q]
    rw [if_neg q]
    split at h <;> rename_i q
    · rw [if_pos q]; simp [signC, q]
    rw [if_neg q]
    split at h <;> rename_i q
    · rw [if_pos q]; simp [signC, q]
    rw [if_neg q]
    split at h <;> rename_i q
    · rw [if_pos q]; simp [signC, q]
    rw [if_neg q]
    split at h <;> rename_i q
    · rw [if_pos q]; simp [signC, q]
    rw [if_neg q]
    split at h <;> rename_i q
    · rw [if_pos q]; simp [signC, q]
    rw [if_neg q]
    split at h <;> rename_i q
    · rw [if_pos q]; simp [signC, q]
    · simp [okC] at h
  · right
    have hno : ∀ k l, okC k l = true → signC k l ≠ x := by
      intro k l hk e
      rw [← e, cellI_sign k l hk] at h
      exact h hk
    refine ⟨?_, hno⟩
    unfold cellI at h ⊢
    split at h <;> rename_i q
    · exfalso; apply h; simp only [okC, if_true, decide_eq_true_eq]; omega
    rw [if_neg q]
    split at h <;> rename_i q
    · exact absurd (by simp [okC]) h
    rw [if_neg q]
    split at h <;> rename_i q
    · exact absurd (by simp [okC]) h
    rw [if_neg q]
    split at h <;> rename_i q
    · exact absurd (by simp [okC]) h
    rw [if_neg q]
    split at h <;> rename_i q
    · exact absurd (by simp [okC]) h
    rw [if_neg q]
    split at h <;> rename_i q
    · exact absurd (by simp [okC]) h
    rw [if_neg q]
    split at h <;> rename_i q
    · exact absurd (by simp [okC]) h
    rw [if_neg q]
    split at h <;> rename_i q
    · exact absurd (by simp [okC]) h
    · rw [if_neg q]

end Go.Proofs.Yteibklaabnnfbaa
