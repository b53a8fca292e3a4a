/-
  The contract of spec.GridFlip: the mirrored grid in new memory, or an empty one; it turns no memory that was there.
-/
import Derived.Test.YtmnninhifiajhaaTz
import Derived.Test.YtmnninhifiajhaaTd
namespace Go.Proofs.Ytmnninhifiajhaa
open Go.RowKit
set_option linter.unusedVariables false
set_option maxRecDepth 20000
attribute [local go_sem ↓] Go.wp_at_zero Go.wp_at_succ

theorem flip_step (W H c t R : Nat) (hW : 1 ≤ W ∧ W ≤ 5) (hH : 1 ≤ H ∧ H ≤ 5) (hc : c < H) (hR : R + t + 1 = W) : flipAt W (c * W + t) = c * W + R ∧ c * W + t < W * H ∧ c * W + R < W * H := by
  have h1 : (c * W + t) % W = t := by rw [Nat.add_comm, Nat.add_mul_mod_self_right]; exact Nat.mod_eq_of_lt (by omega)
  have h2 : (c * W + t) / W = c := by rw [Nat.add_comm, Nat.add_mul_div_right _ _ (by omega), Nat.div_eq_of_lt (by omega)]; omega
  have h3 : W - 1 - t = R := by omega
  have : (c + 1) * W ≤ H * W := Nat.mul_le_mul_right W hc
  rw [Nat.add_mul] at this
  rw [Nat.mul_comm W H]
  refine ⟨by unfold flipAt; rw [h1, h2, h3], by omega, by omega⟩
theorem flipC_step (W : Nat) (cs : List (Int × Int)) (m p : Nat) (hm : m < cs.length) (hp : flipAt W m = p) : (flipC W cs).take (m + 1) = (flipC W cs).take m ++ [other (cs.getD p (0, 0))] := by
  have hl : m < (flipC W cs).length := by simp [flipC, hm]
  rw [List.take_succ_eq_append_getElem hl]
  simp only [flipC, List.getElem_map, List.getElem_range, hp]

end Go.Proofs.Ytmnninhifiajhaa
