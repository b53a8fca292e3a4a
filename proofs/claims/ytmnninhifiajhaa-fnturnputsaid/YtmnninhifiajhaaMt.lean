/-
  Plain facts: what is put turns with the grid, and stands in the mirror where it should.
-/
import Derived.Test.YtmnninhifiajhaaMp
namespace Go.Proofs.Ytmnninhifiajhaa
open Go.RowKit
set_option linter.unusedVariables false

theorem perm_set (s : Nat → Nat) (f : Int × Int → Int × Int) (cs : List (Int × Int)) (i p : Nat) (c : Int × Int) (hi : i < cs.length) (h : ∀ j, j < cs.length → (s j = i ↔ j = p)) :
    perm s f (cs.set i c) = (perm s f cs).set p (f c) := by
  apply List.ext_getElem
  · simp [perm]
  · intro j h1 h2
    have hj : j < cs.length := by simpa [perm] using h1
    have hh := h j hj
    rw [List.getElem_set]
    simp only [perm, List.getElem_map, List.getElem_range, List.getD_eq_getElem?_getD, List.getElem?_set]
    by_cases e : p = j
    · have e2 : s j = i := hh.2 e.symm
      rw [if_pos e, if_pos e2.symm, if_pos hi]
      rfl
    · have e2 : ¬ i = s j := fun x => e (hh.1 x.symm).symm
      rw [if_neg e, if_neg e2]

theorem other_same (k l : Int) (hk : ¬ (2 ≤ k ∧ k ≤ 5)) : other (k, l) = (k, l) := by
  simp only [other, otherK, Prod.mk.injEq, and_true]
  rw [if_neg (by omega), if_neg (by omega), if_neg (by omega), if_neg (by omega)]

theorem turn_put {wd xw : Int} {cs xc : List (Int × Int)} {at_ k l : Int} (hx : putG wd cs at_ k l = (xw, xc, true)) (hk : ¬ (2 ≤ k ∧ k ≤ 5)) :
    ∃ (hi ro co ch rw_ : Int) (tc fc uc vc : List (Int × Int)), (cs.length : Int) / wd = hi ∧ at_ / wd = ro ∧ at_ % wd = co ∧ co * hi = ch ∧ ro * wd = rw_ ∧
      (1 ≤ hi ∧ hi ≤ 5) ∧ (0 ≤ ro ∧ ro < hi) ∧ (0 ≤ co ∧ co < wd) ∧ (0 ≤ ch ∧ ch ≤ 25) ∧ (0 ≤ rw_ ∧ rw_ ≤ 25) ∧
      turnG wd cs = (hi, tc) ∧ putG hi tc (ch + hi - 1 - ro) k l = (hi, uc, true) ∧ turnG xw xc = (hi, uc) ∧
      flipG wd cs = (wd, fc) ∧ putG wd fc (rw_ + wd - 1 - co) k l = (wd, vc, true) ∧ flipG xw xc = (wd, vc) ∧
      tc.length ≤ 25 ∧ fc.length ≤ 25 := by
  obtain ⟨i, rfl, i1, i2, i3, rfl, rfl, i6⟩ := putG_yes hx
  obtain ⟨W, H, rfl, h1, h2, h3, h4, h5, h6, h7⟩ := okG_nat _ cs i2
  have h25 := okG_len _ _ i2
  have t1 := turnG_ok W H cs i2 ⟨h1, h2⟩ ⟨h3, h4⟩ h5
  have f1 := flipG_ok W H cs i2 ⟨h1, h2⟩ ⟨h3, h4⟩ h5
  have t2 := turnG_ok W H (cs.set i (k, l)) i6 ⟨h1, h2⟩ ⟨h3, h4⟩ (by simpa using h5)
  have f2 := flipG_ok W H (cs.set i (k, l)) i6 ⟨h1, h2⟩ ⟨h3, h4⟩ (by simpa using h5)
  have iW : i < W * H := by omega
  have b1 := turn_lt W H i ⟨h1, h2⟩ ⟨h3, h4⟩ iW
  have b2 := flip_lt W i cs.length ⟨h1, h2⟩ (by rw [h5]; exact Nat.mul_mod_right W H) i1
  have e1 : ((i : Int) / (W : Int)) = ((i / W : Nat) : Int) := by simp
  have e2 : ((i : Int) % (W : Int)) = ((i % W : Nat) : Int) := by simp
  have m1 : i % W * H ≤ W * H := Nat.mul_le_mul_right H (by omega)
  have m2 : i / W * W ≤ H * W := Nat.mul_le_mul_right W (by omega)
  have m3 : W * H ≤ 25 := by omega
  have m4 : H * W = W * H := Nat.mul_comm _ _
  have m5 : H * W ≤ 25 := m4 ▸ m3
  have c1 : (((i % W : Nat) : Int) * (H : Int)) = ((i % W * H : Nat) : Int) := by simp
  have c2 : (((i / W : Nat) : Int) * (W : Int)) = ((i / W * W : Nat) : Int) := by simp
  have p1 : (((i % W * H : Nat) : Int) + (H : Int) - 1 - ((i / W : Nat) : Int)) = ((i % W * H + H - 1 - i / W : Nat) : Int) := by omega
  have p2 : (((i / W * W : Nat) : Int) + (W : Int) - 1 - ((i % W : Nat) : Int)) = ((i / W * W + W - 1 - i % W : Nat) : Int) := by omega
  refine ⟨(H : Int), ((i / W : Nat) : Int), ((i % W : Nat) : Int), ((i % W * H : Nat) : Int), ((i / W * W : Nat) : Int), _, _, _, _, h7, e1, e2, c1, c2, by omega, ⟨Int.natCast_nonneg _, Int.ofNat_lt.2 b1.2.2.1⟩, ⟨Int.natCast_nonneg _, Int.ofNat_lt.2 b1.2.2.2⟩, ⟨Int.natCast_nonneg _, Int.ofNat_le.2 (Nat.le_trans m1 m3)⟩, ⟨Int.natCast_nonneg _, Int.ofNat_le.2 (Nat.le_trans m2 m5)⟩,
    t1.1, ?_, t2.1, f1.1, ?_, f2.1, by rw [perm_len]; omega, by rw [perm_len]; omega⟩
  · rw [p1, putG_at _ _ _ _ _ (by rw [perm_len, h5]; exact b1.1) t1.2 i3]
    rw [perm_set (turnAt W H) other cs i _ (k, l) i1 (fun j hj => turn_inv W H j i ⟨h1, h2⟩ ⟨h3, h4⟩ (by rw [← h5]; exact hj) iW), other_same k l hk]
  · rw [p2, putG_at _ _ _ _ _ (by rw [perm_len]; exact b2.1) f1.2 i3]
    rw [perm_set (flipAt W) other cs i _ (k, l) i1 (fun j hj => flip_inv W j i cs.length ⟨h1, h2⟩ (by rw [h5]; exact Nat.mul_mod_right W H) hj i1), other_same k l hk]

end Go.Proofs.Ytmnninhifiajhaa
