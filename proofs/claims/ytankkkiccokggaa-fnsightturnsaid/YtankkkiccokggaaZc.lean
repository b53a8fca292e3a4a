/-
  Plain facts on sights: where light comes in it leaves, going back; light leaves just where there is no next cell.
-/
import Derived.Test.YtankkkiccokggaaZb
import Derived.Test.YtankkkiccokggaaYb
namespace Go.Proofs.Ytankkkiccokggaa
open Go.RowKit
set_option linter.unusedVariables false

/-- A number in Int's form. -/
abbrev nI (n : Nat) : Int := (n : Int)
theorem sights_fin : ∀ W : Fin 5, ∀ H : Fin 5, ∀ k : Fin 20, k.val < 2 * (W.val + 1 + (H.val + 1)) →
    (0 ≤ (sRay (nI (W.val + 1)) (nI (H.val + 1)) (nI k.val)).1 ∧ (sRay (nI (W.val + 1)) (nI (H.val + 1)) (nI k.val)).1 < nI (W.val + 1) * nI (H.val + 1)) ∧
    inG ((sRay (nI (W.val + 1)) (nI (H.val + 1)) (nI k.val)).1 / nI (W.val + 1) + dRow (((sRay (nI (W.val + 1)) (nI (H.val + 1)) (nI k.val)).2 + 2) % 4)) ((sRay (nI (W.val + 1)) (nI (H.val + 1)) (nI k.val)).1 % nI (W.val + 1) + dCol (((sRay (nI (W.val + 1)) (nI (H.val + 1)) (nI k.val)).2 + 2) % 4)) (nI (W.val + 1)) (nI (H.val + 1)) = false ∧
    ofN (nI (W.val + 1)) (nI (H.val + 1)) (sRay (nI (W.val + 1)) (nI (H.val + 1)) (nI k.val)).1 (((sRay (nI (W.val + 1)) (nI (H.val + 1)) (nI k.val)).2 + 2) % 4) (2 * (W.val + 1 + (H.val + 1))) = nI k.val := by decide +kernel
theorem leaves_fin : ∀ W : Fin 5, ∀ H : Fin 5, ∀ x : Fin 25, ∀ d : Fin 4, x.val < (W.val + 1) * (H.val + 1) →
    if inG (nI x.val / nI (W.val + 1) + dRow (nI d.val)) (nI x.val % nI (W.val + 1) + dCol (nI d.val)) (nI (W.val + 1)) (nI (H.val + 1)) = true then ofN (nI (W.val + 1)) (nI (H.val + 1)) (nI x.val) (nI d.val) (2 * (W.val + 1 + (H.val + 1))) = -1
    else (0 ≤ ofN (nI (W.val + 1)) (nI (H.val + 1)) (nI x.val) (nI d.val) (2 * (W.val + 1 + (H.val + 1))) ∧ ofN (nI (W.val + 1)) (nI (H.val + 1)) (nI x.val) (nI d.val) (2 * (W.val + 1 + (H.val + 1))) < 2 * (nI (W.val + 1) + nI (H.val + 1))) ∧
      sRay (nI (W.val + 1)) (nI (H.val + 1)) (ofN (nI (W.val + 1)) (nI (H.val + 1)) (nI x.val) (nI d.val) (2 * (W.val + 1 + (H.val + 1)))) = (nI x.val, (nI d.val + 2) % 4) := by decide +kernel

/-- Where light comes in it leaves, going back; no next cell there. -/
theorem sight_back (W H k : Nat) (hW : 1 ≤ W ∧ W ≤ 5) (hH : 1 ≤ H ∧ H ≤ 5) (hk : k < 2 * (W + H)) (x d : Int) (hs : sRay W H k = (x, d)) :
    (0 ≤ x ∧ x < (W : Int) * (H : Int)) ∧ (0 ≤ d ∧ d ≤ 3) ∧ inG (x / (W : Int) + dRow ((d + 2) % 4)) (x % (W : Int) + dCol ((d + 2) % 4)) W H = false ∧ ofN W H x ((d + 2) % 4) (2 * (W + H)) = (k : Int) := by
  have h := sights_fin ⟨W - 1, by omega⟩ ⟨H - 1, by omega⟩ ⟨k, by omega⟩
  simp only [show W - 1 + 1 = W by omega, show H - 1 + 1 = H by omega, nI] at h
  have h2 := h hk
  rw [hs] at h2
  exact ⟨h2.1, sRay_dir _ _ _ _ _ hs, h2.2.1, h2.2.2⟩
/-- Light leaves just where there is no next cell, and it comes in there. -/
theorem sight_out (W H x d : Nat) (hW : 1 ≤ W ∧ W ≤ 5) (hH : 1 ≤ H ∧ H ≤ 5) (hx : x < W * H) (hd : d < 4) :
    (inG ((x : Int) / (W : Int) + dRow (d : Int)) ((x : Int) % (W : Int) + dCol (d : Int)) W H = true ∧ ofN W H x d (2 * (W + H)) = -1) ∨
    (inG ((x : Int) / (W : Int) + dRow (d : Int)) ((x : Int) % (W : Int) + dCol (d : Int)) W H = false ∧ ∃ k : Nat, k < 2 * (W + H) ∧ ofN W H x d (2 * (W + H)) = (k : Int) ∧ sRay W H k = ((x : Int), ((d : Int) + 2) % 4)) := by
  have hx2 : x < 25 := Nat.lt_of_lt_of_le hx (Nat.le_trans (Nat.mul_le_mul hW.2 hH.2) (by omega))
  have h := leaves_fin ⟨W - 1, by omega⟩ ⟨H - 1, by omega⟩ ⟨x, hx2⟩ ⟨d, hd⟩
  simp only [show W - 1 + 1 = W by omega, show H - 1 + 1 = H by omega, nI] at h
  have h2 := h hx
  by_cases q : inG ((x : Int) / (W : Int) + dRow (d : Int)) ((x : Int) % (W : Int) + dCol (d : Int)) W H = true
  · rw [if_pos q] at h2
    exact Or.inl ⟨q, h2⟩
  · rw [if_neg q] at h2
    obtain ⟨⟨k0, k1⟩, k2⟩ := h2
    obtain ⟨k, hk⟩ := Int.eq_ofNat_of_zero_le k0
    rw [hk] at k1 k2
    exact Or.inr ⟨by simpa using q, k, by omega, hk, k2⟩
/-- Each sight has a ray of its own. -/
theorem sight_inj (W H k j : Nat) (hW : 1 ≤ W ∧ W ≤ 5) (hH : 1 ≤ H ∧ H ≤ 5) (hk : k < 2 * (W + H)) (hj : j < 2 * (W + H)) (h : sRay W H k = sRay W H j) : k = j := by
  obtain ⟨x, d, hs⟩ : ∃ x d, sRay W H (k : Int) = (x, d) := ⟨_, _, rfl⟩
  have e1 := (sight_back W H k hW hH hk x d hs).2.2.2
  have e2 := (sight_back W H j hW hH hj x d (h.symm.trans hs)).2.2.2
  omega
end Go.Proofs.Ytankkkiccokggaa
