/-
  How many cells of a grid have no next one, by the way.
-/
import Derived.Test.YtgikknbjmbolaaaYy
namespace Go.Proofs.Ytgikknbjmbolaaa
open Go.RowKit
set_option linter.unusedVariables false

/-- Of the first k cells, how many have no next one that way. -/
def cntE (wd : Int) (cs : List (Int × Int)) (d : Int) (k : Nat) : Nat := ((List.range k).filter fun (i : Nat) => !(rayN wd cs (i : Int) d).2.2).length
theorem cntE_zero (wd : Int) (cs : List (Int × Int)) (d : Int) : cntE wd cs d 0 = 0 := rfl
theorem cntE_step (wd : Int) (cs : List (Int × Int)) (d : Int) (k : Nat) (x2 d2 : Int) (b : Bool) (h : rayN wd cs (k : Int) d = (x2, d2, b)) : cntE wd cs d (k + 1) = cntE wd cs d k + (if b then 0 else 1) := by
  unfold cntE
  rw [List.range_succ, List.filter_append, List.length_append]
  cases b <;> simp [h]
theorem cntE_le (wd : Int) (cs : List (Int × Int)) (d : Int) (k : Nat) : cntE wd cs d k ≤ k := by
  unfold cntE
  exact Nat.le_trans (List.length_filter_le _ _) (by simp)
theorem edges : ∀ W : Fin 5, ∀ H : Fin 5, ∀ d : Fin 4, ((List.range ((W.val + 1) * (H.val + 1))).filter fun (i : Nat) => !inG ((i : Int) / ((W.val + 1 : Nat) : Int) + dRow (d.val : Nat)) ((i : Int) % ((W.val + 1 : Nat) : Int) + dCol (d.val : Nat)) ((W.val + 1 : Nat) : Int) ((H.val + 1 : Nat) : Int)).length = if d.val % 2 = 0 then W.val + 1 else H.val + 1 := by decide +kernel
theorem cntE_all {wd : Int} {cs : List (Int × Int)} (h : okG wd cs = true) (d : Nat) (hd : d < 4) : (cntE wd cs d cs.length : Int) = if d % 2 = 0 then wd else (cs.length : Int) / wd := by
  obtain ⟨W, H, ew, h1, h2, h3, h4, el, hH, hHI, hn⟩ := shapeG h
  have e := edges ⟨W - 1, by omega⟩ ⟨H - 1, by omega⟩ ⟨d, hd⟩
  simp only [show W - 1 + 1 = W by omega, show H - 1 + 1 = H by omega] at e
  have e2 : cntE wd cs d cs.length = if d % 2 = 0 then W else H := by
    rw [← e, ← el]
    unfold cntE
    congr 1
    apply List.filter_congr
    intro i hi
    rw [List.mem_range] at hi
    unfold rayN
    rw [ew, hHI]
    rw [ew] at h
    by_cases k : inG ((i : Int) / (W : Int) + dRow (d : Nat)) ((i : Int) % (W : Int) + dCol (d : Nat)) W H = true
    · rw [if_pos ⟨h, by omega, by omega, k⟩, k]
    · rw [if_neg (fun q => k q.2.2.2)]
      simp at k
      rw [k]
  rw [e2]
  split
  · exact ew.symm
  · rw [ew]; exact hHI.symm
end Go.Proofs.Ytgikknbjmbolaaa
