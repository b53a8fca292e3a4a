/-
  Plain facts on the text of a picture: number by number it is what it is side by side; its signs.
-/
import Derived.Test.YtnochicpkcjjlaaDoorHf
namespace Go.Proofs.YtnochicpkcjjlaaDoor
open Go.RowKit
set_option linter.unusedVariables false

/-- The text of the first numbers, a new line behind the last of a side, else a blank. -/
def textB (bd : Nat → Bool) (xs : List Int) : Nat → List UInt8
  | 0 => []
  | n + 1 => textB bd xs n ++ Lib.itoa (xs.getD n 0) ++ (if bd (n + 1) then [10] else [32])
/-- Numbers, a blank behind each. -/
def parL (ys : List Int) : List UInt8 := ys.flatMap fun y => Lib.itoa y ++ [32]
theorem line_cons (x y : Int) (r : List Int) : lineL (x :: y :: r) = Lib.itoa x ++ [32] ++ lineL (y :: r) := by
  simp [lineL, Lib.join, List.intercalate, List.intersperse_cons_cons]
theorem line_snoc (ys : List Int) (y : Int) : lineL (ys ++ [y]) = parL ys ++ Lib.itoa y ++ [10] := by
  induction ys with
  | nil => simp [lineL, parL, Lib.join, List.intercalate]
  | cons x r ih =>
    cases r with
    | nil => simp only [List.cons_append, List.nil_append, line_cons]; simp [lineL, parL, Lib.join, List.intercalate]
    | cons z s =>
      simp only [List.cons_append] at ih ⊢
      rw [line_cons, ih]
      simp [parL]
theorem take_snoc (xs : List Int) (f j : Nat) (h : f + j < xs.length) : (xs.drop f).take (j + 1) = (xs.drop f).take j ++ [xs.getD (f + j) 0] := by
  rw [take_one (xs.drop f) j 0 (by simp; omega)]
  simp [List.getElem?_drop]
theorem seg_par (bd : Nat → Bool) (xs : List Int) (f j : Nat) (hj : f + j ≤ xs.length) (h : ∀ i, 1 ≤ i → i ≤ j → bd (f + i) = false) : textB bd xs (f + j) = textB bd xs f ++ parL ((xs.drop f).take j) := by
  induction j with
  | zero => simp [parL]
  | succ j ih =>
    rw [show f + (j + 1) = (f + j) + 1 by omega, textB, ih (by omega) (fun i h1 h2 => h i h1 (by omega)), take_snoc xs f j (by omega)]
    rw [show bd (f + j + 1) = false from by have := h (j + 1) (by omega) (by omega); rwa [← Nat.add_assoc] at this]
    simp [parL]
theorem seg_line (bd : Nat → Bool) (xs : List Int) (f m : Nat) (hm : 1 ≤ m) (hf : f + m ≤ xs.length) (h : ∀ i, 1 ≤ i → i < m → bd (f + i) = false) (hb : bd (f + m) = true) : textB bd xs (f + m) = textB bd xs f ++ lineL ((xs.drop f).take m) := by
  obtain ⟨j, rfl⟩ : ∃ j, m = j + 1 := ⟨m - 1, by omega⟩
  rw [show f + (j + 1) = (f + j) + 1 by omega, textB, seg_par bd xs f j (by omega) (fun i h1 h2 => h i h1 (by omega)), take_snoc xs f j (by omega), line_snoc]
  rw [show bd (f + j + 1) = true from by rwa [← Nat.add_assoc] at hb]
  simp
/-- Where a side ends. -/
def sideEnd (W H n : Nat) : Bool := decide (n = W ∨ n = W + H ∨ n = 2 * W + H ∨ n = W + H + W + H)
theorem text_pic (W H : Nat) (xs : List Int) (hW : 1 ≤ W) (hH : 1 ≤ H) (hl : xs.length = W + H + W + H) : textB (sideEnd W H) xs xs.length = picL W H xs := by
  have s1 := seg_line (sideEnd W H) xs 0 W hW (by omega) (fun i h1 h2 => decide_eq_false (by omega)) (decide_eq_true (by omega))
  have s2 := seg_line (sideEnd W H) xs W H hH (by omega) (fun i h1 h2 => decide_eq_false (by omega)) (decide_eq_true (by omega))
  have s3 := seg_line (sideEnd W H) xs (W + H) W hW (by omega) (fun i h1 h2 => decide_eq_false (by omega)) (decide_eq_true (by omega))
  have s4 := seg_line (sideEnd W H) xs (W + H + W) H hH (by omega) (fun i h1 h2 => decide_eq_false (by omega)) (decide_eq_true (by omega))
  rw [hl, s4, s3, s2]
  rw [Nat.zero_add] at s1
  rw [s1]
  simp [picL, textB]
theorem textB_len (bd : Nat → Bool) (xs : List Int) (hx : ∀ x ∈ xs, -9223372036854775808 ≤ x ∧ x ≤ 9223372036854775807) (n : Nat) : (textB bd xs n).length ≤ 22 * n := by
  induction n with
  | zero => simp [textB]
  | succ n ih =>
    have hi : (Lib.itoa (xs.getD n 0)).length ≤ 21 := by
      by_cases h : n < xs.length
      · have hm : xs.getD n 0 ∈ xs := by simp [List.getElem?_eq_getElem h]
        exact Lib.itoa_length_le _ (hx _ hm).1 (hx _ hm).2
      · rw [show xs.getD n 0 = 0 by simp [List.getElem?_eq_none (Nat.le_of_not_lt h)]]
        exact Lib.itoa_length_le _ (by omega) (by omega)
    have e : (if bd (n + 1) then [10] else [32] : List UInt8).length = 1 := by split <;> rfl
    simp only [textB, List.length_append, e]
    omega
end Go.Proofs.YtnochicpkcjjlaaDoor
