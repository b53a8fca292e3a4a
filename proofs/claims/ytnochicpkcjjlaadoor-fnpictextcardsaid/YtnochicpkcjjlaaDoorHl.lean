/-
  How many lines and blanks the text of a picture has.
-/
import Derived.Test.YtnochicpkcjjlaaDoorHp
namespace Go.Proofs.YtnochicpkcjjlaaDoor
open Go.RowKit
set_option linter.unusedVariables false

theorem dec_signs (u : Nat) : ∀ b ∈ Lib.decDigits u, 48 ≤ b.toNat := by
  induction u using Nat.strongRecOn with
  | _ u ih =>
    intro b hb
    rw [Lib.decDigits] at hb
    split at hb
    · next h =>
      simp only [List.mem_singleton] at hb
      rw [hb, UInt8.toNat_ofNat']
      omega
    · next h =>
      rcases List.mem_append.1 hb with hb | hb
      · exact ih (u / 10) (by omega) b hb
      · simp only [List.mem_singleton] at hb
        rw [hb, UInt8.toNat_ofNat']
        omega
theorem itoa_signs (n : Int) : ∀ b ∈ Lib.itoa n, 45 ≤ b.toNat := by
  intro b hb
  unfold Lib.itoa at hb
  split at hb
  · rcases List.mem_cons.1 hb with rfl | hb
    · decide
    · have := dec_signs _ b hb; omega
  · have := dec_signs _ b hb; omega
/-- How often a byte is in a row. -/
def cntB (c : UInt8) : List UInt8 → Nat
  | [] => 0
  | b :: r => (if b = c then 1 else 0) + cntB c r
theorem cntB_append (c : UInt8) (x y : List UInt8) : cntB c (x ++ y) = cntB c x + cntB c y := by
  induction x with
  | nil => simp [cntB]
  | cons b r ih => simp only [List.cons_append, cntB, ih]; omega
theorem cntB_no (c : UInt8) (x : List UInt8) (h : ∀ b ∈ x, b ≠ c) : cntB c x = 0 := by
  induction x with
  | nil => rfl
  | cons b r ih => simp only [cntB]; rw [if_neg (h b (by simp)), ih (fun d hd => h d (by simp [hd]))]
theorem cnt_itoa (n : Int) (c : UInt8) (hc : c.toNat < 45) : cntB c (Lib.itoa n) = 0 := cntB_no c _ (fun b hb e => by have := itoa_signs n b hb; rw [e] at this; omega)
theorem cnt_par (ys : List Int) : cntB 10 (parL ys) = 0 ∧ cntB 32 (parL ys) = ys.length := by
  induction ys with
  | nil => exact ⟨rfl, rfl⟩
  | cons y r ih =>
    have e : parL (y :: r) = Lib.itoa y ++ [32] ++ parL r := by simp [parL]
    rw [e, cntB_append, cntB_append, cntB_append, cntB_append, ih.1, ih.2, cnt_itoa y 10 (by decide), cnt_itoa y 32 (by decide)]
    refine ⟨by simp [cntB], ?_⟩
    simp [cntB]
    omega
theorem cnt_line (ys : List Int) (h : 1 ≤ ys.length) : cntB 10 (lineL ys) = 1 ∧ cntB 32 (lineL ys) = ys.length - 1 := by
  obtain ⟨zs, y, rfl⟩ : ∃ zs y, ys = zs ++ [y] := ⟨ys.dropLast, ys.getLast (by intro q; rw [q] at h; simp at h), (List.dropLast_concat_getLast _).symm⟩
  obtain ⟨p1, p2⟩ := cnt_par zs
  rw [line_snoc, cntB_append, cntB_append, cntB_append, cntB_append, p1, p2, cnt_itoa y 10 (by decide), cnt_itoa y 32 (by decide)]
  simp [cntB]
theorem cnt_pic (W H : Nat) (xs : List Int) (hW : 1 ≤ W) (hH : 1 ≤ H) (hl : xs.length = W + H + W + H) : cntB 10 (picL W H xs) = 4 ∧ cntB 32 (picL W H xs) = xs.length - 4 := by
  have l1 : (xs.take W).length = W := by simp; omega
  have l2 : ((xs.drop W).take H).length = H := by simp; omega
  have l3 : ((xs.drop (W + H)).take W).length = W := by simp; omega
  have l4 : ((xs.drop (W + H + W)).take H).length = H := by simp; omega
  obtain ⟨a1, b1⟩ := cnt_line (xs.take W) (by omega)
  obtain ⟨a2, b2⟩ := cnt_line ((xs.drop W).take H) (by omega)
  obtain ⟨a3, b3⟩ := cnt_line ((xs.drop (W + H)).take W) (by omega)
  obtain ⟨a4, b4⟩ := cnt_line ((xs.drop (W + H + W)).take H) (by omega)
  unfold picL
  rw [cntB_append, cntB_append, cntB_append, cntB_append, cntB_append, cntB_append, a1, a2, a3, a4, b1, b2, b3, b4, l1, l2, l3, l4]
  exact ⟨by omega, by omega⟩
theorem cnt_T {wd : Int} {cs : List (Int × Int)} {xs : List Int} (hok : okG wd cs = true) (hl : (xs.length : Int) = manyG wd cs) : cntB 10 (picT wd cs xs) = 4 ∧ cntB 32 (picT wd cs xs) = xs.length - 4 ∧ 4 ≤ xs.length := by
  obtain ⟨W, H, rfl, h1, h2, h3, h4, el, hH, hHI⟩ := okG_nat wd cs hok
  have hMW : manyG (W : Int) cs = 2 * ((W : Int) + (H : Int)) := by unfold manyG; rw [if_pos hok, hHI]
  have hxl : xs.length = W + H + W + H := by omega
  have e : picT (W : Int) cs xs = picL W H xs := by unfold picT; rw [if_pos ⟨hok, hl⟩, Int.toNat_natCast, hH]
  rw [e]
  obtain ⟨c1, c2⟩ := cnt_pic W H xs h1 h3 hxl
  exact ⟨c1, c2, by omega⟩
theorem picT_len (wd : Int) (cs : List (Int × Int)) (xs : List Int) (hx : ∀ x ∈ xs, -9223372036854775808 ≤ x ∧ x ≤ 9223372036854775807) : (picT wd cs xs).length ≤ 2000 := by
  unfold picT
  split
  · next h =>
    obtain ⟨W, H, rfl, h1, h2, h3, h4, el, hH, hHI⟩ := okG_nat wd cs h.1
    have hMW : manyG (W : Int) cs = 2 * ((W : Int) + (H : Int)) := by unfold manyG; rw [if_pos h.1, hHI]
    have hxl : xs.length = W + H + W + H := by omega
    rw [Int.toNat_natCast, hH, ← text_pic W H xs h1 h3 hxl]
    have := textB_len (sideEnd W H) xs hx xs.length
    omega
  · simp
theorem cnt_take (c : UInt8) (l : List UInt8) (k : Nat) (h : k < l.length) : cntB c (l.take (k + 1)) = cntB c (l.take k) + (if l.getD k 0 = c then 1 else 0) := by
  rw [take_one l k 0 h, cntB_append]
  simp [cntB]
theorem cnt_le (c : UInt8) (l : List UInt8) : cntB c l ≤ l.length := by
  induction l with
  | nil => simp [cntB]
  | cons b r ih => simp only [cntB, List.length_cons]; split <;> omega
end Go.Proofs.YtnochicpkcjjlaaDoor
