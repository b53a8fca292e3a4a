/-
  The contract of impl.GridRead.
-/
import Derived.Test.YteibklaabnnfbaaRn
namespace Go.Proofs.Yteibklaabnnfbaa
open Go.RowKit
set_option linter.unusedVariables false
attribute [local go_sem ↓] Go.wp_at_zero Go.wp_at_succ

theorem no_first (t : List UInt8) (h : ¬ (1 ≤ firstIdx (str t) 10 ∧ firstIdx (str t) 10 ≤ 5)) : ∀ wd cs, okG wd cs = true → textG wd cs ≠ t := by
  intro wd cs hok e
  obtain ⟨W, H, rfl, h1, h2, h3, h4, h5, h6, h7, _⟩ := read_shape t wd cs hok e
  rw [h7] at h
  omega
theorem no_rows (t : List UInt8) (W : Nat) (hf : firstIdx (str t) 10 = (W : Int)) (hW : 1 ≤ W ∧ W ≤ 5) (h : ¬ (t.length % (W + 1) = 0 ∧ t.length / (W + 1) ≤ 5)) : ∀ wd cs, okG wd cs = true → textG wd cs ≠ t := by
  intro wd cs hok e
  obtain ⟨V, H, rfl, h1, h2, h3, h4, h5, h6, h7, _⟩ := read_shape t wd cs hok e
  have : V = W := by omega
  subst this
  rw [h6, Nat.mul_mod_right, Nat.mul_div_cancel_left H (by omega)] at h
  omega
theorem no_sign (t : List UInt8) (W R r j : Nat) (hf : firstIdx (str t) 10 = (W : Int)) (hl : t.length = (W + 1) * R) (hr : r < R) (hj : j < W) (b : UInt8) (hb : t[r * (W + 1) + j]? = some b) (hc : cellI (b.toNat : Int) = (-1, 0)) : ∀ wd cs, okG wd cs = true → textG wd cs ≠ t := by
  intro wd cs hok e
  obtain ⟨V, H, rfl, h1, h2, h3, h4, h5, h6, h7, h8, _⟩ := read_shape t wd cs hok e
  have : V = W := by omega
  subst this
  have hH : H = R := Nat.eq_of_mul_eq_mul_left (show 0 < V + 1 by omega) (h6.symm.trans hl)
  subst hH
  obtain ⟨k, l, hk, e2⟩ := h8 r j hr hj
  rw [hb] at e2
  simp only [Option.some.injEq] at e2
  rw [e2, signB_val k l hk, cellI_sign k l hk] at hc
  rw [Prod.mk.injEq] at hc
  obtain ⟨rfl, rfl⟩ := hc
  simp [okC] at hk
theorem no_line (t : List UInt8) (W R r : Nat) (hf : firstIdx (str t) 10 = (W : Int)) (hl : t.length = (W + 1) * R) (hr : r < R) (b : UInt8) (hb : t[r * (W + 1) + W]? = some b) (hc : b ≠ 10) : ∀ wd cs, okG wd cs = true → textG wd cs ≠ t := by
  intro wd cs hok e
  obtain ⟨V, H, rfl, h1, h2, h3, h4, h5, h6, h7, _, h8⟩ := read_shape t wd cs hok e
  have : V = W := by omega
  subst this
  have hH : H = R := Nat.eq_of_mul_eq_mul_left (show 0 < V + 1 by omega) (h6.symm.trans hl)
  subst hH
  have e2 := h8 r hr
  rw [hb] at e2
  simp only [Option.some.injEq] at e2
  exact hc e2
theorem yes_all (t : List UInt8) (W R : Nat) (hW : 1 ≤ W ∧ W ≤ 5) (hR : 1 ≤ R ∧ R ≤ 5) (ds : List (Int × Int)) (hd : ds.length = R * W) (hok : (ds.all fun c => okC c.1 c.2) = true) (ht : textN W ds ds.length = t) : okG (W : Int) ds = true ∧ textG (W : Int) ds = t := by
  have h : okG (W : Int) ds = true := okG_of W R ds hW hR (by rw [hd, Nat.mul_comm]) hok
  exact ⟨h, by simp only [textG, h, if_true, Int.toNat_natCast]; exact ht⟩

/-- The rows that are done, and the row in hand. -/
structure RowInv (t : List UInt8) (W r j : Nat) (xs : List (Int × Int)) : Prop where
  form : ∃ ds es : List (Int × Int), xs = ds ++ es ∧ ds.length = r * W ∧ es.length = j ∧ textN W ds ds.length = t.take (r * (W + 1)) ∧ es.map signB = (t.drop (r * (W + 1))).take j
  ok : (xs.all fun c => okC c.1 c.2) = true
theorem RowInv.len {t : List UInt8} {W r j : Nat} {xs : List (Int × Int)} (h : RowInv t W r j xs) : xs.length = r * W + j := by
  obtain ⟨ds, es, rfl, h1, h2, _⟩ := h.form
  simp [h1, h2]
theorem RowInv.cell {t : List UInt8} {W r j : Nat} {xs : List (Int × Int)} (h : RowInv t W r j xs) (b : UInt8) (k l : Int) (hb : t[r * (W + 1) + j]? = some b) (hk : okC k l = true) (hc : cellI (b.toNat : Int) = (k, l)) : RowInv t W r (j + 1) (xs ++ [(k, l)]) := by
  obtain ⟨ds, es, rfl, h1, h2, h3, h4⟩ := h.form
  have hsb : signB (k, l) = b := by
    rcases cellI_cases (b.toNat : Int) with ⟨q1, q2⟩ | ⟨q1, q2⟩
    · rw [hc] at q2
      simp only at q2
      unfold signB
      simp only [q2, Int.toNat_natCast, UInt8.ofNat_toNat]
    · rw [hc] at q1
      rw [Prod.mk.injEq] at q1
      obtain ⟨rfl, rfl⟩ := q1
      simp [okC] at hk
  refine ⟨⟨ds, es ++ [(k, l)], by simp, h1, by simp [h2], h3, ?_⟩, ?_⟩
  · rw [List.map_append, h4]
    have hlt : j < (t.drop (r * (W + 1))).length := by
      have := (List.getElem?_eq_some_iff.1 hb).1
      simp only [List.length_drop]
      omega
    rw [List.take_succ_eq_append_getElem hlt]
    have : (t.drop (r * (W + 1)))[j] = b := by
      rw [List.getElem_drop]
      exact (List.getElem?_eq_some_iff.1 hb).2
    rw [this]
    simp [hsb]
  · rw [List.all_append, h.ok]
    simp [hk]
theorem RowInv.line {t : List UInt8} {W r : Nat} {xs : List (Int × Int)} (hW : 1 ≤ W ∧ W ≤ 5) (h : RowInv t W r W xs) (hb : t[r * (W + 1) + W]? = some 10) : RowInv t W (r + 1) 0 xs := by
  obtain ⟨ds, es, rfl, h1, h2, h3, h4⟩ := h.form
  refine ⟨⟨ds ++ es, [], by simp, by rw [List.length_append, h1, h2, Nat.add_mul]; omega, rfl, ?_, by simp⟩, h.ok⟩
  rw [row_full W r hW ds es h1 h2, h3, h4]
  have hlt : r * (W + 1) + W < t.length := (List.getElem?_eq_some_iff.1 hb).1
  have e10 : t[r * (W + 1) + W] = 10 := (List.getElem?_eq_some_iff.1 hb).2
  rw [show (r + 1) * (W + 1) = r * (W + 1) + W + 1 by rw [Nat.add_mul]; omega, List.take_succ_eq_append_getElem hlt, e10, List.take_add]
theorem RowInv.zero (t : List UInt8) (W : Nat) : RowInv t W 0 0 [] := ⟨⟨[], [], by simp, by simp, rfl, by simp [textN], by simp⟩, by simp⟩
theorem RowInv.whole {t : List UInt8} {W R : Nat} {xs : List (Int × Int)} (hW : 1 ≤ W ∧ W ≤ 5) (hR : 1 ≤ R ∧ R ≤ 5) (h : RowInv t W R 0 xs) (hl : t.length = (W + 1) * R) : okG (W : Int) xs = true ∧ textG (W : Int) xs = t := by
  obtain ⟨ds, es, rfl, h1, h2, h3, h4⟩ := h.form
  have : es = [] := List.eq_nil_of_length_eq_zero h2
  subst this
  rw [List.append_nil] at *
  refine yes_all t W R hW hR ds h1 (by simpa using h.ok) ?_
  rw [h3, List.take_of_length_le (by rw [hl, Nat.mul_comm]; exact Nat.le_refl _)]

end Go.Proofs.Yteibklaabnnfbaa
