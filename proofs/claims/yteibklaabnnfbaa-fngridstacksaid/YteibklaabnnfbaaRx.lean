/-
  Rows behind rows: the text of two grids of one width, one behind the other, is the two texts; of no other two is it a grid's.
-/
import Derived.Test.YteibklaabnnfbaaRm
namespace Go.Proofs.Yteibklaabnnfbaa
open Go.RowKit
set_option linter.unusedVariables false

theorem textN_shift (W r : Nat) (hW : 1 ≤ W) (cs ds : List (Int × Int)) (hd : cs.length = r * W) (n : Nat) (hn : n ≤ ds.length) : textN W (cs ++ ds) (cs.length + n) = textN W cs cs.length ++ textN W ds n := by
  induction n with
  | zero => simp [textN, textN_app W cs ds cs.length (Nat.le_refl _)]
  | succ n ih =>
    have hl : n < ds.length := by omega
    have e1 : (cs ++ ds).getD (cs.length + n) (0, 0) = ds.getD n (0, 0) := by
      rw [List.getD_eq_getElem?_getD, List.getElem?_append_right (by omega), List.getD_eq_getElem?_getD]
      simp
    have e2 : (cs.length + n + 1) % W = (n + 1) % W := by rw [hd, Nat.add_assoc, Nat.mul_comm, Nat.mul_add_mod]
    rw [← Nat.add_assoc]
    simp only [textN, ih (by omega), e1, e2, List.append_assoc]
theorem stack_yes {wd : Int} {cs ds : List (Int × Int)} (h : okG wd cs = true) (h2 : okG wd ds = true) (hl : ((cs ++ ds).length : Int) ≤ 5 * wd) : okG wd (cs ++ ds) = true ∧ textG wd (cs ++ ds) = textG wd cs ++ textG wd ds := by
  obtain ⟨W, H, rfl, a1, a2, a3, a4, a5, a6, a7⟩ := okG_nat _ cs h
  obtain ⟨V, K, eV, b1, b2, b3, b4, b5, b6, b7⟩ := okG_nat _ ds h2
  have : V = W := by omega
  subst this
  have hlen : (cs ++ ds).length = V * (H + K) := by rw [List.length_append, a5, b5, Nat.mul_add]
  have hHK : H + K ≤ 5 := by
    rw [hlen] at hl
    have : V * (H + K) ≤ V * 5 := by rw [Nat.mul_comm V 5]; exact_mod_cast hl
    exact Nat.le_of_mul_le_mul_left this (by omega)
  have ok : okG (V : Int) (cs ++ ds) = true := okG_of V (H + K) _ ⟨a1, a2⟩ ⟨by omega, hHK⟩ hlen (by rw [List.all_append, okG_all _ _ h, okG_all _ _ h2]; rfl)
  refine ⟨ok, ?_⟩
  simp only [textG, ok, h, h2, if_true, Int.toNat_natCast]
  rw [List.length_append]
  exact textN_shift V H a1 cs ds (by rw [a5, Nat.mul_comm]) ds.length (Nat.le_refl _)
theorem stack_no {wd wd2 : Int} {cs ds : List (Int × Int)} (h : okG wd cs = true) (h2 : okG wd2 ds = true) (hno : ¬ (wd = wd2 ∧ ((cs ++ ds).length : Int) ≤ 5 * wd)) : ∀ x es, okG x es = true → textG x es ≠ textG wd cs ++ textG wd2 ds := by
  intro x es hx e
  obtain ⟨W, H, rfl, a1, a2, a3, a4, a5, a6, a7⟩ := okG_nat _ cs h
  obtain ⟨V, K, rfl, b1, b2, b3, b4, b5, b6, b7⟩ := okG_nat _ ds h2
  obtain ⟨U, J, rfl, c1, c2, c3, c4, c5, c6, c7⟩ := okG_nat _ es hx
  have ec : textG (W : Int) cs = textN W cs cs.length := by simp [textG, h]
  have ed : textG (V : Int) ds = textN V ds ds.length := by simp [textG, h2]
  have ee : textG (U : Int) es = textN U es es.length := by simp [textG, hx]
  have hcs := okG_all _ _ h
  have hds := okG_all _ _ h2
  have hes := okG_all _ _ hx
  -- the cells
  have q := congrArg (List.filter (· != 10)) e
  rw [ee, ec, ed, List.filter_append, textN_filter U es hes _ (Nat.le_refl _), textN_filter W cs hcs _ (Nat.le_refl _), textN_filter V ds hds _ (Nat.le_refl _), List.take_length, List.take_length, List.take_length, ← List.map_append] at q
  have hall : ((cs ++ ds).all fun c => okC c.1 c.2) = true := by rw [List.all_append, hcs, hds]; rfl
  have ees : es = cs ++ ds := map_inj _ _ hes hall q
  -- the width
  obtain ⟨r1, t1, _, _⟩ := text_open W cs h
  obtain ⟨r2, t2, _, _⟩ := text_open U es hx
  have w1 := line_first W cs hcs (r1 ++ textG (V : Int) ds)
  have w2 := line_first U es hes r2
  rw [← t2, e, t1] at w2
  rw [show (cs.take W).map signB ++ 10 :: r1 ++ textG (V : Int) ds = (cs.take W).map signB ++ 10 :: (r1 ++ textG (V : Int) ds) by simp, w1] at w2
  have hWU : W = U := by
    have l := congrArg List.length w2
    have m1 : W ≤ cs.length := by rw [a5]; exact Nat.le_mul_of_pos_right W (by omega)
    have m2 : U ≤ es.length := by rw [c5]; exact Nat.le_mul_of_pos_right U (by omega)
    simp only [List.length_map, List.length_take] at l
    omega
  subst hWU
  -- the rest
  have sh := textN_shift W H a1 cs ds (by rw [a5, Nat.mul_comm]) ds.length (Nat.le_refl _)
  rw [ee, ec, ed, ees, List.length_append, sh] at e
  have er := List.append_cancel_left e
  have el := congrArg List.length er
  rw [textN_lenE W ⟨a1, a2⟩, textN_lenE V ⟨b1, b2⟩] at el
  have hJ : J = H + ds.length / W := by
    rw [← c6, ees, List.length_append, a5, Nat.mul_add_div (by omega)]
  have hdl : ds.length = W * (ds.length / W) := by
    have k1 : W * H + ds.length = W * J := by rw [← c5, ees, List.length_append, a5]
    rw [hJ, Nat.mul_add] at k1
    omega
  have hK : ds.length / W = K := by rw [← b6]; omega
  have hWV : W = V := by
    rw [hK, b5] at hdl
    exact (Nat.eq_of_mul_eq_mul_right (show 0 < K by omega) hdl).symm
  subst hWV
  apply hno
  refine ⟨rfl, ?_⟩
  rw [← ees, c5]
  have : W * J ≤ W * 5 := Nat.mul_le_mul_left W c4
  rw [Nat.mul_comm W 5] at this
  exact_mod_cast this
end Go.Proofs.Yteibklaabnnfbaa
