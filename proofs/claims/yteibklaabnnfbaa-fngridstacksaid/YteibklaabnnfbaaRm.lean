/-
  Plain facts on the text of an ok grid: how long it is, what stands where, and how it grows by a row.
-/
import Derived.Test.YteibklaabnnfbaaRb
import Derived.Test.YteibklaabnnfbaaRc
namespace Go.Proofs.Yteibklaabnnfbaa
open Go.RowKit
set_option linter.unusedVariables false

theorem textN_lenE (W : Nat) (hW : 1 ≤ W ∧ W ≤ 5) (cs : List (Int × Int)) (n : Nat) : (textN W cs n).length = n + n / W := by
  induction n with
  | zero => simp [textN]
  | succ n ih =>
    simp only [textN, List.length_append, ih, List.length_cons]
    obtain ⟨a, b⟩ := hW
    by_cases hq : (n + 1) % W = 0
    · rw [if_pos hq]
      simp only [List.length_cons, List.length_nil]
      rcases (show W = 1 ∨ W = 2 ∨ W = 3 ∨ W = 4 ∨ W = 5 by omega) with rfl | rfl | rfl | rfl | rfl <;> omega
    · rw [if_neg hq]
      simp only [List.length_nil]
      rcases (show W = 1 ∨ W = 2 ∨ W = 3 ∨ W = 4 ∨ W = 5 by omega) with rfl | rfl | rfl | rfl | rfl <;> omega
theorem pre_at {l m : List UInt8} (h : l <+: m) (i : Nat) (hi : i < l.length) : m[i]? = l[i]? := by
  obtain ⟨r, rfl⟩ := h
  rw [List.getElem?_append_left hi]
theorem text_sign (W : Nat) (hW : 1 ≤ W ∧ W ≤ 5) (cs : List (Int × Int)) (n N : Nat) (h : n < N) : (textN W cs N)[n + n / W]? = some (signB (cs.getD n (0, 0))) := by
  have hl := textN_lenE W hW cs n
  rw [pre_at (textN_pre W cs (n + 1) N h) _ (by rw [textN_lenE W hW]; have := Nat.div_le_div_right (c := W) (show n ≤ n + 1 by omega); omega)]
  simp only [textN]
  rw [List.getElem?_append_right (by omega), hl]
  simp
theorem text_line (W : Nat) (hW : 1 ≤ W ∧ W ≤ 5) (cs : List (Int × Int)) (n N : Nat) (h : n < N) (hq : (n + 1) % W = 0) : (textN W cs N)[n + n / W + 1]? = some 10 := by
  have hl := textN_lenE W hW cs n
  have e : textN W cs (n + 1) = textN W cs n ++ [signB (cs.getD n (0, 0)), 10] := by simp only [textN, hq, if_true]
  rw [pre_at (textN_pre W cs (n + 1) N h) _ (by rw [e]; simp; omega), e, List.getElem?_append_right (by omega), hl]
  simp
theorem row_ix (W r j : Nat) (hW : 1 ≤ W ∧ W ≤ 5) (hj : j < W) : (r * W + j) + (r * W + j) / W = r * (W + 1) + j ∧ ((r * W + j + 1) % W = 0 ↔ j + 1 = W) := by
  obtain ⟨a, b⟩ := hW
  rcases (show W = 1 ∨ W = 2 ∨ W = 3 ∨ W = 4 ∨ W = 5 by omega) with rfl | rfl | rfl | rfl | rfl <;> omega
theorem row_lt (W H r j : Nat) (hr : r < H) (hj : j < W) : r * W + j < W * H := by
  have : (r + 1) * W ≤ H * W := Nat.mul_le_mul_right W hr
  rw [Nat.add_mul] at this
  rw [Nat.mul_comm W H]
  omega
theorem first_of (W : Nat) (cs : List (Int × Int)) (hok : okG (W : Int) cs = true) : firstIdx (str (textG (W : Int) cs)) 10 = (W : Int) := by
  obtain ⟨r, e, h1, h2⟩ := text_open W cs hok
  have hall := okG_all _ _ hok
  rw [e]
  have hn : 10 ∉ (cs.take W).map signB := by
    intro hm
    obtain ⟨c, hc, e⟩ := List.mem_map.1 hm
    rw [List.all_eq_true] at hall
    exact signB_no10 c (hall c (List.mem_of_mem_take hc)) e
  rcases first_spec ((cs.take W).map signB ++ 10 :: r) with ⟨_, h⟩ | ⟨pre, rest, e1, e2, e3⟩
  · exact absurd (by simp) h
  · rw [e3]
    have t1 := congrArg (List.takeWhile (· != 10)) e1
    rw [line_first W cs hall r, List.takeWhile_append_of_pos (by
      intro b hb
      have : b ≠ 10 := fun x => e2 (x ▸ hb)
      simp [this])] at t1
    simp only [List.takeWhile_cons, bne_self_eq_false, Bool.false_eq_true, if_false, List.append_nil] at t1
    have := congrArg List.length t1
    simp at this
    omega
/-- All that the text of an ok grid tells. -/
theorem read_shape (t : List UInt8) (wd : Int) (cs : List (Int × Int)) (hok : okG wd cs = true) (e : textG wd cs = t) : ∃ W H : Nat, wd = W ∧ 1 ≤ W ∧ W ≤ 5 ∧ 1 ≤ H ∧ H ≤ 5 ∧ cs.length = W * H ∧ t.length = (W + 1) * H ∧ firstIdx (str t) 10 = (W : Int) ∧
    (∀ r j, r < H → j < W → ∃ k l, okC k l = true ∧ t[r * (W + 1) + j]? = some (signB (k, l))) ∧ (∀ r, r < H → t[r * (W + 1) + W]? = some 10) := by
  obtain ⟨W, H, rfl, h1, h2, h3, h4, h5, h6, h7⟩ := okG_nat _ cs hok
  have ht : t = textN W cs cs.length := by rw [← e]; simp [textG, hok]
  refine ⟨W, H, rfl, h1, h2, h3, h4, h5, ?_, ?_, fun r j hr hj => ?_, fun r hr => ?_⟩
  · rw [ht, textN_lenE W ⟨h1, h2⟩, h6, h5, Nat.add_mul, Nat.one_mul]
  · rw [← e]; exact first_of W cs hok
  · have hl := row_lt W H r j hr hj
    have := text_sign W ⟨h1, h2⟩ cs (r * W + j) cs.length (by omega)
    rw [(row_ix W r j ⟨h1, h2⟩ hj).1, ← ht] at this
    have hlt : r * W + j < cs.length := by omega
    refine ⟨(cs.getD (r * W + j) (0, 0)).1, (cs.getD (r * W + j) (0, 0)).2, ?_, this⟩
    have := okG_cell _ _ hok (r * W + j) hlt
    simpa [hlt] using this
  · have hl := row_lt W H r (W - 1) hr (by omega)
    have hx := row_ix W r (W - 1) ⟨h1, h2⟩ (by omega)
    have := text_line W ⟨h1, h2⟩ cs (r * W + (W - 1)) cs.length (by omega) (hx.2.2 (by omega))
    rw [hx.1, ← ht] at this
    rw [show r * (W + 1) + W = r * (W + 1) + (W - 1) + 1 by omega]
    exact this
theorem textN_app (W : Nat) (ds es : List (Int × Int)) (n : Nat) (h : n ≤ ds.length) : textN W (ds ++ es) n = textN W ds n := by
  induction n with
  | zero => rfl
  | succ n ih =>
    have hl : n < ds.length := by omega
    have e1 : (ds ++ es).getD n (0, 0) = ds[n] := by rw [List.getD_eq_getElem?_getD, List.getElem?_append_left hl]; simp [hl]
    have e2 : ds.getD n (0, 0) = ds[n] := by simp [hl]
    simp only [textN, ih (by omega), e1, e2]
theorem row_grow (W r : Nat) (hW : 1 ≤ W ∧ W ≤ 5) (ds es : List (Int × Int)) (hd : ds.length = r * W) (j : Nat) (hj : j ≤ es.length) (hjW : j < W) : textN W (ds ++ es) (ds.length + j) = textN W ds ds.length ++ (es.take j).map signB := by
  induction j with
  | zero => simp [textN_app W ds es ds.length (Nat.le_refl _)]
  | succ j ih =>
    have hl : j < es.length := by omega
    have e : (ds ++ es).getD (ds.length + j) (0, 0) = es[j] := by
      rw [List.getD_eq_getElem?_getD, List.getElem?_append_right (by omega)]
      simp [hl]
    rw [← Nat.add_assoc]
    simp only [textN, ih (by omega) (by omega), e]
    rw [if_neg (by rw [hd]; intro x; have := (row_ix W r j hW (by omega)).2.1 x; omega)]
    rw [List.take_succ_eq_append_getElem hl, List.map_append]
    simp
theorem row_full (W r : Nat) (hW : 1 ≤ W ∧ W ≤ 5) (ds es : List (Int × Int)) (hd : ds.length = r * W) (he : es.length = W) : textN W (ds ++ es) (ds ++ es).length = textN W ds ds.length ++ es.map signB ++ [10] := by
  obtain ⟨V, rfl⟩ : ∃ V, W = V + 1 := ⟨W - 1, by omega⟩
  have hl : V < es.length := by omega
  have e : (ds ++ es).getD (ds.length + V) (0, 0) = es[V] := by
    rw [List.getD_eq_getElem?_getD, List.getElem?_append_right (by omega)]
    simp [hl]
  have hg := row_grow (V + 1) r hW ds es hd V (by omega) (by omega)
  rw [List.length_append, he, ← Nat.add_assoc]
  simp only [textN, hg, e]
  rw [if_pos (by rw [hd]; exact (row_ix (V + 1) r V hW (by omega)).2.2 rfl)]
  have : es.map signB = (es.take V).map signB ++ [signB es[V]] := by
    rw [show es.map signB = (es.take (V + 1)).map signB by rw [List.take_of_length_le (by omega)], List.take_succ_eq_append_getElem hl, List.map_append]
    simp
  rw [this]
  simp

end Go.Proofs.Yteibklaabnnfbaa
