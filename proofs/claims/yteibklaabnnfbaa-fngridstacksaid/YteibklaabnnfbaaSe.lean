/-
  Plain facts on the text of a grid: how long it is, where its first line ends, that it tells which grid it is.
-/
import Derived.Test.YteibklaabnnfbaaSd
namespace Go.Proofs.Yteibklaabnnfbaa
open Go.RowKit
set_option linter.unusedVariables false

theorem signC_inj (k l k2 l2 : Int) (h : okC k l = true) (h2 : okC k2 l2 = true) (e : signC k l = signC k2 l2) : k = k2 ∧ l = l2 := by
  rcases okC_cases k l h with ⟨rfl, a1, a2⟩ | ⟨rfl, rfl | rfl | rfl | rfl | rfl | rfl | rfl⟩ <;>
  rcases okC_cases k2 l2 h2 with ⟨rfl, b1, b2⟩ | ⟨rfl, rfl | rfl | rfl | rfl | rfl | rfl | rfl⟩ <;> simp [signC] at e ⊢ <;> omega
theorem signC_no10 (k l : Int) (h : okC k l = true) : signC k l ≠ 10 := by
  rcases okC_cases k l h with ⟨rfl, a1, a2⟩ | ⟨rfl, rfl | rfl | rfl | rfl | rfl | rfl | rfl⟩ <;> simp [signC] <;> omega
theorem signB_inj (c d : Int × Int) (h : okC c.1 c.2 = true) (h2 : okC d.1 d.2 = true) (e : signB c = signB d) : c = d := by
  have e1 := signB_val c.1 c.2 h
  have e2 := signB_val d.1 d.2 h2
  have : signC c.1 c.2 = signC d.1 d.2 := by rw [← e1, ← e2]; rw [show (c.1, c.2) = c from rfl, show (d.1, d.2) = d from rfl, e]
  obtain ⟨a, b⟩ := signC_inj _ _ _ _ h h2 this
  exact Prod.ext a b
theorem signB_no10 (c : Int × Int) (h : okC c.1 c.2 = true) : signB c ≠ 10 := by
  intro e
  have e1 := signB_val c.1 c.2 h
  rw [show (c.1, c.2) = c from rfl, e] at e1
  exact signC_no10 _ _ h e1.symm

theorem textN_filter (W : Nat) (cs : List (Int × Int)) (hok : (cs.all fun c => okC c.1 c.2) = true) (n : Nat) (hn : n ≤ cs.length) : (textN W cs n).filter (· != 10) = (cs.take n).map signB := by
  induction n with
  | zero => simp [textN]
  | succ n ih =>
    have hl : n < cs.length := by omega
    have hc : okC cs[n].1 cs[n].2 = true := by rw [List.all_eq_true] at hok; exact hok _ (List.getElem_mem hl)
    have e : cs.getD n (0, 0) = cs[n] := by simp [hl]
    have hne : (signB cs[n] != 10) = true := by simp [signB_no10 _ hc]
    rw [List.take_succ_eq_append_getElem hl, List.map_append]
    simp only [textN, List.filter_append, ih (by omega), e, List.filter_cons, hne, if_true]
    by_cases hq : (n + 1) % W = 0
    · simp [hq]
    · simp [hq]
theorem textN_line (W : Nat) (cs : List (Int × Int)) (n : Nat) (hn : n < W) (hl : n ≤ cs.length) : textN W cs n = (cs.take n).map signB := by
  induction n with
  | zero => simp [textN]
  | succ n ih =>
    have hl2 : n < cs.length := by omega
    have e : cs.getD n (0, 0) = cs[n] := by simp [hl2]
    rw [List.take_succ_eq_append_getElem hl2, List.map_append]
    simp only [textN, ih (by omega) (by omega), e]
    rw [if_neg (by rw [Nat.mod_eq_of_lt hn]; omega)]
    simp
theorem textN_pre (W : Nat) (cs : List (Int × Int)) (n m : Nat) (h : n ≤ m) : textN W cs n <+: textN W cs m := by
  induction m with
  | zero => have : n = 0 := by omega
            subst this; exact List.prefix_refl _
  | succ m ih =>
    rcases (show n = m + 1 ∨ n ≤ m by omega) with rfl | h2
    · exact List.prefix_refl _
    · exact (ih h2).trans (List.prefix_append _ _)
theorem textN_first (W : Nat) (cs : List (Int × Int)) (hW : 1 ≤ W) (hl : W ≤ cs.length) : textN W cs W = (cs.take W).map signB ++ [10] := by
  obtain ⟨V, rfl⟩ : ∃ V, W = V + 1 := ⟨W - 1, by omega⟩
  have hl2 : V < cs.length := by omega
  have e : cs.getD V (0, 0) = cs[V] := by simp [hl2]
  rw [List.take_succ_eq_append_getElem hl2, List.map_append]
  simp only [textN, textN_line (V + 1) cs V (by omega) (by omega), e, Nat.mod_self, if_true]
  simp
/-- The text of an ok grid: its first line, and what follows. -/
theorem text_open (W : Nat) (cs : List (Int × Int)) (hok : okG (W : Int) cs = true) : ∃ r, textG (W : Int) cs = (cs.take W).map signB ++ 10 :: r ∧ 1 ≤ W ∧ W ≤ cs.length := by
  obtain ⟨W', H, e, h1, h2, h3, h4, h5, h6, h7⟩ := okG_nat _ cs hok
  have e' : W' = W := by omega
  subst e'
  have hl : W' ≤ cs.length := by rw [h5]; exact Nat.le_mul_of_pos_right W' (by omega)
  obtain ⟨r, hr⟩ := textN_pre W' cs W' cs.length hl
  rw [textN_first W' cs h1 hl] at hr
  refine ⟨r, ?_, h1, hl⟩
  simp only [textG, hok, if_true, Int.toNat_natCast]
  rw [← hr]
  simp
theorem text_ne (wd : Int) (cs : List (Int × Int)) (hok : okG wd cs = true) : textG wd cs ≠ [] := by
  obtain ⟨W, H, rfl, _⟩ := okG_nat _ cs hok
  obtain ⟨r, h, _⟩ := text_open W cs hok
  rw [h]
  simp
theorem text_nil (wd : Int) (cs : List (Int × Int)) : textG wd cs = [] ↔ okG wd cs = false := by
  constructor
  · intro h
    by_cases hok : okG wd cs = true
    · exact absurd h (text_ne wd cs hok)
    · simpa using hok
  · intro h; simp [textG, h]
theorem line_first (W : Nat) (cs : List (Int × Int)) (hok : (cs.all fun c => okC c.1 c.2) = true) (r : List UInt8) : ((cs.take W).map signB ++ 10 :: r).takeWhile (· != 10) = (cs.take W).map signB := by
  rw [List.takeWhile_append_of_pos]
  · simp
  · intro b hb
    obtain ⟨c, hc, rfl⟩ := List.mem_map.1 hb
    rw [List.all_eq_true] at hok
    simp [signB_no10 _ (hok c (List.mem_of_mem_take hc))]
theorem okG_all (wd : Int) (cs : List (Int × Int)) (h : okG wd cs = true) : (cs.all fun c => okC c.1 c.2) = true := by
  simp only [okG, Bool.and_eq_true] at h
  exact h.2
theorem map_inj (cs ds : List (Int × Int)) (h : (cs.all fun c => okC c.1 c.2) = true) (h2 : (ds.all fun c => okC c.1 c.2) = true) (e : cs.map signB = ds.map signB) : cs = ds := by
  induction cs generalizing ds with
  | nil => cases ds with
    | nil => rfl
    | cons d ds => simp at e
  | cons c cs ih => cases ds with
    | nil => simp at e
    | cons d ds =>
      simp only [List.map_cons, List.cons.injEq] at e
      simp only [List.all_cons, Bool.and_eq_true] at h h2
      rw [signB_inj c d h.1 h2.1 e.1, ih ds h.2 h2.2 e.2]
/-- Two ok grids are the same just if their texts are. -/
theorem text_inj (wd wd2 : Int) (cs ds : List (Int × Int)) (h : okG wd cs = true) (h2 : okG wd2 ds = true) (e : textG wd cs = textG wd2 ds) : wd = wd2 ∧ cs = ds := by
  obtain ⟨W, H, rfl, _⟩ := okG_nat _ cs h
  obtain ⟨V, _, rfl, _⟩ := okG_nat _ ds h2
  obtain ⟨r, e1, w1, l1⟩ := text_open W cs h
  obtain ⟨q, e2, w2, l2⟩ := text_open V ds h2
  have a1 := line_first W cs (okG_all _ _ h) r
  have a2 := line_first V ds (okG_all _ _ h2) q
  rw [← e1] at a1
  rw [← e2, ← e, a1] at a2
  have hWV : W = V := by
    have := congrArg List.length a2
    simp at this
    omega
  refine ⟨by omega, map_inj cs ds (okG_all _ _ h) (okG_all _ _ h2) ?_⟩
  have f1 := textN_filter W cs (okG_all _ _ h) cs.length (Nat.le_refl _)
  have f2 := textN_filter V ds (okG_all _ _ h2) ds.length (Nat.le_refl _)
  simp only [textG, h, h2, if_true, Int.toNat_natCast] at e
  rw [e, f2] at f1
  simpa using f1.symm

end Go.Proofs.Yteibklaabnnfbaa
