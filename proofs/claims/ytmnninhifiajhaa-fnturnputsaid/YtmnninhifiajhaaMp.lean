/-
  Plain facts on putting a cell: what is put is there, nothing else changes, put back all is as it was, two puts at two places in whichever order.
-/
import Derived.Test.YtmnninhifiajhaaJv
import Derived.Test.YtmnninhifiajhaaJm
namespace Go.Proofs.Ytmnninhifiajhaa
open Go.RowKit
set_option linter.unusedVariables false

theorem canPut_nat (wd : Int) (cs : List (Int × Int)) (at_ k l : Int) (h : canPut wd cs at_ k l = true) : ∃ i : Nat, at_ = (i : Int) ∧ i < cs.length ∧ okG wd cs = true ∧ okC k l = true := by
  simp only [canPut, Bool.and_eq_true, decide_eq_true_eq] at h
  obtain ⟨h1, h2, h3, h4⟩ := h
  obtain ⟨i, rfl⟩ := Int.eq_ofNat_of_zero_le h3
  exact ⟨i, rfl, by omega, h1, h2⟩
theorem canPut_of (wd : Int) (cs : List (Int × Int)) (i : Nat) (k l : Int) (hi : i < cs.length) (h1 : okG wd cs = true) (h2 : okC k l = true) : canPut wd cs (i : Int) k l = true := by
  simp only [canPut, h1, h2, Bool.true_and, decide_eq_true_eq]
  omega
theorem okG_set (wd : Int) (cs : List (Int × Int)) (i : Nat) (c : Int × Int) (h : okG wd cs = true) (hc : okC c.1 c.2 = true) : okG wd (cs.set i c) = true := by
  simp only [okG, Bool.and_eq_true, List.length_set] at h ⊢
  refine ⟨h.1, ?_⟩
  have h2 := h.2
  rw [List.all_eq_true] at h2 ⊢
  intro d hd
  rcases List.mem_or_eq_of_mem_set hd with hd | rfl
  · exact h2 d hd
  · exact hc
theorem putG_at (wd : Int) (cs : List (Int × Int)) (i : Nat) (k l : Int) (hi : i < cs.length) (h1 : okG wd cs = true) (h2 : okC k l = true) : putG wd cs (i : Int) k l = (wd, cs.set i (k, l), true) := by
  simp only [putG, canPut_of wd cs i k l hi h1 h2, if_true, Int.toNat_natCast]
/-- Where the put is told to be good: all that is plain of it. -/
theorem putG_yes {wd xw : Int} {cs xc : List (Int × Int)} {at_ k l : Int} (h : putG wd cs at_ k l = (xw, xc, true)) : ∃ i : Nat, at_ = (i : Int) ∧ i < cs.length ∧ okG wd cs = true ∧ okC k l = true ∧ xw = wd ∧ xc = cs.set i (k, l) ∧ okG xw xc = true := by
  by_cases hc : canPut wd cs at_ k l = true
  · obtain ⟨i, rfl, hi, h1, h2⟩ := canPut_nat wd cs at_ k l hc
    rw [putG_at wd cs i k l hi h1 h2] at h
    simp only [Prod.mk.injEq, and_true] at h
    obtain ⟨rfl, rfl⟩ := h
    exact ⟨i, rfl, hi, h1, h2, rfl, rfl, okG_set _ _ _ _ h1 h2⟩
  · simp [putG, hc] at h
theorem put_back {wd xw : Int} {cs xc : List (Int × Int)} {at_ k l : Int} (h : putG wd cs at_ k l = (xw, xc, true)) (i : Nat) (hi : at_ = (i : Int)) : putG xw xc at_ (cs.getD i (0, 0)).1 (cs.getD i (0, 0)).2 = (wd, cs, true) := by
  obtain ⟨i', rfl, h0, h1, h2, rfl, rfl, h5⟩ := putG_yes h
  obtain rfl : i' = i := by omega
  have hok : okC (cs.getD i' (0, 0)).1 (cs.getD i' (0, 0)).2 = true := by
    have := okG_cell _ _ h1 i' h0
    simpa [h0] using this
  rw [putG_at _ _ _ _ _ (by simpa using h0) h5 hok]
  simp only [Prod.mk.injEq, and_true, true_and, List.set_set]
  apply List.ext_getElem
  · simp
  · intro j a b
    rw [List.getElem_set]
    by_cases e : i' = j
    · subst e; simp [h0]
    · rw [if_neg e]
theorem put_cell {wd xw : Int} {cs xc : List (Int × Int)} {at_ k l : Int} (h : putG wd cs at_ k l = (xw, xc, true)) (j : Nat) (hj : j < cs.length) : xc.length = cs.length ∧ xc.getD j (0, 0) = if (j : Int) = at_ then (k, l) else cs.getD j (0, 0) := by
  obtain ⟨i, rfl, h0, h1, h2, rfl, rfl, h5⟩ := putG_yes h
  refine ⟨by simp, ?_⟩
  rw [List.getD_eq_getElem?_getD, List.getElem?_set]
  by_cases e : i = j
  · subst e; simp [h0]
  · rw [if_neg e, if_neg (by omega), List.getD_eq_getElem?_getD]

theorem put_spec {wd xw : Int} {cs xc : List (Int × Int)} {at_ k l : Int} {ok : Bool} (h : putG wd cs at_ k l = (xw, xc, ok)) (a : Option Addr) (cap : Nat) (w : World) (hC : CellsAt w a cs) (hm : cs.length ≤ 1048576) :
    Calls Try.prog 13 #[.agg #[.int .i64 wd, .slice a cs.length cap], .int .i64 at_, .agg #[.int .i64 k, .int .i64 l]] w fun e w' => ∃ v, e = .returned (.tuple #[.agg #[.int .i64 xw, v], .bool ok]) ∧ Own w' w.heap.size v xc ∧ Below w.heap.size w w' := by
  have := specGridPut_any wd a cap cs at_ k l w hC hm
  rw [h] at this
  exact this
theorem put_impl {wd xw : Int} {cs xc : List (Int × Int)} {at_ k l : Int} {ok : Bool} (h : putG wd cs at_ k l = (xw, xc, ok)) (a : Option Addr) (cap : Nat) (w : World) (hC : CellsAt w a cs) (hm : cs.length ≤ 1048576) :
    Calls Try.prog 14 #[.agg #[.int .i64 wd, .slice a cs.length cap], .int .i64 at_, .agg #[.int .i64 k, .int .i64 l]] w fun e w' => ∃ v, e = .returned (.tuple #[.agg #[.int .i64 xw, v], .bool ok]) ∧ Own w' w.heap.size v xc ∧ Below w.heap.size w w' := by
  have := implGridPut_any wd a cap cs at_ k l w hC hm
  rw [h] at this
  exact this
theorem putG_len3 {wd xw : Int} {cs xc : List (Int × Int)} {at_ k l : Int} {ok : Bool} (h : putG wd cs at_ k l = (xw, xc, ok)) : xc.length ≤ 25 := by
  have := putG_len wd cs at_ k l
  rw [h] at this
  exact this

end Go.Proofs.Ytmnninhifiajhaa
