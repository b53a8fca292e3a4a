/-
  The cell of a sign: the contracts of impl.cellOfSign and spec.l1Cell.
-/
import Derived.Test.YteibklaabnnfbaaRa
namespace Go.Proofs.Yteibklaabnnfbaa
open Go.RowKit
set_option linter.unusedVariables false
attribute [local go_sem ↓] Go.wp_at_zero Go.wp_at_succ

/-- What impl.cellOfSign answers. -/
def CellOf (x : Int) (k l : Int) (b : Bool) : Prop := (b = true ∧ cellI x = (k, l) ∧ okC k l = true) ∨ (b = false ∧ k = 0 ∧ l = 0 ∧ cellI x = (-1, 0))

theorem cellI_lamp (x : Int) (h : 49 ≤ x ∧ x ≤ 57) : cellI x = (7, x - 48) := by unfold cellI; rw [if_pos h]
theorem cellI_none (x : Int) (h : ¬ (49 ≤ x ∧ x ≤ 57)) (h0 : x ≠ 46) (h1 : x ≠ 35) (h2 : x ≠ 47) (h3 : x ≠ 92) (h4 : x ≠ 120) (h5 : x ≠ 122) (h6 : x ≠ 58) : cellI x = (-1, 0) := by
  unfold cellI
  rw [if_neg h, if_neg h0, if_neg h1, if_neg h2, if_neg h3, if_neg h4, if_neg h5, if_neg h6]

set_option maxHeartbeats 4000000 in
theorem implCellOf_any (x : Int) (hx : 0 ≤ x ∧ x ≤ 255) (w : World) : Calls Try.prog 23 #[.int .u8 x] w fun e w' => ∃ (k l : Int) (b : Bool), e = .returned (.tuple #[.agg #[.int .i64 k, .int .i64 l], .bool b]) ∧ CellOf x k l b ∧ Below w.heap.size w w' := by
  have hbX : Below w.heap.size w (w.alloc (.cells #[.int .i64 0, .int .i64 0] 44)) := (by repeat (first | exact Below.refl _ _ | refine Below.alloc ?_ (by first | exact Nat.le_refl _ | (simp; done) | (simp; omega)) _ | refine Below.drew ?_ | refine Below.setCell ?_ (by first | exact Nat.le_refl _ | (simp; done) | (simp; omega)) _))
  go_enter Try.func23, Try.ntmps23
  go_wp2_with fail
  refine (plainSigns_any _).mono ?_
  rintro e w1 ⟨rfl, hb1⟩
  have p0 : w1.cell? ⟨w.heap.size, 0, none⟩ = some (.int .i64 0) := keepc hb1 (by simp [go_sem])
  have p1 : w1.cell? ⟨w.heap.size, 1, none⟩ = some (.int .i64 0) := keepc hb1 (by simp [go_sem])
  have f0 : w1.frozen? ⟨w.heap.size, 0, none⟩ = false := keepf hb1 (v := .int .i64 0) (by simp [go_sem]) (by simp [go_sem])
  have f1 : w1.frozen? ⟨w.heap.size, 1, none⟩ = false := keepf hb1 (v := .int .i64 0) (by simp [go_sem]) (by simp [go_sem])
  have hz1 := hb1.size
  simp at hz1
  have hB1 := bcall hbX (by simp) hb1
  clear hbX hb1
  go_wp2
  go_loopw [8] (fun s wr => ∃ k : Nat, k ≤ 7 ∧ s = .int .i64 k ∧ ((0 < k → x ≠ 46) ∧ (1 < k → x ≠ 35) ∧ (2 < k → x ≠ 47) ∧ (3 < k → x ≠ 92) ∧ (4 < k → x ≠ 120) ∧ (5 < k → x ≠ 122) ∧ (6 < k → x ≠ 58)) ∧ Below w1.heap.size w1 wr) (fun s _ => 7 - (intOf s).toNat)
  case atStart => exact ⟨0, by omega, rfl, by omega, Below.refl _ _⟩
  case round =>
    obtain ⟨k, hk, rfl, hne, hb⟩ := hrel
    have hz := hb.size
    replace f0 := keepf hb p0 f0; replace f1 := keepf hb p1 f1; replace p0 := keepc hb p0; replace p1 := keepc hb p1
    have hBr := bcall hB1 (by omega) hb
    rcases (show k = 0 ∨ k = 1 ∨ k = 2 ∨ k = 3 ∨ k = 4 ∨ k = 5 ∨ k = 6 ∨ k = 7 by omega) with rfl | rfl | rfl | rfl | rfl | rfl | rfl | rfl
    · have hq := idx0
      by_cases hv : x = 46
      · have e1 : ((46 : Int) == x) = true := by simp [hv]
        have HC : Hid (CellOf x 0 0 true) := Or.inl ⟨rfl, by subst hv; simp [cellI], by simp [okC]⟩
        clear hv hne
        go_wp2
        refine bodyPost_ret (v := .tuple #[.agg #[.int .i64 0, .int .i64 0], .bool true]) (by simp [results, Try.results23, go_sem, p0, p1]) rfl ⟨0, 0, true, rfl, HC.out, ?_⟩
        exact (hBr.setCell (p := ⟨w.heap.size, 0, none⟩) (Nat.le_refl _) _).setCell (p := ⟨w.heap.size, 1, none⟩) (Nat.le_refl _) _
      · have e1 : ((46 : Int) == x) = false := by simp; omega
        go_wp2
        go_roundw
        case rel => exact ⟨0 + 1, by omega, by go_num, by omega, hb⟩
        case measure => simp [intOf]
    · have hq := idx1
      by_cases hv : x = 35
      · have e1 : ((35 : Int) == x) = true := by simp [hv]
        have HC : Hid (CellOf x 1 0 true) := Or.inl ⟨rfl, by subst hv; simp [cellI], by simp [okC]⟩
        clear hv hne
        go_wp2
        refine bodyPost_ret (v := .tuple #[.agg #[.int .i64 1, .int .i64 0], .bool true]) (by simp [results, Try.results23, go_sem, p0, p1]) rfl ⟨1, 0, true, rfl, HC.out, ?_⟩
        exact (hBr.setCell (p := ⟨w.heap.size, 0, none⟩) (Nat.le_refl _) _).setCell (p := ⟨w.heap.size, 1, none⟩) (Nat.le_refl _) _
      · have e1 : ((35 : Int) == x) = false := by simp; omega
        go_wp2
        go_roundw
        case rel => exact ⟨1 + 1, by omega, by go_num, by omega, hb⟩
        case measure => simp [intOf]
    · have hq := idx2
      by_cases hv : x = 47
      · have e1 : ((47 : Int) == x) = true := by simp [hv]
        have HC : Hid (CellOf x 2 0 true) := Or.inl ⟨rfl, by subst hv; simp [cellI], by simp [okC]⟩
        clear hv hne
        go_wp2
        refine bodyPost_ret (v := .tuple #[.agg #[.int .i64 2, .int .i64 0], .bool true]) (by simp [results, Try.results23, go_sem, p0, p1]) rfl ⟨2, 0, true, rfl, HC.out, ?_⟩
        exact (hBr.setCell (p := ⟨w.heap.size, 0, none⟩) (Nat.le_refl _) _).setCell (p := ⟨w.heap.size, 1, none⟩) (Nat.le_refl _) _
      · have e1 : ((47 : Int) == x) = false := by simp; omega
        go_wp2
        go_roundw
        case rel => exact ⟨2 + 1, by omega, by go_num, by omega, hb⟩
        case measure => simp [intOf]
    · have hq := idx3
      by_cases hv : x = 92
      · have e1 : ((92 : Int) == x) = true := by simp [hv]
        have HC : Hid (CellOf x 3 0 true) := Or.inl ⟨rfl, by subst hv; simp [cellI], by simp [okC]⟩
        clear hv hne
        go_wp2
        refine bodyPost_ret (v := .tuple #[.agg #[.int .i64 3, .int .i64 0], .bool true]) (by simp [results, Try.results23, go_sem, p0, p1]) rfl ⟨3, 0, true, rfl, HC.out, ?_⟩
        exact (hBr.setCell (p := ⟨w.heap.size, 0, none⟩) (Nat.le_refl _) _).setCell (p := ⟨w.heap.size, 1, none⟩) (Nat.le_refl _) _
      · have e1 : ((92 : Int) == x) = false := by simp; omega
        go_wp2
        go_roundw
        case rel => exact ⟨3 + 1, by omega, by go_num, by omega, hb⟩
        case measure => simp [intOf]
    · have hq := idx4
      by_cases hv : x = 120
      · have e1 : ((120 : Int) == x) = true := by simp [hv]
        have HC : Hid (CellOf x 4 0 true) := Or.inl ⟨rfl, by subst hv; simp [cellI], by simp [okC]⟩
        clear hv hne
        go_wp2
        refine bodyPost_ret (v := .tuple #[.agg #[.int .i64 4, .int .i64 0], .bool true]) (by simp [results, Try.results23, go_sem, p0, p1]) rfl ⟨4, 0, true, rfl, HC.out, ?_⟩
        exact (hBr.setCell (p := ⟨w.heap.size, 0, none⟩) (Nat.le_refl _) _).setCell (p := ⟨w.heap.size, 1, none⟩) (Nat.le_refl _) _
      · have e1 : ((120 : Int) == x) = false := by simp; omega
        go_wp2
        go_roundw
        case rel => exact ⟨4 + 1, by omega, by go_num, by omega, hb⟩
        case measure => simp [intOf]
    · have hq := idx5
      by_cases hv : x = 122
      · have e1 : ((122 : Int) == x) = true := by simp [hv]
        have HC : Hid (CellOf x 5 0 true) := Or.inl ⟨rfl, by subst hv; simp [cellI], by simp [okC]⟩
        clear hv hne
        go_wp2
        refine bodyPost_ret (v := .tuple #[.agg #[.int .i64 5, .int .i64 0], .bool true]) (by simp [results, Try.results23, go_sem, p0, p1]) rfl ⟨5, 0, true, rfl, HC.out, ?_⟩
        exact (hBr.setCell (p := ⟨w.heap.size, 0, none⟩) (Nat.le_refl _) _).setCell (p := ⟨w.heap.size, 1, none⟩) (Nat.le_refl _) _
      · have e1 : ((122 : Int) == x) = false := by simp; omega
        go_wp2
        go_roundw
        case rel => exact ⟨5 + 1, by omega, by go_num, by omega, hb⟩
        case measure => simp [intOf]
    · have hq := idx6
      by_cases hv : x = 58
      · have e1 : ((58 : Int) == x) = true := by simp [hv]
        have HC : Hid (CellOf x 6 0 true) := Or.inl ⟨rfl, by subst hv; simp [cellI], by simp [okC]⟩
        clear hv hne
        go_wp2
        refine bodyPost_ret (v := .tuple #[.agg #[.int .i64 6, .int .i64 0], .bool true]) (by simp [results, Try.results23, go_sem, p0, p1]) rfl ⟨6, 0, true, rfl, HC.out, ?_⟩
        exact (hBr.setCell (p := ⟨w.heap.size, 0, none⟩) (Nat.le_refl _) _).setCell (p := ⟨w.heap.size, 1, none⟩) (Nat.le_refl _) _
      · have e1 : ((58 : Int) == x) = false := by simp; omega
        go_wp2
        go_roundw
        case rel => exact ⟨6 + 1, by omega, by go_num, by omega, hb⟩
        case measure => simp [intOf]
    · have v1 : IntKind.i64.wrap (x - 48) = x - 48 := IntWalk.i64_in _ (by omega)
      have v0 : IntKind.i64.wrap x = x := IntWalk.i64_in _ (by omega)
      by_cases hd : 49 ≤ x ∧ x ≤ 57
      · have hok : okC 7 (x - 48) = true := by simp only [okC, if_true, decide_eq_true_eq]; omega
        have HC : Hid (CellOf x 7 (x - 48) true) := Or.inl ⟨rfl, cellI_lamp x hd, hok⟩
        clear hne hd
        go_wp2_with fail
        refine (implCellOk_any _ _ _).mono ?_
        rintro e w3 ⟨rfl, hb3⟩
        have hbY : Below wr.heap.size wr (wr.alloc (.cells #[.int .i64 7, .int .i64 (x - 48)] 44)) := (by repeat (first | exact Below.refl _ _ | refine Below.alloc ?_ (by first | exact Nat.le_refl _ | (simp; done) | (simp; omega)) _ | refine Below.drew ?_ | refine Below.setCell ?_ (by first | exact Nat.le_refl _ | (simp; done) | (simp; omega)) _))
        have q0 : w3.cell? ⟨wr.heap.size, 0, none⟩ = some (.int .i64 7) := keepc hb3 (by simp [go_sem])
        have q1 : w3.cell? ⟨wr.heap.size, 1, none⟩ = some (.int .i64 (x - 48)) := keepc hb3 (by simp [go_sem])
        have hb4 := bcall hbY hbY.size hb3
        replace f0 := keepf hb4 p0 f0; replace f1 := keepf hb4 p1 f1; replace p0 := keepc hb4 p0; replace p1 := keepc hb4 p1
        have hB4 := bcall hBr (by omega) hb4
        clear hbY hb3 hb4
        go_wp2
        refine bodyPost_ret (v := .tuple #[.agg #[.int .i64 7, .int .i64 (x - 48)], .bool true]) (by simp [results, Try.results23, go_sem, p0, p1]) rfl ⟨7, x - 48, true, rfl, HC.out, ?_⟩
        exact (hB4.setCell (p := ⟨w.heap.size, 0, none⟩) (Nat.le_refl _) _).setCell (p := ⟨w.heap.size, 1, none⟩) (Nat.le_refl _) _
      · have hok : okC 7 (x - 48) = false := by simp only [okC, if_true, decide_eq_false_iff_not]; omega
        have HC : Hid (CellOf x 0 0 false) := Or.inr ⟨rfl, rfl, rfl, cellI_none x hd (by omega) (by omega) (by omega) (by omega) (by omega) (by omega) (by omega)⟩
        clear hne hd
        go_wp2_with fail
        refine (implCellOk_any _ _ _).mono ?_
        rintro e w3 ⟨rfl, hb3⟩
        have hbY : Below wr.heap.size wr (wr.alloc (.cells #[.int .i64 7, .int .i64 (x - 48)] 44)) := (by repeat (first | exact Below.refl _ _ | refine Below.alloc ?_ (by first | exact Nat.le_refl _ | (simp; done) | (simp; omega)) _ | refine Below.drew ?_ | refine Below.setCell ?_ (by first | exact Nat.le_refl _ | (simp; done) | (simp; omega)) _))
        have hb4 := bcall hbY hbY.size hb3
        replace f0 := keepf hb4 p0 f0; replace f1 := keepf hb4 p1 f1; replace p0 := keepc hb4 p0; replace p1 := keepc hb4 p1
        have hB4 := bcall hBr (by omega) hb4
        clear hbY hb3 hb4
        go_wp2
        refine bodyPost_ret (v := .tuple #[.agg #[.int .i64 0, .int .i64 0], .bool false]) (by simp [results, Try.results23, go_sem, p0, p1]) rfl ⟨0, 0, false, rfl, HC.out, ?_⟩
        exact (hB4.setCell (p := ⟨w.heap.size, 0, none⟩) (Nat.le_refl _) _).setCell (p := ⟨w.heap.size, 1, none⟩) (Nat.le_refl _) _

end Go.Proofs.Yteibklaabnnfbaa
