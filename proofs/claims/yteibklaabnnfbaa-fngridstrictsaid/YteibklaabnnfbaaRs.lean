/-
  The cell of a sign: the contract of spec.l1Cell.
-/
import Derived.Test.YteibklaabnnfbaaRb
namespace Go.Proofs.Yteibklaabnnfbaa
open Go.RowKit
set_option linter.unusedVariables false
attribute [local go_sem ↓] Go.wp_at_zero Go.wp_at_succ

theorem ids0 (w : World) : Sem.run Try.prog (Instr.index 9 (.string ⟨#[46, 35, 47, 92, 120, 122, 58]⟩) (.int .i64 0)) w = .ok (.int .u8 46) w := by
  simp [Instr.index, run_underlying Try.underlying9, go_sem]
  rfl
theorem ids1 (w : World) : Sem.run Try.prog (Instr.index 9 (.string ⟨#[46, 35, 47, 92, 120, 122, 58]⟩) (.int .i64 1)) w = .ok (.int .u8 35) w := by
  simp [Instr.index, run_underlying Try.underlying9, go_sem]
  rfl
theorem ids2 (w : World) : Sem.run Try.prog (Instr.index 9 (.string ⟨#[46, 35, 47, 92, 120, 122, 58]⟩) (.int .i64 2)) w = .ok (.int .u8 47) w := by
  simp [Instr.index, run_underlying Try.underlying9, go_sem]
  rfl
theorem ids3 (w : World) : Sem.run Try.prog (Instr.index 9 (.string ⟨#[46, 35, 47, 92, 120, 122, 58]⟩) (.int .i64 3)) w = .ok (.int .u8 92) w := by
  simp [Instr.index, run_underlying Try.underlying9, go_sem]
  rfl
theorem ids4 (w : World) : Sem.run Try.prog (Instr.index 9 (.string ⟨#[46, 35, 47, 92, 120, 122, 58]⟩) (.int .i64 4)) w = .ok (.int .u8 120) w := by
  simp [Instr.index, run_underlying Try.underlying9, go_sem]
  rfl
theorem ids5 (w : World) : Sem.run Try.prog (Instr.index 9 (.string ⟨#[46, 35, 47, 92, 120, 122, 58]⟩) (.int .i64 5)) w = .ok (.int .u8 122) w := by
  simp [Instr.index, run_underlying Try.underlying9, go_sem]
  rfl
theorem ids6 (w : World) : Sem.run Try.prog (Instr.index 9 (.string ⟨#[46, 35, 47, 92, 120, 122, 58]⟩) (.int .i64 6)) w = .ok (.int .u8 58) w := by
  simp [Instr.index, run_underlying Try.underlying9, go_sem]
  rfl

set_option maxHeartbeats 4000000 in
theorem specCellOf_any (x : Int) (hx : 0 ≤ x ∧ x ≤ 255) (w : World) : Calls Try.prog 21 #[.int .u8 x] w fun e w' => ∃ (k l : Int), e = .returned (.agg #[.int .i64 k, .int .i64 l]) ∧ cellI x = (k, l) ∧ Below w.heap.size w w' := by
  have hbX : Below w.heap.size w (w.alloc (.cells #[.int .i64 0, .int .i64 0] 44)) := (by repeat (first | exact Below.refl _ _ | refine Below.alloc ?_ (by first | exact Nat.le_refl _ | (simp; done) | (simp; omega)) _ | refine Below.drew ?_ | refine Below.setCell ?_ (by first | exact Nat.le_refl _ | (simp; done) | (simp; omega)) _))
  by_cases hd : 49 ≤ x ∧ x ≤ 57
  · have v1 : IntKind.u8.wrap (x - 48) = x - 48 := IntWalk.u8_in _ (by omega)
    have v2 : IntKind.i64.wrap (x - 48) = x - 48 := IntWalk.i64_in _ (by omega)
    have HC : Hid (cellI x = (7, x - 48)) := cellI_lamp x hd
    obtain ⟨d1, d2⟩ := hd
    go_enter Try.func21, Try.ntmps21
    go_wp2
    refine bodyPost_ret (v := .agg #[.int .i64 7, .int .i64 (x - 48)]) (by simp [results, Try.results21, go_sem]) rfl ⟨7, x - 48, rfl, HC.out, ?_⟩
    exact (by repeat (first | exact Below.refl _ _ | refine Below.alloc ?_ (by first | exact Nat.le_refl _ | (simp; done) | (simp; omega)) _ | refine Below.drew ?_ | refine Below.setCell ?_ (by first | exact Nat.le_refl _ | (simp; done) | (simp; omega)) _))
  · have hd2 : ¬ (49 ≤ x) ∨ (49 ≤ x ∧ ¬ (x ≤ 57)) := by omega
    rcases hd2 with hd3 | ⟨hd3, hd4⟩
    all_goals
      go_enter Try.func21, Try.ntmps21
      go_wp2_with fail
      refine (l1Signs_any _).mono ?_
      rintro e w1 ⟨rfl, hb1⟩
      have p0 : w1.cell? ⟨w.heap.size, 0, none⟩ = some (.int .i64 0) := keepc hb1 (by simp [go_sem])
      have p1 : w1.cell? ⟨w.heap.size, 1, none⟩ = some (.int .i64 0) := keepc hb1 (by simp [go_sem])
      have f0 : w1.frozen? ⟨w.heap.size, 0, none⟩ = false := keepf hb1 (v := .int .i64 0) (by simp [go_sem]) (by simp [go_sem])
      have f1 : w1.frozen? ⟨w.heap.size, 1, none⟩ = false := keepf hb1 (v := .int .i64 0) (by simp [go_sem]) (by simp [go_sem])
      have hz1 := hb1.size
      simp at hz1
      have hB1 := bcall hbX (by simp) hb1
      have hss : (ByteArray.mk #[46, 35, 47, 92, 120, 122, 58]).size = 7 := rfl
      clear hb1
      go_wp2
      go_loopw [4] (fun s wr => ∃ k : Nat, k ≤ 7 ∧ s = .int .i64 k ∧ ((0 < k → x ≠ 46) ∧ (1 < k → x ≠ 35) ∧ (2 < k → x ≠ 47) ∧ (3 < k → x ≠ 92) ∧ (4 < k → x ≠ 120) ∧ (5 < k → x ≠ 122) ∧ (6 < k → x ≠ 58)) ∧ Below w1.heap.size w1 wr) (fun s _ => 7 - (intOf s).toNat)
      case atStart => exact ⟨0, by omega, rfl, by omega, Below.refl _ _⟩
      case round =>
        obtain ⟨k, hk, rfl, hne, hb⟩ := hrel
        have hz := hb.size
        replace f0 := keepf hb p0 f0; replace f1 := keepf hb p1 f1; replace p0 := keepc hb p0; replace p1 := keepc hb p1
        have hBr := bcall hB1 (by omega) hb
        rcases (show k = 0 ∨ k = 1 ∨ k = 2 ∨ k = 3 ∨ k = 4 ∨ k = 5 ∨ k = 6 ∨ k = 7 by omega) with rfl | rfl | rfl | rfl | rfl | rfl | rfl | rfl
        · have hq := ids0
          by_cases hv : x = 46
          · have e1 : ((46 : Int) == x) = true := by simp [hv]
            have HC : Hid (cellI x = (0, 0)) := by show _ = _; subst hv; simp [cellI]
            clear hv hne
            go_wp2
            refine bodyPost_ret (v := .agg #[.int .i64 0, .int .i64 0]) (by simp [results, Try.results21, go_sem, p0, p1]) rfl ⟨0, 0, rfl, HC.out, ?_⟩
            exact (hBr.setCell (p := ⟨w.heap.size, 0, none⟩) (Nat.le_refl _) _).setCell (p := ⟨w.heap.size, 1, none⟩) (Nat.le_refl _) _
          · have e1 : ((46 : Int) == x) = false := by simp; omega
            go_wp2
            go_roundw
            case rel => exact ⟨0 + 1, by omega, by go_num, by omega, hb⟩
            case measure => simp [intOf]
        · have hq := ids1
          by_cases hv : x = 35
          · have e1 : ((35 : Int) == x) = true := by simp [hv]
            have HC : Hid (cellI x = (1, 0)) := by show _ = _; subst hv; simp [cellI]
            clear hv hne
            go_wp2
            refine bodyPost_ret (v := .agg #[.int .i64 1, .int .i64 0]) (by simp [results, Try.results21, go_sem, p0, p1]) rfl ⟨1, 0, rfl, HC.out, ?_⟩
            exact (hBr.setCell (p := ⟨w.heap.size, 0, none⟩) (Nat.le_refl _) _).setCell (p := ⟨w.heap.size, 1, none⟩) (Nat.le_refl _) _
          · have e1 : ((35 : Int) == x) = false := by simp; omega
            go_wp2
            go_roundw
            case rel => exact ⟨1 + 1, by omega, by go_num, by omega, hb⟩
            case measure => simp [intOf]
        · have hq := ids2
          by_cases hv : x = 47
          · have e1 : ((47 : Int) == x) = true := by simp [hv]
            have HC : Hid (cellI x = (2, 0)) := by show _ = _; subst hv; simp [cellI]
            clear hv hne
            go_wp2
            refine bodyPost_ret (v := .agg #[.int .i64 2, .int .i64 0]) (by simp [results, Try.results21, go_sem, p0, p1]) rfl ⟨2, 0, rfl, HC.out, ?_⟩
            exact (hBr.setCell (p := ⟨w.heap.size, 0, none⟩) (Nat.le_refl _) _).setCell (p := ⟨w.heap.size, 1, none⟩) (Nat.le_refl _) _
          · have e1 : ((47 : Int) == x) = false := by simp; omega
            go_wp2
            go_roundw
            case rel => exact ⟨2 + 1, by omega, by go_num, by omega, hb⟩
            case measure => simp [intOf]
        · have hq := ids3
          by_cases hv : x = 92
          · have e1 : ((92 : Int) == x) = true := by simp [hv]
            have HC : Hid (cellI x = (3, 0)) := by show _ = _; subst hv; simp [cellI]
            clear hv hne
            go_wp2
            refine bodyPost_ret (v := .agg #[.int .i64 3, .int .i64 0]) (by simp [results, Try.results21, go_sem, p0, p1]) rfl ⟨3, 0, rfl, HC.out, ?_⟩
            exact (hBr.setCell (p := ⟨w.heap.size, 0, none⟩) (Nat.le_refl _) _).setCell (p := ⟨w.heap.size, 1, none⟩) (Nat.le_refl _) _
          · have e1 : ((92 : Int) == x) = false := by simp; omega
            go_wp2
            go_roundw
            case rel => exact ⟨3 + 1, by omega, by go_num, by omega, hb⟩
            case measure => simp [intOf]
        · have hq := ids4
          by_cases hv : x = 120
          · have e1 : ((120 : Int) == x) = true := by simp [hv]
            have HC : Hid (cellI x = (4, 0)) := by show _ = _; subst hv; simp [cellI]
            clear hv hne
            go_wp2
            refine bodyPost_ret (v := .agg #[.int .i64 4, .int .i64 0]) (by simp [results, Try.results21, go_sem, p0, p1]) rfl ⟨4, 0, rfl, HC.out, ?_⟩
            exact (hBr.setCell (p := ⟨w.heap.size, 0, none⟩) (Nat.le_refl _) _).setCell (p := ⟨w.heap.size, 1, none⟩) (Nat.le_refl _) _
          · have e1 : ((120 : Int) == x) = false := by simp; omega
            go_wp2
            go_roundw
            case rel => exact ⟨4 + 1, by omega, by go_num, by omega, hb⟩
            case measure => simp [intOf]
        · have hq := ids5
          by_cases hv : x = 122
          · have e1 : ((122 : Int) == x) = true := by simp [hv]
            have HC : Hid (cellI x = (5, 0)) := by show _ = _; subst hv; simp [cellI]
            clear hv hne
            go_wp2
            refine bodyPost_ret (v := .agg #[.int .i64 5, .int .i64 0]) (by simp [results, Try.results21, go_sem, p0, p1]) rfl ⟨5, 0, rfl, HC.out, ?_⟩
            exact (hBr.setCell (p := ⟨w.heap.size, 0, none⟩) (Nat.le_refl _) _).setCell (p := ⟨w.heap.size, 1, none⟩) (Nat.le_refl _) _
          · have e1 : ((122 : Int) == x) = false := by simp; omega
            go_wp2
            go_roundw
            case rel => exact ⟨5 + 1, by omega, by go_num, by omega, hb⟩
            case measure => simp [intOf]
        · have hq := ids6
          by_cases hv : x = 58
          · have e1 : ((58 : Int) == x) = true := by simp [hv]
            have HC : Hid (cellI x = (6, 0)) := by show _ = _; subst hv; simp [cellI]
            clear hv hne
            go_wp2
            refine bodyPost_ret (v := .agg #[.int .i64 6, .int .i64 0]) (by simp [results, Try.results21, go_sem, p0, p1]) rfl ⟨6, 0, rfl, HC.out, ?_⟩
            exact (hBr.setCell (p := ⟨w.heap.size, 0, none⟩) (Nat.le_refl _) _).setCell (p := ⟨w.heap.size, 1, none⟩) (Nat.le_refl _) _
          · have e1 : ((58 : Int) == x) = false := by simp; omega
            go_wp2
            go_roundw
            case rel => exact ⟨6 + 1, by omega, by go_num, by omega, hb⟩
            case measure => simp [intOf]
        · have HC : Hid (cellI x = (-1, 0)) := cellI_none x hd (by omega) (by omega) (by omega) (by omega) (by omega) (by omega) (by omega)
          clear hne
          go_wp2
          refine bodyPost_ret (v := .agg #[.int .i64 (-1), .int .i64 0]) (by simp [results, Try.results21, go_sem, p0, p1]) rfl ⟨-1, 0, rfl, HC.out, ?_⟩
          exact (hBr.setCell (p := ⟨w.heap.size, 0, none⟩) (Nat.le_refl _) _).setCell (p := ⟨w.heap.size, 1, none⟩) (Nat.le_refl _) _

end Go.Proofs.Yteibklaabnnfbaa
