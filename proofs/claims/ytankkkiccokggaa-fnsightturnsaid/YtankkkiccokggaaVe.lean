/-
  impl.SightMany, and what is gone by side by side in it.
-/
import Derived.Test.YtankkkiccokggaaVb
import Derived.Test.YtankkkiccokggaaVd
import Derived.Test.YtankkkiccokggaaNa
import Derived.LoopN
namespace Go.Proofs.Ytankkkiccokggaa
open Go.RowKit
set_option linter.unusedVariables false

theorem idxSide0 (W H n : Int) (w : World) : Sem.run Try.prog (Instr.index 86 (.agg (sidesA W H n)) (.int .i64 0)) w = .ok (.agg #[.int .i64 (0), .int .i64 (W), .int .i64 (0), .int .i64 (1), .int .i64 (2), .int .i64 (0)]) w := by kernel_rfl
theorem idxSide1 (W H n : Int) (w : World) : Sem.run Try.prog (Instr.index 86 (.agg (sidesA W H n)) (.int .i64 1)) w = .ok (.agg #[.int .i64 (W), .int .i64 (H), .int .i64 (W - 1), .int .i64 (W), .int .i64 (3), .int .i64 (1)]) w := by kernel_rfl
theorem idxSide2 (W H n : Int) (w : World) : Sem.run Try.prog (Instr.index 86 (.agg (sidesA W H n)) (.int .i64 2)) w = .ok (.agg #[.int .i64 (W + H), .int .i64 (W), .int .i64 (n - 1), .int .i64 (-1), .int .i64 (0), .int .i64 (2)]) w := by kernel_rfl
theorem idxSide3 (W H n : Int) (w : World) : Sem.run Try.prog (Instr.index 86 (.agg (sidesA W H n)) (.int .i64 3)) w = .ok (.agg #[.int .i64 (W + H + W), .int .i64 (H), .int .i64 (n - 1 - W + 1), .int .i64 (-W), .int .i64 (1), .int .i64 (3)]) w := by kernel_rfl

set_option maxHeartbeats 2000000 in
theorem goMany_ok (W H : Nat) (a : Option Addr) (cap : Nat) (cs : List (Int × Int)) (w : World) (h : CellsAt w a cs) (hok : okG (W : Int) cs = true) (hW : 1 ≤ W ∧ W ≤ 5) (hH5 : 1 ≤ H ∧ H ≤ 5) (hn : cs.length ≤ 25) (hH : cs.length / W = H) :
    Calls Try.prog 49 #[.agg #[.int .i64 (W : Int), .slice a cs.length cap], .int .i64 0, .func (.func 52) #[] #[]] w fun e w' => e = .returned (.int .i64 ((W : Int) + (H : Int) + (W : Int) + (H : Int))) ∧ Below w.heap.size w w' := by
  have HH : Hid (cs.length / W = H) := hH
  have hWa := hW.1
  have hWb := hW.2
  have hHa := hH5.1
  have hHb := hH5.2
  clear hH
  go_enter Try.func49, Try.ntmps49
  go_wp2_with fail
  refine (implGridOk_any _ _ _ cs _ (h.below (by repeat (first | exact Below.refl _ _ | refine Below.alloc ?_ (by first | exact Nat.le_refl _ | (simp; done) | (simp; omega)) _ | refine Below.drew ?_ | refine Below.setCell ?_ (by first | exact Nat.le_refl _ | (simp; done) | (simp; omega)) _))) (by omega)).mono ?_
  rintro e x0 ⟨rfl, hb0⟩
  have g0 : x0.cell? ⟨w.heap.size, 0, none⟩ = some (.int .i64 (W : Int)) := keepc hb0 (by simp [go_sem])
  have g1 : x0.cell? ⟨w.heap.size, 1, none⟩ = some (.slice a cs.length cap) := keepc hb0 (by simp [go_sem])
  have hz0 := hb0.size
  simp at hz0
  have hB0 : Below w.heap.size w x0 := bcall (by repeat (first | exact Below.refl _ _ | refine Below.alloc ?_ (by first | exact Nat.le_refl _ | (simp; done) | (simp; omega)) _ | refine Below.drew ?_ | refine Below.setCell ?_ (by first | exact Nat.le_refl _ | (simp; done) | (simp; omega)) _)) (by simp) hb0
  clear hb0
  go_wp2_with fail
  refine (sidesOf_any W H a cs.length cap _ hW hH5 hn HH.out).mono ?_
  rintro e x1 ⟨rfl, hb1⟩
  have hz1 := hb1.size
  have hB1 : Below w.heap.size w x1 := bcall hB0 (by omega) hb1
  clear hb1 g0 g1 HH hok h hW hH5
  have i0 := idxSide0 (W : Int) (H : Int) (cs.length : Int)
  have i1 := idxSide1 (W : Int) (H : Int) (cs.length : Int)
  have i2 := idxSide2 (W : Int) (H : Int) (cs.length : Int)
  have i3 := idxSide3 (W : Int) (H : Int) (cs.length : Int)
  go_wp2_with fail
  refine wp_loop_rounds 5 ?_
  rw [rounds_succ]
  go_wp2_with fail
  refine (tellMany_any _ _ _ _ _ _ _ (by omega) (by omega) _).mono ?_
  rintro e x2 ⟨rfl, hc2⟩
  have hz2 := hc2.size
  simp at hz2
  have hB2 : Below w.heap.size w x2 := bcall (hB1.alloc (by omega) _) (by simp; omega) hc2
  clear hc2
  go_wp2_with fail
  rw [rounds_succ]
  go_wp2_with fail
  refine (tellMany_any _ _ _ _ _ _ _ (by omega) (by omega) _).mono ?_
  rintro e x3 ⟨rfl, hc3⟩
  have hz3 := hc3.size
  simp at hz3
  have hB3 : Below w.heap.size w x3 := bcall (hB2.alloc (by omega) _) (by simp; omega) hc3
  clear hc3
  go_wp2_with fail
  rw [rounds_succ]
  go_wp2_with fail
  refine (tellMany_any _ _ _ _ _ _ _ (by omega) (by omega) _).mono ?_
  rintro e x4 ⟨rfl, hc4⟩
  have hz4 := hc4.size
  simp at hz4
  have hB4 : Below w.heap.size w x4 := bcall (hB3.alloc (by omega) _) (by simp; omega) hc4
  clear hc4
  go_wp2_with fail
  rw [rounds_succ]
  go_wp2_with fail
  refine (tellMany_any _ _ _ _ _ _ _ (by omega) (by omega) _).mono ?_
  rintro e x5 ⟨rfl, hc5⟩
  have hz5 := hc5.size
  simp at hz5
  have hB5 : Below w.heap.size w x5 := bcall (hB4.alloc (by omega) _) (by simp; omega) hc5
  clear hc5
  go_wp2_with fail
  rw [rounds_succ]
  go_wp2_with fail

  go_ret
  exact ⟨rfl, hB5⟩
end Go.Proofs.Ytankkkiccokggaa
