/-
  Painters that have nothing, as the exact laws look at their marks.
-/
import Derived.Test.YtjmdlppakinboaaDoorKs
namespace Go.Proofs.YtjmdlppakinboaaDoor
open Go.RowKit
set_option linter.unusedVariables false
set_option linter.unusedSimpArgs false

set_option maxRecDepth 20000 in
set_option maxHeartbeats 2000000 in
theorem heldPainterS_any (k0 : Int) (v : Value) (B n : Nat) (w : World) (h : PaintAt w B v n (pMark k0 0) (pMark k0 1) (pNum k0 2) (pNum k0 3)) (hn : n ≤ 1048576) (hk0 : 0 ≤ k0 ∧ k0 ≤ 1099511627776) :
    Calls Tryd.prog 42 #[v, .int .i64 k0] w fun e w' => e = .returned (.int .i64 (k0 + 4 * n)) ∧ w' = w := by
  obtain ⟨F, hR, hF⟩ := h
  obtain ⟨a, c, rfl⟩ := hR.slice
  go_enter Tryd.func42, Tryd.ntmps42
  go_wp2
  go_loop [1, 5] (fun kk ii => ∃ i : Nat, i ≤ n ∧ ii = .int .i64 i ∧ kk = .int .i64 (k0 + 4 * i)) (fun _ ii => n - (intOf ii).toNat)
  case atStart => exact ⟨0, Nat.zero_le _, rfl, by simp⟩
  case round =>
    obtain ⟨i, hi, rfl, rfl⟩ := hrel
    by_cases hlt : i < n
    · rcases hR.form with ⟨_, q⟩ | ⟨g, cap, q, _, _⟩
      · omega
      simp only [Value.slice.injEq] at q
      obtain ⟨rfl, _, rfl⟩ := q
      obtain ⟨e0, e1, e2, e3, e4, e5, e6⟩ := hF i hlt
      have x0 := hR.cell (i * 7) (by omega)
      have x1 := hR.cell (i * 7 + 1) (by omega)
      have x2 := hR.cell (i * 7 + 2) (by omega)
      have x3 := hR.cell (i * 7 + 3) (by omega)
      have x4 := hR.cell (i * 7 + 4) (by omega)
      have x5 := hR.cell (i * 7 + 5) (by omega)
      have x6 := hR.cell (i * 7 + 6) (by omega)
      have hltI : (i : Int) < (n : Int) := by omega
      have wk : IntKind.i64.wrap ((i : Int) + 1) = (i : Int) + 1 := IntWalk.i64_in _ (by omega)
      obtain ⟨r, er⟩ : ∃ r, (k0 + 4 * (i : Int)).tmod 3 = r := ⟨_, rfl⟩
      have hr : (k0 + 4 * (i : Int)) % 3 = r := (Int.tmod_eq_emod_of_nonneg (by omega)).symm.trans er
      obtain ⟨r', er'⟩ : ∃ r, (k0 + 4 * (i : Int) + 1).tmod 3 = r := ⟨_, rfl⟩
      have hr' : (k0 + 4 * (i : Int) + 1) % 3 = r' := (Int.tmod_eq_emod_of_nonneg (by omega)).symm.trans er'
      have wr3 : IntKind.i64.wrap r = r := IntWalk.i64_in _ (by omega)
      have wr4 : IntKind.i64.wrap r' = r' := IntWalk.i64_in _ (by omega)
      have eb : pMark k0 0 i = (r == 0) := by unfold pMark; rw [Int.add_zero, hr]; rfl
      have eb' : pMark k0 1 i = (r' == 0) := by unfold pMark; rw [hr']; rfl
      have ec : pNum k0 2 i = k0 + 4 * (i : Int) + 1 + 1 := by unfold pNum; omega
      have ec' : pNum k0 3 i = k0 + 4 * (i : Int) + 1 + 1 + 1 := by unfold pNum; omega
      have en : ((r == 0) != (r == 0)) = false := by simp
      have en' : ((r' == 0) != (r' == 0)) = false := by simp
      have ek : (k0 + 4 * (i : Int) + 1 + 1 != k0 + 4 * (i : Int) + 1 + 1) = false := by simp
      have ek' : (k0 + 4 * (i : Int) + 1 + 1 + 1 != k0 + 4 * (i : Int) + 1 + 1 + 1) = false := by simp
      have nk : ¬ (k0 + 4 * (i : Int) + 1 + 1 + 1 + 1 < 0) := by omega
      rw [e0, eb] at x0; rw [e1, eb'] at x1; rw [e2, ec] at x2; rw [e3, ec'] at x3; rw [e4] at x4; rw [e5] at x5; rw [e6] at x6
      clear hR hF e0 e1 e2 e3 e4 e5 e6 eb eb' ec ec' hr hr'
      go_wp2_with fail
      refine (heldCellS_none _ _ _ _).mono ?_
      rintro e w1 ⟨rfl, rfl⟩
      go_wp2_with fail
      refine (heldIntS_none _ _ _ _).mono ?_
      rintro e w1 ⟨rfl, rfl⟩
      go_wp2_with fail
      refine (heldIntSS_none _ _ _ _).mono ?_
      rintro e w1 ⟨rfl, rfl⟩
      go_wp2_with fail
      go_round
      case rel => exact ⟨i + 1, by omega, by go_num, by go_num⟩
      case measure => simp [intOf]; omega
    · have hin : i = n := by omega
      subst hin
      have hnl : ¬ (i : Int) < (i : Int) := by omega
      go_wp2_with fail
      go_ret
      exact ⟨rfl, rfl⟩
end Go.Proofs.YtjmdlppakinboaaDoor
