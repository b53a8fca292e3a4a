/-
  spec.SightMany, SightRay, SightOf, SightTurn and SightFlip answer what the plain functions say, whatever the grid.
-/
import Derived.Test.YtankkkiccokggaaVh
import Derived.Test.YtankkkiccokggaaGb
import Derived.Test.YtankkkiccokggaaCa
import Derived.Deep.RegionHeld3
namespace Go.Proofs.Ytankkkiccokggaa
open Go.RowKit
set_option linter.unusedVariables false

set_option maxHeartbeats 400000 in
theorem specMany_any (wd : Int) (a : Option Addr) (cap : Nat) (cs : List (Int × Int)) (w : World) (h : CellsAt w a cs) (hm : cs.length ≤ 1048576) :
    Calls Try.prog 23 #[.agg #[.int .i64 wd, .slice a cs.length cap]] w fun e w' => e = .returned (.int .i64 (manyG wd cs)) ∧ Below w.heap.size w w' := by
  rcases hk : okG wd cs with _ | _
  · rw [manyG_bad hk]
    go_enter Try.func23, Try.ntmps23
    go_wp2_with fail
    refine (specGridOk_any _ _ _ cs _ (h.below (by repeat (first | exact Below.refl _ _ | refine Below.alloc ?_ (by first | exact Nat.le_refl _ | (simp; done) | (simp; omega)) _ | refine Below.drew ?_ | refine Below.setCell ?_ (by first | exact Nat.le_refl _ | (simp; done) | (simp; omega)) _))) (by omega)).mono ?_
    rintro e x0 ⟨rfl, hb0⟩
    rw [hk]
    go_wp2_with fail
    go_ret
    exact ⟨rfl, bcall (by repeat (first | exact Below.refl _ _ | refine Below.alloc ?_ (by first | exact Nat.le_refl _ | (simp; done) | (simp; omega)) _ | refine Below.drew ?_ | refine Below.setCell ?_ (by first | exact Nat.le_refl _ | (simp; done) | (simp; omega)) _)) (by simp <;> omega) hb0⟩
  · obtain ⟨W, H, rfl, h1, h2, h3, h4, el, hH, hHI⟩ := okG_nat wd cs hk
    have hn : cs.length ≤ 25 := by rw [el]; exact Nat.le_trans (Nat.mul_le_mul h2 h4) (by omega)
    obtain ⟨M, hM⟩ : ∃ M, manyG (W : Int) cs = M := ⟨_, rfl⟩
    have hM2 : 4 ≤ M ∧ M ≤ 20 := by rw [← hM, manyG_ok hk hHI]; omega
    have hMa := hM2.1
    have hMb := hM2.2
    have CM : Hid (∀ (w : World), Calls Try.prog 38 #[.agg #[.int .i64 (W : Int), .slice a cs.length cap]] w fun e w' => e = .returned (.int .i64 M) ∧ Below w.heap.size w w') := by
      intro w
      have := l3Many_any W H a cs.length cap w ⟨h1, h2⟩ h4 (by omega) hH
      rw [← manyG_ok hk hHI, hM] at this
      exact this
    have EL : Hid (cs.length = W * H) := el
    have HH : Hid (cs.length / W = H) := hH
    have HI : Hid ((cs.length : Int) / (W : Int) = (H : Int)) := hHI
    have EM : Hid (manyG (W : Int) cs = M) := hM
    clear el hH hHI hM hM2
    rw [EM.out]
    go_enter Try.func23, Try.ntmps23
    go_wp2_with fail
    refine (specGridOk_any _ _ _ cs _ (h.below (by repeat (first | exact Below.refl _ _ | refine Below.alloc ?_ (by first | exact Nat.le_refl _ | (simp; done) | (simp; omega)) _ | refine Below.drew ?_ | refine Below.setCell ?_ (by first | exact Nat.le_refl _ | (simp; done) | (simp; omega)) _))) (by omega)).mono ?_
    rintro e x0 ⟨rfl, hb0⟩
    rw [hk]
    have g0 : x0.cell? ⟨w.heap.size, 0, none⟩ = some (.int .i64 (W : Int)) := keepc hb0 (by simp [go_sem])
    have g1 : x0.cell? ⟨w.heap.size, 1, none⟩ = some (.slice a cs.length cap) := keepc hb0 (by simp [go_sem])
    have hB0 : Below w.heap.size w x0 := bcall (by repeat (first | exact Below.refl _ _ | refine Below.alloc ?_ (by first | exact Nat.le_refl _ | (simp; done) | (simp; omega)) _ | refine Below.drew ?_ | refine Below.setCell ?_ (by first | exact Nat.le_refl _ | (simp; done) | (simp; omega)) _)) (by simp <;> omega) hb0
    clear hb0
    go_wp2_with fail
    refine (CM.out _).mono ?_
    rintro e x1 ⟨rfl, hb1⟩
    have hB1 := bcall hB0 hB0.size hb1
    clear hb1 hB0
    go_wp2_with fail
    go_ret
    exact ⟨rfl, hB1⟩

set_option maxHeartbeats 1000000 in
theorem specTurn_any (wd : Int) (a : Option Addr) (cap : Nat) (cs : List (Int × Int)) (w : World) (h : CellsAt w a cs) (hm : cs.length ≤ 1048576) (k : Int) :
    Calls Try.prog 27 #[.agg #[.int .i64 wd, .slice a cs.length cap], .int .i64 k] w fun e w' => e = .returned (.int .i64 (turnK wd cs k)) ∧ Below w.heap.size w w' := by
  rcases hk : okG wd cs with _ | _
  · rw [turnK_bad hk]
    go_enter Try.func27, Try.ntmps27
    go_wp2_with fail
    refine (specGridOk_any _ _ _ cs _ (h.below (by repeat (first | exact Below.refl _ _ | refine Below.alloc ?_ (by first | exact Nat.le_refl _ | (simp; done) | (simp; omega)) _ | refine Below.drew ?_ | refine Below.setCell ?_ (by first | exact Nat.le_refl _ | (simp; done) | (simp; omega)) _))) (by omega)).mono ?_
    rintro e x0 ⟨rfl, hb0⟩
    rw [hk]
    go_wp2_with fail
    go_ret
    exact ⟨rfl, bcall (by repeat (first | exact Below.refl _ _ | refine Below.alloc ?_ (by first | exact Nat.le_refl _ | (simp; done) | (simp; omega)) _ | refine Below.drew ?_ | refine Below.setCell ?_ (by first | exact Nat.le_refl _ | (simp; done) | (simp; omega)) _)) (by simp <;> omega) hb0⟩
  · obtain ⟨W, H, rfl, h1, h2, h3, h4, el, hH, hHI⟩ := okG_nat wd cs hk
    have hn : cs.length ≤ 25 := by rw [el]; exact Nat.le_trans (Nat.mul_le_mul h2 h4) (by omega)
    obtain ⟨M, hM⟩ : ∃ M, manyG (W : Int) cs = M := ⟨_, rfl⟩
    have hM2 : 4 ≤ M ∧ M ≤ 20 := by rw [← hM, manyG_ok hk hHI]; omega
    have hMa := hM2.1
    have hMb := hM2.2
    have CM : Hid (∀ (w : World), Calls Try.prog 38 #[.agg #[.int .i64 (W : Int), .slice a cs.length cap]] w fun e w' => e = .returned (.int .i64 M) ∧ Below w.heap.size w w') := by
      intro w
      have := l3Many_any W H a cs.length cap w ⟨h1, h2⟩ h4 (by omega) hH
      rw [← manyG_ok hk hHI, hM] at this
      exact this
    have EL : Hid (cs.length = W * H) := el
    have HH : Hid (cs.length / W = H) := hH
    have HI : Hid ((cs.length : Int) / (W : Int) = (H : Int)) := hHI
    have EM : Hid (manyG (W : Int) cs = M) := hM
    clear el hH hHI hM hM2
    by_cases hs : 0 ≤ k ∧ k < M
    · have HS : Hid (inB k 0 (M - 1) = true) := decide_eq_true (by omega)
      obtain ⟨v, hv⟩ : ∃ v, (k + (H : Int)) % M = v := ⟨_, rfl⟩
      have EV : Hid (turnK (W : Int) cs k = v) := by
        show _ = _
        unfold turnK; rw [HI.out, EM.out, if_pos ⟨hk, hs.1, hs.2⟩, hv]
      rw [EV.out]
      have hk0 := hs.1
      have hk1 := hs.2
      have ht : ((k + (H : Int))).tmod M = v := by rw [Int.tmod_eq_emod_of_nonneg (by omega)]; exact hv
      have hM0 : ¬ (M = 0) := by omega
      have wr : IntKind.i64.wrap (k + (H : Int)) = k + (H : Int) := IntWalk.i64_in _ (by omega)
      clear EV hs
      go_enter Try.func27, Try.ntmps27
      go_wp2_with fail
      refine (specGridOk_any _ _ _ cs _ (h.below (by repeat (first | exact Below.refl _ _ | refine Below.alloc ?_ (by first | exact Nat.le_refl _ | (simp; done) | (simp; omega)) _ | refine Below.drew ?_ | refine Below.setCell ?_ (by first | exact Nat.le_refl _ | (simp; done) | (simp; omega)) _))) (by omega)).mono ?_
      rintro e x0 ⟨rfl, hb0⟩
      rw [hk]
      have g0 : x0.cell? ⟨w.heap.size, 0, none⟩ = some (.int .i64 (W : Int)) := keepc hb0 (by simp [go_sem])
      have g1 : x0.cell? ⟨w.heap.size, 1, none⟩ = some (.slice a cs.length cap) := keepc hb0 (by simp [go_sem])
      have hB0 : Below w.heap.size w x0 := bcall (by repeat (first | exact Below.refl _ _ | refine Below.alloc ?_ (by first | exact Nat.le_refl _ | (simp; done) | (simp; omega)) _ | refine Below.drew ?_ | refine Below.setCell ?_ (by first | exact Nat.le_refl _ | (simp; done) | (simp; omega)) _)) (by simp <;> omega) hb0
      clear hb0
      go_wp2_with fail
      refine (CM.out _).mono ?_
      rintro e x1 ⟨rfl, hb1⟩
      replace g0 := keepc hb1 g0; replace g1 := keepc hb1 g1
      have hB1 := bcall hB0 hB0.size hb1
      clear hb1 hB0
      go_wp2_with fail
      refine (l6In_any _ _ _ _).mono ?_
      rintro e x1 ⟨rfl, rfl⟩
      rw [HS.out]
      go_wp2_with fail
      go_region_held3 (fun w' => w'.cell? ⟨w.heap.size, 0, none⟩ = some (.int .i64 (W : Int)) ∧ w'.cell? ⟨w.heap.size, 1, none⟩ = some (.slice a cs.length cap))
        (first
          | with_reducible exact ⟨keepc hb7 g0, keepc hb7 g1⟩
          | with_reducible exact ⟨keepc hb6 g0, keepc hb6 g1⟩
          | go_keep)
        (first
          | (go_at_call 60; refine (rowsS_any W H _ _ _ _ h1 hm HH.out).mono ?_; rintro e w6 ⟨rfl, hb6'⟩; have hb6 : Below x1.heap.size x1 w6 := (by first | with_reducible exact hb6' | with_reducible exact bdrew hb6' | with_reducible exact bcall hb7 hb7.size hb6'))
          | (go_at_call 38; refine (CM.out _).mono ?_; rintro e w7 ⟨rfl, hb7'⟩; have hb7 : Below x1.heap.size x1 w7 := (by first | with_reducible exact bcall hb6 hb6.size hb7' | with_reducible exact hb7' | with_reducible exact bdrew hb7'))
          | fail)
      all_goals
        have hBf := bcall hB1 hB1.size hb7
        go_wp2
        go_ret
        exact ⟨rfl, hBf⟩
    · have HS : Hid (inB k 0 (M - 1) = false) := decide_eq_false (by omega)
      have EV : Hid (turnK (W : Int) cs k = -1) := by
        show _ = _
        unfold turnK; rw [if_neg]; rw [EM.out]; exact fun q => hs q.2
      rw [EV.out]
      clear EV hs
      go_enter Try.func27, Try.ntmps27
      go_wp2_with fail
      refine (specGridOk_any _ _ _ cs _ (h.below (by repeat (first | exact Below.refl _ _ | refine Below.alloc ?_ (by first | exact Nat.le_refl _ | (simp; done) | (simp; omega)) _ | refine Below.drew ?_ | refine Below.setCell ?_ (by first | exact Nat.le_refl _ | (simp; done) | (simp; omega)) _))) (by omega)).mono ?_
      rintro e x0 ⟨rfl, hb0⟩
      rw [hk]
      have g0 : x0.cell? ⟨w.heap.size, 0, none⟩ = some (.int .i64 (W : Int)) := keepc hb0 (by simp [go_sem])
      have g1 : x0.cell? ⟨w.heap.size, 1, none⟩ = some (.slice a cs.length cap) := keepc hb0 (by simp [go_sem])
      have hB0 : Below w.heap.size w x0 := bcall (by repeat (first | exact Below.refl _ _ | refine Below.alloc ?_ (by first | exact Nat.le_refl _ | (simp; done) | (simp; omega)) _ | refine Below.drew ?_ | refine Below.setCell ?_ (by first | exact Nat.le_refl _ | (simp; done) | (simp; omega)) _)) (by simp <;> omega) hb0
      clear hb0
      go_wp2_with fail
      refine (CM.out _).mono ?_
      rintro e x1 ⟨rfl, hb1⟩
      replace g0 := keepc hb1 g0; replace g1 := keepc hb1 g1
      have hB1 := bcall hB0 hB0.size hb1
      clear hb1 hB0
      go_wp2_with fail
      refine (l6In_any _ _ _ _).mono ?_
      rintro e x1 ⟨rfl, rfl⟩
      rw [HS.out]
      go_wp2_with fail
      go_ret
      exact ⟨rfl, hB1⟩

set_option maxHeartbeats 1000000 in
theorem specFlip_any (wd : Int) (a : Option Addr) (cap : Nat) (cs : List (Int × Int)) (w : World) (h : CellsAt w a cs) (hm : cs.length ≤ 1048576) (k : Int) :
    Calls Try.prog 28 #[.agg #[.int .i64 wd, .slice a cs.length cap], .int .i64 k] w fun e w' => e = .returned (.int .i64 (flipK wd cs k)) ∧ Below w.heap.size w w' := by
  rcases hk : okG wd cs with _ | _
  · rw [flipK_bad hk]
    go_enter Try.func28, Try.ntmps28
    go_wp2_with fail
    refine (specGridOk_any _ _ _ cs _ (h.below (by repeat (first | exact Below.refl _ _ | refine Below.alloc ?_ (by first | exact Nat.le_refl _ | (simp; done) | (simp; omega)) _ | refine Below.drew ?_ | refine Below.setCell ?_ (by first | exact Nat.le_refl _ | (simp; done) | (simp; omega)) _))) (by omega)).mono ?_
    rintro e x0 ⟨rfl, hb0⟩
    rw [hk]
    go_wp2_with fail
    go_ret
    exact ⟨rfl, bcall (by repeat (first | exact Below.refl _ _ | refine Below.alloc ?_ (by first | exact Nat.le_refl _ | (simp; done) | (simp; omega)) _ | refine Below.drew ?_ | refine Below.setCell ?_ (by first | exact Nat.le_refl _ | (simp; done) | (simp; omega)) _)) (by simp <;> omega) hb0⟩
  · obtain ⟨W, H, rfl, h1, h2, h3, h4, el, hH, hHI⟩ := okG_nat wd cs hk
    have hn : cs.length ≤ 25 := by rw [el]; exact Nat.le_trans (Nat.mul_le_mul h2 h4) (by omega)
    obtain ⟨M, hM⟩ : ∃ M, manyG (W : Int) cs = M := ⟨_, rfl⟩
    have hM2 : 4 ≤ M ∧ M ≤ 20 := by rw [← hM, manyG_ok hk hHI]; omega
    have hMa := hM2.1
    have hMb := hM2.2
    have CM : Hid (∀ (w : World), Calls Try.prog 38 #[.agg #[.int .i64 (W : Int), .slice a cs.length cap]] w fun e w' => e = .returned (.int .i64 M) ∧ Below w.heap.size w w') := by
      intro w
      have := l3Many_any W H a cs.length cap w ⟨h1, h2⟩ h4 (by omega) hH
      rw [← manyG_ok hk hHI, hM] at this
      exact this
    have EL : Hid (cs.length = W * H) := el
    have HH : Hid (cs.length / W = H) := hH
    have HI : Hid ((cs.length : Int) / (W : Int) = (H : Int)) := hHI
    have EM : Hid (manyG (W : Int) cs = M) := hM
    clear el hH hHI hM hM2
    by_cases hs : 0 ≤ k ∧ k < M
    · have HS : Hid (inB k 0 (M - 1) = true) := decide_eq_true (by omega)
      obtain ⟨v, hv⟩ : ∃ v, ((W : Int) - 1 - k + M) % M = v := ⟨_, rfl⟩
      have EV : Hid (flipK (W : Int) cs k = v) := by
        show _ = _
        unfold flipK; rw [EM.out, if_pos ⟨hk, hs.1, hs.2⟩, hv]
      rw [EV.out]
      have hk0 := hs.1
      have hk1 := hs.2
      have ht : (((W : Int) - 1 - k + M)).tmod M = v := by rw [Int.tmod_eq_emod_of_nonneg (by omega)]; exact hv
      have hM0 : ¬ (M = 0) := by omega
      have wr1 : IntKind.i64.wrap ((W : Int) - 1) = (W : Int) - 1 := IntWalk.i64_in _ (by omega)
      have wr2 : IntKind.i64.wrap ((W : Int) - 1 - k) = (W : Int) - 1 - k := IntWalk.i64_in _ (by omega)
      have wr3 : IntKind.i64.wrap ((W : Int) - 1 - k + M) = (W : Int) - 1 - k + M := IntWalk.i64_in _ (by omega)
      clear EV hs
      go_enter Try.func28, Try.ntmps28
      go_wp2_with fail
      refine (specGridOk_any _ _ _ cs _ (h.below (by repeat (first | exact Below.refl _ _ | refine Below.alloc ?_ (by first | exact Nat.le_refl _ | (simp; done) | (simp; omega)) _ | refine Below.drew ?_ | refine Below.setCell ?_ (by first | exact Nat.le_refl _ | (simp; done) | (simp; omega)) _))) (by omega)).mono ?_
      rintro e x0 ⟨rfl, hb0⟩
      rw [hk]
      have g0 : x0.cell? ⟨w.heap.size, 0, none⟩ = some (.int .i64 (W : Int)) := keepc hb0 (by simp [go_sem])
      have g1 : x0.cell? ⟨w.heap.size, 1, none⟩ = some (.slice a cs.length cap) := keepc hb0 (by simp [go_sem])
      have hB0 : Below w.heap.size w x0 := bcall (by repeat (first | exact Below.refl _ _ | refine Below.alloc ?_ (by first | exact Nat.le_refl _ | (simp; done) | (simp; omega)) _ | refine Below.drew ?_ | refine Below.setCell ?_ (by first | exact Nat.le_refl _ | (simp; done) | (simp; omega)) _)) (by simp <;> omega) hb0
      clear hb0
      go_wp2_with fail
      refine (CM.out _).mono ?_
      rintro e x1 ⟨rfl, hb1⟩
      replace g0 := keepc hb1 g0; replace g1 := keepc hb1 g1
      have hB1 := bcall hB0 hB0.size hb1
      clear hb1 hB0
      go_wp2_with fail
      refine (l6In_any _ _ _ _).mono ?_
      rintro e x1 ⟨rfl, rfl⟩
      rw [HS.out]
      go_wp2_with fail
      go_region_held3 (fun w' => w'.cell? ⟨w.heap.size, 0, none⟩ = some (.int .i64 (W : Int)) ∧ w'.cell? ⟨w.heap.size, 1, none⟩ = some (.slice a cs.length cap))
        (first
          | with_reducible exact ⟨keepc hb7 g0, keepc hb7 g1⟩
          | with_reducible exact ⟨keepc hb6 g0, keepc hb6 g1⟩
          | go_keep)
        (first
          | (go_at_call 38; first | (have hb6z := hb6; refine (CM.out _).mono ?_; rintro e w7 ⟨rfl, hb7'⟩; have hb7 : Below x1.heap.size x1 w7 := bcall hb6 hb6.size hb7') | (refine (CM.out _).mono ?_; rintro e w6 ⟨rfl, hb6'⟩; have hb6 : Below x1.heap.size x1 w6 := (by first | with_reducible exact hb6' | with_reducible exact bdrew hb6')))
          | fail)
      all_goals
        have hBf := bcall hB1 hB1.size hb7
        go_wp2
        go_ret
        exact ⟨rfl, hBf⟩
    · have HS : Hid (inB k 0 (M - 1) = false) := decide_eq_false (by omega)
      have EV : Hid (flipK (W : Int) cs k = -1) := by
        show _ = _
        unfold flipK; rw [if_neg]; rw [EM.out]; exact fun q => hs q.2
      rw [EV.out]
      clear EV hs
      go_enter Try.func28, Try.ntmps28
      go_wp2_with fail
      refine (specGridOk_any _ _ _ cs _ (h.below (by repeat (first | exact Below.refl _ _ | refine Below.alloc ?_ (by first | exact Nat.le_refl _ | (simp; done) | (simp; omega)) _ | refine Below.drew ?_ | refine Below.setCell ?_ (by first | exact Nat.le_refl _ | (simp; done) | (simp; omega)) _))) (by omega)).mono ?_
      rintro e x0 ⟨rfl, hb0⟩
      rw [hk]
      have g0 : x0.cell? ⟨w.heap.size, 0, none⟩ = some (.int .i64 (W : Int)) := keepc hb0 (by simp [go_sem])
      have g1 : x0.cell? ⟨w.heap.size, 1, none⟩ = some (.slice a cs.length cap) := keepc hb0 (by simp [go_sem])
      have hB0 : Below w.heap.size w x0 := bcall (by repeat (first | exact Below.refl _ _ | refine Below.alloc ?_ (by first | exact Nat.le_refl _ | (simp; done) | (simp; omega)) _ | refine Below.drew ?_ | refine Below.setCell ?_ (by first | exact Nat.le_refl _ | (simp; done) | (simp; omega)) _)) (by simp <;> omega) hb0
      clear hb0
      go_wp2_with fail
      refine (CM.out _).mono ?_
      rintro e x1 ⟨rfl, hb1⟩
      replace g0 := keepc hb1 g0; replace g1 := keepc hb1 g1
      have hB1 := bcall hB0 hB0.size hb1
      clear hb1 hB0
      go_wp2_with fail
      refine (l6In_any _ _ _ _).mono ?_
      rintro e x1 ⟨rfl, rfl⟩
      rw [HS.out]
      go_wp2_with fail
      go_ret
      exact ⟨rfl, hB1⟩

set_option maxHeartbeats 1000000 in
theorem specOf_any (wd : Int) (a : Option Addr) (cap : Nat) (cs : List (Int × Int)) (w : World) (h : CellsAt w a cs) (hm : cs.length ≤ 1048576) (x d : Int) :
    Calls Try.prog 20 #[.agg #[.int .i64 wd, .slice a cs.length cap], .int .i64 x, .int .i64 d] w fun e w' => e = .returned (.int .i64 (outOf wd cs x d)) ∧ Below w.heap.size w w' := by
  rcases hk : okG wd cs with _ | _
  · rw [outOf_bad hk]
    go_enter Try.func20, Try.ntmps20
    go_wp2_with fail
    refine (specGridOk_any _ _ _ cs _ (h.below (by repeat (first | exact Below.refl _ _ | refine Below.alloc ?_ (by first | exact Nat.le_refl _ | (simp; done) | (simp; omega)) _ | refine Below.drew ?_ | refine Below.setCell ?_ (by first | exact Nat.le_refl _ | (simp; done) | (simp; omega)) _))) (by omega)).mono ?_
    rintro e x0 ⟨rfl, hb0⟩
    rw [hk]
    go_wp2_with fail
    go_ret
    exact ⟨rfl, bcall (by repeat (first | exact Below.refl _ _ | refine Below.alloc ?_ (by first | exact Nat.le_refl _ | (simp; done) | (simp; omega)) _ | refine Below.drew ?_ | refine Below.setCell ?_ (by first | exact Nat.le_refl _ | (simp; done) | (simp; omega)) _)) (by simp <;> omega) hb0⟩
  · obtain ⟨W, H, rfl, h1, h2, h3, h4, el, hH, hHI⟩ := okG_nat wd cs hk
    have hn : cs.length ≤ 25 := by rw [el]; exact Nat.le_trans (Nat.mul_le_mul h2 h4) (by omega)
    obtain ⟨M, hM⟩ : ∃ M, manyG (W : Int) cs = M := ⟨_, rfl⟩
    have hM2 : 4 ≤ M ∧ M ≤ 20 := by rw [← hM, manyG_ok hk hHI]; omega
    have hMa := hM2.1
    have hMb := hM2.2
    have CM : Hid (∀ (w : World), Calls Try.prog 38 #[.agg #[.int .i64 (W : Int), .slice a cs.length cap]] w fun e w' => e = .returned (.int .i64 M) ∧ Below w.heap.size w w') := by
      intro w
      have := l3Many_any W H a cs.length cap w ⟨h1, h2⟩ h4 (by omega) hH
      rw [← manyG_ok hk hHI, hM] at this
      exact this
    have EL : Hid (cs.length = W * H) := el
    have HH : Hid (cs.length / W = H) := hH
    have HI : Hid ((cs.length : Int) / (W : Int) = (H : Int)) := hHI
    have EM : Hid (manyG (W : Int) cs = M) := hM
    clear el hH hHI hM hM2
    by_cases hx : 0 ≤ x ∧ x < (cs.length : Int)
    · have HX : Hid (inB x 0 ((cs.length : Int) - 1) = true) := decide_eq_true (by omega)
      by_cases hd : 0 ≤ d ∧ d ≤ 3
      · have HD2 : Hid (inB d 0 3 = true) := decide_eq_true hd
        obtain ⟨v, hv⟩ : ∃ v, ofN W H x d (2 * (W + H)) = v := ⟨_, rfl⟩
        have EV : Hid (outOf (W : Int) cs x d = v) := by
          show _ = _
          unfold outOf; rw [manyG_ok hk HI.out, HI.out, if_pos ⟨hk, hx, hd⟩, show (2 * ((W : Int) + (H : Int))).toNat = 2 * (W + H) by omega, hv]
        rw [EV.out]
        have HV : Hid (ofN W H x d (2 * (W + H)) = v) := hv
        clear hv EV hx hd
        go_enter Try.func20, Try.ntmps20
        go_wp2_with fail
        refine (specGridOk_any _ _ _ cs _ (h.below (by repeat (first | exact Below.refl _ _ | refine Below.alloc ?_ (by first | exact Nat.le_refl _ | (simp; done) | (simp; omega)) _ | refine Below.drew ?_ | refine Below.setCell ?_ (by first | exact Nat.le_refl _ | (simp; done) | (simp; omega)) _))) (by omega)).mono ?_
        rintro e x0 ⟨rfl, hb0⟩
        rw [hk]
        have g0 : x0.cell? ⟨w.heap.size, 0, none⟩ = some (.int .i64 (W : Int)) := keepc hb0 (by simp [go_sem])
        have g1 : x0.cell? ⟨w.heap.size, 1, none⟩ = some (.slice a cs.length cap) := keepc hb0 (by simp [go_sem])
        have hB0 : Below w.heap.size w x0 := bcall (by repeat (first | exact Below.refl _ _ | refine Below.alloc ?_ (by first | exact Nat.le_refl _ | (simp; done) | (simp; omega)) _ | refine Below.drew ?_ | refine Below.setCell ?_ (by first | exact Nat.le_refl _ | (simp; done) | (simp; omega)) _)) (by simp <;> omega) hb0
        clear hb0
        go_wp2_with fail
        refine (l6In_any _ _ _ _).mono ?_
        rintro e x0 ⟨rfl, rfl⟩
        rw [HX.out]
        go_wp2_with fail
        refine (l6In_any _ _ _ _).mono ?_
        rintro e x0 ⟨rfl, rfl⟩
        rw [HD2.out]
        go_wp2_with fail
        refine (l3Of_any W H a cs.length cap _ ⟨h1, h2⟩ ⟨h3, h4⟩ EL.out x d).mono ?_
        rintro e x1 ⟨rfl, hb1⟩
        rw [HV.out]
        have hB1 := bcall hB0 hB0.size hb1
        go_wp2_with fail
        go_ret
        exact ⟨rfl, hB1⟩
      · have HD2 : Hid (inB d 0 3 = false) := decide_eq_false hd
        have EV : Hid (outOf (W : Int) cs x d = -1) := by
          show _ = _
          unfold outOf; rw [if_neg]; exact fun q => hd q.2.2
        rw [EV.out]
        clear EV hx hd
        go_enter Try.func20, Try.ntmps20
        go_wp2_with fail
        refine (specGridOk_any _ _ _ cs _ (h.below (by repeat (first | exact Below.refl _ _ | refine Below.alloc ?_ (by first | exact Nat.le_refl _ | (simp; done) | (simp; omega)) _ | refine Below.drew ?_ | refine Below.setCell ?_ (by first | exact Nat.le_refl _ | (simp; done) | (simp; omega)) _))) (by omega)).mono ?_
        rintro e x0 ⟨rfl, hb0⟩
        rw [hk]
        have g0 : x0.cell? ⟨w.heap.size, 0, none⟩ = some (.int .i64 (W : Int)) := keepc hb0 (by simp [go_sem])
        have g1 : x0.cell? ⟨w.heap.size, 1, none⟩ = some (.slice a cs.length cap) := keepc hb0 (by simp [go_sem])
        have hB0 : Below w.heap.size w x0 := bcall (by repeat (first | exact Below.refl _ _ | refine Below.alloc ?_ (by first | exact Nat.le_refl _ | (simp; done) | (simp; omega)) _ | refine Below.drew ?_ | refine Below.setCell ?_ (by first | exact Nat.le_refl _ | (simp; done) | (simp; omega)) _)) (by simp <;> omega) hb0
        clear hb0
        go_wp2_with fail
        refine (l6In_any _ _ _ _).mono ?_
        rintro e x0 ⟨rfl, rfl⟩
        rw [HX.out]
        go_wp2_with fail
        refine (l6In_any _ _ _ _).mono ?_
        rintro e x0 ⟨rfl, rfl⟩
        rw [HD2.out]
        go_wp2_with fail
        go_ret
        exact ⟨rfl, hB0⟩
    · have HX : Hid (inB x 0 ((cs.length : Int) - 1) = false) := decide_eq_false (by omega)
      have EV : Hid (outOf (W : Int) cs x d = -1) := by
        show _ = _
        unfold outOf; rw [if_neg]; exact fun q => hx q.2.1
      rw [EV.out]
      clear EV hx
      go_enter Try.func20, Try.ntmps20
      go_wp2_with fail
      refine (specGridOk_any _ _ _ cs _ (h.below (by repeat (first | exact Below.refl _ _ | refine Below.alloc ?_ (by first | exact Nat.le_refl _ | (simp; done) | (simp; omega)) _ | refine Below.drew ?_ | refine Below.setCell ?_ (by first | exact Nat.le_refl _ | (simp; done) | (simp; omega)) _))) (by omega)).mono ?_
      rintro e x0 ⟨rfl, hb0⟩
      rw [hk]
      have g0 : x0.cell? ⟨w.heap.size, 0, none⟩ = some (.int .i64 (W : Int)) := keepc hb0 (by simp [go_sem])
      have g1 : x0.cell? ⟨w.heap.size, 1, none⟩ = some (.slice a cs.length cap) := keepc hb0 (by simp [go_sem])
      have hB0 : Below w.heap.size w x0 := bcall (by repeat (first | exact Below.refl _ _ | refine Below.alloc ?_ (by first | exact Nat.le_refl _ | (simp; done) | (simp; omega)) _ | refine Below.drew ?_ | refine Below.setCell ?_ (by first | exact Nat.le_refl _ | (simp; done) | (simp; omega)) _)) (by simp <;> omega) hb0
      clear hb0
      go_wp2_with fail
      refine (l6In_any _ _ _ _).mono ?_
      rintro e x0 ⟨rfl, rfl⟩
      rw [HX.out]
      go_wp2_with fail
      go_ret
      exact ⟨rfl, hB0⟩

set_option maxHeartbeats 1000000 in
theorem specRay_any (wd : Int) (a : Option Addr) (cap : Nat) (cs : List (Int × Int)) (w : World) (h : CellsAt w a cs) (hm : cs.length ≤ 1048576) (k x d : Int) (b : Bool) (hv : inRay wd cs k = (x, d, b)) :
    Calls Try.prog 14 #[.agg #[.int .i64 wd, .slice a cs.length cap], .int .i64 k] w fun e w' => e = .returned (.tuple #[.agg #[.int .i64 x, .int .i64 d], .bool b]) ∧ Below w.heap.size w w' := by
  rcases hk : okG wd cs with _ | _
  · rw [inRay_bad hk] at hv
    simp only [Prod.mk.injEq] at hv
    obtain ⟨rfl, rfl, rfl⟩ := hv
    go_enter Try.func14, Try.ntmps14
    go_wp2_with fail
    refine (specGridOk_any _ _ _ cs _ (h.below (by repeat (first | exact Below.refl _ _ | refine Below.alloc ?_ (by first | exact Nat.le_refl _ | (simp; done) | (simp; omega)) _ | refine Below.drew ?_ | refine Below.setCell ?_ (by first | exact Nat.le_refl _ | (simp; done) | (simp; omega)) _))) (by omega)).mono ?_
    rintro e x0 ⟨rfl, hb0⟩
    rw [hk]
    have q0 : x0.cell? ⟨w.heap.size + 1, 0, none⟩ = some (.int .i64 0) := keepc hb0 (by simp [go_sem])
    have q1 : x0.cell? ⟨w.heap.size + 1, 1, none⟩ = some (.int .i64 0) := keepc hb0 (by simp [go_sem])
    have f0 : x0.frozen? ⟨w.heap.size + 1, 0, none⟩ = false := keepf hb0 (v := .int .i64 0) (by simp [go_sem]) (by simp [go_sem])
    have f1 : x0.frozen? ⟨w.heap.size + 1, 1, none⟩ = false := keepf hb0 (v := .int .i64 0) (by simp [go_sem]) (by simp [go_sem])
    have hB0 : Below w.heap.size w x0 := bcall (by repeat (first | exact Below.refl _ _ | refine Below.alloc ?_ (by first | exact Nat.le_refl _ | (simp; done) | (simp; omega)) _ | refine Below.drew ?_ | refine Below.setCell ?_ (by first | exact Nat.le_refl _ | (simp; done) | (simp; omega)) _)) (by simp <;> omega) hb0
    clear hb0
    go_wp2_with fail
    refine bodyPost_ret (v := .tuple #[.agg #[.int .i64 0, .int .i64 0], .bool false]) (by simp [results, Try.results14, go_sem, q0, q1]) rfl ⟨rfl, ?_⟩
    exact (hB0.setCell (p := ⟨w.heap.size + 1, 0, none⟩) (by simp) _).setCell (p := ⟨w.heap.size + 1, 1, none⟩) (by simp) _
  · obtain ⟨W, H, rfl, h1, h2, h3, h4, el, hH, hHI⟩ := okG_nat wd cs hk
    have hn : cs.length ≤ 25 := by rw [el]; exact Nat.le_trans (Nat.mul_le_mul h2 h4) (by omega)
    obtain ⟨M, hM⟩ : ∃ M, manyG (W : Int) cs = M := ⟨_, rfl⟩
    have hM2 : 4 ≤ M ∧ M ≤ 20 := by rw [← hM, manyG_ok hk hHI]; omega
    have hMa := hM2.1
    have hMb := hM2.2
    have CM : Hid (∀ (w : World), Calls Try.prog 38 #[.agg #[.int .i64 (W : Int), .slice a cs.length cap]] w fun e w' => e = .returned (.int .i64 M) ∧ Below w.heap.size w w') := by
      intro w
      have := l3Many_any W H a cs.length cap w ⟨h1, h2⟩ h4 (by omega) hH
      rw [← manyG_ok hk hHI, hM] at this
      exact this
    have EL : Hid (cs.length = W * H) := el
    have HH : Hid (cs.length / W = H) := hH
    have HI : Hid ((cs.length : Int) / (W : Int) = (H : Int)) := hHI
    have EM : Hid (manyG (W : Int) cs = M) := hM
    clear el hH hHI hM hM2
    by_cases hs : 0 ≤ k ∧ k < M
    · have HS : Hid (inB k 0 (M - 1) = true) := decide_eq_true (by omega)
      have hv2 : sRay W H k = (x, d) ∧ b = true := by
        unfold inRay at hv
        rw [EM.out, HI.out, if_pos ⟨hk, hs.1, hs.2⟩] at hv
        simp only [Prod.mk.injEq] at hv
        exact ⟨by rw [← hv.1, ← hv.2.1], hv.2.2.symm⟩
      obtain ⟨hv3, rfl⟩ := hv2
      have HV : Hid (sRay W H k = (x, d)) := hv3
      clear hv hv3
      go_enter Try.func14, Try.ntmps14
      go_wp2_with fail
      refine (specGridOk_any _ _ _ cs _ (h.below (by repeat (first | exact Below.refl _ _ | refine Below.alloc ?_ (by first | exact Nat.le_refl _ | (simp; done) | (simp; omega)) _ | refine Below.drew ?_ | refine Below.setCell ?_ (by first | exact Nat.le_refl _ | (simp; done) | (simp; omega)) _))) (by omega)).mono ?_
      rintro e x0 ⟨rfl, hb0⟩
      rw [hk]
      have g0 : x0.cell? ⟨w.heap.size, 0, none⟩ = some (.int .i64 (W : Int)) := keepc hb0 (by simp [go_sem])
      have g1 : x0.cell? ⟨w.heap.size, 1, none⟩ = some (.slice a cs.length cap) := keepc hb0 (by simp [go_sem])
      have hB0 : Below w.heap.size w x0 := bcall (by repeat (first | exact Below.refl _ _ | refine Below.alloc ?_ (by first | exact Nat.le_refl _ | (simp; done) | (simp; omega)) _ | refine Below.drew ?_ | refine Below.setCell ?_ (by first | exact Nat.le_refl _ | (simp; done) | (simp; omega)) _)) (by simp <;> omega) hb0
      have q0 : x0.cell? ⟨w.heap.size + 1, 0, none⟩ = some (.int .i64 0) := keepc hb0 (by simp [go_sem])
      have q1 : x0.cell? ⟨w.heap.size + 1, 1, none⟩ = some (.int .i64 0) := keepc hb0 (by simp [go_sem])
      have f0 : x0.frozen? ⟨w.heap.size + 1, 0, none⟩ = false := keepf hb0 (v := .int .i64 0) (by simp [go_sem]) (by simp [go_sem])
      have f1 : x0.frozen? ⟨w.heap.size + 1, 1, none⟩ = false := keepf hb0 (v := .int .i64 0) (by simp [go_sem]) (by simp [go_sem])
      clear hb0
      go_wp2_with fail
      refine (CM.out _).mono ?_
      rintro e x1 ⟨rfl, hb1⟩
      replace f0 := keepf hb1 q0 f0; replace f1 := keepf hb1 q1 f1; replace g0 := keepc hb1 g0; replace g1 := keepc hb1 g1; replace q0 := keepc hb1 q0; replace q1 := keepc hb1 q1
      have hB1 := bcall hB0 hB0.size hb1
      clear hb1 hB0
      go_wp2_with fail
      refine (l6In_any _ _ _ _).mono ?_
      rintro e x1 ⟨rfl, rfl⟩
      rw [HS.out]
      go_wp2_with fail
      refine (l3Ray_any W H a cs.length cap _ ⟨h1, h2⟩ ⟨h3, h4⟩ EL.out k (by omega) x d HV.out).mono ?_
      rintro e x2 ⟨rfl, hb2⟩
      replace f0 := keepf hb2 q0 f0; replace f1 := keepf hb2 q1 f1; replace q0 := keepc hb2 q0; replace q1 := keepc hb2 q1
      have hB2 := bcall hB1 hB1.size hb2
      clear hb2 hB1
      go_wp2_with fail
      refine bodyPost_ret (v := .tuple #[.agg #[.int .i64 x, .int .i64 d], .bool true]) (by simp [results, Try.results14, go_sem, q0, q1]) rfl ⟨rfl, ?_⟩
      exact (hB2.setCell (p := ⟨w.heap.size + 1, 0, none⟩) (by simp) _).setCell (p := ⟨w.heap.size + 1, 1, none⟩) (by simp) _
    · have HS : Hid (inB k 0 (M - 1) = false) := decide_eq_false (by omega)
      have hv2 : x = 0 ∧ d = 0 ∧ b = false := by
        unfold inRay at hv
        rw [EM.out, if_neg (fun q => hs q.2)] at hv
        simp only [Prod.mk.injEq] at hv
        exact ⟨hv.1.symm, hv.2.1.symm, hv.2.2.symm⟩
      obtain ⟨rfl, rfl, rfl⟩ := hv2
      clear hv hs
      go_enter Try.func14, Try.ntmps14
      go_wp2_with fail
      refine (specGridOk_any _ _ _ cs _ (h.below (by repeat (first | exact Below.refl _ _ | refine Below.alloc ?_ (by first | exact Nat.le_refl _ | (simp; done) | (simp; omega)) _ | refine Below.drew ?_ | refine Below.setCell ?_ (by first | exact Nat.le_refl _ | (simp; done) | (simp; omega)) _))) (by omega)).mono ?_
      rintro e x0 ⟨rfl, hb0⟩
      rw [hk]
      have g0 : x0.cell? ⟨w.heap.size, 0, none⟩ = some (.int .i64 (W : Int)) := keepc hb0 (by simp [go_sem])
      have g1 : x0.cell? ⟨w.heap.size, 1, none⟩ = some (.slice a cs.length cap) := keepc hb0 (by simp [go_sem])
      have hB0 : Below w.heap.size w x0 := bcall (by repeat (first | exact Below.refl _ _ | refine Below.alloc ?_ (by first | exact Nat.le_refl _ | (simp; done) | (simp; omega)) _ | refine Below.drew ?_ | refine Below.setCell ?_ (by first | exact Nat.le_refl _ | (simp; done) | (simp; omega)) _)) (by simp <;> omega) hb0
      have q0 : x0.cell? ⟨w.heap.size + 1, 0, none⟩ = some (.int .i64 0) := keepc hb0 (by simp [go_sem])
      have q1 : x0.cell? ⟨w.heap.size + 1, 1, none⟩ = some (.int .i64 0) := keepc hb0 (by simp [go_sem])
      have f0 : x0.frozen? ⟨w.heap.size + 1, 0, none⟩ = false := keepf hb0 (v := .int .i64 0) (by simp [go_sem]) (by simp [go_sem])
      have f1 : x0.frozen? ⟨w.heap.size + 1, 1, none⟩ = false := keepf hb0 (v := .int .i64 0) (by simp [go_sem]) (by simp [go_sem])
      clear hb0
      go_wp2_with fail
      refine (CM.out _).mono ?_
      rintro e x1 ⟨rfl, hb1⟩
      replace f0 := keepf hb1 q0 f0; replace f1 := keepf hb1 q1 f1; replace g0 := keepc hb1 g0; replace g1 := keepc hb1 g1; replace q0 := keepc hb1 q0; replace q1 := keepc hb1 q1
      have hB1 := bcall hB0 hB0.size hb1
      clear hb1 hB0
      go_wp2_with fail
      refine (l6In_any _ _ _ _).mono ?_
      rintro e x1 ⟨rfl, rfl⟩
      rw [HS.out]
      go_wp2_with fail
      refine bodyPost_ret (v := .tuple #[.agg #[.int .i64 0, .int .i64 0], .bool false]) (by simp [results, Try.results14, go_sem, q0, q1]) rfl ⟨rfl, ?_⟩
      exact (hB1.setCell (p := ⟨w.heap.size + 1, 0, none⟩) (by simp) _).setCell (p := ⟨w.heap.size + 1, 1, none⟩) (by simp) _
end Go.Proofs.Ytankkkiccokggaa
