/-
  impl.sightOk, SightTurn and SightFlip answer what the plain functions say, whatever the grid.
-/
import Derived.Test.YtankkkiccokggaaVi
namespace Go.Proofs.Ytankkkiccokggaa
open Go.RowKit
set_option linter.unusedVariables false

/-- Whether there is such a sight. -/
def inS (wd : Int) (cs : List (Int × Int)) (k : Int) : Bool := decide (0 ≤ k ∧ k < manyG wd cs)

theorem manyG_in (wd : Int) (cs : List (Int × Int)) : 0 ≤ manyG wd cs ∧ manyG wd cs ≤ 20 := by
  rcases hk : okG wd cs with _ | _
  · rw [manyG_bad hk]; omega
  · obtain ⟨W, H, rfl, h1, h2, h3, h4, el, hH, hHI⟩ := okG_nat wd cs hk
    rw [manyG_ok hk hHI]; omega
theorem inS_ok {wd : Int} {cs : List (Int × Int)} {k : Int} (h : inS wd cs k = true) : okG wd cs = true := by
  rcases hk : okG wd cs with _ | _
  · simp only [inS, manyG_bad hk, decide_eq_true_eq] at h; omega
  · rfl

set_option maxHeartbeats 400000 in
theorem sightOk_any (wd : Int) (a : Option Addr) (cap : Nat) (cs : List (Int × Int)) (w : World) (h : CellsAt w a cs) (hm : cs.length ≤ 1048576) (k : Int) :
    Calls Try.prog 58 #[.agg #[.int .i64 wd, .slice a cs.length cap], .int .i64 k] w fun e w' => e = .returned (.bool (inS wd cs k)) ∧ Below w.heap.size w w' := by
  by_cases h1 : 0 ≤ k
  · obtain ⟨M, hM⟩ : ∃ M, manyG wd cs = M := ⟨_, rfl⟩
    have EM : Hid (manyG wd cs = M) := hM
    have hv : inS wd cs k = decide (k < M) := by simp [inS, hM, h1]
    rw [hv]
    clear hM hv
    go_enter Try.func58, Try.ntmps58
    go_wp2_with fail
    refine (implMany_any _ _ _ cs _ (h.below (by repeat (first | exact Below.refl _ _ | refine Below.alloc ?_ (by first | exact Nat.le_refl _ | (simp; done) | (simp; omega)) _ | refine Below.drew ?_ | refine Below.setCell ?_ (by first | exact Nat.le_refl _ | (simp; done) | (simp; omega)) _))) hm).mono ?_
    rintro e x0 ⟨rfl, hb0⟩
    rw [EM.out]
    go_wp2_with fail
    go_ret
    exact ⟨rfl, bcall (by repeat (first | exact Below.refl _ _ | refine Below.alloc ?_ (by first | exact Nat.le_refl _ | (simp; done) | (simp; omega)) _ | refine Below.drew ?_ | refine Below.setCell ?_ (by first | exact Nat.le_refl _ | (simp; done) | (simp; omega)) _)) (by simp <;> omega) hb0⟩
  · have hv : inS wd cs k = false := by simp [inS, h1]
    rw [hv]
    clear hv
    go_enter Try.func58, Try.ntmps58
    go_wp2_with fail
    go_ret
    exact ⟨rfl, (by repeat (first | exact Below.refl _ _ | refine Below.alloc ?_ (by first | exact Nat.le_refl _ | (simp; done) | (simp; omega)) _ | refine Below.drew ?_ | refine Below.setCell ?_ (by first | exact Nat.le_refl _ | (simp; done) | (simp; omega)) _))⟩

set_option maxHeartbeats 1000000 in
theorem implTurn_any (wd : Int) (a : Option Addr) (cap : Nat) (cs : List (Int × Int)) (w : World) (h : CellsAt w a cs) (hm : cs.length ≤ 1048576) (k : Int) :
    Calls Try.prog 25 #[.agg #[.int .i64 wd, .slice a cs.length cap], .int .i64 k] w fun e w' => e = .returned (.int .i64 (turnK wd cs k)) ∧ Below w.heap.size w w' := by
  rcases hs : inS wd cs k with _ | _
  · have hv : turnK wd cs k = -1 := by
      unfold turnK; rw [if_neg]; intro q
      simp only [inS, decide_eq_false_iff_not] at hs; exact hs q.2
    rw [hv]
    clear hv
    go_enter Try.func25, Try.ntmps25
    go_wp2_with fail
    refine (sightOk_any _ _ _ cs _ (h.below (by repeat (first | exact Below.refl _ _ | refine Below.alloc ?_ (by first | exact Nat.le_refl _ | (simp; done) | (simp; omega)) _ | refine Below.drew ?_ | refine Below.setCell ?_ (by first | exact Nat.le_refl _ | (simp; done) | (simp; omega)) _))) hm k).mono ?_
    rintro e x0 ⟨rfl, hb0⟩
    rw [hs]
    go_wp2_with fail
    go_ret
    exact ⟨rfl, bcall (by repeat (first | exact Below.refl _ _ | refine Below.alloc ?_ (by first | exact Nat.le_refl _ | (simp; done) | (simp; omega)) _ | refine Below.drew ?_ | refine Below.setCell ?_ (by first | exact Nat.le_refl _ | (simp; done) | (simp; omega)) _)) (by simp <;> omega) hb0⟩
  · have hk := inS_ok hs
    obtain ⟨W, H, rfl, h1, h2, h3, h4, el, hH, hHI⟩ := okG_nat wd cs hk
    have hS : Hid (inS (W : Int) cs k = true) := hs
    simp only [inS, decide_eq_true_eq] at hs
    obtain ⟨M, hM⟩ : ∃ M, manyG (W : Int) cs = M := ⟨_, rfl⟩
    have hM2 : 4 ≤ M ∧ M ≤ 20 := by rw [← hM, manyG_ok hk hHI]; omega
    rw [hM] at hs
    obtain ⟨v, hv⟩ : ∃ v, (k + (H : Int)) % M = v := ⟨_, rfl⟩
    have EV : Hid (turnK (W : Int) cs k = v) := by
      show _ = _
      unfold turnK; rw [hHI, hM, if_pos ⟨hk, hs.1, hs.2⟩, hv]
    rw [EV.out]
    have EM : Hid (manyG (W : Int) cs = M) := hM
    have HH : Hid (cs.length / W = H) := hH
    have hk0 := hs.1
    have hk1 := hs.2
    have hMa := hM2.1
    have hMb := hM2.2
    have v0 : 0 ≤ v := by rw [← hv]; exact Int.emod_nonneg _ (by omega)
    have v1 : v < M := by rw [← hv]; exact Int.emod_lt_of_pos _ (by omega)
    have wr : IntKind.i64.wrap (k + (H : Int)) = k + (H : Int) := IntWalk.i64_in _ (by omega)
    have ht : (k + (H : Int)).tmod M = v := by rw [Int.tmod_eq_emod_of_nonneg (by omega)]; exact hv
    have hM0 : ¬ (M = 0) := by omega
    clear hM EV hH hHI el hs hM2
    go_enter Try.func25, Try.ntmps25
    go_wp2_with fail
    refine (sightOk_any _ _ _ cs _ (h.below (by repeat (first | exact Below.refl _ _ | refine Below.alloc ?_ (by first | exact Nat.le_refl _ | (simp; done) | (simp; omega)) _ | refine Below.drew ?_ | refine Below.setCell ?_ (by first | exact Nat.le_refl _ | (simp; done) | (simp; omega)) _))) hm k).mono ?_
    rintro e x0 ⟨rfl, hb0⟩
    rw [hS.out]
    have g0 : x0.cell? ⟨w.heap.size, 0, none⟩ = some (.int .i64 (W : Int)) := keepc hb0 (by simp [go_sem])
    have g1 : x0.cell? ⟨w.heap.size, 1, none⟩ = some (.slice a cs.length cap) := keepc hb0 (by simp [go_sem])
    have hB0 : Below w.heap.size w x0 := bcall (by repeat (first | exact Below.refl _ _ | refine Below.alloc ?_ (by first | exact Nat.le_refl _ | (simp; done) | (simp; omega)) _ | refine Below.drew ?_ | refine Below.setCell ?_ (by first | exact Nat.le_refl _ | (simp; done) | (simp; omega)) _)) (by simp <;> omega) hb0
    have hC0 := h.below hB0
    clear hb0
    go_wp2
    go_region_held3 (fun w' => w'.cell? ⟨w.heap.size, 0, none⟩ = some (.int .i64 (W : Int)) ∧ w'.cell? ⟨w.heap.size, 1, none⟩ = some (.slice a cs.length cap))
      (first
        | with_reducible exact ⟨keepc hb7 g0, keepc hb7 g1⟩
        | with_reducible exact ⟨keepc hb6 g0, keepc hb6 g1⟩
        | go_keep)
      (first
        | (go_at_call 59; refine (rowsI_any W H _ _ _ _ h1 hm HH.out).mono ?_; rintro e w6 ⟨rfl, hb6'⟩; have hb6 : Below x0.heap.size x0 w6 := (by first | with_reducible exact hb6' | with_reducible exact bdrew hb6' | with_reducible exact bcall hb7 hb7.size hb6'))
        | (go_at_call 18; refine (implMany_any _ _ _ cs _ (by first | with_reducible exact hC0.below hb6 | with_reducible exact hC0 | with_reducible exact hC0.below (Below.refl _ _).drew) hm).mono ?_; rintro e w7 ⟨rfl, hb7'⟩; rw [EM.out]; have hb7 : Below x0.heap.size x0 w7 := (by first | with_reducible exact bcall hb6 hb6.size hb7' | with_reducible exact hb7' | with_reducible exact bdrew hb7'))
        | fail)
    all_goals
      have hBf := bcall hB0 hB0.size hb7
      go_wp2
      go_ret
      exact ⟨rfl, hBf⟩

set_option maxHeartbeats 1000000 in
theorem implFlip_any (wd : Int) (a : Option Addr) (cap : Nat) (cs : List (Int × Int)) (w : World) (h : CellsAt w a cs) (hm : cs.length ≤ 1048576) (k : Int) :
    Calls Try.prog 26 #[.agg #[.int .i64 wd, .slice a cs.length cap], .int .i64 k] w fun e w' => e = .returned (.int .i64 (flipK wd cs k)) ∧ Below w.heap.size w w' := by
  rcases hs : inS wd cs k with _ | _
  · have hv : flipK wd cs k = -1 := by
      unfold flipK; rw [if_neg]; intro q
      simp only [inS, decide_eq_false_iff_not] at hs; exact hs q.2
    rw [hv]
    clear hv
    go_enter Try.func26, Try.ntmps26
    go_wp2_with fail
    refine (sightOk_any _ _ _ cs _ (h.below (by repeat (first | exact Below.refl _ _ | refine Below.alloc ?_ (by first | exact Nat.le_refl _ | (simp; done) | (simp; omega)) _ | refine Below.drew ?_ | refine Below.setCell ?_ (by first | exact Nat.le_refl _ | (simp; done) | (simp; omega)) _))) hm k).mono ?_
    rintro e x0 ⟨rfl, hb0⟩
    rw [hs]
    go_wp2_with fail
    go_ret
    exact ⟨rfl, bcall (by repeat (first | exact Below.refl _ _ | refine Below.alloc ?_ (by first | exact Nat.le_refl _ | (simp; done) | (simp; omega)) _ | refine Below.drew ?_ | refine Below.setCell ?_ (by first | exact Nat.le_refl _ | (simp; done) | (simp; omega)) _)) (by simp <;> omega) hb0⟩
  · have hk := inS_ok hs
    obtain ⟨W, H, rfl, h1, h2, h3, h4, el, hH, hHI⟩ := okG_nat wd cs hk
    have hS : Hid (inS (W : Int) cs k = true) := hs
    simp only [inS, decide_eq_true_eq] at hs
    obtain ⟨M, hM⟩ : ∃ M, manyG (W : Int) cs = M := ⟨_, rfl⟩
    have hM2 : 4 ≤ M ∧ M ≤ 20 := by rw [← hM, manyG_ok hk hHI]; omega
    rw [hM] at hs
    obtain ⟨v, hv⟩ : ∃ v, ((W : Int) - 1 - k + M) % M = v := ⟨_, rfl⟩
    have EV : Hid (flipK (W : Int) cs k = v) := by
      show _ = _
      unfold flipK; rw [hM, if_pos ⟨hk, hs.1, hs.2⟩, hv]
    rw [EV.out]
    have EM : Hid (manyG (W : Int) cs = M) := hM
    have hk0 := hs.1
    have hk1 := hs.2
    have hMa := hM2.1
    have hMb := hM2.2
    have ht : ((W : Int) - 1 - k + M).tmod M = v := by rw [Int.tmod_eq_emod_of_nonneg (by omega)]; exact hv
    have hM0 : ¬ (M = 0) := by omega
    clear hM EV hH hHI el hs hM2
    go_enter Try.func26, Try.ntmps26
    go_wp2_with fail
    refine (sightOk_any _ _ _ cs _ (h.below (by repeat (first | exact Below.refl _ _ | refine Below.alloc ?_ (by first | exact Nat.le_refl _ | (simp; done) | (simp; omega)) _ | refine Below.drew ?_ | refine Below.setCell ?_ (by first | exact Nat.le_refl _ | (simp; done) | (simp; omega)) _))) hm k).mono ?_
    rintro e x0 ⟨rfl, hb0⟩
    rw [hS.out]
    have g0 : x0.cell? ⟨w.heap.size, 0, none⟩ = some (.int .i64 (W : Int)) := keepc hb0 (by simp [go_sem])
    have g1 : x0.cell? ⟨w.heap.size, 1, none⟩ = some (.slice a cs.length cap) := keepc hb0 (by simp [go_sem])
    have hB0 : Below w.heap.size w x0 := bcall (by repeat (first | exact Below.refl _ _ | refine Below.alloc ?_ (by first | exact Nat.le_refl _ | (simp; done) | (simp; omega)) _ | refine Below.drew ?_ | refine Below.setCell ?_ (by first | exact Nat.le_refl _ | (simp; done) | (simp; omega)) _)) (by simp <;> omega) hb0
    have hC0 := h.below hB0
    clear hb0
    go_wp2_with fail
    refine (implMany_any _ _ _ cs _ hC0 hm).mono ?_
    rintro e x1 ⟨rfl, hb1⟩
    rw [EM.out]
    replace g0 := keepc hb1 g0; replace g1 := keepc hb1 g1
    have hB1 := bcall hB0 hB0.size hb1
    clear hb1
    go_wp2_with fail
    go_ret
    exact ⟨rfl, hB1⟩
end Go.Proofs.Ytankkkiccokggaa
