/-
  The contracts of GridTurn and GridFlip, of both packages, at every grid: what the plain functions 'turnG' and 'flipG' say, in new memory.
-/
import Derived.Test.YtmnninhifiajhaaTh
import Derived.Test.YtmnninhifiajhaaTe
import Derived.Test.YtmnninhifiajhaaTf
namespace Go.Proofs.Ytmnninhifiajhaa
open Go.RowKit
set_option linter.unusedVariables false
set_option maxRecDepth 20000

set_option maxHeartbeats 400000 in
theorem specGridTurn_no (wd : Int) (a : Option Addr) (cap : Nat) (cs : List (Int × Int)) (w : World) (hC : CellsAt w a cs) (hm : cs.length ≤ 1048576) (hno : okG wd cs = false) :
    Calls Try.prog 19 #[.agg #[.int .i64 wd, .slice a cs.length cap]] w fun e w' => e = .returned (.agg #[.int .i64 0, .slice none 0 0]) ∧ Below w.heap.size w w' := by
  go_enter Try.func19, Try.ntmps19
  go_wp2_with fail
  refine (specGridOk_any _ _ _ cs _ (hC.below (by repeat (first | exact Below.refl _ _ | refine Below.alloc ?_ (by first | exact Nat.le_refl _ | (simp; done) | (simp; omega)) _ | refine Below.drew ?_ | refine Below.setCell ?_ (by first | exact Nat.le_refl _ | (simp; done) | (simp; omega)) _))) (by omega)).mono ?_
  rintro e w1 ⟨rfl, hb1⟩
  have hz1 := hb1.size
  simp at hz1
  have hB1 : Below w.heap.size w w1 := bcall (by repeat (first | exact Below.refl _ _ | refine Below.alloc ?_ (by first | exact Nat.le_refl _ | (simp; done) | (simp; omega)) _ | refine Below.drew ?_ | refine Below.setCell ?_ (by first | exact Nat.le_refl _ | (simp; done) | (simp; omega)) _)) (by simp; omega) hb1
  have p4 : w1.cell? ⟨w.heap.size + 1, 0, none⟩ = some (.int .i64 0) := keepc hb1 (by simp [go_sem])
  have p5 : w1.cell? ⟨w.heap.size + 1, 1, none⟩ = some (.slice none 0 0) := keepc hb1 (by simp [go_sem])
  have f4 : w1.frozen? ⟨w.heap.size + 1, 0, none⟩ = false := keepf hb1 (v := .int .i64 0) (by simp [go_sem]) (by simp [go_sem])
  have f5 : w1.frozen? ⟨w.heap.size + 1, 1, none⟩ = false := keepf hb1 (v := .slice none 0 0) (by simp [go_sem]) (by simp [go_sem])
  clear hb1
  go_wp2
  refine bodyPost_ret (v := .agg #[.int .i64 0, .slice none 0 0]) (by simp [results, Try.results19, go_sem, p4, p5]) rfl ⟨rfl, ?_⟩
  exact (hB1.setCell (p := ⟨w.heap.size + 1, 0, none⟩) (by simp) _).setCell (p := ⟨w.heap.size + 1, 1, none⟩) (by simp) _

theorem specGridTurn_any (wd : Int) (a : Option Addr) (cap : Nat) (cs : List (Int × Int)) (w : World) (hC : CellsAt w a cs) (hm : cs.length ≤ 1048576) :
    Calls Try.prog 19 #[.agg #[.int .i64 wd, .slice a cs.length cap]] w fun e w' => ∃ v, e = .returned (.agg #[.int .i64 (turnG wd cs).1, v]) ∧ Own w' w.heap.size v (turnG wd cs).2 ∧ Below w.heap.size w w' := by
  by_cases hok : okG wd cs = true
  · obtain ⟨W, H, rfl, h1, h2, h3, h4, h5, h6, h7⟩ := okG_nat wd cs hok
    rcases hC with h0 | ⟨b, off, rfl, hbl, hcell⟩
    · rw [h0] at h5
      have : 1 * 1 ≤ W * H := Nat.mul_le_mul h1 h3
      simp at h5
      omega
    refine (specGridTurn_yes W H b off cap cs w hbl hcell hok ⟨h1, h2⟩ ⟨h3, h4⟩ h5).mono ?_
    rintro e w' ⟨g, cap', rfl, hO, hb⟩
    have hl : (turnC W H cs).length = cs.length := by simp [turnC]
    refine ⟨.slice (some ⟨g, 0, none⟩) cs.length cap', ?_, ?_, hb⟩
    · simp only [turnG, hok, if_true, h7]
    · simp only [turnG, hok, if_true, Int.toNat_natCast]
      rw [h6]; exact hO
  · have hno : okG wd cs = false := by simpa using hok
    refine (specGridTurn_no wd a cap cs w hC hm hno).mono ?_
    rintro e w' ⟨rfl, hb⟩
    refine ⟨.slice none 0 0, ?_, ?_, hb⟩
    · simp [turnG, hno]
    · simp only [turnG, hno]
      exact own_none w' w.heap.size

set_option maxHeartbeats 400000 in
theorem implGridFlip_no (wd : Int) (a : Option Addr) (cap : Nat) (cs : List (Int × Int)) (w : World) (hC : CellsAt w a cs) (hm : cs.length ≤ 1048576) (hno : okG wd cs = false) :
    Calls Try.prog 21 #[.agg #[.int .i64 wd, .slice a cs.length cap]] w fun e w' => e = .returned (.agg #[.int .i64 0, .slice none 0 0]) ∧ Below w.heap.size w w' := by
  go_enter Try.func21, Try.ntmps21
  go_wp2_with fail
  refine (implGridOk_any _ _ _ cs _ (hC.below (by repeat (first | exact Below.refl _ _ | refine Below.alloc ?_ (by first | exact Nat.le_refl _ | (simp; done) | (simp; omega)) _ | refine Below.drew ?_ | refine Below.setCell ?_ (by first | exact Nat.le_refl _ | (simp; done) | (simp; omega)) _))) (by omega)).mono ?_
  rintro e w1 ⟨rfl, hb1⟩
  have hz1 := hb1.size
  simp at hz1
  have hB1 : Below w.heap.size w w1 := bcall (by repeat (first | exact Below.refl _ _ | refine Below.alloc ?_ (by first | exact Nat.le_refl _ | (simp; done) | (simp; omega)) _ | refine Below.drew ?_ | refine Below.setCell ?_ (by first | exact Nat.le_refl _ | (simp; done) | (simp; omega)) _)) (by simp; omega) hb1
  have p4 : w1.cell? ⟨w.heap.size + 1, 0, none⟩ = some (.int .i64 0) := keepc hb1 (by simp [go_sem])
  have p5 : w1.cell? ⟨w.heap.size + 1, 1, none⟩ = some (.slice none 0 0) := keepc hb1 (by simp [go_sem])
  have f4 : w1.frozen? ⟨w.heap.size + 1, 0, none⟩ = false := keepf hb1 (v := .int .i64 0) (by simp [go_sem]) (by simp [go_sem])
  have f5 : w1.frozen? ⟨w.heap.size + 1, 1, none⟩ = false := keepf hb1 (v := .slice none 0 0) (by simp [go_sem]) (by simp [go_sem])
  clear hb1
  go_wp2
  refine bodyPost_ret (v := .agg #[.int .i64 0, .slice none 0 0]) (by simp [results, Try.results21, go_sem, p4, p5]) rfl ⟨rfl, ?_⟩
  exact (hB1.setCell (p := ⟨w.heap.size + 1, 0, none⟩) (by simp) _).setCell (p := ⟨w.heap.size + 1, 1, none⟩) (by simp) _

theorem implGridFlip_any (wd : Int) (a : Option Addr) (cap : Nat) (cs : List (Int × Int)) (w : World) (hC : CellsAt w a cs) (hm : cs.length ≤ 1048576) :
    Calls Try.prog 21 #[.agg #[.int .i64 wd, .slice a cs.length cap]] w fun e w' => ∃ v, e = .returned (.agg #[.int .i64 (flipG wd cs).1, v]) ∧ Own w' w.heap.size v (flipG wd cs).2 ∧ Below w.heap.size w w' := by
  by_cases hok : okG wd cs = true
  · obtain ⟨W, H, rfl, h1, h2, h3, h4, h5, h6, h7⟩ := okG_nat wd cs hok
    rcases hC with h0 | ⟨b, off, rfl, hbl, hcell⟩
    · rw [h0] at h5
      have : 1 * 1 ≤ W * H := Nat.mul_le_mul h1 h3
      simp at h5
      omega
    refine (implGridFlip_yes W H b off cap cs w hbl hcell hok ⟨h1, h2⟩ ⟨h3, h4⟩ h5).mono ?_
    rintro e w' ⟨g, rfl, hO, hb⟩
    have hl : (flipC W cs).length = cs.length := by simp [flipC]
    refine ⟨.slice (some ⟨g, 0, none⟩) cs.length cs.length, ?_, ?_, hb⟩
    · simp only [flipG, hok, if_true]
    · simp only [flipG, hok, if_true, Int.toNat_natCast]
      exact hO
  · have hno : okG wd cs = false := by simpa using hok
    refine (implGridFlip_no wd a cap cs w hC hm hno).mono ?_
    rintro e w' ⟨rfl, hb⟩
    refine ⟨.slice none 0 0, ?_, ?_, hb⟩
    · simp [flipG, hno]
    · simp only [flipG, hno]
      exact own_none w' w.heap.size

end Go.Proofs.Ytmnninhifiajhaa
