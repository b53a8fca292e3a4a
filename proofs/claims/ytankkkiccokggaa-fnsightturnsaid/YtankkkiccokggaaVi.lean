/-
  impl.SightMany, SightRay, SightOf, SightTurn and SightFlip answer what the plain functions say, whatever the grid.
-/
import Derived.Test.YtankkkiccokggaaVh
import Derived.Deep.RegionHeld3
namespace Go.Proofs.Ytankkkiccokggaa
open Go.RowKit
set_option linter.unusedVariables false

set_option maxHeartbeats 400000 in
theorem implMany_any (wd : Int) (a : Option Addr) (cap : Nat) (cs : List (Int × Int)) (w : World) (h : CellsAt w a cs) (hm : cs.length ≤ 1048576) :
    Calls Try.prog 18 #[.agg #[.int .i64 wd, .slice a cs.length cap]] w fun e w' => e = .returned (.int .i64 (manyG wd cs)) ∧ Below w.heap.size w w' := by
  rcases hk : okG wd cs with _ | _
  · rw [manyG_bad hk]
    go_enter Try.func18, Try.ntmps18
    go_wp2_with fail
    refine (goInt_bad _ _ _ cs _ (h.below (by repeat (first | exact Below.refl _ _ | refine Below.alloc ?_ (by first | exact Nat.le_refl _ | (simp; done) | (simp; omega)) _ | refine Below.drew ?_ | refine Below.setCell ?_ (by first | exact Nat.le_refl _ | (simp; done) | (simp; omega)) _))) hk hm _ _).mono ?_
    rintro e x0 ⟨rfl, hb0⟩
    go_wp2_with fail
    go_ret
    exact ⟨rfl, bcall (by repeat (first | exact Below.refl _ _ | refine Below.alloc ?_ (by first | exact Nat.le_refl _ | (simp; done) | (simp; omega)) _ | refine Below.drew ?_ | refine Below.setCell ?_ (by first | exact Nat.le_refl _ | (simp; done) | (simp; omega)) _)) (by simp) hb0⟩
  · obtain ⟨W, H, rfl, h1, h2, h3, h4, el, hH, hHI⟩ := okG_nat wd cs hk
    have hn : cs.length ≤ 25 := by rw [el]; exact Nat.le_trans (Nat.mul_le_mul h2 h4) (by omega)
    have EL : Hid (cs.length = W * H) := el
    have HH : Hid (cs.length / W = H) := hH
    have HI : Hid ((cs.length : Int) / (W : Int) = (H : Int)) := hHI
    clear el hH hHI
    obtain ⟨M, hM⟩ : ∃ M, manyG (W : Int) cs = M := ⟨_, rfl⟩
    rw [hM]
    have EM : Hid ((W : Int) + (H : Int) + (W : Int) + (H : Int) = M) := by show _ = _; rw [← hM, manyG_ok hk HI.out]; omega
    clear hM
    go_enter Try.func18, Try.ntmps18
    go_wp2_with fail
    refine (goMany_ok W H _ _ cs _ (h.below (by repeat (first | exact Below.refl _ _ | refine Below.alloc ?_ (by first | exact Nat.le_refl _ | (simp; done) | (simp; omega)) _ | refine Below.drew ?_ | refine Below.setCell ?_ (by first | exact Nat.le_refl _ | (simp; done) | (simp; omega)) _))) hk ⟨h1, h2⟩ ⟨h3, h4⟩ hn HH.out).mono ?_
    rintro e x0 ⟨rfl, hb0⟩
    rw [EM.out]
    go_wp2_with fail
    go_ret
    exact ⟨rfl, bcall (by repeat (first | exact Below.refl _ _ | refine Below.alloc ?_ (by first | exact Nat.le_refl _ | (simp; done) | (simp; omega)) _ | refine Below.drew ?_ | refine Below.setCell ?_ (by first | exact Nat.le_refl _ | (simp; done) | (simp; omega)) _)) (by simp) hb0⟩

set_option maxHeartbeats 400000 in
theorem implOf_any (wd : Int) (a : Option Addr) (cap : Nat) (cs : List (Int × Int)) (w : World) (h : CellsAt w a cs) (hm : cs.length ≤ 1048576) (x d : Int) :
    Calls Try.prog 17 #[.agg #[.int .i64 wd, .slice a cs.length cap], .int .i64 x, .int .i64 d] w fun e w' => e = .returned (.int .i64 (outOf wd cs x d)) ∧ Below w.heap.size w w' := by
  rcases hk : okG wd cs with _ | _
  · rw [outOf_bad hk]
    go_enter Try.func17, Try.ntmps17
    go_wp2_with fail
    refine (goInt_bad _ _ _ cs _ (h.below (by repeat (first | exact Below.refl _ _ | refine Below.alloc ?_ (by first | exact Nat.le_refl _ | (simp; done) | (simp; omega)) _ | refine Below.drew ?_ | refine Below.setCell ?_ (by first | exact Nat.le_refl _ | (simp; done) | (simp; omega)) _))) hk hm _ _).mono ?_
    rintro e x0 ⟨rfl, hb0⟩
    go_wp2_with fail
    go_ret
    exact ⟨rfl, bcall (by repeat (first | exact Below.refl _ _ | refine Below.alloc ?_ (by first | exact Nat.le_refl _ | (simp; done) | (simp; omega)) _ | refine Below.drew ?_ | refine Below.setCell ?_ (by first | exact Nat.le_refl _ | (simp; done) | (simp; omega)) _)) (by simp <;> omega) hb0⟩
  · obtain ⟨W, H, rfl, h1, h2, h3, h4, el, hH, hHI⟩ := okG_nat wd cs hk
    have hn : cs.length ≤ 25 := by rw [el]; exact Nat.le_trans (Nat.mul_le_mul h2 h4) (by omega)
    have EL : Hid (cs.length = W * H) := el
    have HH : Hid (cs.length / W = H) := hH
    have HI : Hid ((cs.length : Int) / (W : Int) = (H : Int)) := hHI
    clear el hH hHI
    obtain ⟨v, hv⟩ : ∃ v, outOf (W : Int) cs x d = v := ⟨_, rfl⟩
    rw [hv]
    have EV : Hid (of3 W H cs.length x d = v) := (outOf_of3 hk ⟨h1, h2⟩ ⟨h3, h4⟩ EL.out HI.out x d).trans hv
    clear hv
    go_enter Try.func17, Try.ntmps17
    go_wp2_with fail
    refine (goOf_ok W H _ _ cs _ (h.below (by repeat (first | exact Below.refl _ _ | refine Below.alloc ?_ (by first | exact Nat.le_refl _ | (simp; done) | (simp; omega)) _ | refine Below.drew ?_ | refine Below.setCell ?_ (by first | exact Nat.le_refl _ | (simp; done) | (simp; omega)) _))) hk ⟨h1, h2⟩ ⟨h3, h4⟩ hn HH.out x d _ _ (by simp [go_sem]) (by simp [go_sem])).mono ?_
    rintro e x0 ⟨rfl, hb0⟩
    rw [EV.out]
    go_wp2_with fail
    go_ret
    exact ⟨rfl, bcall (by repeat (first | exact Below.refl _ _ | refine Below.alloc ?_ (by first | exact Nat.le_refl _ | (simp; done) | (simp; omega)) _ | refine Below.drew ?_ | refine Below.setCell ?_ (by first | exact Nat.le_refl _ | (simp; done) | (simp; omega)) _)) (by simp <;> omega) hb0⟩

set_option maxHeartbeats 1000000 in
theorem implRay_any (wd : Int) (a : Option Addr) (cap : Nat) (cs : List (Int × Int)) (w : World) (h : CellsAt w a cs) (hm : cs.length ≤ 1048576) (k x d : Int) (b : Bool) (hv : inRay wd cs k = (x, d, b)) :
    Calls Try.prog 15 #[.agg #[.int .i64 wd, .slice a cs.length cap], .int .i64 k] w fun e w' => e = .returned (.tuple #[.agg #[.int .i64 x, .int .i64 d], .bool b]) ∧ Below w.heap.size w w' := by
  have HC : Hid (∀ w', Below w.heap.size w w' → ∀ bk, w'.cell? ⟨bk, 0, none⟩ = some (.int .i64 k) → Calls Try.prog 40 #[.agg #[.int .i64 wd, .slice a cs.length cap], .agg #[.int .i64 0, .int .i64 0, .bool false], .func (.func 41) #[] #[.pointer (some ⟨bk, 0, none⟩)]] w' fun e w'' => e = .returned (.agg #[.int .i64 x, .int .i64 d, .bool b]) ∧ Below w'.heap.size w' w'') := by
    intro w' hb bk hc
    rcases hk : okG wd cs with _ | _
    · rw [inRay_bad hk] at hv
      simp only [Prod.mk.injEq] at hv
      obtain ⟨rfl, rfl, rfl⟩ := hv
      exact goRay_bad _ _ _ cs _ (h.below hb) hk hm _
    · obtain ⟨W, H, rfl, h1, h2, h3, h4, el, hH, hHI⟩ := okG_nat wd cs hk
      have hn : cs.length ≤ 25 := by rw [el]; exact Nat.le_trans (Nat.mul_le_mul h2 h4) (by omega)
      exact goRay_ok W H _ _ cs _ (h.below hb) hk ⟨h1, h2⟩ ⟨h3, h4⟩ hn hH k bk hc x d b ((inRay_in3 hk ⟨h1, h2⟩ ⟨h3, h4⟩ el hHI k).trans hv)
  clear hv
  go_enter Try.func15, Try.ntmps15
  go_wp2_with fail
  refine (HC.out _ (by repeat (first | exact Below.refl _ _ | refine Below.alloc ?_ (by first | exact Nat.le_refl _ | (simp; done) | (simp; omega)) _ | refine Below.drew ?_ | refine Below.setCell ?_ (by first | exact Nat.le_refl _ | (simp; done) | (simp; omega)) _)) _ (by simp [go_sem])).mono ?_
  rintro e x0 ⟨rfl, hb0⟩
  have r0 : x0.cell? ⟨w.heap.size + 1 + 1, 0, none⟩ = some (.int .i64 0) := keepc hb0 (by simp [go_sem])
  have r1 : x0.cell? ⟨w.heap.size + 1 + 1, 1, none⟩ = some (.int .i64 0) := keepc hb0 (by simp [go_sem])
  have f0 : x0.frozen? ⟨w.heap.size + 1 + 1, 0, none⟩ = false := keepf hb0 (v := .int .i64 0) (by simp [go_sem]) (by simp [go_sem])
  have f1 : x0.frozen? ⟨w.heap.size + 1 + 1, 1, none⟩ = false := keepf hb0 (v := .int .i64 0) (by simp [go_sem]) (by simp [go_sem])
  have hz0 := hb0.size
  simp at hz0
  have hB0 : Below w.heap.size w x0 := bcall (by repeat (first | exact Below.refl _ _ | refine Below.alloc ?_ (by first | exact Nat.le_refl _ | (simp; done) | (simp; omega)) _ | refine Below.drew ?_ | refine Below.setCell ?_ (by first | exact Nat.le_refl _ | (simp; done) | (simp; omega)) _)) (by simp <;> omega) hb0
  have hO : Below x0.heap.size x0 (x0.alloc (.cells #[.int .i64 x, .int .i64 d, .bool b] 60)) := (Below.refl _ _).alloc (Nat.le_refl _) _
  have hB1 := bcall hB0 (by omega) hO
  have s0 : (x0.alloc (.cells #[.int .i64 x, .int .i64 d, .bool b] 60)).cell? ⟨x0.heap.size, 0, none⟩ = some (.int .i64 x) := by simp [go_sem]
  have s1 : (x0.alloc (.cells #[.int .i64 x, .int .i64 d, .bool b] 60)).cell? ⟨x0.heap.size, 1, none⟩ = some (.int .i64 d) := by simp [go_sem]
  have s2 : (x0.alloc (.cells #[.int .i64 x, .int .i64 d, .bool b] 60)).cell? ⟨x0.heap.size, 2, none⟩ = some (.bool b) := by simp [go_sem]
  replace f0 := keepf hO r0 f0; replace f1 := keepf hO r1 f1; replace r0 := keepc hO r0; replace r1 := keepc hO r1
  clear hb0 hB0 hO HC
  go_wp2_with fail
  obtain ⟨y, hy⟩ : ∃ y, y = x0.alloc (.cells #[.int .i64 x, .int .i64 d, .bool b] 60) := ⟨_, rfl⟩
  rw [← hy] at hB1 s0 s1 s2 r0 r1 f0 f1 ⊢
  clear hy
  have hne : ¬ (w.heap.size + 1 + 1 = x0.heap.size) := by omega
  have hne2 : ¬ (x0.heap.size = w.heap.size + 1 + 1) := by omega
  go_region
  all_goals
    go_wp2
    refine bodyPost_ret (v := .tuple #[.agg #[.int .i64 x, .int .i64 d], .bool b]) (by simp [results, Try.results15, go_sem, r0, r1]) rfl ⟨rfl, ?_⟩
    first
      | exact ((hB1.setCell (p := ⟨w.heap.size + 1 + 1, 0, none⟩) (by simp <;> omega) _).setCell (p := ⟨w.heap.size + 1 + 1, 1, none⟩) (by simp <;> omega) _).drew
      | exact (hB1.drew.setCell (p := ⟨w.heap.size + 1 + 1, 0, none⟩) (by simp <;> omega) _).setCell (p := ⟨w.heap.size + 1 + 1, 1, none⟩) (by simp <;> omega) _
end Go.Proofs.Ytankkkiccokggaa
