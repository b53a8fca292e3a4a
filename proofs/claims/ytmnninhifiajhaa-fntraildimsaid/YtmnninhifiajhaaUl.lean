/-
  DrawTrailVisits, DrawTrailEnds and DrawTrailFoot draw a grid and a sight: the cells lie in new memory, at most 31, the sight from -1 to 20.
-/
import Derived.Test.YtmnninhifiajhaaJs
namespace Go.Proofs.Ytmnninhifiajhaa
open Go.RowKit
set_option linter.unusedVariables false
attribute [local go_sem ↓] Go.wp_at_zero Go.wp_at_succ

set_option maxHeartbeats 400000 in
theorem drawTrailVisits_any (a : Option Addr) (n cap : Nat) (f : Nat → Int) (w : World) (h : BytesAt w a n f) (hn : n ≤ 1048576) (hcap : n ≤ cap) (hc2 : cap ≤ 9223372036854775807) :
    Calls Try.prog 28 #[.slice a n cap] w fun e w' => ∃ (wd : Int) (a : Option Addr) (c : Nat) (xs : List (Int × Int)) (k : Int), e = .returned (.tuple #[.agg #[.int .i64 wd, .slice a xs.length c], .int .i64 k]) ∧ CellsAt w' a xs ∧ xs.length ≤ 31 ∧ (-1 ≤ k ∧ k ≤ 20) ∧ Below w.heap.size w w' := by
  go_enter Try.func28, Try.ntmps28
  go_wp2_with fail
  refine (drawSightRayN_any _ n _ f _ (h.below (by repeat (first | exact Below.refl _ _ | refine Below.alloc ?_ (by first | exact Nat.le_refl _ | (simp; done) | (simp; omega)) _ | refine Below.drew ?_ | refine Below.setCell ?_ (by first | exact Nat.le_refl _ | (simp; done) | (simp; omega)) _))) hn hcap hc2).mono ?_
  rintro e w1 ⟨wd, a1, c1, xs, k, rfl, hC1, hl1, hk1, hn1, hb1⟩
  have p0 : w1.cell? ⟨w.heap.size, 0, none⟩ = some (.int .i64 0) := keepc hb1 (by simp [go_sem])
  have p1 : w1.cell? ⟨w.heap.size, 1, none⟩ = some (.slice none 0 0) := keepc hb1 (by simp [go_sem])
  have f0 : w1.frozen? ⟨w.heap.size, 0, none⟩ = false := keepf hb1 (v := .int .i64 0) (by simp [go_sem]) (by simp [go_sem])
  have f1 : w1.frozen? ⟨w.heap.size, 1, none⟩ = false := keepf hb1 (v := .slice none 0 0) (by simp [go_sem]) (by simp [go_sem])
  have hB1 : Below w.heap.size w w1 := bcall (by repeat (first | exact Below.refl _ _ | refine Below.alloc ?_ (by first | exact Nat.le_refl _ | (simp; done) | (simp; omega)) _ | refine Below.drew ?_ | refine Below.setCell ?_ (by first | exact Nat.le_refl _ | (simp; done) | (simp; omega)) _)) (by simp) hb1
  clear hb1
  go_wp2
  refine bodyPost_ret (v := .tuple #[.agg #[.int .i64 wd, .slice a1 xs.length c1], .int .i64 k]) (by simp [results, Try.results28, go_sem, p0, p1]) rfl ⟨wd, a1, c1, xs, k, rfl, ?_, hl1, hk1, ?_⟩
  · exact (hC1.set (bb := w.heap.size) (fun b off e => by have := hn1 b off e; simp at this; omega) _).set (bb := w.heap.size) (fun b off e => by have := hn1 b off e; simp at this; omega) _
  · exact (hB1.setCell (p := ⟨w.heap.size, 0, none⟩) (Nat.le_refl _) _).setCell (p := ⟨w.heap.size, 1, none⟩) (Nat.le_refl _) _

set_option maxHeartbeats 400000 in
theorem drawTrailEnds_any (a : Option Addr) (n cap : Nat) (f : Nat → Int) (w : World) (h : BytesAt w a n f) (hn : n ≤ 1048576) (hcap : n ≤ cap) (hc2 : cap ≤ 9223372036854775807) :
    Calls Try.prog 39 #[.slice a n cap] w fun e w' => ∃ (wd : Int) (a : Option Addr) (c : Nat) (xs : List (Int × Int)) (k : Int), e = .returned (.tuple #[.agg #[.int .i64 wd, .slice a xs.length c], .int .i64 k]) ∧ CellsAt w' a xs ∧ xs.length ≤ 31 ∧ (-1 ≤ k ∧ k ≤ 20) ∧ Below w.heap.size w w' := by
  go_enter Try.func39, Try.ntmps39
  go_wp2_with fail
  refine (drawSightRayN_any _ n _ f _ (h.below (by repeat (first | exact Below.refl _ _ | refine Below.alloc ?_ (by first | exact Nat.le_refl _ | (simp; done) | (simp; omega)) _ | refine Below.drew ?_ | refine Below.setCell ?_ (by first | exact Nat.le_refl _ | (simp; done) | (simp; omega)) _))) hn hcap hc2).mono ?_
  rintro e w1 ⟨wd, a1, c1, xs, k, rfl, hC1, hl1, hk1, hn1, hb1⟩
  have p0 : w1.cell? ⟨w.heap.size, 0, none⟩ = some (.int .i64 0) := keepc hb1 (by simp [go_sem])
  have p1 : w1.cell? ⟨w.heap.size, 1, none⟩ = some (.slice none 0 0) := keepc hb1 (by simp [go_sem])
  have f0 : w1.frozen? ⟨w.heap.size, 0, none⟩ = false := keepf hb1 (v := .int .i64 0) (by simp [go_sem]) (by simp [go_sem])
  have f1 : w1.frozen? ⟨w.heap.size, 1, none⟩ = false := keepf hb1 (v := .slice none 0 0) (by simp [go_sem]) (by simp [go_sem])
  have hB1 : Below w.heap.size w w1 := bcall (by repeat (first | exact Below.refl _ _ | refine Below.alloc ?_ (by first | exact Nat.le_refl _ | (simp; done) | (simp; omega)) _ | refine Below.drew ?_ | refine Below.setCell ?_ (by first | exact Nat.le_refl _ | (simp; done) | (simp; omega)) _)) (by simp) hb1
  clear hb1
  go_wp2
  refine bodyPost_ret (v := .tuple #[.agg #[.int .i64 wd, .slice a1 xs.length c1], .int .i64 k]) (by simp [results, Try.results39, go_sem, p0, p1]) rfl ⟨wd, a1, c1, xs, k, rfl, ?_, hl1, hk1, ?_⟩
  · exact (hC1.set (bb := w.heap.size) (fun b off e => by have := hn1 b off e; simp at this; omega) _).set (bb := w.heap.size) (fun b off e => by have := hn1 b off e; simp at this; omega) _
  · exact (hB1.setCell (p := ⟨w.heap.size, 0, none⟩) (Nat.le_refl _) _).setCell (p := ⟨w.heap.size, 1, none⟩) (Nat.le_refl _) _

end Go.Proofs.Ytmnninhifiajhaa
