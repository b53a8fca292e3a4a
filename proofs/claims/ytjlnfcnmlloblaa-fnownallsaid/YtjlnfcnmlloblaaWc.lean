/-
  DrawPaintOwn draws a grid and two numbers: all lies in memory, at most 31 cells.
-/
import Derived.Test.YtjlnfcnmlloblaaJr
import Derived.Deep.RegionHeld3
namespace Go.Proofs.Ytjlnfcnmlloblaa
open Go.RowKit
set_option linter.unusedVariables false
attribute [local go_sem ↓] Go.wp_at_zero Go.wp_at_succ

set_option maxHeartbeats 2000000 in
theorem drawPaintOwn_any (a : Option Addr) (n cap : Nat) (f : Nat → Int) (w : World) (h : BytesAt w a n f) (hn : n ≤ 1048576) (hcap : n ≤ cap) (hc2 : cap ≤ 9223372036854775807) :
    Calls Try.prog 5 #[.slice a n cap] w fun e w' => ∃ (wd : Int) (a : Option Addr) (c : Nat) (xs : List (Int × Int)) (i m : Int), e = .returned (.tuple #[.agg #[.int .i64 wd, .slice a xs.length c], .int .i64 i, .int .i64 m]) ∧ CellsAt w' a xs ∧ xs.length ≤ 31 ∧ Below w.heap.size w w' := by
  go_enter Try.func5, Try.ntmps5
  go_wp2_with fail
  refine (l6Open_any _ n _ f _ (h.below (by repeat (first | exact Below.refl _ _ | refine Below.alloc ?_ (by first | exact Nat.le_refl _ | (simp; done) | (simp; omega)) _ | refine Below.drew ?_ | refine Below.setCell ?_ (by first | exact Nat.le_refl _ | (simp; done) | (simp; omega)) _))) hn hcap hc2).mono ?_
  rintro e w1 ⟨rfl, hr1, hb1⟩
  have hz1 := hb1.size
  simp at hz1 hr1
  have s1 : w.heap.size + 1 < w1.heap.size := by have := hr1.lt; omega
  have p4 : w1.cell? ⟨w.heap.size, 0, none⟩ = some (.int .i64 0) := keepc hb1 (by simp [go_sem])
  have p5 : w1.cell? ⟨w.heap.size, 1, none⟩ = some (.slice none 0 0) := keepc hb1 (by simp [go_sem])
  have f4 : w1.frozen? ⟨w.heap.size, 0, none⟩ = false := keepf hb1 (v := .int .i64 0) (by simp [go_sem]) (by simp [go_sem])
  have f5 : w1.frozen? ⟨w.heap.size, 1, none⟩ = false := keepf hb1 (v := .slice none 0 0) (by simp [go_sem]) (by simp [go_sem])
  have hB1 : Below w.heap.size w w1 := bcall (by repeat (first | exact Below.refl _ _ | refine Below.alloc ?_ (by first | exact Nat.le_refl _ | (simp; done) | (simp; omega)) _ | refine Below.drew ?_ | refine Below.setCell ?_ (by first | exact Nat.le_refl _ | (simp; done) | (simp; omega)) _)) (by simp) hb1
  clear hb1
  go_wp2_with fail
  refine (l71Some_any _ (w.heap.size + 1) (w.heap.size + 1 + 1) 0 hr1 (by omega) (by omega)).mono ?_
  rintro e w2 ⟨wd, a2, c2, xs, rfl, ⟨hC2, hn2⟩, hxl, hr2, hg2⟩
  have nr : w.heap.size ≠ w.heap.size + 1 := by omega
  have hz2 := hg2.size
  replace f4 := gfroz hg2 nr p4 f4
  replace f5 := gfroz hg2 nr p5 f5
  replace p4 := gcell hg2 nr p4
  replace p5 := gcell hg2 nr p5
  go_wp2_with fail
  refine (pickQ 4 _ (w.heap.size + 1) (w.heap.size + 1 + 1) 70 hr2 (by omega) (by omega)).mono ?_
  rintro e w3 ⟨v3, rfl, hv3, hv3', hr3, hg3⟩
  have hz3 := hg3.size
  replace f4 := gfroz hg3 nr p4 f4
  replace f5 := gfroz hg3 nr p5 f5
  replace p4 := gcell hg3 nr p4
  replace p5 := gcell hg3 nr p5
  have hC3 := hC2.grown hg3 (fun b off e => by have := hn2 b off e; omega)
  go_wp2_with fail
  refine (pickQ 5 _ (w.heap.size + 1) (w.heap.size + 1 + 1) 71 hr3 (by omega) (by omega)).mono ?_
  rintro e w4 ⟨v4, rfl, hv4, hv4', hr4, hg4⟩
  have hz4 := hg4.size
  replace f4 := gfroz hg4 nr p4 f4
  replace f5 := gfroz hg4 nr p5 f5
  replace p4 := gcell hg4 nr p4
  replace p5 := gcell hg4 nr p5
  have hC4 := hC3.grown hg4 (fun b off e => by have := hn2 b off e; omega)
  go_wp2_with fail
  refine (pickQ 12 _ (w.heap.size + 1) (w.heap.size + 1 + 1) 72 hr4 (by omega) (by omega)).mono ?_
  rintro e w5 ⟨v5, rfl, hv5, hv5', hr5, hg5⟩
  have hz5 := hg5.size
  replace f4 := gfroz hg5 nr p4 f4
  replace f5 := gfroz hg5 nr p5 f5
  replace p4 := gcell hg5 nr p4
  replace p5 := gcell hg5 nr p5
  have hC5 := hC4.grown hg5 (fun b off e => by have := hn2 b off e; omega)
  have hg := picks hg2 (picks hg3 (picks hg4 hg5))
  have hB5 : Below w.heap.size w w5 := ⟨hg.os.trans hB1.os, hg.tape.trans hB1.tape, hg.output.trans hB1.output, Nat.le_trans hB1.size hg.size, fun k hk => (hg.block k (by omega) (by simp; omega)).trans (hB1.block k hk)⟩
  have hdiv : v5.tdiv 11 = v5 / 11 := Int.tdiv_eq_ediv_of_nonneg hv5
  have q0 : 0 ≤ v5 / 11 := Int.ediv_nonneg hv5 (by omega)
  have q1 : v5 / 11 ≤ 11 := by omega
  have w1' : IntKind.i64.wrap (v5 / 11) = v5 / 11 := IntWalk.i64_in _ (by omega)
  have w2' : IntKind.i64.wrap (v4 - v5 / 11) = v4 - v5 / 11 := IntWalk.i64_in _ (by omega)
  have w3' : IntKind.i64.wrap (v4 - v5 / 11 + 1) = v4 - v5 / 11 + 1 := IntWalk.i64_in _ (by omega)
  clear hg2 hg3 hg4 hg5 hg hC2 hC3 hC4 hr1 hr2 hr3 hr4 hr5 hB1
  go_wp2
  refine bodyPost_ret (v := .tuple #[.agg #[.int .i64 wd, .slice a2 xs.length c2], .int .i64 v3, .int .i64 (v4 - v5 / 11 + 1)]) (by simp [results, Try.results5, go_sem, p4, p5]) rfl ⟨wd, a2, c2, xs, v3, v4 - v5 / 11 + 1, rfl, ?_, hxl, ?_⟩
  · exact (hC5.set (bb := w.heap.size) (fun b off e => by have := hn2 b off e; omega) _).set (bb := w.heap.size) (fun b off e => by have := hn2 b off e; omega) _
  · exact (hB5.setCell (p := ⟨w.heap.size, 0, none⟩) (Nat.le_refl _) _).setCell (p := ⟨w.heap.size, 1, none⟩) (Nat.le_refl _) _
end Go.Proofs.Ytjlnfcnmlloblaa
