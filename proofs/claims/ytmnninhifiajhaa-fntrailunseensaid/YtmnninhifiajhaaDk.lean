/-
  DrawCellOk: some cell.
-/
import Derived.Test.YtmnninhifiajhaaDl
namespace Go.Proofs.Ytmnninhifiajhaa
open Go.RowKit
set_option linter.unusedVariables false
attribute [local go_sem ↓] Go.wp_at_zero Go.wp_at_succ

theorem eqlCell (k l k2 l2 : Int) (w : World) : Sem.run Try.prog (binOp .eql 27 (.agg #[.int .i64 k, .int .i64 l]) (.agg #[.int .i64 k2, .int .i64 l2])) w = .ok (.bool (decide (k = k2 ∧ l = l2))) w := by
  rw [run_eql_struct, run_equalIn_agg _ _ _ _ _ stU stH]
  simp [Op.eqFields, go_sem]
  by_cases h1 : k = k2 <;> by_cases h2 : l = l2 <;> simp [h1, h2]

set_option maxHeartbeats 400000 in
theorem drawCellOk_any (a : Option Addr) (n cap : Nat) (f : Nat → Int) (w : World) (h : BytesAt w a n f) (hn : n ≤ 1048576) (hcap : n ≤ cap) (hc2 : cap ≤ 9223372036854775807) :
    Calls Try.prog 29 #[.slice a n cap] w fun e w' => ∃ k l : Int, e = .returned (.agg #[.int .i64 k, .int .i64 l]) ∧ Below w.heap.size w w' := by
  go_enter Try.func29, Try.ntmps29
  go_wp2_with fail
  refine (l6Open_any _ n _ f _ (h.below (by repeat (first | exact Below.refl _ _ | refine Below.alloc ?_ (by first | exact Nat.le_refl _ | (simp; done) | (simp; omega)) _ | refine Below.drew ?_ | refine Below.setCell ?_ (by first | exact Nat.le_refl _ | (simp; done) | (simp; omega)) _))) hn hcap hc2).mono ?_
  rintro e w1 ⟨rfl, hr1, hb1⟩
  have hz1 := hb1.size
  simp at hz1 hr1
  have s1 : w.heap.size + 1 < w1.heap.size := by have := hr1.lt; omega
  have p4 : w1.cell? ⟨w.heap.size, 0, none⟩ = some (.int .i64 0) := keepc hb1 (by simp [go_sem])
  have p5 : w1.cell? ⟨w.heap.size, 1, none⟩ = some (.int .i64 0) := keepc hb1 (by simp [go_sem])
  have f4 : w1.frozen? ⟨w.heap.size, 0, none⟩ = false := keepf hb1 (v := .int .i64 0) (by simp [go_sem]) (by simp [go_sem])
  have f5 : w1.frozen? ⟨w.heap.size, 1, none⟩ = false := keepf hb1 (v := .int .i64 0) (by simp [go_sem]) (by simp [go_sem])
  have hB1 : Below w.heap.size w w1 := bcall (by repeat (first | exact Below.refl _ _ | refine Below.alloc ?_ (by first | exact Nat.le_refl _ | (simp; done) | (simp; omega)) _ | refine Below.drew ?_ | refine Below.setCell ?_ (by first | exact Nat.le_refl _ | (simp; done) | (simp; omega)) _)) (by simp) hb1
  clear hb1
  have nr : w.heap.size ≠ w.heap.size + 1 := by omega
  go_wp2_with fail
  refine (pickQ 2 _ (w.heap.size + 1) (w.heap.size + 1 + 1) 0 hr1 (by omega) (by omega)).mono ?_
  rintro e w2 ⟨v, rfl, v0, v1, hr2, hg2⟩
  replace f4 := gfroz hg2 nr p4 f4
  replace f5 := gfroz hg2 nr p5 f5
  replace p4 := gcell hg2 nr p4
  replace p5 := gcell hg2 nr p5
  have hB2 : Below w.heap.size w w2 := ⟨hg2.os.trans hB1.os, hg2.tape.trans hB1.tape, hg2.output.trans hB1.output, Nat.le_trans hB1.size hg2.size, fun k hk => (hg2.block k (by omega) (by simp; omega)).trans (hB1.block k hk)⟩
  have hz2 := hg2.size
  rcases (show (v == 0) = true ∨ (v == 0) = false by cases (v == 0) <;> simp) with hv | hv
  · go_wp2_with fail
    refine (l71Off_any _ (w.heap.size + 1) (w.heap.size + 1 + 1) _ hr2 (by omega) (by omega)).mono ?_
    rintro e w3 ⟨k, l, rfl, hr3, hg3⟩
    replace f4 := gfroz hg3 nr p4 f4
    replace f5 := gfroz hg3 nr p5 f5
    replace p4 := gcell hg3 nr p4
    replace p5 := gcell hg3 nr p5
    have hB3 : Below w.heap.size w w3 := ⟨hg3.os.trans hB2.os, hg3.tape.trans hB2.tape, hg3.output.trans hB2.output, Nat.le_trans hB2.size hg3.size, fun k hk => (hg3.block k (by omega) (by simp; omega)).trans (hB2.block k hk)⟩
    go_wp2
    refine bodyPost_ret (v := .agg #[.int .i64 k, .int .i64 l]) (by simp [results, Try.results29, go_sem, p4, p5]) rfl ⟨k, l, rfl, ?_⟩
    exact (hB3.setCell (p := ⟨w.heap.size, 0, none⟩) (Nat.le_refl _) _).setCell (p := ⟨w.heap.size, 1, none⟩) (Nat.le_refl _) _
  · go_wp2_with fail
    refine (l71Cell_any _ (w.heap.size + 1) (w.heap.size + 1 + 1) _ hr2 (by omega) (by omega)).mono ?_
    rintro e w3 ⟨k, l, rfl, _, hr3, hg3⟩
    replace f4 := gfroz hg3 nr p4 f4
    replace f5 := gfroz hg3 nr p5 f5
    replace p4 := gcell hg3 nr p4
    replace p5 := gcell hg3 nr p5
    have hB3 : Below w.heap.size w w3 := ⟨hg3.os.trans hB2.os, hg3.tape.trans hB2.tape, hg3.output.trans hB2.output, Nat.le_trans hB2.size hg3.size, fun k hk => (hg3.block k (by omega) (by simp; omega)).trans (hB2.block k hk)⟩
    go_wp2
    refine bodyPost_ret (v := .agg #[.int .i64 k, .int .i64 l]) (by simp [results, Try.results29, go_sem, p4, p5]) rfl ⟨k, l, rfl, ?_⟩
    exact (hB3.setCell (p := ⟨w.heap.size, 0, none⟩) (Nat.le_refl _) _).setCell (p := ⟨w.heap.size, 1, none⟩) (Nat.le_refl _) _

end Go.Proofs.Ytmnninhifiajhaa
