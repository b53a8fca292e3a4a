/-
  DrawDirTurn draws two small numbers.
-/
import Derived.Test.YtgikknbjmbolaaaDd
namespace Go.Proofs.Ytgikknbjmbolaaa
open Go.RowKit
set_option linter.unusedVariables false
attribute [local go_sem ↓] Go.wp_at_zero Go.wp_at_succ

set_option maxHeartbeats 400000 in
theorem drawDirTurn_any (a : Option Addr) (n cap : Nat) (f : Nat → Int) (w : World) (h : BytesAt w a n f) (hn : n ≤ 1048576) (hcap : n ≤ cap) (hc2 : cap ≤ 9223372036854775807) :
    Calls Try.prog 10 #[.slice a n cap] w fun e w' => ∃ k d : Int, e = .returned (.tuple #[.int .i64 k, .int .i64 d]) ∧ Below w.heap.size w w' := by
  go_enter Try.func10, Try.ntmps10
  go_wp2_with fail
  refine (l6Open_any _ n _ f _ (h.below (by repeat (first | exact Below.refl _ _ | refine Below.alloc ?_ (by first | exact Nat.le_refl _ | (simp; done) | (simp; omega)) _ | refine Below.drew ?_ | refine Below.setCell ?_ (by first | exact Nat.le_refl _ | (simp; done) | (simp; omega)) _))) hn hcap hc2).mono ?_
  rintro e w1 ⟨rfl, hr1, hb1⟩
  go_wp2_with fail
  refine (pickQ 10 _ w.heap.size (w.heap.size + 1) 0 hr1 (by omega) (by omega)).mono ?_
  rintro e w2 ⟨v, rfl, v0, v1, hr2, hg2⟩
  go_wp2_with fail
  refine (pickQ 5 _ w.heap.size (w.heap.size + 1) 1 hr2 (by omega) (by omega)).mono ?_
  rintro e w3 ⟨u, rfl, u0, u1, hr3, hg3⟩
  go_wp2_with fail
  refine (pickQ 12 _ w.heap.size (w.heap.size + 1) 2 hr3 (by omega) (by omega)).mono ?_
  rintro e w4 ⟨x, rfl, x0, x1, hr4, hg4⟩
  go_wp2
  refine bodyPost_ret (v := .tuple #[.int .i64 (v - 1), .int .i64 (u - x / 11)]) (by simp [results, Try.results10, go_sem]) rfl ⟨_, _, rfl, ?_⟩
  exact (⟨hg4.os.trans (hg3.os.trans (hg2.os.trans hb1.os)), hg4.tape.trans (hg3.tape.trans (hg2.tape.trans hb1.tape)), hg4.output.trans (hg3.output.trans (hg2.output.trans hb1.output)), Nat.le_trans hb1.size (Nat.le_trans hg2.size (Nat.le_trans hg3.size hg4.size)), fun k hk => by
    have s1 := hb1.size
    have s2 := hg2.size
    have s3 := hg3.size
    exact (hg4.block k (by omega) (by simp; omega)).trans ((hg3.block k (by omega) (by simp; omega)).trans ((hg2.block k (by omega) (by simp; omega)).trans (hb1.block k hk)))⟩)
end Go.Proofs.Ytgikknbjmbolaaa
