/- Of the proof: PGd -/
import Derived.Test.YtfhhcfcjhlkdoaaGreatLBn
set_option maxHeartbeats 400000
set_option linter.unusedVariables false
namespace Go.Proofs.YtfhhcfcjhlkdoaaGreat
namespace Sp
open Go.RowKit
attribute [local go_sem ↓] Go.wp_at_zero Go.wp_at_succ
theorem drawPicOf_any (a : Option Addr) (n cap : Nat) (f : Nat -> Int) (w : World) (h : BytesAt w a n f) (hn : n <= 1048576) (hcap : n <= cap) (hc2 : cap <= 9223372036854775807) :
  Calls SqP.prog 11 #[.slice a n cap] w fun e w' => ∃ (wd : Int) (a : Option Addr) (c : Nat) (xs : List (Int × Int)), e = .returned (.agg #[.int .i64 wd, .slice a xs.length c]) /\ CellsAt w' a xs /\ xs.length <= 31 /\ Below w.heap.size w w' := by
 go_enter SqP.func11, Tryz.ntmps11
 go_wp2_with fail
 refine (l6Open_any _ n _ f _ (h.below bel) hn hcap hc2).mono ?_
 rintro e w1 ⟨rfl, hr1, hb1⟩
 have hz1 := hb1.size
 simp at hz1 hr1
 have s1 : w.heap.size + 1 < w1.heap.size := by have := hr1.lt; omega
 have p4 : w1.cell? ⟨w.heap.size, 0, none⟩ = some (.int .i64 0) := keepc hb1 (by simp [go_sem])
 have p5 : w1.cell? ⟨w.heap.size, 1, none⟩ = some (.slice none 0 0) := keepc hb1 (by simp [go_sem])
 have f4 : w1.frozen? ⟨w.heap.size, 0, none⟩ = false := keepf hb1 (v := .int .i64 0) (by simp [go_sem]) (by simp [go_sem])
 have f5 : w1.frozen? ⟨w.heap.size, 1, none⟩ = false := keepf hb1 (v := .slice none 0 0) (by simp [go_sem]) (by simp [go_sem])
 have hB1 : Below w.heap.size w w1 := bcall bel (by simp) hb1
 clear hb1
 go_wp2_with fail
 refine (l71Bright_any _ (w.heap.size + 1) (w.heap.size + 1 + 1) 0 hr1 (by omega) (by omega)).mono ?_
 rintro e w2 ⟨wd, a2, c2, xs, rfl, hC2, hn2, hxl, hr2, hg2⟩
 have nr : w.heap.size ≠ w.heap.size + 1 := by omega
 replace f4 := gfroz hg2 nr p4 f4
 replace f5 := gfroz hg2 nr p5 f5
 replace p4 := gcell hg2 nr p4
 replace p5 := gcell hg2 nr p5
 have hB2 : Below w.heap.size w w2 := ⟨hg2.os.trans hB1.os, hg2.tape.trans hB1.tape, hg2.output.trans hB1.output, Nat.le_trans hB1.size hg2.size, fun k hk => (hg2.block k (by omega) (by simp; omega)).trans (hB1.block k hk)⟩
 go_wp2
 refine bodyPost_ret (v := .agg #[.int .i64 wd, .slice a2 xs.length c2]) (by simp [results, Tryz.results11, go_sem, p4, p5]) rfl ⟨wd, a2, c2, xs, rfl, ?_, hxl, ?_⟩
 ·by_cases hx : xs = []
  ·exact .inl hx
  ·exact (hC2.set (bb := w.heap.size) (fun b off e => by have := hn2 b off e hx; omega) _).set (bb := w.heap.size) (fun b off e => by have := hn2 b off e hx; omega) _
 ·exact (hB2.setCell (p := ⟨w.heap.size, 0, none⟩) (Nat.le_refl _) _).setCell (p := ⟨w.heap.size, 1, none⟩) (Nat.le_refl _) _
end Sp
end Go.Proofs.YtfhhcfcjhlkdoaaGreat
