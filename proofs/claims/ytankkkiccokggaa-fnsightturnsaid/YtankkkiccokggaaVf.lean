/-
  impl.SightOf, gone by side by side, as a plain function of numbers.
-/
import Derived.Test.YtankkkiccokggaaVe
namespace Go.Proofs.Ytankkkiccokggaa
open Go.RowKit
set_option linter.unusedVariables false

theorem tellOf_int (q f : Int) (m : Nat) (s o i u x d : Int) (bd bx : Nat) (w : World) (hf : 0 ≤ f ∧ f ≤ 50) (hm : m ≤ 5) (hs : -50 ≤ s ∧ s ≤ 50) (ho : -5 ≤ o ∧ o ≤ 5)
    (hd : w.cell? ⟨bd, 0, none⟩ = some (.int .i64 d)) (hx : w.cell? ⟨bx, 0, none⟩ = some (.int .i64 x)) (v : Int) (hv : v = if u = d then sa f s o x m else q) :
    Calls Try.prog 50 #[.int .i64 q, .agg #[.int .i64 f, .int .i64 (m : Int), .int .i64 s, .int .i64 o, .int .i64 i, .int .i64 u], .pointer (some ⟨bd, 0, none⟩), .pointer (some ⟨bx, 0, none⟩)] w fun e w' => e = .returned (.int .i64 v) ∧ Below w.heap.size w w' := by
  obtain ⟨F, rfl⟩ := Int.eq_ofNat_of_zero_le hf.1
  exact tellOf_any q F m s o i u x d bd bx w (by omega) hm hs ho hd hx v hv

/-- What is told behind each side, of the sight at which light leaves. -/
def of0 (W : Nat) (x d : Int) : Int := if 0 = d then sa 0 0 1 x W else -1
def of1 (W H : Nat) (x d : Int) : Int := if 1 = d then sa (W : Int) ((W : Int) - 1) (W : Int) x H else of0 W x d
def of2 (W H n : Nat) (x d : Int) : Int := if 2 = d then sa ((W : Int) + (H : Int)) ((n : Int) - 1) (-1) x W else of1 W H x d
def of3 (W H n : Nat) (x d : Int) : Int := if 3 = d then sa ((W : Int) + (H : Int) + (W : Int)) ((n : Int) - 1 - (W : Int) + 1) (-(W : Int)) x H else of2 W H n x d

set_option maxHeartbeats 2000000 in
theorem goOf_ok (W H : Nat) (a : Option Addr) (cap : Nat) (cs : List (Int × Int)) (w : World) (h : CellsAt w a cs) (hok : okG (W : Int) cs = true) (hW : 1 ≤ W ∧ W ≤ 5) (hH5 : 1 ≤ H ∧ H ≤ 5) (hn : cs.length ≤ 25) (hH : cs.length / W = H)
    (x d : Int) (bd bx : Nat) (hd : w.cell? ⟨bd, 0, none⟩ = some (.int .i64 d)) (hx : w.cell? ⟨bx, 0, none⟩ = some (.int .i64 x)) :
    Calls Try.prog 49 #[.agg #[.int .i64 (W : Int), .slice a cs.length cap], .int .i64 (-1), .func (.func 50) #[] #[.pointer (some ⟨bd, 0, none⟩), .pointer (some ⟨bx, 0, none⟩)]] w fun e w' => e = .returned (.int .i64 (of3 W H cs.length x d)) ∧ Below w.heap.size w w' := by
  have HH : Hid (cs.length / W = H) := hH
  have hWa := hW.1
  have hWb := hW.2
  have hHa := hH5.1
  have hHb := hH5.2
  have hn0 : 0 ≤ (cs.length : Int) := by omega
  have hnb : (cs.length : Int) ≤ 25 := by omega
  clear hH
  obtain ⟨v0, ev0⟩ : ∃ v, v = of0 W x d := ⟨_, rfl⟩
  obtain ⟨v1, ev1⟩ : ∃ v, v = of1 W H x d := ⟨_, rfl⟩
  obtain ⟨v2, ev2⟩ : ∃ v, v = of2 W H cs.length x d := ⟨_, rfl⟩
  obtain ⟨v3, ev3⟩ : ∃ v, v = of3 W H cs.length x d := ⟨_, rfl⟩
  rw [← ev3]
  have EV0 : Hid (v0 = if 0 = d then sa 0 0 1 x W else -1) := ev0
  have EV1 : Hid (v1 = if 1 = d then sa (W : Int) ((W : Int) - 1) (W : Int) x H else v0) := by show _ = _; rw [ev0]; exact ev1
  have EV2 : Hid (v2 = if 2 = d then sa ((W : Int) + (H : Int)) ((cs.length : Int) - 1) (-1) x W else v1) := by show _ = _; rw [ev1]; exact ev2
  have EV3 : Hid (v3 = if 3 = d then sa ((W : Int) + (H : Int) + (W : Int)) ((cs.length : Int) - 1 - (W : Int) + 1) (-(W : Int)) x H else v2) := by show _ = _; rw [ev2]; exact ev3
  clear ev0 ev1 ev2 ev3
  go_enter Try.func49, Try.ntmps49
  go_wp2_with fail
  refine (implGridOk_any _ _ _ cs _ (h.below (by repeat (first | exact Below.refl _ _ | refine Below.alloc ?_ (by first | exact Nat.le_refl _ | (simp; done) | (simp; omega)) _ | refine Below.drew ?_ | refine Below.setCell ?_ (by first | exact Nat.le_refl _ | (simp; done) | (simp; omega)) _))) (by omega)).mono ?_
  rintro e x0 ⟨rfl, hb0⟩
  have g0 : x0.cell? ⟨w.heap.size, 0, none⟩ = some (.int .i64 (W : Int)) := keepc hb0 (by simp [go_sem])
  have g1 : x0.cell? ⟨w.heap.size, 1, none⟩ = some (.slice a cs.length cap) := keepc hb0 (by simp [go_sem])
  have hz0 := hb0.size
  simp at hz0
  have hB0 : Below w.heap.size w x0 := bcall (by repeat (first | exact Below.refl _ _ | refine Below.alloc ?_ (by first | exact Nat.le_refl _ | (simp; done) | (simp; omega)) _ | refine Below.drew ?_ | refine Below.setCell ?_ (by first | exact Nat.le_refl _ | (simp; done) | (simp; omega)) _)) (by simp) hb0
  clear hb0
  go_wp2_with fail
  refine (sidesOf_any W H a cs.length cap _ hW hH5 hn HH.out).mono ?_
  rintro e x1 ⟨rfl, hb1⟩
  have hz1 := hb1.size
  have hB1 : Below w.heap.size w x1 := bcall hB0 (by omega) hb1
  clear hb1 g0 g1 HH hok h hW hH5
  have i0 := idxSide0 (W : Int) (H : Int) (cs.length : Int)
  have i1 := idxSide1 (W : Int) (H : Int) (cs.length : Int)
  have i2 := idxSide2 (W : Int) (H : Int) (cs.length : Int)
  have i3 := idxSide3 (W : Int) (H : Int) (cs.length : Int)
  go_wp2_with fail
  refine wp_loop_rounds 5 ?_
  rw [rounds_succ]
  go_wp2_with fail
  refine (tellOf_int _ _ W _ _ _ _ x d bd bx _ (by omega) (by omega) (by omega) (by omega) ((hB1.alloc (by omega) _).cell (World.block_lt_of_cell? w _ hd) |>.trans hd) ((hB1.alloc (by omega) _).cell (World.block_lt_of_cell? w _ hx) |>.trans hx) _ EV0.out).mono ?_
  rintro e x2 ⟨rfl, hc2⟩
  have hz2 := hc2.size
  simp at hz2
  have hB2 : Below w.heap.size w x2 := bcall (hB1.alloc (by omega) _) (by simp; omega) hc2
  clear hc2
  go_wp2_with fail
  rw [rounds_succ]
  go_wp2_with fail
  refine (tellOf_int _ _ H _ _ _ _ x d bd bx _ (by omega) (by omega) (by omega) (by omega) ((hB2.alloc (by omega) _).cell (World.block_lt_of_cell? w _ hd) |>.trans hd) ((hB2.alloc (by omega) _).cell (World.block_lt_of_cell? w _ hx) |>.trans hx) _ EV1.out).mono ?_
  rintro e x3 ⟨rfl, hc3⟩
  have hz3 := hc3.size
  simp at hz3
  have hB3 : Below w.heap.size w x3 := bcall (hB2.alloc (by omega) _) (by simp; omega) hc3
  clear hc3
  go_wp2_with fail
  rw [rounds_succ]
  go_wp2_with fail
  refine (tellOf_int _ _ W _ _ _ _ x d bd bx _ (by omega) (by omega) (by omega) (by omega) ((hB3.alloc (by omega) _).cell (World.block_lt_of_cell? w _ hd) |>.trans hd) ((hB3.alloc (by omega) _).cell (World.block_lt_of_cell? w _ hx) |>.trans hx) _ EV2.out).mono ?_
  rintro e x4 ⟨rfl, hc4⟩
  have hz4 := hc4.size
  simp at hz4
  have hB4 : Below w.heap.size w x4 := bcall (hB3.alloc (by omega) _) (by simp; omega) hc4
  clear hc4
  go_wp2_with fail
  rw [rounds_succ]
  go_wp2_with fail
  refine (tellOf_int _ _ H _ _ _ _ x d bd bx _ (by omega) (by omega) (by omega) (by omega) ((hB4.alloc (by omega) _).cell (World.block_lt_of_cell? w _ hd) |>.trans hd) ((hB4.alloc (by omega) _).cell (World.block_lt_of_cell? w _ hx) |>.trans hx) _ EV3.out).mono ?_
  rintro e x5 ⟨rfl, hc5⟩
  have hz5 := hc5.size
  simp at hz5
  have hB5 : Below w.heap.size w x5 := bcall (hB4.alloc (by omega) _) (by simp; omega) hc5
  clear hc5
  go_wp2_with fail
  rw [rounds_succ]
  go_wp2_with fail
  go_ret
  exact ⟨rfl, hB5⟩

/-- Of a grid that is not ok nothing more is told. -/
theorem goInt_bad (wd : Int) (a : Option Addr) (cap : Nat) (cs : List (Int × Int)) (w : World) (h : CellsAt w a cs) (hbad : okG wd cs = false) (hm : cs.length ≤ 1048576) (q : Int) (t : Value) :
    Calls Try.prog 49 #[.agg #[.int .i64 wd, .slice a cs.length cap], .int .i64 q, t] w fun e w' => e = .returned (.int .i64 q) ∧ Below w.heap.size w w' := by
  go_enter Try.func49, Try.ntmps49
  go_wp2_with fail
  refine (implGridOk_any _ _ _ cs _ (h.below (by repeat (first | exact Below.refl _ _ | refine Below.alloc ?_ (by first | exact Nat.le_refl _ | (simp; done) | (simp; omega)) _ | refine Below.drew ?_ | refine Below.setCell ?_ (by first | exact Nat.le_refl _ | (simp; done) | (simp; omega)) _))) (by omega)).mono ?_
  rintro e x0 ⟨rfl, hb0⟩
  have hB0 : Below w.heap.size w x0 := bcall (by repeat (first | exact Below.refl _ _ | refine Below.alloc ?_ (by first | exact Nat.le_refl _ | (simp; done) | (simp; omega)) _ | refine Below.drew ?_ | refine Below.setCell ?_ (by first | exact Nat.le_refl _ | (simp; done) | (simp; omega)) _)) (by simp) hb0
  clear hb0
  go_wp2_with fail
  go_ret
  exact ⟨rfl, hB0⟩
end Go.Proofs.Ytankkkiccokggaa
