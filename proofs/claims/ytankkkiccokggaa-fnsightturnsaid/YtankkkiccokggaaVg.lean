/-
  impl.SightRay, gone by side by side, as a plain function of numbers.
-/
import Derived.Test.YtankkkiccokggaaVe
namespace Go.Proofs.Ytankkkiccokggaa
open Go.RowKit
set_option linter.unusedVariables false

theorem tellRay_int (qx qd : Int) (qb : Bool) (f : Int) (m : Nat) (s o i u k : Int) (bk : Nat) (w : World) (hf : 0 ≤ f ∧ f ≤ 50) (hm : m ≤ 5) (hs : -50 ≤ s ∧ s ≤ 50) (ho : -5 ≤ o ∧ o ≤ 5)
    (hk : w.cell? ⟨bk, 0, none⟩ = some (.int .i64 k)) (vx vd : Int) (vb : Bool) (hv : (vx, vd, vb) = if f ≤ k ∧ k < f + (m : Int) then (s + (k - f) * o, i, true) else (qx, qd, qb)) :
    Calls Try.prog 41 #[.agg #[.int .i64 qx, .int .i64 qd, .bool qb], .agg #[.int .i64 f, .int .i64 (m : Int), .int .i64 s, .int .i64 o, .int .i64 i, .int .i64 u], .pointer (some ⟨bk, 0, none⟩)] w fun e w' => e = .returned (.agg #[.int .i64 vx, .int .i64 vd, .bool vb]) ∧ Below w.heap.size w w' := by
  obtain ⟨F, rfl⟩ := Int.eq_ofNat_of_zero_le hf.1
  exact tellRay_any qx qd qb F m s o i u k bk w (by omega) hm hs ho hk vx vd vb hv

/-- What is told behind each side, of what comes in at a sight. -/
def in0 (W : Nat) (k : Int) : Int × Int × Bool := if 0 ≤ k ∧ k < 0 + (W : Int) then (0 + (k - 0) * 1, 2, true) else (0, 0, false)
def in1 (W H : Nat) (k : Int) : Int × Int × Bool := if (W : Int) ≤ k ∧ k < (W : Int) + (H : Int) then ((W : Int) - 1 + (k - (W : Int)) * (W : Int), 3, true) else in0 W k
def in2 (W H n : Nat) (k : Int) : Int × Int × Bool := if (W : Int) + (H : Int) ≤ k ∧ k < (W : Int) + (H : Int) + (W : Int) then ((n : Int) - 1 + (k - ((W : Int) + (H : Int))) * (-1), 0, true) else in1 W H k
def in3 (W H n : Nat) (k : Int) : Int × Int × Bool := if (W : Int) + (H : Int) + (W : Int) ≤ k ∧ k < (W : Int) + (H : Int) + (W : Int) + (H : Int) then ((n : Int) - 1 - (W : Int) + 1 + (k - ((W : Int) + (H : Int) + (W : Int))) * (-(W : Int)), 1, true) else in2 W H n k

set_option maxHeartbeats 4000000 in
theorem goRay_ok (W H : Nat) (a : Option Addr) (cap : Nat) (cs : List (Int × Int)) (w : World) (h : CellsAt w a cs) (hok : okG (W : Int) cs = true) (hW : 1 ≤ W ∧ W ≤ 5) (hH5 : 1 ≤ H ∧ H ≤ 5) (hn : cs.length ≤ 25) (hH : cs.length / W = H)
    (k : Int) (bk : Nat) (hk : w.cell? ⟨bk, 0, none⟩ = some (.int .i64 k)) (a3 b3 : Int) (c3 : Bool) (hv : in3 W H cs.length k = (a3, b3, c3)) :
    Calls Try.prog 40 #[.agg #[.int .i64 (W : Int), .slice a cs.length cap], .agg #[.int .i64 0, .int .i64 0, .bool false], .func (.func 41) #[] #[.pointer (some ⟨bk, 0, none⟩)]] w fun e w' => e = .returned (.agg #[.int .i64 a3, .int .i64 b3, .bool c3]) ∧ Below w.heap.size w w' := by
  have HH : Hid (cs.length / W = H) := hH
  have hWa := hW.1
  have hWb := hW.2
  have hHa := hH5.1
  have hHb := hH5.2
  have hn0 : 0 ≤ (cs.length : Int) := by omega
  have hnb : (cs.length : Int) ≤ 25 := by omega
  clear hH
  obtain ⟨a0, b0, c0, ev0⟩ : ∃ a b c, in0 W k = (a, b, c) := ⟨_, _, _, rfl⟩
  obtain ⟨a1, b1, c1, ev1⟩ : ∃ a b c, in1 W H k = (a, b, c) := ⟨_, _, _, rfl⟩
  obtain ⟨a2, b2, c2, ev2⟩ : ∃ a b c, in2 W H cs.length k = (a, b, c) := ⟨_, _, _, rfl⟩
  have EV0 : Hid ((a0, b0, c0) = if 0 ≤ k ∧ k < 0 + (W : Int) then (0 + (k - 0) * 1, 2, true) else (0, 0, false)) := ev0.symm
  have EV1 : Hid ((a1, b1, c1) = if (W : Int) ≤ k ∧ k < (W : Int) + (H : Int) then ((W : Int) - 1 + (k - (W : Int)) * (W : Int), 3, true) else (a0, b0, c0)) := by show _ = _; rw [← ev0]; exact ev1.symm
  have EV2 : Hid ((a2, b2, c2) = if (W : Int) + (H : Int) ≤ k ∧ k < (W : Int) + (H : Int) + (W : Int) then ((cs.length : Int) - 1 + (k - ((W : Int) + (H : Int))) * (-1), 0, true) else (a1, b1, c1)) := by show _ = _; rw [← ev1]; exact ev2.symm
  have EV3 : Hid ((a3, b3, c3) = if (W : Int) + (H : Int) + (W : Int) ≤ k ∧ k < (W : Int) + (H : Int) + (W : Int) + (H : Int) then ((cs.length : Int) - 1 - (W : Int) + 1 + (k - ((W : Int) + (H : Int) + (W : Int))) * (-(W : Int)), 1, true) else (a2, b2, c2)) := by show _ = _; rw [← ev2]; exact hv.symm
  clear ev0 ev1 ev2 hv
  go_enter Try.func40, Try.ntmps40
  go_wp2_with fail
  refine (implGridOk_any _ _ _ cs _ (h.below (by repeat (first | exact Below.refl _ _ | refine Below.alloc ?_ (by first | exact Nat.le_refl _ | (simp; done) | (simp; omega)) _ | refine Below.drew ?_ | refine Below.setCell ?_ (by first | exact Nat.le_refl _ | (simp; done) | (simp; omega)) _))) (by omega)).mono ?_
  rintro e x0 ⟨rfl, hb0⟩
  have g0 : x0.cell? ⟨w.heap.size, 0, none⟩ = some (.int .i64 (W : Int)) := keepc hb0 (by simp [go_sem])
  have g1 : x0.cell? ⟨w.heap.size, 1, none⟩ = some (.slice a cs.length cap) := keepc hb0 (by simp [go_sem])
  have q0 : x0.cell? ⟨w.heap.size + 1, 0, none⟩ = some (.int .i64 0) := keepc hb0 (by simp [go_sem])
  have q1 : x0.cell? ⟨w.heap.size + 1, 1, none⟩ = some (.int .i64 0) := keepc hb0 (by simp [go_sem])
  have q2 : x0.cell? ⟨w.heap.size + 1, 2, none⟩ = some (.bool false) := keepc hb0 (by simp [go_sem])
  have r0 : x0.cell? ⟨w.heap.size + 1 + 1, 0, none⟩ = some (.int .i64 0) := keepc hb0 (by simp [go_sem])
  have r1 : x0.cell? ⟨w.heap.size + 1 + 1, 1, none⟩ = some (.int .i64 0) := keepc hb0 (by simp [go_sem])
  have r2 : x0.cell? ⟨w.heap.size + 1 + 1, 2, none⟩ = some (.bool false) := keepc hb0 (by simp [go_sem])
  have f0 : x0.frozen? ⟨w.heap.size + 1, 0, none⟩ = false := keepf hb0 (v := .int .i64 0) (by simp [go_sem]) (by simp [go_sem])
  have f1 : x0.frozen? ⟨w.heap.size + 1, 1, none⟩ = false := keepf hb0 (v := .int .i64 0) (by simp [go_sem]) (by simp [go_sem])
  have f2 : x0.frozen? ⟨w.heap.size + 1, 2, none⟩ = false := keepf hb0 (v := .bool false) (by simp [go_sem]) (by simp [go_sem])
  have e0 : x0.frozen? ⟨w.heap.size + 1 + 1, 0, none⟩ = false := keepf hb0 (v := .int .i64 0) (by simp [go_sem]) (by simp [go_sem])
  have e1 : x0.frozen? ⟨w.heap.size + 1 + 1, 1, none⟩ = false := keepf hb0 (v := .int .i64 0) (by simp [go_sem]) (by simp [go_sem])
  have e2 : x0.frozen? ⟨w.heap.size + 1 + 1, 2, none⟩ = false := keepf hb0 (v := .bool false) (by simp [go_sem]) (by simp [go_sem])
  have hz0 := hb0.size
  simp at hz0
  have hB0 : Below w.heap.size w x0 := bcall (by repeat (first | exact Below.refl _ _ | refine Below.alloc ?_ (by first | exact Nat.le_refl _ | (simp; done) | (simp; omega)) _ | refine Below.drew ?_ | refine Below.setCell ?_ (by first | exact Nat.le_refl _ | (simp; done) | (simp; omega)) _)) (by simp <;> omega) hb0
  clear hb0
  go_wp2_with fail
  refine (sidesOf_any W H a cs.length cap _ hW hH5 hn HH.out).mono ?_
  rintro e x1 ⟨rfl, hb1⟩
  have hz1 := hb1.size
  have hB1 : Below w.heap.size w x1 := bcall hB0 (by omega) hb1
  replace f0 := keepf hb1 q0 f0; replace f1 := keepf hb1 q1 f1; replace f2 := keepf hb1 q2 f2; replace e0 := keepf hb1 r0 e0; replace e1 := keepf hb1 r1 e1; replace e2 := keepf hb1 r2 e2; replace q0 := keepc hb1 q0; replace q1 := keepc hb1 q1; replace q2 := keepc hb1 q2; replace r0 := keepc hb1 r0; replace r1 := keepc hb1 r1; replace r2 := keepc hb1 r2
  clear hb1 g0 g1 HH hok h hW hH5
  have i0 := idxSide0 (W : Int) (H : Int) (cs.length : Int)
  have i1 := idxSide1 (W : Int) (H : Int) (cs.length : Int)
  have i2 := idxSide2 (W : Int) (H : Int) (cs.length : Int)
  have i3 := idxSide3 (W : Int) (H : Int) (cs.length : Int)
  go_wp2_with fail
  refine wp_loop_rounds 5 ?_
  have hO0 : Below x1.heap.size x1 (x1.alloc (.cells #[.int .i64 (0), .int .i64 ((W : Int)), .int .i64 (0), .int .i64 (1), .int .i64 (2), .int .i64 (0)] 63)) := (Below.refl _ _).alloc (Nat.le_refl _) _
  have s0 := keepc hO0 q0
  have s1 := keepc hO0 q1
  have s2 := keepc hO0 q2
  clear hO0
  rw [rounds_succ]
  go_wp2_with fail
  clear s0 s1 s2
  refine (tellRay_int _ _ _ _ W _ _ _ _ k bk _ (by omega) (by omega) (by omega) (by omega) ((hB1.alloc (by omega) _).cell (World.block_lt_of_cell? w _ hk) |>.trans hk) _ _ _ EV0.out).mono ?_
  rintro e x2 ⟨rfl, hc2⟩
  have hz2 := hc2.size
  simp at hz2
  have hB2 : Below w.heap.size w x2 := bcall (hB1.alloc (by omega) _) (by simp; omega) hc2
  have hA0 : Below x1.heap.size x1 x2 := bcall ((Below.refl _ _).alloc (Nat.le_refl _) _) (by simp) hc2
  replace f0 := keepf hA0 q0 f0; replace f1 := keepf hA0 q1 f1; replace f2 := keepf hA0 q2 f2; replace e0 := keepf hA0 r0 e0; replace e1 := keepf hA0 r1 e1; replace e2 := keepf hA0 r2 e2; replace q0 := keepc hA0 q0; replace q1 := keepc hA0 q1; replace q2 := keepc hA0 q2; replace r0 := keepc hA0 r0; replace r1 := keepc hA0 r1; replace r2 := keepc hA0 r2
  clear hc2 hA0
  go_wp2_with fail
  obtain ⟨y1, hy1⟩ : ∃ y, y = ((x2.setCell ⟨w.heap.size + 1, 0, none⟩ (.int .i64 a0)).setCell ⟨w.heap.size + 1, 1, none⟩ (.int .i64 b0)).setCell ⟨w.heap.size + 1, 2, none⟩ (.bool c0) := ⟨_, rfl⟩
  rw [← hy1]
  have hY1 : Below w.heap.size w y1 := by
    rw [hy1]
    exact ((hB2.setCell (p := ⟨w.heap.size + 1, 0, none⟩) (by simp) _).setCell (p := ⟨w.heap.size + 1, 1, none⟩) (by simp) _).setCell (p := ⟨w.heap.size + 1, 2, none⟩) (by simp) _
  have hZ1 : x2.heap.size ≤ y1.heap.size := by rw [hy1]; simp [go_sem]
  have q0' : y1.cell? ⟨w.heap.size + 1, 0, none⟩ = some (.int .i64 a0) := by rw [hy1]; simp [go_sem, q0]
  have q1' : y1.cell? ⟨w.heap.size + 1, 1, none⟩ = some (.int .i64 b0) := by rw [hy1]; simp [go_sem, q1]
  have q2' : y1.cell? ⟨w.heap.size + 1, 2, none⟩ = some (.bool c0) := by rw [hy1]; simp [go_sem, q2]
  have r0' : y1.cell? ⟨w.heap.size + 1 + 1, 0, none⟩ = some (.int .i64 0) := by rw [hy1]; simp [go_sem, r0]
  have r1' : y1.cell? ⟨w.heap.size + 1 + 1, 1, none⟩ = some (.int .i64 0) := by rw [hy1]; simp [go_sem, r1]
  have r2' : y1.cell? ⟨w.heap.size + 1 + 1, 2, none⟩ = some (.bool false) := by rw [hy1]; simp [go_sem, r2]
  have f0' : y1.frozen? ⟨w.heap.size + 1, 0, none⟩ = false := by rw [hy1]; simp [go_sem, f0]
  have f1' : y1.frozen? ⟨w.heap.size + 1, 1, none⟩ = false := by rw [hy1]; simp [go_sem, f1]
  have f2' : y1.frozen? ⟨w.heap.size + 1, 2, none⟩ = false := by rw [hy1]; simp [go_sem, f2]
  have e0' : y1.frozen? ⟨w.heap.size + 1 + 1, 0, none⟩ = false := by rw [hy1]; simp [go_sem, e0]
  have e1' : y1.frozen? ⟨w.heap.size + 1 + 1, 1, none⟩ = false := by rw [hy1]; simp [go_sem, e1]
  have e2' : y1.frozen? ⟨w.heap.size + 1 + 1, 2, none⟩ = false := by rw [hy1]; simp [go_sem, e2]
  clear q0 q1 q2 r0 r1 r2 f0 f1 f2 e0 e1 e2 hy1 hB2
  have q0 := q0'
  have q1 := q1'
  have q2 := q2'
  have r0 := r0'
  have r1 := r1'
  have r2 := r2'
  have f0 := f0'
  have f1 := f1'
  have f2 := f2'
  have e0 := e0'
  have e1 := e1'
  have e2 := e2'
  clear q0' q1' q2' r0' r1' r2' f0' f1' f2' e0' e1' e2'
  have hO1 : Below y1.heap.size y1 (y1.alloc (.cells #[.int .i64 ((W : Int)), .int .i64 ((H : Int)), .int .i64 ((W : Int) - 1), .int .i64 ((W : Int)), .int .i64 (3), .int .i64 (1)] 63)) := (Below.refl _ _).alloc (Nat.le_refl _) _
  have s0 := keepc hO1 q0
  have s1 := keepc hO1 q1
  have s2 := keepc hO1 q2
  clear hO1
  rw [rounds_succ]
  go_wp2_with fail
  clear s0 s1 s2
  refine (tellRay_int _ _ _ _ H _ _ _ _ k bk _ (by omega) (by omega) (by omega) (by omega) ((hY1.alloc (by omega) _).cell (World.block_lt_of_cell? w _ hk) |>.trans hk) _ _ _ EV1.out).mono ?_
  rintro e x3 ⟨rfl, hc3⟩
  have hz3 := hc3.size
  simp at hz3
  have hB3 : Below w.heap.size w x3 := bcall (hY1.alloc (by omega) _) (by simp; omega) hc3
  have hA1 : Below y1.heap.size y1 x3 := bcall ((Below.refl _ _).alloc (Nat.le_refl _) _) (by simp) hc3
  replace f0 := keepf hA1 q0 f0; replace f1 := keepf hA1 q1 f1; replace f2 := keepf hA1 q2 f2; replace e0 := keepf hA1 r0 e0; replace e1 := keepf hA1 r1 e1; replace e2 := keepf hA1 r2 e2; replace q0 := keepc hA1 q0; replace q1 := keepc hA1 q1; replace q2 := keepc hA1 q2; replace r0 := keepc hA1 r0; replace r1 := keepc hA1 r1; replace r2 := keepc hA1 r2
  clear hc3 hA1
  go_wp2_with fail
  obtain ⟨y2, hy2⟩ : ∃ y, y = ((x3.setCell ⟨w.heap.size + 1, 0, none⟩ (.int .i64 a1)).setCell ⟨w.heap.size + 1, 1, none⟩ (.int .i64 b1)).setCell ⟨w.heap.size + 1, 2, none⟩ (.bool c1) := ⟨_, rfl⟩
  rw [← hy2]
  have hY2 : Below w.heap.size w y2 := by
    rw [hy2]
    exact ((hB3.setCell (p := ⟨w.heap.size + 1, 0, none⟩) (by simp) _).setCell (p := ⟨w.heap.size + 1, 1, none⟩) (by simp) _).setCell (p := ⟨w.heap.size + 1, 2, none⟩) (by simp) _
  have hZ2 : x3.heap.size ≤ y2.heap.size := by rw [hy2]; simp [go_sem]
  have q0' : y2.cell? ⟨w.heap.size + 1, 0, none⟩ = some (.int .i64 a1) := by rw [hy2]; simp [go_sem, q0]
  have q1' : y2.cell? ⟨w.heap.size + 1, 1, none⟩ = some (.int .i64 b1) := by rw [hy2]; simp [go_sem, q1]
  have q2' : y2.cell? ⟨w.heap.size + 1, 2, none⟩ = some (.bool c1) := by rw [hy2]; simp [go_sem, q2]
  have r0' : y2.cell? ⟨w.heap.size + 1 + 1, 0, none⟩ = some (.int .i64 0) := by rw [hy2]; simp [go_sem, r0]
  have r1' : y2.cell? ⟨w.heap.size + 1 + 1, 1, none⟩ = some (.int .i64 0) := by rw [hy2]; simp [go_sem, r1]
  have r2' : y2.cell? ⟨w.heap.size + 1 + 1, 2, none⟩ = some (.bool false) := by rw [hy2]; simp [go_sem, r2]
  have f0' : y2.frozen? ⟨w.heap.size + 1, 0, none⟩ = false := by rw [hy2]; simp [go_sem, f0]
  have f1' : y2.frozen? ⟨w.heap.size + 1, 1, none⟩ = false := by rw [hy2]; simp [go_sem, f1]
  have f2' : y2.frozen? ⟨w.heap.size + 1, 2, none⟩ = false := by rw [hy2]; simp [go_sem, f2]
  have e0' : y2.frozen? ⟨w.heap.size + 1 + 1, 0, none⟩ = false := by rw [hy2]; simp [go_sem, e0]
  have e1' : y2.frozen? ⟨w.heap.size + 1 + 1, 1, none⟩ = false := by rw [hy2]; simp [go_sem, e1]
  have e2' : y2.frozen? ⟨w.heap.size + 1 + 1, 2, none⟩ = false := by rw [hy2]; simp [go_sem, e2]
  clear q0 q1 q2 r0 r1 r2 f0 f1 f2 e0 e1 e2 hy2 hB3
  have q0 := q0'
  have q1 := q1'
  have q2 := q2'
  have r0 := r0'
  have r1 := r1'
  have r2 := r2'
  have f0 := f0'
  have f1 := f1'
  have f2 := f2'
  have e0 := e0'
  have e1 := e1'
  have e2 := e2'
  clear q0' q1' q2' r0' r1' r2' f0' f1' f2' e0' e1' e2'
  have hO2 : Below y2.heap.size y2 (y2.alloc (.cells #[.int .i64 ((W : Int) + (H : Int)), .int .i64 ((W : Int)), .int .i64 ((cs.length : Int) - 1), .int .i64 (-1), .int .i64 (0), .int .i64 (2)] 63)) := (Below.refl _ _).alloc (Nat.le_refl _) _
  have s0 := keepc hO2 q0
  have s1 := keepc hO2 q1
  have s2 := keepc hO2 q2
  clear hO2
  rw [rounds_succ]
  go_wp2_with fail
  clear s0 s1 s2
  refine (tellRay_int _ _ _ _ W _ _ _ _ k bk _ (by omega) (by omega) (by omega) (by omega) ((hY2.alloc (by omega) _).cell (World.block_lt_of_cell? w _ hk) |>.trans hk) _ _ _ EV2.out).mono ?_
  rintro e x4 ⟨rfl, hc4⟩
  have hz4 := hc4.size
  simp at hz4
  have hB4 : Below w.heap.size w x4 := bcall (hY2.alloc (by omega) _) (by simp; omega) hc4
  have hA2 : Below y2.heap.size y2 x4 := bcall ((Below.refl _ _).alloc (Nat.le_refl _) _) (by simp) hc4
  replace f0 := keepf hA2 q0 f0; replace f1 := keepf hA2 q1 f1; replace f2 := keepf hA2 q2 f2; replace e0 := keepf hA2 r0 e0; replace e1 := keepf hA2 r1 e1; replace e2 := keepf hA2 r2 e2; replace q0 := keepc hA2 q0; replace q1 := keepc hA2 q1; replace q2 := keepc hA2 q2; replace r0 := keepc hA2 r0; replace r1 := keepc hA2 r1; replace r2 := keepc hA2 r2
  clear hc4 hA2
  go_wp2_with fail
  obtain ⟨y3, hy3⟩ : ∃ y, y = ((x4.setCell ⟨w.heap.size + 1, 0, none⟩ (.int .i64 a2)).setCell ⟨w.heap.size + 1, 1, none⟩ (.int .i64 b2)).setCell ⟨w.heap.size + 1, 2, none⟩ (.bool c2) := ⟨_, rfl⟩
  rw [← hy3]
  have hY3 : Below w.heap.size w y3 := by
    rw [hy3]
    exact ((hB4.setCell (p := ⟨w.heap.size + 1, 0, none⟩) (by simp) _).setCell (p := ⟨w.heap.size + 1, 1, none⟩) (by simp) _).setCell (p := ⟨w.heap.size + 1, 2, none⟩) (by simp) _
  have hZ3 : x4.heap.size ≤ y3.heap.size := by rw [hy3]; simp [go_sem]
  have q0' : y3.cell? ⟨w.heap.size + 1, 0, none⟩ = some (.int .i64 a2) := by rw [hy3]; simp [go_sem, q0]
  have q1' : y3.cell? ⟨w.heap.size + 1, 1, none⟩ = some (.int .i64 b2) := by rw [hy3]; simp [go_sem, q1]
  have q2' : y3.cell? ⟨w.heap.size + 1, 2, none⟩ = some (.bool c2) := by rw [hy3]; simp [go_sem, q2]
  have r0' : y3.cell? ⟨w.heap.size + 1 + 1, 0, none⟩ = some (.int .i64 0) := by rw [hy3]; simp [go_sem, r0]
  have r1' : y3.cell? ⟨w.heap.size + 1 + 1, 1, none⟩ = some (.int .i64 0) := by rw [hy3]; simp [go_sem, r1]
  have r2' : y3.cell? ⟨w.heap.size + 1 + 1, 2, none⟩ = some (.bool false) := by rw [hy3]; simp [go_sem, r2]
  have f0' : y3.frozen? ⟨w.heap.size + 1, 0, none⟩ = false := by rw [hy3]; simp [go_sem, f0]
  have f1' : y3.frozen? ⟨w.heap.size + 1, 1, none⟩ = false := by rw [hy3]; simp [go_sem, f1]
  have f2' : y3.frozen? ⟨w.heap.size + 1, 2, none⟩ = false := by rw [hy3]; simp [go_sem, f2]
  have e0' : y3.frozen? ⟨w.heap.size + 1 + 1, 0, none⟩ = false := by rw [hy3]; simp [go_sem, e0]
  have e1' : y3.frozen? ⟨w.heap.size + 1 + 1, 1, none⟩ = false := by rw [hy3]; simp [go_sem, e1]
  have e2' : y3.frozen? ⟨w.heap.size + 1 + 1, 2, none⟩ = false := by rw [hy3]; simp [go_sem, e2]
  clear q0 q1 q2 r0 r1 r2 f0 f1 f2 e0 e1 e2 hy3 hB4
  have q0 := q0'
  have q1 := q1'
  have q2 := q2'
  have r0 := r0'
  have r1 := r1'
  have r2 := r2'
  have f0 := f0'
  have f1 := f1'
  have f2 := f2'
  have e0 := e0'
  have e1 := e1'
  have e2 := e2'
  clear q0' q1' q2' r0' r1' r2' f0' f1' f2' e0' e1' e2'
  have hO3 : Below y3.heap.size y3 (y3.alloc (.cells #[.int .i64 ((W : Int) + (H : Int) + (W : Int)), .int .i64 ((H : Int)), .int .i64 ((cs.length : Int) - 1 - (W : Int) + 1), .int .i64 (-(W : Int)), .int .i64 (1), .int .i64 (3)] 63)) := (Below.refl _ _).alloc (Nat.le_refl _) _
  have s0 := keepc hO3 q0
  have s1 := keepc hO3 q1
  have s2 := keepc hO3 q2
  clear hO3
  rw [rounds_succ]
  go_wp2_with fail
  clear s0 s1 s2
  refine (tellRay_int _ _ _ _ H _ _ _ _ k bk _ (by omega) (by omega) (by omega) (by omega) ((hY3.alloc (by omega) _).cell (World.block_lt_of_cell? w _ hk) |>.trans hk) _ _ _ EV3.out).mono ?_
  rintro e x5 ⟨rfl, hc5⟩
  have hz5 := hc5.size
  simp at hz5
  have hB5 : Below w.heap.size w x5 := bcall (hY3.alloc (by omega) _) (by simp; omega) hc5
  have hA3 : Below y3.heap.size y3 x5 := bcall ((Below.refl _ _).alloc (Nat.le_refl _) _) (by simp) hc5
  replace f0 := keepf hA3 q0 f0; replace f1 := keepf hA3 q1 f1; replace f2 := keepf hA3 q2 f2; replace e0 := keepf hA3 r0 e0; replace e1 := keepf hA3 r1 e1; replace e2 := keepf hA3 r2 e2; replace q0 := keepc hA3 q0; replace q1 := keepc hA3 q1; replace q2 := keepc hA3 q2; replace r0 := keepc hA3 r0; replace r1 := keepc hA3 r1; replace r2 := keepc hA3 r2
  clear hc5 hA3
  go_wp2_with fail
  obtain ⟨y4, hy4⟩ : ∃ y, y = ((x5.setCell ⟨w.heap.size + 1, 0, none⟩ (.int .i64 a3)).setCell ⟨w.heap.size + 1, 1, none⟩ (.int .i64 b3)).setCell ⟨w.heap.size + 1, 2, none⟩ (.bool c3) := ⟨_, rfl⟩
  rw [← hy4]
  have hY4 : Below w.heap.size w y4 := by
    rw [hy4]
    exact ((hB5.setCell (p := ⟨w.heap.size + 1, 0, none⟩) (by simp) _).setCell (p := ⟨w.heap.size + 1, 1, none⟩) (by simp) _).setCell (p := ⟨w.heap.size + 1, 2, none⟩) (by simp) _
  have hZ4 : x5.heap.size ≤ y4.heap.size := by rw [hy4]; simp [go_sem]
  have q0' : y4.cell? ⟨w.heap.size + 1, 0, none⟩ = some (.int .i64 a3) := by rw [hy4]; simp [go_sem, q0]
  have q1' : y4.cell? ⟨w.heap.size + 1, 1, none⟩ = some (.int .i64 b3) := by rw [hy4]; simp [go_sem, q1]
  have q2' : y4.cell? ⟨w.heap.size + 1, 2, none⟩ = some (.bool c3) := by rw [hy4]; simp [go_sem, q2]
  have r0' : y4.cell? ⟨w.heap.size + 1 + 1, 0, none⟩ = some (.int .i64 0) := by rw [hy4]; simp [go_sem, r0]
  have r1' : y4.cell? ⟨w.heap.size + 1 + 1, 1, none⟩ = some (.int .i64 0) := by rw [hy4]; simp [go_sem, r1]
  have r2' : y4.cell? ⟨w.heap.size + 1 + 1, 2, none⟩ = some (.bool false) := by rw [hy4]; simp [go_sem, r2]
  have f0' : y4.frozen? ⟨w.heap.size + 1, 0, none⟩ = false := by rw [hy4]; simp [go_sem, f0]
  have f1' : y4.frozen? ⟨w.heap.size + 1, 1, none⟩ = false := by rw [hy4]; simp [go_sem, f1]
  have f2' : y4.frozen? ⟨w.heap.size + 1, 2, none⟩ = false := by rw [hy4]; simp [go_sem, f2]
  have e0' : y4.frozen? ⟨w.heap.size + 1 + 1, 0, none⟩ = false := by rw [hy4]; simp [go_sem, e0]
  have e1' : y4.frozen? ⟨w.heap.size + 1 + 1, 1, none⟩ = false := by rw [hy4]; simp [go_sem, e1]
  have e2' : y4.frozen? ⟨w.heap.size + 1 + 1, 2, none⟩ = false := by rw [hy4]; simp [go_sem, e2]
  clear q0 q1 q2 r0 r1 r2 f0 f1 f2 e0 e1 e2 hy4 hB5
  have q0 := q0'
  have q1 := q1'
  have q2 := q2'
  have r0 := r0'
  have r1 := r1'
  have r2 := r2'
  have f0 := f0'
  have f1 := f1'
  have f2 := f2'
  have e0 := e0'
  have e1 := e1'
  have e2 := e2'
  clear q0' q1' q2' r0' r1' r2' f0' f1' f2' e0' e1' e2'
  rw [rounds_succ]
  go_wp2_with fail
  refine bodyPost_ret (v := .agg #[.int .i64 a3, .int .i64 b3, .bool c3]) (by simp [results, Try.results40, go_sem, r0, r1, r2]) rfl ⟨rfl, ?_⟩
  repeat (refine Below.setCell ?_ (by simp <;> omega) _)
  exact hY4

/-- Of a grid that is not ok nothing more is told. -/
theorem goRay_bad (wd : Int) (a : Option Addr) (cap : Nat) (cs : List (Int × Int)) (w : World) (h : CellsAt w a cs) (hbad : okG wd cs = false) (hm : cs.length ≤ 1048576) (t : Value) :
    Calls Try.prog 40 #[.agg #[.int .i64 wd, .slice a cs.length cap], .agg #[.int .i64 0, .int .i64 0, .bool false], t] w fun e w' => e = .returned (.agg #[.int .i64 0, .int .i64 0, .bool false]) ∧ Below w.heap.size w w' := by
  go_enter Try.func40, Try.ntmps40
  go_wp2_with fail
  refine (implGridOk_any _ _ _ cs _ (h.below (by repeat (first | exact Below.refl _ _ | refine Below.alloc ?_ (by first | exact Nat.le_refl _ | (simp; done) | (simp; omega)) _ | refine Below.drew ?_ | refine Below.setCell ?_ (by first | exact Nat.le_refl _ | (simp; done) | (simp; omega)) _))) (by omega)).mono ?_
  rintro e x0 ⟨rfl, hb0⟩
  have q0 : x0.cell? ⟨w.heap.size + 1, 0, none⟩ = some (.int .i64 0) := keepc hb0 (by simp [go_sem])
  have q1 : x0.cell? ⟨w.heap.size + 1, 1, none⟩ = some (.int .i64 0) := keepc hb0 (by simp [go_sem])
  have q2 : x0.cell? ⟨w.heap.size + 1, 2, none⟩ = some (.bool false) := keepc hb0 (by simp [go_sem])
  have r0 : x0.cell? ⟨w.heap.size + 1 + 1, 0, none⟩ = some (.int .i64 0) := keepc hb0 (by simp [go_sem])
  have r1 : x0.cell? ⟨w.heap.size + 1 + 1, 1, none⟩ = some (.int .i64 0) := keepc hb0 (by simp [go_sem])
  have r2 : x0.cell? ⟨w.heap.size + 1 + 1, 2, none⟩ = some (.bool false) := keepc hb0 (by simp [go_sem])
  have e0 : x0.frozen? ⟨w.heap.size + 1 + 1, 0, none⟩ = false := keepf hb0 (v := .int .i64 0) (by simp [go_sem]) (by simp [go_sem])
  have e1 : x0.frozen? ⟨w.heap.size + 1 + 1, 1, none⟩ = false := keepf hb0 (v := .int .i64 0) (by simp [go_sem]) (by simp [go_sem])
  have e2 : x0.frozen? ⟨w.heap.size + 1 + 1, 2, none⟩ = false := keepf hb0 (v := .bool false) (by simp [go_sem]) (by simp [go_sem])
  have hB0 : Below w.heap.size w x0 := bcall (by repeat (first | exact Below.refl _ _ | refine Below.alloc ?_ (by first | exact Nat.le_refl _ | (simp; done) | (simp; omega)) _ | refine Below.drew ?_ | refine Below.setCell ?_ (by first | exact Nat.le_refl _ | (simp; done) | (simp; omega)) _)) (by simp <;> omega) hb0
  clear hb0
  go_wp2_with fail
  refine bodyPost_ret (v := .agg #[.int .i64 0, .int .i64 0, .bool false]) (by simp [results, Try.results40, go_sem, r0, r1, r2]) rfl ⟨rfl, ?_⟩
  repeat (refine Below.setCell ?_ (by simp <;> omega) _)
  exact hB0
end Go.Proofs.Ytankkkiccokggaa
