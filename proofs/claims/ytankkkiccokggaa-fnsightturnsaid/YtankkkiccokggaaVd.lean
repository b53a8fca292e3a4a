/-
  What impl tells at a side: how many sights there are, which sight light leaves at, and what comes in at a sight.
-/
import Derived.Test.YtankkkiccokggaaVc
namespace Go.Proofs.Ytankkkiccokggaa
open Go.RowKit
set_option linter.unusedVariables false

set_option maxHeartbeats 400000 in
theorem tellMany_any (q f m s o i u : Int) (hq : 0 ≤ q ∧ q ≤ 100) (hm : 0 ≤ m ∧ m ≤ 100) (w : World) :
    Calls Try.prog 52 #[.int .i64 q, .agg #[.int .i64 f, .int .i64 m, .int .i64 s, .int .i64 o, .int .i64 i, .int .i64 u]] w fun e w' => e = .returned (.int .i64 (q + m)) ∧ Below w.heap.size w w' := by
  go_enter Try.func52, Try.ntmps52
  go_wp2
  go_ret
  exact ⟨rfl, (by repeat (first | exact Below.refl _ _ | refine Below.alloc ?_ (by first | exact Nat.le_refl _ | (simp; done) | (simp; omega)) _ | refine Below.drew ?_ | refine Below.setCell ?_ (by first | exact Nat.le_refl _ | (simp; done) | (simp; omega)) _))⟩

set_option maxHeartbeats 1000000 in
theorem tellOf_any (q : Int) (f m : Nat) (s o i u x d : Int) (bd bx : Nat) (w : World) (hf : f ≤ 50) (hm : m ≤ 5) (hs : -50 ≤ s ∧ s ≤ 50) (ho : -5 ≤ o ∧ o ≤ 5)
    (hd : w.cell? ⟨bd, 0, none⟩ = some (.int .i64 d)) (hx : w.cell? ⟨bx, 0, none⟩ = some (.int .i64 x)) (v : Int) (hv : v = if u = d then sa f s o x m else q) :
    Calls Try.prog 50 #[.int .i64 q, .agg #[.int .i64 (f : Int), .int .i64 (m : Int), .int .i64 s, .int .i64 o, .int .i64 i, .int .i64 u], .pointer (some ⟨bd, 0, none⟩), .pointer (some ⟨bx, 0, none⟩)] w fun e w' => e = .returned (.int .i64 v) ∧ Below w.heap.size w w' := by
  have hb0 : Below w.heap.size w (w.alloc (.cells #[.int .i64 (f : Int), .int .i64 (m : Int), .int .i64 s, .int .i64 o, .int .i64 i, .int .i64 u] 63)) := (by repeat (first | exact Below.refl _ _ | refine Below.alloc ?_ (by first | exact Nat.le_refl _ | (simp; done) | (simp; omega)) _ | refine Below.drew ?_ | refine Below.setCell ?_ (by first | exact Nat.le_refl _ | (simp; done) | (simp; omega)) _))
  have hd2 := keepc hb0 hd
  have hx2 := keepc hb0 hx
  have g5 : (w.alloc (.cells #[.int .i64 (f : Int), .int .i64 (m : Int), .int .i64 s, .int .i64 o, .int .i64 i, .int .i64 u] 63)).cell? ⟨w.heap.size, 5, none⟩ = some (.int .i64 u) := by simp [go_sem]
  by_cases e1 : u = d
  · rw [if_pos e1] at hv
    have HV : Hid (v = sa f s o x m) := hv
    have b1 : (u == d) = true := by simp [e1]
    clear hv e1
    go_enter Try.func50, Try.ntmps50
    go_wp2_with fail
    refine (sightAt_any f m s o i u x _ hf hm hs ho).mono ?_
    rintro e w1 ⟨rfl, hb1⟩
    rw [← HV.out]
    go_wp2
    go_ret
    exact ⟨rfl, bcall hb0 hb0.size hb1⟩
  · rw [if_neg e1] at hv
    subst hv
    have b1 : (u == d) = false := by simp [e1]
    clear e1
    go_enter Try.func50, Try.ntmps50
    go_wp2
    go_ret
    exact ⟨rfl, hb0⟩

set_option maxHeartbeats 1000000 in
theorem tellRay_any (qx qd : Int) (qb : Bool) (f m : Nat) (s o i u k : Int) (bk : Nat) (w : World) (hf : f ≤ 50) (hm : m ≤ 5) (hs : -50 ≤ s ∧ s ≤ 50) (ho : -5 ≤ o ∧ o ≤ 5)
    (hk : w.cell? ⟨bk, 0, none⟩ = some (.int .i64 k)) (vx vd : Int) (vb : Bool) (hv : (vx, vd, vb) = if (f : Int) ≤ k ∧ k < (f : Int) + (m : Int) then (s + (k - (f : Int)) * o, i, true) else (qx, qd, qb)) :
    Calls Try.prog 41 #[.agg #[.int .i64 qx, .int .i64 qd, .bool qb], .agg #[.int .i64 (f : Int), .int .i64 (m : Int), .int .i64 s, .int .i64 o, .int .i64 i, .int .i64 u], .pointer (some ⟨bk, 0, none⟩)] w fun e w' => e = .returned (.agg #[.int .i64 vx, .int .i64 vd, .bool vb]) ∧ Below w.heap.size w w' := by
  obtain ⟨w0, hw0⟩ : ∃ w0, w0 = ((w.alloc (.cells #[.int .i64 qx, .int .i64 qd, .bool qb] 60)).alloc (.cells #[.int .i64 (f : Int), .int .i64 (m : Int), .int .i64 s, .int .i64 o, .int .i64 i, .int .i64 u] 63)).alloc (.cells #[.int .i64 0, .int .i64 0, .bool false] 60) := ⟨_, rfl⟩
  have hb0 : Below w.heap.size w w0 := by rw [hw0]; exact (by repeat (first | exact Below.refl _ _ | refine Below.alloc ?_ (by first | exact Nat.le_refl _ | (simp; done) | (simp; omega)) _ | refine Below.drew ?_ | refine Below.setCell ?_ (by first | exact Nat.le_refl _ | (simp; done) | (simp; omega)) _))
  have hk2 := keepc hb0 hk
  have hk3 := hk2
  rw [hw0] at hk3
  have a0 : w0.cell? ⟨w.heap.size, 0, none⟩ = some (.int .i64 qx) := by rw [hw0]; simp [go_sem]
  have a1 : w0.cell? ⟨w.heap.size, 1, none⟩ = some (.int .i64 qd) := by rw [hw0]; simp [go_sem]
  have a2 : w0.cell? ⟨w.heap.size, 2, none⟩ = some (.bool qb) := by rw [hw0]; simp [go_sem]
  have g0 : w0.cell? ⟨w.heap.size + 1, 0, none⟩ = some (.int .i64 (f : Int)) := by rw [hw0]; simp [go_sem]
  have g1 : w0.cell? ⟨w.heap.size + 1, 1, none⟩ = some (.int .i64 (m : Int)) := by rw [hw0]; simp [go_sem]
  have g2 : w0.cell? ⟨w.heap.size + 1, 2, none⟩ = some (.int .i64 s) := by rw [hw0]; simp [go_sem]
  have g3 : w0.cell? ⟨w.heap.size + 1, 3, none⟩ = some (.int .i64 o) := by rw [hw0]; simp [go_sem]
  have g4 : w0.cell? ⟨w.heap.size + 1, 4, none⟩ = some (.int .i64 i) := by rw [hw0]; simp [go_sem]
  have g5 : w0.cell? ⟨w.heap.size + 1, 5, none⟩ = some (.int .i64 u) := by rw [hw0]; simp [go_sem]
  have r0 : w0.cell? ⟨w.heap.size + 1 + 1, 0, none⟩ = some (.int .i64 0) := by rw [hw0]; simp [go_sem]
  have r1 : w0.cell? ⟨w.heap.size + 1 + 1, 1, none⟩ = some (.int .i64 0) := by rw [hw0]; simp [go_sem]
  have r2 : w0.cell? ⟨w.heap.size + 1 + 1, 2, none⟩ = some (.bool false) := by rw [hw0]; simp [go_sem]
  have f0 : w0.frozen? ⟨w.heap.size + 1 + 1, 0, none⟩ = false := by rw [hw0]; simp [go_sem]
  have f1 : w0.frozen? ⟨w.heap.size + 1 + 1, 1, none⟩ = false := by rw [hw0]; simp [go_sem]
  have f2 : w0.frozen? ⟨w.heap.size + 1 + 1, 2, none⟩ = false := by rw [hw0]; simp [go_sem]
  have hz0 : w.heap.size + 3 ≤ w0.heap.size := by rw [hw0]; simp [go_sem]
  by_cases e1 : (f : Int) ≤ k ∧ k < (f : Int) + (m : Int)
  · rw [if_pos e1] at hv
    simp only [Prod.mk.injEq] at hv
    obtain ⟨h1, rfl, rfl⟩ := hv
    obtain ⟨p, hp⟩ : ∃ p, (k - (f : Int)) * o = p := ⟨_, rfl⟩
    have hp2 : -25 ≤ p ∧ p ≤ 25 := by
      rw [← hp]
      obtain ⟨t, ht⟩ : ∃ t : Nat, k = (f : Int) + (t : Int) := ⟨(k - f).toNat, by omega⟩
      have ht2 : t < 5 := by omega
      rw [show k - (f : Int) = (t : Int) by omega]
      rcases (show t = 0 ∨ t = 1 ∨ t = 2 ∨ t = 3 ∨ t = 4 by omega) with rfl | rfl | rfl | rfl | rfl <;> simp <;> omega
    rw [hp] at h1
    have HP : Hid ((k - (f : Int)) * o = p) := hp
    have HY : Hid (s + p = vx) := h1.symm
    have HE : Hid ((f : Int) ≤ k ∧ k < (f : Int) + (m : Int)) := e1
    clear hp h1 e1
    go_enter Try.func41, Try.ntmps41
    go_wp2_with fail
    rw [← hw0]
    clear hw0 hk3
    refine (has_any _ _ _ _ _ _ _ (by omega) (by omega) true (decide_eq_true HE.out).symm _).mono ?_
    rintro e w1 ⟨rfl, hb1⟩
    have hz1 := hb1.size
    have hB1 := bcall hb0 hb0.size hb1
    replace f0 := keepf hb1 r0 f0
    replace f1 := keepf hb1 r1 f1
    replace f2 := keepf hb1 r2 f2
    replace hk2 := keepc hb1 hk2; replace g0 := keepc hb1 g0; replace g1 := keepc hb1 g1; replace g2 := keepc hb1 g2; replace g3 := keepc hb1 g3; replace g4 := keepc hb1 g4; replace g5 := keepc hb1 g5; replace r0 := keepc hb1 r0; replace r1 := keepc hb1 r1; replace r2 := keepc hb1 r2
    clear hb0 hb1 a0 a1 a2
    go_wp2_with fail
    refine (ray_any _ _ _ _ _ _ _ p vx (by omega) (by have := HE.out; omega) HP.out (by omega) (by omega) HY.out _).mono ?_
    rintro e w2 ⟨rfl, hb2⟩
    have hz2 := hb2.size
    have hB2 := bcall hB1 hB1.size hb2
    replace f0 := keepf hb2 r0 f0
    replace f1 := keepf hb2 r1 f1
    replace f2 := keepf hb2 r2 f2
    replace r0 := keepc hb2 r0; replace r1 := keepc hb2 r1; replace r2 := keepc hb2 r2
    clear hb2 hB1 g0 g1 g2 g3 g4 g5 hk2
    go_wp2
    refine bodyPost_ret (v := .agg #[.int .i64 vx, .int .i64 vd, .bool true]) (by simp [results, Try.results41, go_sem, r0, r1, r2]) rfl ⟨rfl, ?_⟩
    repeat (refine Below.setCell ?_ (by simp <;> omega) _)
    exact hB2
  · rw [if_neg e1] at hv
    simp only [Prod.mk.injEq] at hv
    obtain ⟨rfl, rfl, rfl⟩ := hv
    have HE : Hid (¬ ((f : Int) ≤ k ∧ k < (f : Int) + (m : Int))) := e1
    clear e1
    go_enter Try.func41, Try.ntmps41
    go_wp2_with fail
    rw [← hw0]
    clear hw0 hk3
    refine (has_any _ _ _ _ _ _ _ (by omega) (by omega) false (decide_eq_false HE.out).symm _).mono ?_
    rintro e w1 ⟨rfl, hb1⟩
    have hz1 := hb1.size
    have hB1 := bcall hb0 hb0.size hb1
    replace f0 := keepf hb1 r0 f0
    replace f1 := keepf hb1 r1 f1
    replace f2 := keepf hb1 r2 f2
    replace a0 := keepc hb1 a0; replace a1 := keepc hb1 a1; replace a2 := keepc hb1 a2; replace r0 := keepc hb1 r0; replace r1 := keepc hb1 r1; replace r2 := keepc hb1 r2
    clear hb0 hb1 hk2 g0 g1 g2 g3 g4 g5
    go_wp2
    refine bodyPost_ret (v := .agg #[.int .i64 vx, .int .i64 vd, .bool vb]) (by simp [results, Try.results41, go_sem, r0, r1, r2]) rfl ⟨rfl, ?_⟩
    repeat (refine Below.setCell ?_ (by simp <;> omega) _)
    exact hB1
end Go.Proofs.Ytankkkiccokggaa
