/-
  impl's sightAt: the sight of a side at which light comes into a cell, as a plain function of numbers.
-/
import Derived.Test.YtankkkiccokggaaVa
namespace Go.Proofs.Ytankkkiccokggaa
open Go.RowKit
set_option linter.unusedVariables false

/-- The sight of a side whose light comes into the cell x, of its first n; -1, if none does. -/
def sa (f s o x : Int) : Nat → Int
  | 0 => -1
  | n + 1 => if sa f s o x n ≠ -1 then sa f s o x n else if s + (n : Int) * o = x then f + n else -1

theorem sa_hit (f s o x : Int) (hf : 0 ≤ f) (k : Nat) (h0 : sa f s o x k = -1) (h1 : s + (k : Int) * o = x) (m : Nat) (hm : k < m) : sa f s o x m = f + k := by
  induction m with
  | zero => omega
  | succ m ih =>
    simp only [sa]
    by_cases e : k = m
    · subst e
      rw [if_neg (by simp [h0]), if_pos h1]
    · rw [ih (by omega), if_pos (by omega)]
theorem sa_miss (f s o x : Int) (k : Nat) (h0 : sa f s o x k = -1) (h1 : ¬ s + (k : Int) * o = x) : sa f s o x (k + 1) = -1 := by
  simp only [sa]
  rw [if_neg (by simp [h0]), if_neg h1]

theorem fieldAt0 (y i : Int) (w : World) : Sem.run Try.prog (Instr.field 29 (.agg #[.int .i64 y, .int .i64 i]) 0) w = .ok (.int .i64 y) w := by kernel_rfl

set_option maxHeartbeats 2000000 in
theorem sightAt_any (f m : Nat) (s o i u x : Int) (w : World) (hf : f ≤ 50) (hm : m ≤ 5) (hs : -50 ≤ s ∧ s ≤ 50) (ho : -5 ≤ o ∧ o ≤ 5) :
    Calls Try.prog 51 #[.agg #[.int .i64 (f : Int), .int .i64 (m : Int), .int .i64 s, .int .i64 o, .int .i64 i, .int .i64 u], .int .i64 x] w fun e w' => e = .returned (.int .i64 (sa f s o x m)) ∧ Below w.heap.size w w' := by
  have hb0 : Below w.heap.size w (w.alloc (.cells #[.int .i64 (f : Int), .int .i64 (m : Int), .int .i64 s, .int .i64 o, .int .i64 i, .int .i64 u] 63)) := (by repeat (first | exact Below.refl _ _ | refine Below.alloc ?_ (by first | exact Nat.le_refl _ | (simp; done) | (simp; omega)) _ | refine Below.drew ?_ | refine Below.setCell ?_ (by first | exact Nat.le_refl _ | (simp; done) | (simp; omega)) _))
  have g0 : (w.alloc (.cells #[.int .i64 (f : Int), .int .i64 (m : Int), .int .i64 s, .int .i64 o, .int .i64 i, .int .i64 u] 63)).cell? ⟨w.heap.size, 0, none⟩ = some (.int .i64 (f : Int)) := by simp [go_sem]
  have g1 : (w.alloc (.cells #[.int .i64 (f : Int), .int .i64 (m : Int), .int .i64 s, .int .i64 o, .int .i64 i, .int .i64 u] 63)).cell? ⟨w.heap.size, 1, none⟩ = some (.int .i64 (m : Int)) := by simp [go_sem]
  have g2 : (w.alloc (.cells #[.int .i64 (f : Int), .int .i64 (m : Int), .int .i64 s, .int .i64 o, .int .i64 i, .int .i64 u] 63)).cell? ⟨w.heap.size, 2, none⟩ = some (.int .i64 s) := by simp [go_sem]
  have g3 : (w.alloc (.cells #[.int .i64 (f : Int), .int .i64 (m : Int), .int .i64 s, .int .i64 o, .int .i64 i, .int .i64 u] 63)).cell? ⟨w.heap.size, 3, none⟩ = some (.int .i64 o) := by simp [go_sem]
  have g4 : (w.alloc (.cells #[.int .i64 (f : Int), .int .i64 (m : Int), .int .i64 s, .int .i64 o, .int .i64 i, .int .i64 u] 63)).cell? ⟨w.heap.size, 4, none⟩ = some (.int .i64 i) := by simp [go_sem]
  have g5 : (w.alloc (.cells #[.int .i64 (f : Int), .int .i64 (m : Int), .int .i64 s, .int .i64 o, .int .i64 i, .int .i64 u] 63)).cell? ⟨w.heap.size, 5, none⟩ = some (.int .i64 u) := by simp [go_sem]
  go_enter Try.func51, Try.ntmps51
  go_wp2
  obtain ⟨w0, hw0⟩ : ∃ w0, w0 = w.alloc (.cells #[.int .i64 (f : Int), .int .i64 (m : Int), .int .i64 s, .int .i64 o, .int .i64 i, .int .i64 u] 63) := ⟨_, rfl⟩
  rw [← hw0] at hb0 g0 g1 g2 g3 g4 g5 ⊢
  clear hw0
  go_loopw [5] (fun k wr => ∃ K : Nat, f ≤ K ∧ K ≤ f + m ∧ k = .int .i64 (K : Int) ∧ sa f s o x (K - f) = -1 ∧ Below w0.heap.size w0 wr) (fun k _ => f + m - (intOf k).toNat)
  case atStart => exact ⟨f, Nat.le_refl _, by omega, rfl, by rw [Nat.sub_self]; rfl, Below.refl _ _⟩
  case round =>
    obtain ⟨K, hK1, hK2, rfl, hno, hb⟩ := hrel
    have hz := hb.size
    have hz0 := hb0.size
    replace g0 := keepc hb g0; replace g1 := keepc hb g1; replace g2 := keepc hb g2; replace g3 := keepc hb g3; replace g4 := keepc hb g4; replace g5 := keepc hb g5
    have HNO : Hid (sa f s o x (K - f) = -1) := hno
    clear hno
    by_cases hlt : K < f + m
    · obtain ⟨p, hp⟩ : ∃ p, ((K : Int) - (f : Int)) * o = p := ⟨_, rfl⟩
      obtain ⟨y, hy⟩ : ∃ y, s + p = y := ⟨_, rfl⟩
      have hp2 : -25 ≤ p ∧ p ≤ 25 := by
        rw [← hp]
        obtain ⟨t, ht⟩ : ∃ t : Nat, K = f + t := ⟨K - f, by omega⟩
        have ht2 : t < 5 := by omega
        rw [show (K : Int) - (f : Int) = (t : Int) by omega]
        rcases (show t = 0 ∨ t = 1 ∨ t = 2 ∨ t = 3 ∨ t = 4 by omega) with rfl | rfl | rfl | rfl | rfl <;> simp <;> omega
      have HP : Hid (((K : Int) - (f : Int)) * o = p) := hp
      have HY : Hid (s + p = y) := hy
      clear hp hy
      go_wp2_with fail
      refine (has_any _ _ _ _ _ _ _ (by omega) (by omega) true (decide_eq_true (by omega)).symm _).mono ?_
      rintro e w1 ⟨rfl, hb1⟩
      have hz1 := hb1.size
      have hB1 := bcall hb hb.size hb1
      replace g0 := keepc hb1 g0; replace g1 := keepc hb1 g1; replace g2 := keepc hb1 g2; replace g3 := keepc hb1 g3; replace g4 := keepc hb1 g4; replace g5 := keepc hb1 g5
      clear hb hb1
      go_wp2_with fail
      refine (ray_any _ _ _ _ _ _ _ p y (by omega) (by omega) HP.out (by omega) (by omega) HY.out _).mono ?_
      rintro e w2 ⟨rfl, hb2⟩
      have hz2 := hb2.size
      have hB2 := bcall hB1 hB1.size hb2
      clear hb2
      have hk0 : s + ((K - f : Nat) : Int) * o = y := by
        rw [← HY.out, ← HP.out]
        rw [show ((K - f : Nat) : Int) = (K : Int) - (f : Int) by omega]
      have hfa := fieldAt0 y i
      by_cases e1 : y = x
      · have hv : sa f s o x m = (K : Int) := by
          rw [sa_hit f s o x (by omega) (K - f) HNO.out (hk0.trans e1) m (by omega)]
          omega
        have HV : Hid (sa f s o x m = (K : Int)) := hv
        have b1 : (y == x) = true := by simp [e1]
        clear hv hk0 HP HY hp2
        subst e1
        go_wp2
        go_ret
        exact ⟨by rw [HV.out]; rfl, bcall hb0 hb0.size hB2⟩
      · have hv := sa_miss f s o x (K - f) HNO.out (fun q => e1 (hk0.symm.trans q))
        rw [show K - f + 1 = K + 1 - f by omega] at hv
        have b1 : (y == x) = false := by simp [e1]
        have HV : Hid (sa f s o x (K + 1 - f) = -1) := hv
        clear hk0 e1 hv HP HY hp2
        go_wp2
        go_roundw
        case rel => exact ⟨K + 1, by omega, by omega, by go_num, HV.out, hB2⟩
        case measure => simp [intOf]; omega
    · have hv : sa f s o x m = -1 := by
        rw [← HNO.out]
        rw [show K - f = m by omega]
      have HV : Hid (sa f s o x m = -1) := hv
      clear hv
      go_wp2_with fail
      refine (has_any _ _ _ _ _ _ _ (by omega) (by omega) false (decide_eq_false (by omega)).symm _).mono ?_
      rintro e w1 ⟨rfl, hb1⟩
      have hB1 := bcall hb hb.size hb1
      clear hb hb1
      go_wp2
      go_ret
      exact ⟨by rw [HV.out]; rfl, bcall hb0 hb0.size hB1⟩
end Go.Proofs.Ytankkkiccokggaa
