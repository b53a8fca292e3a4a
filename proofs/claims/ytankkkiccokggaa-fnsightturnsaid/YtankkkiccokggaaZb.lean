/-
  spec.l3Of: the sight at which light leaves a grid.
-/
import Derived.Test.YtankkkiccokggaaZa
namespace Go.Proofs.Ytankkkiccokggaa
open Go.RowKit
set_option linter.unusedVariables false

theorem sRay_dir (W H k x d : Int) (h : sRay W H k = (x, d)) : 0 ≤ d ∧ d ≤ 3 := by
  unfold sRay at h
  split at h
  · simp only [Prod.mk.injEq] at h; omega
  · split at h
    · simp only [Prod.mk.injEq] at h; omega
    · split at h <;> (simp only [Prod.mk.injEq] at h; omega)
theorem ofN_hit (W H x d : Int) (k : Nat) (h0 : ofN W H x d k = -1) (x2 d2 : Int) (hs : sRay W H k = (x2, d2)) (h1 : x2 = x) (h2 : (d2 + 2) % 4 = d) (m : Nat) (hm : k < m) : ofN W H x d m = (k : Int) := by
  induction m with
  | zero => omega
  | succ m ih =>
    by_cases h : k < m
    · have e := ih h
      simp only [ofN]
      rw [if_pos (by rw [e]; omega), e]
    · obtain rfl : m = k := by omega
      simp only [ofN]
      rw [if_neg (by simp [h0]), if_pos (by rw [hs]; exact ⟨h1, h2⟩)]
theorem ofN_miss (W H x d : Int) (k : Nat) (h0 : ofN W H x d k = -1) (x2 d2 : Int) (hs : sRay W H k = (x2, d2)) (h : ¬ (x2 = x ∧ (d2 + 2) % 4 = d)) : ofN W H x d (k + 1) = -1 := by
  simp only [ofN]
  rw [if_neg (by simp [h0]), if_neg (by rw [hs]; exact h)]

set_option maxHeartbeats 2000000 in
theorem l3Of_any (W H : Nat) (a : Option Addr) (n cap : Nat) (w : World) (hW : 1 ≤ W ∧ W ≤ 5) (hH5 : 1 ≤ H ∧ H ≤ 5) (hl : n = W * H) (x d : Int) :
    Calls Try.prog 56 #[.agg #[.int .i64 (W : Int), .slice a n cap], .int .i64 x, .int .i64 d] w fun e w' => e = .returned (.int .i64 (ofN W H x d (2 * (W + H)))) ∧ Below w.heap.size w w' := by
  have hH : n / W = H := by rw [hl]; exact Nat.mul_div_cancel_left H (by omega)
  have hn : n ≤ 25 := by rw [hl]; exact Nat.le_trans (Nat.mul_le_mul hW.2 hH5.2) (by omega)
  have HH : Hid (n / W = H) := hH
  have HL : Hid (n = W * H) := hl
  obtain ⟨M, hM⟩ : ∃ M : Nat, M = 2 * (W + H) := ⟨_, rfl⟩
  have HM : Hid (2 * ((W : Int) + (H : Int)) = (M : Int)) := by show _ = _; rw [hM]; simp
  have hM2 : M ≤ 20 := by omega
  rw [← hM]
  have CM : Hid (∀ (w : World), Calls Try.prog 38 #[.agg #[.int .i64 (W : Int), .slice a n cap]] w fun e w' => e = .returned (.int .i64 (M : Int)) ∧ Below w.heap.size w w') := by
    intro w
    have := l3Many_any W H a n cap w hW hH5.2 (by omega) hH
    rw [HM.out] at this
    exact this
  have hb0 : Below w.heap.size w (w.alloc (.cells #[.int .i64 (W : Int), .slice a n cap] 25)) := (by repeat (first | exact Below.refl _ _ | refine Below.alloc ?_ (by first | exact Nat.le_refl _ | (simp; done) | (simp; omega)) _ | refine Below.drew ?_ | refine Below.setCell ?_ (by first | exact Nat.le_refl _ | (simp; done) | (simp; omega)) _))
  have g0 : (w.alloc (.cells #[.int .i64 (W : Int), .slice a n cap] 25)).cell? ⟨w.heap.size, 0, none⟩ = some (.int .i64 (W : Int)) := by simp [go_sem]
  have g1 : (w.alloc (.cells #[.int .i64 (W : Int), .slice a n cap] 25)).cell? ⟨w.heap.size, 1, none⟩ = some (.slice a n cap) := by simp [go_sem]
  clear hH hl hM HM
  go_enter Try.func56, Try.ntmps56
  go_wp2
  obtain ⟨w0, hw0⟩ : ∃ w0, w0 = w.alloc (.cells #[.int .i64 (W : Int), .slice a n cap] 25) := ⟨_, rfl⟩
  rw [← hw0] at hb0 g0 g1 ⊢
  clear hw0
  go_loopw [7, 8] (fun i l8 wr => ∃ k : Nat, k ≤ M ∧ i = .int .i64 k ∧ ofN W H x d k = -1 ∧ Below w0.heap.size w0 wr) (fun i _ _ => M - (intOf i).toNat)
  case atStart => exact ⟨0, Nat.zero_le _, rfl, rfl, Below.refl _ _⟩
  case round =>
    obtain ⟨k, hk, rfl, hno, hb⟩ := hrel
    have hz := hb.size
    have hz0 := hb0.size
    replace g0 := keepc hb g0; replace g1 := keepc hb g1
    have HNO : Hid (ofN W H x d k = -1) := hno
    clear hno
    go_wp2_with fail
    refine (CM.out _).mono ?_
    rintro e w1 ⟨rfl, hb1⟩
    have hz1 := hb1.size
    have hB1 := bcall hb hb.size hb1
    replace g0 := keepc hb1 g0; replace g1 := keepc hb1 g1
    clear hb hb1
    by_cases hlt : k < M
    · obtain ⟨x2, d2, hs⟩ : ∃ x2 d2, sRay W H (k : Int) = (x2, d2) := ⟨_, _, rfl⟩
      have HS : Hid (sRay W H (k : Int) = (x2, d2)) := hs
      have hd2 := sRay_dir _ _ _ _ _ hs
      have hdA := hd2.1
      have hdB := hd2.2
      clear hs
      go_wp2_with fail
      refine (l3Ray_any W H a n cap _ hW hH5 HL.out (k : Int) (by omega) x2 d2 HS.out).mono ?_
      rintro e w2 ⟨rfl, hb2⟩
      have hz2 := hb2.size
      have hB2 := bcall hB1 hB1.size hb2
      have hB3 : Below w0.heap.size w0 (w2.alloc (.cells #[.int .i64 x2, .int .i64 d2] 29)) := hB2.alloc hB2.size _
      clear hb2
      by_cases e1 : x2 = x
      · subst e1
        have b1 : (x2 == x2) = true := by simp
        by_cases e2 : (d2 + 2) % 4 = d
        · have HV : Hid (ofN W H x2 d M = (k : Int)) := ofN_hit W H x2 d k HNO.out x2 d2 HS.out rfl e2 M hlt
          have b2 : ((d2 + 2) % 4 == d) = true := by simp [e2]
          clear e2
          go_wp2_with fail
          refine (l2Back_any d2 hdA hdB _).mono ?_
          rintro e w' ⟨rfl, rfl⟩
          go_wp2
          go_ret
          exact ⟨by rw [HV.out]; rfl, bcall hb0 hb0.size hB3⟩
        · have hv := ofN_miss W H x2 d k HNO.out x2 d2 HS.out (fun q => e2 q.2)
          have b2 : ((d2 + 2) % 4 == d) = false := by simp [e2]
          clear e2
          go_wp2_with fail
          refine (l2Back_any d2 hdA hdB _).mono ?_
          rintro e w' ⟨rfl, rfl⟩
          go_wp2
          go_roundw
          case rel => exact ⟨k + 1, by omega, by go_num, hv, hB3⟩
          case measure => simp [intOf]; omega
      · have hv := ofN_miss W H x d k HNO.out x2 d2 HS.out (fun q => e1 q.1)
        have b1 : (x2 == x) = false := by simp [e1]
        clear e1
        go_wp2
        go_roundw
        case rel => exact ⟨k + 1, by omega, by go_num, hv, hB3⟩
        case measure => simp [intOf]; omega
    · obtain rfl : k = M := by omega
      go_wp2
      go_ret
      exact ⟨by rw [HNO.out]; rfl, bcall hb0 hb0.size hB1⟩
end Go.Proofs.Ytankkkiccokggaa
