/-
  'laws.FnSightBack' returns true for all codes: where light comes in it leaves, going back. No condition.
-/
import Derived.Test.YtankkkiccokggaaFb
import Derived.Test.YtankkkiccokggaaVp
import Derived.Test.YtankkkiccokggaaVn
namespace Go.Proofs.Ytankkkiccokggaa.LwSightBack
open Go.ChangeShapes Go.WideShapes Go.ChangeAt Go.RowKit
set_option linter.unusedVariables false
attribute [local go_sem ↓] Go.wp_at_zero Go.wp_at_succ

/-- Too long a code. -/
theorem big (a : Option Addr) (n cap : Nat) (f : Nat → Int) (w : World) (h : BytesAt w a n f) (hm : n ≤ cap ∧ cap ≤ 9223372036854775807) (hbig : 1048576 < n) :
    Calls Try.prog 3 #[.slice a n cap] w fun e w' => e = .returned (.bool true) ∧ Below w.heap.size w w' := by
  have hb : (1048576 : Int) < (n : Int) := by omega
  go_enter Try.func3, Try.ntmps3
  go_wp2
  go_ret
  exact ⟨rfl, Below.refl _ _⟩

set_option maxRecDepth 100000 in
set_option maxHeartbeats 8000000 in
theorem small (a : Option Addr) (n cap : Nat) (f : Nat → Int) (w : World) (h : BytesAt w a n f) (hm : n ≤ cap ∧ cap ≤ 9223372036854775807) (hsm : n ≤ 1048576) :
    Calls Try.prog 3 #[.slice a n cap] w fun e w' => e = .returned (.bool true) ∧ Below w.heap.size w w' := by
  have hb : (n : Int) ≤ 1048576 := by omega
  go_enter Try.func3, Try.ntmps3
  go_wp2_with fail
  refine (drawSightRay_any a n cap f w h hsm hm.1 hm.2).mono ?_
  rintro e w1 ⟨wd, a1, c1, cs, k, rfl, hC1, hl1, hk1, hb_w1⟩
  have hz_w1 := hb_w1.size
  try simp at hz_w1
  have hbS1 : Below w1.heap.size w1 (w1.alloc (.cells #[.int .i64 wd, .slice a1 cs.length c1] 25)) := (by repeat (first | exact Below.refl _ _ | refine Below.alloc ?_ (by first | exact Nat.le_refl _ | (simp; done) | (simp; omega)) _ | refine Below.drew ?_ | refine Below.setCell ?_ (by first | exact Nat.le_refl _ | (simp; done) | (simp; omega)) _))
  replace hC1 := hC1.below hbS1
  have g0 : (w1.alloc (.cells #[.int .i64 wd, .slice a1 cs.length c1] 25)).cell? ⟨w1.heap.size, 0, none⟩ = some (.int .i64 wd) := by simp [go_sem]
  have g1 : (w1.alloc (.cells #[.int .i64 wd, .slice a1 cs.length c1] 25)).cell? ⟨w1.heap.size, 1, none⟩ = some (.slice a1 cs.length c1) := by simp [go_sem]
  have hBs1 := bcall hb_w1 (by omega) hbS1
  clear hb_w1
  clear hbS1
  obtain ⟨x, d, b, ev⟩ : ∃ x d b, inRay wd cs k = (x, d, b) := ⟨_, _, _, rfl⟩
  have EV : Hid (inRay wd cs k = (x, d, b)) := ev
  clear ev
  go_wp2_with fail
  refine (specRay_any wd a1 c1 cs _ hC1 (by omega) k _ _ _ EV.out).mono ?_
  rintro e w2 ⟨rfl, hb_w2⟩
  have hz_w2 := hb_w2.size
  try simp at hz_w2
  replace g0 := keepc hb_w2 g0; replace g1 := keepc hb_w2 g1
  replace hC1 := hC1.below hb_w2
  have hB_w2 := bcall hBs1 (by first | omega | (simp; omega)) hb_w2
  clear hBs1 hb_w2
  have hbS2 : Below w2.heap.size w2 (w2.alloc (.cells #[.int .i64 x, .int .i64 d] 29)) := (by repeat (first | exact Below.refl _ _ | refine Below.alloc ?_ (by first | exact Nat.le_refl _ | (simp; done) | (simp; omega)) _ | refine Below.drew ?_ | refine Below.setCell ?_ (by first | exact Nat.le_refl _ | (simp; done) | (simp; omega)) _))
  replace g0 := keepc hbS2 g0; replace g1 := keepc hbS2 g1
  replace hC1 := hC1.below hbS2
  have y0 : (w2.alloc (.cells #[.int .i64 x, .int .i64 d] 29)).cell? ⟨w2.heap.size, 0, none⟩ = some (.int .i64 x) := by simp [go_sem]
  have y1 : (w2.alloc (.cells #[.int .i64 x, .int .i64 d] 29)).cell? ⟨w2.heap.size, 1, none⟩ = some (.int .i64 d) := by simp [go_sem]
  have hBs2 := bcall hB_w2 (by omega) hbS2
  clear hB_w2
  clear hbS2
  go_wp2_with fail
  refine (implRay_any wd a1 c1 cs _ hC1 (by omega) k _ _ _ EV.out).mono ?_
  rintro e w3 ⟨rfl, hb_w3⟩
  have hz_w3 := hb_w3.size
  try simp at hz_w3
  replace g0 := keepc hb_w3 g0; replace g1 := keepc hb_w3 g1; replace y0 := keepc hb_w3 y0; replace y1 := keepc hb_w3 y1
  replace hC1 := hC1.below hb_w3
  have hB_w3 := bcall hBs2 (by first | omega | (simp; omega)) hb_w3
  clear hBs2 hb_w3
  have hbS3 : Below w3.heap.size w3 (w3.alloc (.cells #[.int .i64 x, .int .i64 d] 29)) := (by repeat (first | exact Below.refl _ _ | refine Below.alloc ?_ (by first | exact Nat.le_refl _ | (simp; done) | (simp; omega)) _ | refine Below.drew ?_ | refine Below.setCell ?_ (by first | exact Nat.le_refl _ | (simp; done) | (simp; omega)) _))
  replace g0 := keepc hbS3 g0; replace g1 := keepc hbS3 g1; replace y0 := keepc hbS3 y0; replace y1 := keepc hbS3 y1
  replace hC1 := hC1.below hbS3
  have z0 : (w3.alloc (.cells #[.int .i64 x, .int .i64 d] 29)).cell? ⟨w3.heap.size, 0, none⟩ = some (.int .i64 x) := by simp [go_sem]
  have z1 : (w3.alloc (.cells #[.int .i64 x, .int .i64 d] 29)).cell? ⟨w3.heap.size, 1, none⟩ = some (.int .i64 d) := by simp [go_sem]
  have hBs3 := bcall hB_w3 (by omega) hbS3
  clear hB_w3
  clear hbS3
  have q1 := eqlRayS x d x d true (by simp)
  have q2 := neqRayS x d x d false (by simp)
  cases b
  · go_wp2
    go_ret
    exact ⟨rfl, hBs3⟩
  · obtain ⟨hd, k2, k3, k4⟩ := back_fact EV.out
    obtain ⟨M, hM⟩ : ∃ M, manyG wd cs = M := ⟨_, rfl⟩
    rw [hM] at k4
    have EM : Hid (manyG wd cs = M) := hM
    clear hM
    rcases (show d = 0 ∨ d = 1 ∨ d = 2 ∨ d = 3 by omega) with rfl | rfl | rfl | rfl
    · have KR : Hid (rayN wd cs x 2 = (0, 0, false)) := k2
      have KO : Hid (outOf wd cs x 2 = k) := k3
      clear k2 k3 hd
      go_wp2_with fail
      refine (rayI KR.out a1 c1 _ hC1 (by omega)).mono ?_
      rintro e w4 ⟨rfl, hb_w4⟩
      have hz_w4 := hb_w4.size
      try simp at hz_w4
      replace g0 := keepc hb_w4 g0; replace g1 := keepc hb_w4 g1; replace y0 := keepc hb_w4 y0; replace y1 := keepc hb_w4 y1; replace z0 := keepc hb_w4 z0; replace z1 := keepc hb_w4 z1
      replace hC1 := hC1.below hb_w4
      have hB_w4 := bcall hBs3 (by first | omega | (simp; omega)) hb_w4
      clear hBs3 hb_w4
      have hbS4 : Below w4.heap.size w4 (w4.alloc (.cells #[.int .i64 0, .int .i64 0] 29)) := (by repeat (first | exact Below.refl _ _ | refine Below.alloc ?_ (by first | exact Nat.le_refl _ | (simp; done) | (simp; omega)) _ | refine Below.drew ?_ | refine Below.setCell ?_ (by first | exact Nat.le_refl _ | (simp; done) | (simp; omega)) _))
      replace g0 := keepc hbS4 g0; replace g1 := keepc hbS4 g1; replace y0 := keepc hbS4 y0; replace y1 := keepc hbS4 y1; replace z0 := keepc hbS4 z0; replace z1 := keepc hbS4 z1
      replace hC1 := hC1.below hbS4
      have u0 : (w4.alloc (.cells #[.int .i64 0, .int .i64 0] 29)).cell? ⟨w4.heap.size, 0, none⟩ = some (.int .i64 0) := by simp [go_sem]
      have u1 : (w4.alloc (.cells #[.int .i64 0, .int .i64 0] 29)).cell? ⟨w4.heap.size, 1, none⟩ = some (.int .i64 0) := by simp [go_sem]
      have hBs4 := bcall hB_w4 (by omega) hbS4
      clear hB_w4
      clear hbS4
      go_wp2_with fail
      refine (implOf_any wd a1 c1 cs _ hC1 (by omega) x 2).mono ?_
      rintro e w5 ⟨rfl, hb_w5⟩
      rw [KO.out]
      have hz_w5 := hb_w5.size
      try simp at hz_w5
      replace g0 := keepc hb_w5 g0; replace g1 := keepc hb_w5 g1; replace y0 := keepc hb_w5 y0; replace y1 := keepc hb_w5 y1; replace z0 := keepc hb_w5 z0; replace z1 := keepc hb_w5 z1; replace u0 := keepc hb_w5 u0; replace u1 := keepc hb_w5 u1
      replace hC1 := hC1.below hb_w5
      have hB_w5 := bcall hBs4 (by first | omega | (simp; omega)) hb_w5
      clear hBs4 hb_w5
      have bk : (k == k) = true := by simp
      go_wp2_with fail
      refine (implMany_any wd a1 c1 cs _ hC1 (by omega)).mono ?_
      rintro e w6 ⟨rfl, hb_w6⟩
      rw [EM.out]
      have hz_w6 := hb_w6.size
      try simp at hz_w6
      replace g0 := keepc hb_w6 g0; replace g1 := keepc hb_w6 g1; replace y0 := keepc hb_w6 y0; replace y1 := keepc hb_w6 y1; replace z0 := keepc hb_w6 z0; replace z1 := keepc hb_w6 z1; replace u0 := keepc hb_w6 u0; replace u1 := keepc hb_w6 u1
      replace hC1 := hC1.below hb_w6
      have hB_w6 := bcall hB_w5 (by first | omega | (simp; omega)) hb_w6
      clear hB_w5 hb_w6
      go_wp2
      go_ret
      exact ⟨rfl, hB_w6⟩
    · have KR : Hid (rayN wd cs x 3 = (0, 0, false)) := k2
      have KO : Hid (outOf wd cs x 3 = k) := k3
      clear k2 k3 hd
      go_wp2_with fail
      refine (rayI KR.out a1 c1 _ hC1 (by omega)).mono ?_
      rintro e w4 ⟨rfl, hb_w4⟩
      have hz_w4 := hb_w4.size
      try simp at hz_w4
      replace g0 := keepc hb_w4 g0; replace g1 := keepc hb_w4 g1; replace y0 := keepc hb_w4 y0; replace y1 := keepc hb_w4 y1; replace z0 := keepc hb_w4 z0; replace z1 := keepc hb_w4 z1
      replace hC1 := hC1.below hb_w4
      have hB_w4 := bcall hBs3 (by first | omega | (simp; omega)) hb_w4
      clear hBs3 hb_w4
      have hbS4 : Below w4.heap.size w4 (w4.alloc (.cells #[.int .i64 0, .int .i64 0] 29)) := (by repeat (first | exact Below.refl _ _ | refine Below.alloc ?_ (by first | exact Nat.le_refl _ | (simp; done) | (simp; omega)) _ | refine Below.drew ?_ | refine Below.setCell ?_ (by first | exact Nat.le_refl _ | (simp; done) | (simp; omega)) _))
      replace g0 := keepc hbS4 g0; replace g1 := keepc hbS4 g1; replace y0 := keepc hbS4 y0; replace y1 := keepc hbS4 y1; replace z0 := keepc hbS4 z0; replace z1 := keepc hbS4 z1
      replace hC1 := hC1.below hbS4
      have u0 : (w4.alloc (.cells #[.int .i64 0, .int .i64 0] 29)).cell? ⟨w4.heap.size, 0, none⟩ = some (.int .i64 0) := by simp [go_sem]
      have u1 : (w4.alloc (.cells #[.int .i64 0, .int .i64 0] 29)).cell? ⟨w4.heap.size, 1, none⟩ = some (.int .i64 0) := by simp [go_sem]
      have hBs4 := bcall hB_w4 (by omega) hbS4
      clear hB_w4
      clear hbS4
      go_wp2_with fail
      refine (implOf_any wd a1 c1 cs _ hC1 (by omega) x 3).mono ?_
      rintro e w5 ⟨rfl, hb_w5⟩
      rw [KO.out]
      have hz_w5 := hb_w5.size
      try simp at hz_w5
      replace g0 := keepc hb_w5 g0; replace g1 := keepc hb_w5 g1; replace y0 := keepc hb_w5 y0; replace y1 := keepc hb_w5 y1; replace z0 := keepc hb_w5 z0; replace z1 := keepc hb_w5 z1; replace u0 := keepc hb_w5 u0; replace u1 := keepc hb_w5 u1
      replace hC1 := hC1.below hb_w5
      have hB_w5 := bcall hBs4 (by first | omega | (simp; omega)) hb_w5
      clear hBs4 hb_w5
      have bk : (k == k) = true := by simp
      go_wp2_with fail
      refine (implMany_any wd a1 c1 cs _ hC1 (by omega)).mono ?_
      rintro e w6 ⟨rfl, hb_w6⟩
      rw [EM.out]
      have hz_w6 := hb_w6.size
      try simp at hz_w6
      replace g0 := keepc hb_w6 g0; replace g1 := keepc hb_w6 g1; replace y0 := keepc hb_w6 y0; replace y1 := keepc hb_w6 y1; replace z0 := keepc hb_w6 z0; replace z1 := keepc hb_w6 z1; replace u0 := keepc hb_w6 u0; replace u1 := keepc hb_w6 u1
      replace hC1 := hC1.below hb_w6
      have hB_w6 := bcall hB_w5 (by first | omega | (simp; omega)) hb_w6
      clear hB_w5 hb_w6
      go_wp2
      go_ret
      exact ⟨rfl, hB_w6⟩
    · have KR : Hid (rayN wd cs x 0 = (0, 0, false)) := k2
      have KO : Hid (outOf wd cs x 0 = k) := k3
      clear k2 k3 hd
      go_wp2_with fail
      refine (rayI KR.out a1 c1 _ hC1 (by omega)).mono ?_
      rintro e w4 ⟨rfl, hb_w4⟩
      have hz_w4 := hb_w4.size
      try simp at hz_w4
      replace g0 := keepc hb_w4 g0; replace g1 := keepc hb_w4 g1; replace y0 := keepc hb_w4 y0; replace y1 := keepc hb_w4 y1; replace z0 := keepc hb_w4 z0; replace z1 := keepc hb_w4 z1
      replace hC1 := hC1.below hb_w4
      have hB_w4 := bcall hBs3 (by first | omega | (simp; omega)) hb_w4
      clear hBs3 hb_w4
      have hbS4 : Below w4.heap.size w4 (w4.alloc (.cells #[.int .i64 0, .int .i64 0] 29)) := (by repeat (first | exact Below.refl _ _ | refine Below.alloc ?_ (by first | exact Nat.le_refl _ | (simp; done) | (simp; omega)) _ | refine Below.drew ?_ | refine Below.setCell ?_ (by first | exact Nat.le_refl _ | (simp; done) | (simp; omega)) _))
      replace g0 := keepc hbS4 g0; replace g1 := keepc hbS4 g1; replace y0 := keepc hbS4 y0; replace y1 := keepc hbS4 y1; replace z0 := keepc hbS4 z0; replace z1 := keepc hbS4 z1
      replace hC1 := hC1.below hbS4
      have u0 : (w4.alloc (.cells #[.int .i64 0, .int .i64 0] 29)).cell? ⟨w4.heap.size, 0, none⟩ = some (.int .i64 0) := by simp [go_sem]
      have u1 : (w4.alloc (.cells #[.int .i64 0, .int .i64 0] 29)).cell? ⟨w4.heap.size, 1, none⟩ = some (.int .i64 0) := by simp [go_sem]
      have hBs4 := bcall hB_w4 (by omega) hbS4
      clear hB_w4
      clear hbS4
      go_wp2_with fail
      refine (implOf_any wd a1 c1 cs _ hC1 (by omega) x 0).mono ?_
      rintro e w5 ⟨rfl, hb_w5⟩
      rw [KO.out]
      have hz_w5 := hb_w5.size
      try simp at hz_w5
      replace g0 := keepc hb_w5 g0; replace g1 := keepc hb_w5 g1; replace y0 := keepc hb_w5 y0; replace y1 := keepc hb_w5 y1; replace z0 := keepc hb_w5 z0; replace z1 := keepc hb_w5 z1; replace u0 := keepc hb_w5 u0; replace u1 := keepc hb_w5 u1
      replace hC1 := hC1.below hb_w5
      have hB_w5 := bcall hBs4 (by first | omega | (simp; omega)) hb_w5
      clear hBs4 hb_w5
      have bk : (k == k) = true := by simp
      go_wp2_with fail
      refine (implMany_any wd a1 c1 cs _ hC1 (by omega)).mono ?_
      rintro e w6 ⟨rfl, hb_w6⟩
      rw [EM.out]
      have hz_w6 := hb_w6.size
      try simp at hz_w6
      replace g0 := keepc hb_w6 g0; replace g1 := keepc hb_w6 g1; replace y0 := keepc hb_w6 y0; replace y1 := keepc hb_w6 y1; replace z0 := keepc hb_w6 z0; replace z1 := keepc hb_w6 z1; replace u0 := keepc hb_w6 u0; replace u1 := keepc hb_w6 u1
      replace hC1 := hC1.below hb_w6
      have hB_w6 := bcall hB_w5 (by first | omega | (simp; omega)) hb_w6
      clear hB_w5 hb_w6
      go_wp2
      go_ret
      exact ⟨rfl, hB_w6⟩
    · have KR : Hid (rayN wd cs x 1 = (0, 0, false)) := k2
      have KO : Hid (outOf wd cs x 1 = k) := k3
      clear k2 k3 hd
      go_wp2_with fail
      refine (rayI KR.out a1 c1 _ hC1 (by omega)).mono ?_
      rintro e w4 ⟨rfl, hb_w4⟩
      have hz_w4 := hb_w4.size
      try simp at hz_w4
      replace g0 := keepc hb_w4 g0; replace g1 := keepc hb_w4 g1; replace y0 := keepc hb_w4 y0; replace y1 := keepc hb_w4 y1; replace z0 := keepc hb_w4 z0; replace z1 := keepc hb_w4 z1
      replace hC1 := hC1.below hb_w4
      have hB_w4 := bcall hBs3 (by first | omega | (simp; omega)) hb_w4
      clear hBs3 hb_w4
      have hbS4 : Below w4.heap.size w4 (w4.alloc (.cells #[.int .i64 0, .int .i64 0] 29)) := (by repeat (first | exact Below.refl _ _ | refine Below.alloc ?_ (by first | exact Nat.le_refl _ | (simp; done) | (simp; omega)) _ | refine Below.drew ?_ | refine Below.setCell ?_ (by first | exact Nat.le_refl _ | (simp; done) | (simp; omega)) _))
      replace g0 := keepc hbS4 g0; replace g1 := keepc hbS4 g1; replace y0 := keepc hbS4 y0; replace y1 := keepc hbS4 y1; replace z0 := keepc hbS4 z0; replace z1 := keepc hbS4 z1
      replace hC1 := hC1.below hbS4
      have u0 : (w4.alloc (.cells #[.int .i64 0, .int .i64 0] 29)).cell? ⟨w4.heap.size, 0, none⟩ = some (.int .i64 0) := by simp [go_sem]
      have u1 : (w4.alloc (.cells #[.int .i64 0, .int .i64 0] 29)).cell? ⟨w4.heap.size, 1, none⟩ = some (.int .i64 0) := by simp [go_sem]
      have hBs4 := bcall hB_w4 (by omega) hbS4
      clear hB_w4
      clear hbS4
      go_wp2_with fail
      refine (implOf_any wd a1 c1 cs _ hC1 (by omega) x 1).mono ?_
      rintro e w5 ⟨rfl, hb_w5⟩
      rw [KO.out]
      have hz_w5 := hb_w5.size
      try simp at hz_w5
      replace g0 := keepc hb_w5 g0; replace g1 := keepc hb_w5 g1; replace y0 := keepc hb_w5 y0; replace y1 := keepc hb_w5 y1; replace z0 := keepc hb_w5 z0; replace z1 := keepc hb_w5 z1; replace u0 := keepc hb_w5 u0; replace u1 := keepc hb_w5 u1
      replace hC1 := hC1.below hb_w5
      have hB_w5 := bcall hBs4 (by first | omega | (simp; omega)) hb_w5
      clear hBs4 hb_w5
      have bk : (k == k) = true := by simp
      go_wp2_with fail
      refine (implMany_any wd a1 c1 cs _ hC1 (by omega)).mono ?_
      rintro e w6 ⟨rfl, hb_w6⟩
      rw [EM.out]
      have hz_w6 := hb_w6.size
      try simp at hz_w6
      replace g0 := keepc hb_w6 g0; replace g1 := keepc hb_w6 g1; replace y0 := keepc hb_w6 y0; replace y1 := keepc hb_w6 y1; replace z0 := keepc hb_w6 z0; replace z1 := keepc hb_w6 z1; replace u0 := keepc hb_w6 u0; replace u1 := keepc hb_w6 u1
      replace hC1 := hC1.below hb_w6
      have hB_w6 := bcall hB_w5 (by first | omega | (simp; omega)) hb_w6
      clear hB_w5 hb_w6
      go_wp2
      go_ret
      exact ⟨rfl, hB_w6⟩

theorem walk (a : Option Addr) (n cap : Nat) (f : Nat → Int) (w : World) (h : BytesAt w a n f) (hm : n ≤ cap ∧ cap ≤ 9223372036854775807) :
    Calls Try.prog 3 #[.slice a n cap] w fun e w' => e = .returned (.bool true) ∧ Below w.heap.size w w' := by
  by_cases hs : n ≤ 1048576
  · exact small a n cap f w h hm hs
  · exact big a n cap f w h hm (by omega)

set_option maxRecDepth 100000 in
theorem lifted (os : Os) (started : os.Started) (H : Type) (enc : TypeId × Value → H) :
    ReturnsInHanded {} Try.checked os 3 .any (Rows.fnSightBackSpec.pre6 enc Try.prog Try.f3 Rows.fnSightBackRow.domain false) (Rows.fnSightBackSpec.post enc Try.prog Try.f3 false true false false) := by
  refine returnsInHanded_of_change (C := Try.checked) own started (by kernel_rfl) Try.func3
    (ChangeSpec.witness6 (enc := enc) (C := Try.checked) false ⟨#[], #[.slice none 0 0], []⟩ 8 (by kernel_rfl) (by kernel_rfl) (by kernel_rfl) (by kernel_rfl)) ?_
  intro W base args ds gs before hval0 hW hcnd _
  have hval : ∀ (j : Nat) t v, Try.f3.params[j]? = some t → args[j]? = some v → Value.okWide Try.prog W .any base t v := hval0
  have hW' := hW
  obtain ⟨p, q, hA0, hV, rfl, hfz, hnd⟩ := hW
  have hA : DataW.TrodAll enc Try.prog W 0 (fun _ => true) true Try.f3.params.toList args.toList ds p := hA0
  rw [Try.params3] at hA hval
  obtain ⟨v0, vs0, d0, ds0, p0, q0, hargs, rfl, rfl, h0, r0⟩ := trodAll_cons hA
  obtain ⟨rfl, rfl, rfl⟩ := trodAll_nil r0
  obtain rfl : args = #[v0] := by cases args; simp_all
  obtain ⟨rfl, rfl⟩ := trodVars_none hV
  have k0 := h0
  have lt0 : ∀ x ∈ p0, x.block < W.heap.size := by obtain ⟨m, hm⟩ := k0; exact DataW.trod_lt m _ _ _ hm
  obtain ⟨a0, n0, cap0, f0, rfl, hC0, hm0⟩ := open_bytes (hval 0 22 v0 rfl rfl) h0
  clear hA0 hval0
  refine (walk a0 n0 cap0 f0 W hC0 hm0).mono fun e W' ⟨he, bel⟩ => ?_
  subst he
  exact ⟨_, rfl, _, _, _, [], _, [], hW', trodAll_mk1 (shut_bool Try.underlying4 _), (trodAll_cons_mk (Below.trod laidOut (by kernel_rfl) (of_decide_eq_true (by kernel_rfl)) k0 bel lt0) trodAll_mk0), rfl, bel.frame _, fun h => by cases h⟩

theorem over : Rows.fnSightBackRow.holds Try.pinned (OpenSpec.ofChange Rows.fnSightBackSpec) :=
  OpenClaim.holds_of_wide 3 Try.f3 rfl rfl rfl rfl rfl rfl rfl ⟨rfl, rfl, rfl, rfl, rfl⟩ rfl rfl rfl rfl rfl (by kernel_rfl) Try.func3 (by kernel_rfl)
    (of_decide_eq_true (by kernel_rfl)) (by unfold Func.isWrapper; first | (rw [if_pos (by decide +kernel)]; kernel_rfl) | (rw [if_neg (by decide +kernel)]; exact ⟨rfl, rfl⟩))
    (fun os started H enc _ => lifted os started H enc)

end Go.Proofs.Ytankkkiccokggaa.LwSightBack

namespace Go.Proofs.Ytankkkiccokggaa
/-- The statement. -/
theorem lwSightBack : Rows.FnSightBackSaid := LwSightBack.over
#print axioms lwSightBack
end Go.Proofs.Ytankkkiccokggaa
