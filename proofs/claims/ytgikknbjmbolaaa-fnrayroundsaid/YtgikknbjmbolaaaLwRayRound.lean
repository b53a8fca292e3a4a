/-
  'laws.FnRayRound' returns true for all codes: round about one comes back. No condition.
-/
import Derived.Test.YtgikknbjmbolaaaFb
import Derived.Test.YtgikknbjmbolaaaYy
import Derived.Test.YtgikknbjmbolaaaYx
namespace Go.Proofs.Ytgikknbjmbolaaa.LwRayRound
open Go.ChangeShapes Go.WideShapes Go.ChangeAt Go.RowKit
set_option linter.unusedVariables false
attribute [local go_sem ↓] Go.wp_at_zero Go.wp_at_succ

/-- Too long a code. -/
theorem big (a : Option Addr) (n cap : Nat) (f : Nat → Int) (w : World) (h : BytesAt w a n f) (hm : n ≤ cap ∧ cap ≤ 9223372036854775807) (hbig : 1048576 < n) :
    Calls Try.prog 6 #[.slice a n cap] w fun e w' => e = .returned (.bool true) ∧ Below w.heap.size w w' := by
  have hb : (1048576 : Int) < (n : Int) := by omega
  go_enter Try.func6, Try.ntmps6
  go_wp2
  go_ret
  exact ⟨rfl, Below.refl _ _⟩

set_option maxRecDepth 100000 in
set_option maxHeartbeats 4000000 in
theorem small (a : Option Addr) (n cap : Nat) (f : Nat → Int) (w : World) (h : BytesAt w a n f) (hm : n ≤ cap ∧ cap ≤ 9223372036854775807) (hsm : n ≤ 1048576) :
    Calls Try.prog 6 #[.slice a n cap] w fun e w' => e = .returned (.bool true) ∧ Below w.heap.size w w' := by
  have hb : (n : Int) ≤ 1048576 := by omega
  go_enter Try.func6, Try.ntmps6
  go_wp2_with fail
  refine (drawRayNext_any a n cap f w h hsm hm.1 hm.2).mono ?_
  rintro e w1 ⟨wd, a1, c1, cs, x, d, rfl, hC1, hl1, hx1, hd1, hb_w1⟩
  have hz_w1 := hb_w1.size
  try simp at hz_w1
  have hbS1 : Below w1.heap.size w1 (w1.alloc (.cells #[.int .i64 wd, .slice a1 cs.length c1] 29)) := (by repeat (first | exact Below.refl _ _ | refine Below.alloc ?_ (by first | exact Nat.le_refl _ | (simp; done) | (simp; omega)) _ | refine Below.drew ?_ | refine Below.setCell ?_ (by first | exact Nat.le_refl _ | (simp; done) | (simp; omega)) _))
  replace hC1 := hC1.below hbS1
  have g0 : (w1.alloc (.cells #[.int .i64 wd, .slice a1 cs.length c1] 29)).cell? ⟨w1.heap.size, 0, none⟩ = some (.int .i64 wd) := by simp [go_sem]
  have g1 : (w1.alloc (.cells #[.int .i64 wd, .slice a1 cs.length c1] 29)).cell? ⟨w1.heap.size, 1, none⟩ = some (.slice a1 cs.length c1) := by simp [go_sem]
  have hBs1 := bcall hb_w1 (by omega) hbS1
  clear hb_w1
  clear hbS1
  obtain ⟨x2, d2, b2, ev⟩ : ∃ x2 d2 b2, rayN wd cs x d = (x2, d2, b2) := ⟨_, _, _, rfl⟩
  have EV : Hid (rayN wd cs x d = (x2, d2, b2)) := ev
  clear ev
  go_wp2_with fail
  refine (ray_spec EV.out a1 c1 _ hC1 (by omega)).mono ?_
  rintro e w2 ⟨rfl, hb_w2⟩
  have hz_w2 := hb_w2.size
  try simp at hz_w2
  replace g0 := keepc hb_w2 g0; replace g1 := keepc hb_w2 g1
  replace hC1 := hC1.below hb_w2
  have hB_w2 := bcall hBs1 (by first | omega | (simp; omega)) hb_w2
  clear hBs1 hb_w2
  have hbS2 : Below w2.heap.size w2 (w2.alloc (.cells #[.int .i64 x2, .int .i64 d2] 33)) := (by repeat (first | exact Below.refl _ _ | refine Below.alloc ?_ (by first | exact Nat.le_refl _ | (simp; done) | (simp; omega)) _ | refine Below.drew ?_ | refine Below.setCell ?_ (by first | exact Nat.le_refl _ | (simp; done) | (simp; omega)) _))
  replace g0 := keepc hbS2 g0; replace g1 := keepc hbS2 g1
  replace hC1 := hC1.below hbS2
  have y0 : (w2.alloc (.cells #[.int .i64 x2, .int .i64 d2] 33)).cell? ⟨w2.heap.size, 0, none⟩ = some (.int .i64 x2) := by simp [go_sem]
  have y1 : (w2.alloc (.cells #[.int .i64 x2, .int .i64 d2] 33)).cell? ⟨w2.heap.size, 1, none⟩ = some (.int .i64 d2) := by simp [go_sem]
  have hBs2 := bcall hB_w2 (by omega) hbS2
  clear hB_w2
  clear hbS2
  go_wp2_with fail
  refine (ray_impl EV.out a1 c1 _ hC1 (by omega)).mono ?_
  rintro e w3 ⟨rfl, hb_w3⟩
  have hz_w3 := hb_w3.size
  try simp at hz_w3
  replace g0 := keepc hb_w3 g0; replace g1 := keepc hb_w3 g1; replace y0 := keepc hb_w3 y0; replace y1 := keepc hb_w3 y1
  replace hC1 := hC1.below hb_w3
  have hB_w3 := bcall hBs2 (by first | omega | (simp; omega)) hb_w3
  clear hBs2 hb_w3
  have hbS3 : Below w3.heap.size w3 (w3.alloc (.cells #[.int .i64 x2, .int .i64 d2] 33)) := (by repeat (first | exact Below.refl _ _ | refine Below.alloc ?_ (by first | exact Nat.le_refl _ | (simp; done) | (simp; omega)) _ | refine Below.drew ?_ | refine Below.setCell ?_ (by first | exact Nat.le_refl _ | (simp; done) | (simp; omega)) _))
  replace g0 := keepc hbS3 g0; replace g1 := keepc hbS3 g1; replace y0 := keepc hbS3 y0; replace y1 := keepc hbS3 y1
  replace hC1 := hC1.below hbS3
  have z0 : (w3.alloc (.cells #[.int .i64 x2, .int .i64 d2] 33)).cell? ⟨w3.heap.size, 0, none⟩ = some (.int .i64 x2) := by simp [go_sem]
  have z1 : (w3.alloc (.cells #[.int .i64 x2, .int .i64 d2] 33)).cell? ⟨w3.heap.size, 1, none⟩ = some (.int .i64 d2) := by simp [go_sem]
  have hBs3 := bcall hB_w3 (by omega) hbS3
  clear hB_w3
  clear hbS3
  have q1 := eqlRay x2 d2
  have q2 := neqRay x2 d2
  cases b2
  · go_wp2
    go_ret
    exact ⟨rfl, hBs3⟩
  · have k1 := (rayN_true EV.out).2.2.1
    have k2 := ray_round EV.out
    clear hd1
    rcases (show d = 0 ∨ d = 1 ∨ d = 2 ∨ d = 3 by omega) with rfl | rfl | rfl | rfl
    · rcases k2 with ⟨⟨y, e1, v1⟩, y2, e2, v2⟩ | ⟨y, z, v1, v2, v3⟩
      · have V1 : Hid (rayN wd cs x2 1 = (y, e1, false)) := v1
        have V2 : Hid (rayN wd cs x 1 = (y2, e2, false)) := v2
        clear v1 v2 k1
        go_wp2_with fail
        refine (ray_impl V1.out a1 c1 _ hC1 (by omega)).mono ?_
        rintro e w4 ⟨rfl, hb_w4⟩
        have hz_w4 := hb_w4.size
        try simp at hz_w4
        replace g0 := keepc hb_w4 g0; replace g1 := keepc hb_w4 g1; replace y0 := keepc hb_w4 y0; replace y1 := keepc hb_w4 y1; replace z0 := keepc hb_w4 z0; replace z1 := keepc hb_w4 z1
        replace hC1 := hC1.below hb_w4
        have hB_w4 := bcall hBs3 (by first | omega | (simp; omega)) hb_w4
        clear hBs3 hb_w4
        have hbS4 : Below w4.heap.size w4 (w4.alloc (.cells #[.int .i64 y, .int .i64 e1] 33)) := (by repeat (first | exact Below.refl _ _ | refine Below.alloc ?_ (by first | exact Nat.le_refl _ | (simp; done) | (simp; omega)) _ | refine Below.drew ?_ | refine Below.setCell ?_ (by first | exact Nat.le_refl _ | (simp; done) | (simp; omega)) _))
        replace g0 := keepc hbS4 g0; replace g1 := keepc hbS4 g1; replace y0 := keepc hbS4 y0; replace y1 := keepc hbS4 y1; replace z0 := keepc hbS4 z0; replace z1 := keepc hbS4 z1
        replace hC1 := hC1.below hbS4
        have u0 : (w4.alloc (.cells #[.int .i64 y, .int .i64 e1] 33)).cell? ⟨w4.heap.size, 0, none⟩ = some (.int .i64 y) := by simp [go_sem]
        have u1 : (w4.alloc (.cells #[.int .i64 y, .int .i64 e1] 33)).cell? ⟨w4.heap.size, 1, none⟩ = some (.int .i64 e1) := by simp [go_sem]
        have hBs4 := bcall hB_w4 (by omega) hbS4
        clear hB_w4
        clear hbS4
        go_wp2_with fail
        refine (ray_impl V2.out a1 c1 _ hC1 (by omega)).mono ?_
        rintro e w5 ⟨rfl, hb_w5⟩
        have hz_w5 := hb_w5.size
        try simp at hz_w5
        replace g0 := keepc hb_w5 g0; replace g1 := keepc hb_w5 g1; replace y0 := keepc hb_w5 y0; replace y1 := keepc hb_w5 y1; replace z0 := keepc hb_w5 z0; replace z1 := keepc hb_w5 z1; replace u0 := keepc hb_w5 u0; replace u1 := keepc hb_w5 u1
        replace hC1 := hC1.below hb_w5
        have hB_w5 := bcall hBs4 (by first | omega | (simp; omega)) hb_w5
        clear hBs4 hb_w5
        have hbS5 : Below w5.heap.size w5 (w5.alloc (.cells #[.int .i64 y2, .int .i64 e2] 33)) := (by repeat (first | exact Below.refl _ _ | refine Below.alloc ?_ (by first | exact Nat.le_refl _ | (simp; done) | (simp; omega)) _ | refine Below.drew ?_ | refine Below.setCell ?_ (by first | exact Nat.le_refl _ | (simp; done) | (simp; omega)) _))
        replace g0 := keepc hbS5 g0; replace g1 := keepc hbS5 g1; replace y0 := keepc hbS5 y0; replace y1 := keepc hbS5 y1; replace z0 := keepc hbS5 z0; replace z1 := keepc hbS5 z1; replace u0 := keepc hbS5 u0; replace u1 := keepc hbS5 u1
        replace hC1 := hC1.below hbS5
        have t0 : (w5.alloc (.cells #[.int .i64 y2, .int .i64 e2] 33)).cell? ⟨w5.heap.size, 0, none⟩ = some (.int .i64 y2) := by simp [go_sem]
        have t1 : (w5.alloc (.cells #[.int .i64 y2, .int .i64 e2] 33)).cell? ⟨w5.heap.size, 1, none⟩ = some (.int .i64 e2) := by simp [go_sem]
        have hBs5 := bcall hB_w5 (by omega) hbS5
        clear hB_w5
        clear hbS5
        go_wp2
        go_ret
        exact ⟨rfl, hBs5⟩
      · have V1 : Hid (rayN wd cs x2 1 = (y, 1, true)) := v1
        have V2 : Hid (rayN wd cs y 2 = (z, 2, true)) := v2
        have V3 : Hid (rayN wd cs z 3 = (x, 3, true)) := v3
        clear v1 v2 v3 k1
        go_wp2_with fail
        refine (ray_impl V1.out a1 c1 _ hC1 (by omega)).mono ?_
        rintro e w4 ⟨rfl, hb_w4⟩
        have hz_w4 := hb_w4.size
        try simp at hz_w4
        replace g0 := keepc hb_w4 g0; replace g1 := keepc hb_w4 g1; replace y0 := keepc hb_w4 y0; replace y1 := keepc hb_w4 y1; replace z0 := keepc hb_w4 z0; replace z1 := keepc hb_w4 z1
        replace hC1 := hC1.below hb_w4
        have hB_w4 := bcall hBs3 (by first | omega | (simp; omega)) hb_w4
        clear hBs3 hb_w4
        have hbS4 : Below w4.heap.size w4 (w4.alloc (.cells #[.int .i64 y, .int .i64 1] 33)) := (by repeat (first | exact Below.refl _ _ | refine Below.alloc ?_ (by first | exact Nat.le_refl _ | (simp; done) | (simp; omega)) _ | refine Below.drew ?_ | refine Below.setCell ?_ (by first | exact Nat.le_refl _ | (simp; done) | (simp; omega)) _))
        replace g0 := keepc hbS4 g0; replace g1 := keepc hbS4 g1; replace y0 := keepc hbS4 y0; replace y1 := keepc hbS4 y1; replace z0 := keepc hbS4 z0; replace z1 := keepc hbS4 z1
        replace hC1 := hC1.below hbS4
        have u0 : (w4.alloc (.cells #[.int .i64 y, .int .i64 1] 33)).cell? ⟨w4.heap.size, 0, none⟩ = some (.int .i64 y) := by simp [go_sem]
        have u1 : (w4.alloc (.cells #[.int .i64 y, .int .i64 1] 33)).cell? ⟨w4.heap.size, 1, none⟩ = some (.int .i64 1) := by simp [go_sem]
        have hBs4 := bcall hB_w4 (by omega) hbS4
        clear hB_w4
        clear hbS4
        go_wp2_with fail
        refine (ray_impl V2.out a1 c1 _ hC1 (by omega)).mono ?_
        rintro e w5 ⟨rfl, hb_w5⟩
        have hz_w5 := hb_w5.size
        try simp at hz_w5
        replace g0 := keepc hb_w5 g0; replace g1 := keepc hb_w5 g1; replace y0 := keepc hb_w5 y0; replace y1 := keepc hb_w5 y1; replace z0 := keepc hb_w5 z0; replace z1 := keepc hb_w5 z1; replace u0 := keepc hb_w5 u0; replace u1 := keepc hb_w5 u1
        replace hC1 := hC1.below hb_w5
        have hB_w5 := bcall hBs4 (by first | omega | (simp; omega)) hb_w5
        clear hBs4 hb_w5
        have hbS5 : Below w5.heap.size w5 (w5.alloc (.cells #[.int .i64 z, .int .i64 2] 33)) := (by repeat (first | exact Below.refl _ _ | refine Below.alloc ?_ (by first | exact Nat.le_refl _ | (simp; done) | (simp; omega)) _ | refine Below.drew ?_ | refine Below.setCell ?_ (by first | exact Nat.le_refl _ | (simp; done) | (simp; omega)) _))
        replace g0 := keepc hbS5 g0; replace g1 := keepc hbS5 g1; replace y0 := keepc hbS5 y0; replace y1 := keepc hbS5 y1; replace z0 := keepc hbS5 z0; replace z1 := keepc hbS5 z1; replace u0 := keepc hbS5 u0; replace u1 := keepc hbS5 u1
        replace hC1 := hC1.below hbS5
        have t0 : (w5.alloc (.cells #[.int .i64 z, .int .i64 2] 33)).cell? ⟨w5.heap.size, 0, none⟩ = some (.int .i64 z) := by simp [go_sem]
        have t1 : (w5.alloc (.cells #[.int .i64 z, .int .i64 2] 33)).cell? ⟨w5.heap.size, 1, none⟩ = some (.int .i64 2) := by simp [go_sem]
        have hBs5 := bcall hB_w5 (by omega) hbS5
        clear hB_w5
        clear hbS5
        go_wp2_with fail
        refine (ray_impl V3.out a1 c1 _ hC1 (by omega)).mono ?_
        rintro e w6 ⟨rfl, hb_w6⟩
        have hz_w6 := hb_w6.size
        try simp at hz_w6
        replace g0 := keepc hb_w6 g0; replace g1 := keepc hb_w6 g1; replace y0 := keepc hb_w6 y0; replace y1 := keepc hb_w6 y1; replace z0 := keepc hb_w6 z0; replace z1 := keepc hb_w6 z1; replace u0 := keepc hb_w6 u0; replace u1 := keepc hb_w6 u1; replace t0 := keepc hb_w6 t0; replace t1 := keepc hb_w6 t1
        replace hC1 := hC1.below hb_w6
        have hB_w6 := bcall hBs5 (by first | omega | (simp; omega)) hb_w6
        clear hBs5 hb_w6
        have hbS6 : Below w6.heap.size w6 (w6.alloc (.cells #[.int .i64 x, .int .i64 3] 33)) := (by repeat (first | exact Below.refl _ _ | refine Below.alloc ?_ (by first | exact Nat.le_refl _ | (simp; done) | (simp; omega)) _ | refine Below.drew ?_ | refine Below.setCell ?_ (by first | exact Nat.le_refl _ | (simp; done) | (simp; omega)) _))
        replace g0 := keepc hbS6 g0; replace g1 := keepc hbS6 g1; replace y0 := keepc hbS6 y0; replace y1 := keepc hbS6 y1; replace z0 := keepc hbS6 z0; replace z1 := keepc hbS6 z1; replace u0 := keepc hbS6 u0; replace u1 := keepc hbS6 u1; replace t0 := keepc hbS6 t0; replace t1 := keepc hbS6 t1
        replace hC1 := hC1.below hbS6
        have s0 : (w6.alloc (.cells #[.int .i64 x, .int .i64 3] 33)).cell? ⟨w6.heap.size, 0, none⟩ = some (.int .i64 x) := by simp [go_sem]
        have s1 : (w6.alloc (.cells #[.int .i64 x, .int .i64 3] 33)).cell? ⟨w6.heap.size, 1, none⟩ = some (.int .i64 3) := by simp [go_sem]
        have hBs6 := bcall hB_w6 (by omega) hbS6
        clear hB_w6
        clear hbS6
        go_wp2
        go_ret
        exact ⟨rfl, hBs6⟩
    · rcases k2 with ⟨⟨y, e1, v1⟩, y2, e2, v2⟩ | ⟨y, z, v1, v2, v3⟩
      · have V1 : Hid (rayN wd cs x2 2 = (y, e1, false)) := v1
        have V2 : Hid (rayN wd cs x 2 = (y2, e2, false)) := v2
        clear v1 v2 k1
        go_wp2_with fail
        refine (ray_impl V1.out a1 c1 _ hC1 (by omega)).mono ?_
        rintro e w4 ⟨rfl, hb_w4⟩
        have hz_w4 := hb_w4.size
        try simp at hz_w4
        replace g0 := keepc hb_w4 g0; replace g1 := keepc hb_w4 g1; replace y0 := keepc hb_w4 y0; replace y1 := keepc hb_w4 y1; replace z0 := keepc hb_w4 z0; replace z1 := keepc hb_w4 z1
        replace hC1 := hC1.below hb_w4
        have hB_w4 := bcall hBs3 (by first | omega | (simp; omega)) hb_w4
        clear hBs3 hb_w4
        have hbS4 : Below w4.heap.size w4 (w4.alloc (.cells #[.int .i64 y, .int .i64 e1] 33)) := (by repeat (first | exact Below.refl _ _ | refine Below.alloc ?_ (by first | exact Nat.le_refl _ | (simp; done) | (simp; omega)) _ | refine Below.drew ?_ | refine Below.setCell ?_ (by first | exact Nat.le_refl _ | (simp; done) | (simp; omega)) _))
        replace g0 := keepc hbS4 g0; replace g1 := keepc hbS4 g1; replace y0 := keepc hbS4 y0; replace y1 := keepc hbS4 y1; replace z0 := keepc hbS4 z0; replace z1 := keepc hbS4 z1
        replace hC1 := hC1.below hbS4
        have u0 : (w4.alloc (.cells #[.int .i64 y, .int .i64 e1] 33)).cell? ⟨w4.heap.size, 0, none⟩ = some (.int .i64 y) := by simp [go_sem]
        have u1 : (w4.alloc (.cells #[.int .i64 y, .int .i64 e1] 33)).cell? ⟨w4.heap.size, 1, none⟩ = some (.int .i64 e1) := by simp [go_sem]
        have hBs4 := bcall hB_w4 (by omega) hbS4
        clear hB_w4
        clear hbS4
        go_wp2_with fail
        refine (ray_impl V2.out a1 c1 _ hC1 (by omega)).mono ?_
        rintro e w5 ⟨rfl, hb_w5⟩
        have hz_w5 := hb_w5.size
        try simp at hz_w5
        replace g0 := keepc hb_w5 g0; replace g1 := keepc hb_w5 g1; replace y0 := keepc hb_w5 y0; replace y1 := keepc hb_w5 y1; replace z0 := keepc hb_w5 z0; replace z1 := keepc hb_w5 z1; replace u0 := keepc hb_w5 u0; replace u1 := keepc hb_w5 u1
        replace hC1 := hC1.below hb_w5
        have hB_w5 := bcall hBs4 (by first | omega | (simp; omega)) hb_w5
        clear hBs4 hb_w5
        have hbS5 : Below w5.heap.size w5 (w5.alloc (.cells #[.int .i64 y2, .int .i64 e2] 33)) := (by repeat (first | exact Below.refl _ _ | refine Below.alloc ?_ (by first | exact Nat.le_refl _ | (simp; done) | (simp; omega)) _ | refine Below.drew ?_ | refine Below.setCell ?_ (by first | exact Nat.le_refl _ | (simp; done) | (simp; omega)) _))
        replace g0 := keepc hbS5 g0; replace g1 := keepc hbS5 g1; replace y0 := keepc hbS5 y0; replace y1 := keepc hbS5 y1; replace z0 := keepc hbS5 z0; replace z1 := keepc hbS5 z1; replace u0 := keepc hbS5 u0; replace u1 := keepc hbS5 u1
        replace hC1 := hC1.below hbS5
        have t0 : (w5.alloc (.cells #[.int .i64 y2, .int .i64 e2] 33)).cell? ⟨w5.heap.size, 0, none⟩ = some (.int .i64 y2) := by simp [go_sem]
        have t1 : (w5.alloc (.cells #[.int .i64 y2, .int .i64 e2] 33)).cell? ⟨w5.heap.size, 1, none⟩ = some (.int .i64 e2) := by simp [go_sem]
        have hBs5 := bcall hB_w5 (by omega) hbS5
        clear hB_w5
        clear hbS5
        go_wp2
        go_ret
        exact ⟨rfl, hBs5⟩
      · have V1 : Hid (rayN wd cs x2 2 = (y, 2, true)) := v1
        have V2 : Hid (rayN wd cs y 3 = (z, 3, true)) := v2
        have V3 : Hid (rayN wd cs z 0 = (x, 0, true)) := v3
        clear v1 v2 v3 k1
        go_wp2_with fail
        refine (ray_impl V1.out a1 c1 _ hC1 (by omega)).mono ?_
        rintro e w4 ⟨rfl, hb_w4⟩
        have hz_w4 := hb_w4.size
        try simp at hz_w4
        replace g0 := keepc hb_w4 g0; replace g1 := keepc hb_w4 g1; replace y0 := keepc hb_w4 y0; replace y1 := keepc hb_w4 y1; replace z0 := keepc hb_w4 z0; replace z1 := keepc hb_w4 z1
        replace hC1 := hC1.below hb_w4
        have hB_w4 := bcall hBs3 (by first | omega | (simp; omega)) hb_w4
        clear hBs3 hb_w4
        have hbS4 : Below w4.heap.size w4 (w4.alloc (.cells #[.int .i64 y, .int .i64 2] 33)) := (by repeat (first | exact Below.refl _ _ | refine Below.alloc ?_ (by first | exact Nat.le_refl _ | (simp; done) | (simp; omega)) _ | refine Below.drew ?_ | refine Below.setCell ?_ (by first | exact Nat.le_refl _ | (simp; done) | (simp; omega)) _))
        replace g0 := keepc hbS4 g0; replace g1 := keepc hbS4 g1; replace y0 := keepc hbS4 y0; replace y1 := keepc hbS4 y1; replace z0 := keepc hbS4 z0; replace z1 := keepc hbS4 z1
        replace hC1 := hC1.below hbS4
        have u0 : (w4.alloc (.cells #[.int .i64 y, .int .i64 2] 33)).cell? ⟨w4.heap.size, 0, none⟩ = some (.int .i64 y) := by simp [go_sem]
        have u1 : (w4.alloc (.cells #[.int .i64 y, .int .i64 2] 33)).cell? ⟨w4.heap.size, 1, none⟩ = some (.int .i64 2) := by simp [go_sem]
        have hBs4 := bcall hB_w4 (by omega) hbS4
        clear hB_w4
        clear hbS4
        go_wp2_with fail
        refine (ray_impl V2.out a1 c1 _ hC1 (by omega)).mono ?_
        rintro e w5 ⟨rfl, hb_w5⟩
        have hz_w5 := hb_w5.size
        try simp at hz_w5
        replace g0 := keepc hb_w5 g0; replace g1 := keepc hb_w5 g1; replace y0 := keepc hb_w5 y0; replace y1 := keepc hb_w5 y1; replace z0 := keepc hb_w5 z0; replace z1 := keepc hb_w5 z1; replace u0 := keepc hb_w5 u0; replace u1 := keepc hb_w5 u1
        replace hC1 := hC1.below hb_w5
        have hB_w5 := bcall hBs4 (by first | omega | (simp; omega)) hb_w5
        clear hBs4 hb_w5
        have hbS5 : Below w5.heap.size w5 (w5.alloc (.cells #[.int .i64 z, .int .i64 3] 33)) := (by repeat (first | exact Below.refl _ _ | refine Below.alloc ?_ (by first | exact Nat.le_refl _ | (simp; done) | (simp; omega)) _ | refine Below.drew ?_ | refine Below.setCell ?_ (by first | exact Nat.le_refl _ | (simp; done) | (simp; omega)) _))
        replace g0 := keepc hbS5 g0; replace g1 := keepc hbS5 g1; replace y0 := keepc hbS5 y0; replace y1 := keepc hbS5 y1; replace z0 := keepc hbS5 z0; replace z1 := keepc hbS5 z1; replace u0 := keepc hbS5 u0; replace u1 := keepc hbS5 u1
        replace hC1 := hC1.below hbS5
        have t0 : (w5.alloc (.cells #[.int .i64 z, .int .i64 3] 33)).cell? ⟨w5.heap.size, 0, none⟩ = some (.int .i64 z) := by simp [go_sem]
        have t1 : (w5.alloc (.cells #[.int .i64 z, .int .i64 3] 33)).cell? ⟨w5.heap.size, 1, none⟩ = some (.int .i64 3) := by simp [go_sem]
        have hBs5 := bcall hB_w5 (by omega) hbS5
        clear hB_w5
        clear hbS5
        go_wp2_with fail
        refine (ray_impl V3.out a1 c1 _ hC1 (by omega)).mono ?_
        rintro e w6 ⟨rfl, hb_w6⟩
        have hz_w6 := hb_w6.size
        try simp at hz_w6
        replace g0 := keepc hb_w6 g0; replace g1 := keepc hb_w6 g1; replace y0 := keepc hb_w6 y0; replace y1 := keepc hb_w6 y1; replace z0 := keepc hb_w6 z0; replace z1 := keepc hb_w6 z1; replace u0 := keepc hb_w6 u0; replace u1 := keepc hb_w6 u1; replace t0 := keepc hb_w6 t0; replace t1 := keepc hb_w6 t1
        replace hC1 := hC1.below hb_w6
        have hB_w6 := bcall hBs5 (by first | omega | (simp; omega)) hb_w6
        clear hBs5 hb_w6
        have hbS6 : Below w6.heap.size w6 (w6.alloc (.cells #[.int .i64 x, .int .i64 0] 33)) := (by repeat (first | exact Below.refl _ _ | refine Below.alloc ?_ (by first | exact Nat.le_refl _ | (simp; done) | (simp; omega)) _ | refine Below.drew ?_ | refine Below.setCell ?_ (by first | exact Nat.le_refl _ | (simp; done) | (simp; omega)) _))
        replace g0 := keepc hbS6 g0; replace g1 := keepc hbS6 g1; replace y0 := keepc hbS6 y0; replace y1 := keepc hbS6 y1; replace z0 := keepc hbS6 z0; replace z1 := keepc hbS6 z1; replace u0 := keepc hbS6 u0; replace u1 := keepc hbS6 u1; replace t0 := keepc hbS6 t0; replace t1 := keepc hbS6 t1
        replace hC1 := hC1.below hbS6
        have s0 : (w6.alloc (.cells #[.int .i64 x, .int .i64 0] 33)).cell? ⟨w6.heap.size, 0, none⟩ = some (.int .i64 x) := by simp [go_sem]
        have s1 : (w6.alloc (.cells #[.int .i64 x, .int .i64 0] 33)).cell? ⟨w6.heap.size, 1, none⟩ = some (.int .i64 0) := by simp [go_sem]
        have hBs6 := bcall hB_w6 (by omega) hbS6
        clear hB_w6
        clear hbS6
        go_wp2
        go_ret
        exact ⟨rfl, hBs6⟩
    · rcases k2 with ⟨⟨y, e1, v1⟩, y2, e2, v2⟩ | ⟨y, z, v1, v2, v3⟩
      · have V1 : Hid (rayN wd cs x2 3 = (y, e1, false)) := v1
        have V2 : Hid (rayN wd cs x 3 = (y2, e2, false)) := v2
        clear v1 v2 k1
        go_wp2_with fail
        refine (ray_impl V1.out a1 c1 _ hC1 (by omega)).mono ?_
        rintro e w4 ⟨rfl, hb_w4⟩
        have hz_w4 := hb_w4.size
        try simp at hz_w4
        replace g0 := keepc hb_w4 g0; replace g1 := keepc hb_w4 g1; replace y0 := keepc hb_w4 y0; replace y1 := keepc hb_w4 y1; replace z0 := keepc hb_w4 z0; replace z1 := keepc hb_w4 z1
        replace hC1 := hC1.below hb_w4
        have hB_w4 := bcall hBs3 (by first | omega | (simp; omega)) hb_w4
        clear hBs3 hb_w4
        have hbS4 : Below w4.heap.size w4 (w4.alloc (.cells #[.int .i64 y, .int .i64 e1] 33)) := (by repeat (first | exact Below.refl _ _ | refine Below.alloc ?_ (by first | exact Nat.le_refl _ | (simp; done) | (simp; omega)) _ | refine Below.drew ?_ | refine Below.setCell ?_ (by first | exact Nat.le_refl _ | (simp; done) | (simp; omega)) _))
        replace g0 := keepc hbS4 g0; replace g1 := keepc hbS4 g1; replace y0 := keepc hbS4 y0; replace y1 := keepc hbS4 y1; replace z0 := keepc hbS4 z0; replace z1 := keepc hbS4 z1
        replace hC1 := hC1.below hbS4
        have u0 : (w4.alloc (.cells #[.int .i64 y, .int .i64 e1] 33)).cell? ⟨w4.heap.size, 0, none⟩ = some (.int .i64 y) := by simp [go_sem]
        have u1 : (w4.alloc (.cells #[.int .i64 y, .int .i64 e1] 33)).cell? ⟨w4.heap.size, 1, none⟩ = some (.int .i64 e1) := by simp [go_sem]
        have hBs4 := bcall hB_w4 (by omega) hbS4
        clear hB_w4
        clear hbS4
        go_wp2_with fail
        refine (ray_impl V2.out a1 c1 _ hC1 (by omega)).mono ?_
        rintro e w5 ⟨rfl, hb_w5⟩
        have hz_w5 := hb_w5.size
        try simp at hz_w5
        replace g0 := keepc hb_w5 g0; replace g1 := keepc hb_w5 g1; replace y0 := keepc hb_w5 y0; replace y1 := keepc hb_w5 y1; replace z0 := keepc hb_w5 z0; replace z1 := keepc hb_w5 z1; replace u0 := keepc hb_w5 u0; replace u1 := keepc hb_w5 u1
        replace hC1 := hC1.below hb_w5
        have hB_w5 := bcall hBs4 (by first | omega | (simp; omega)) hb_w5
        clear hBs4 hb_w5
        have hbS5 : Below w5.heap.size w5 (w5.alloc (.cells #[.int .i64 y2, .int .i64 e2] 33)) := (by repeat (first | exact Below.refl _ _ | refine Below.alloc ?_ (by first | exact Nat.le_refl _ | (simp; done) | (simp; omega)) _ | refine Below.drew ?_ | refine Below.setCell ?_ (by first | exact Nat.le_refl _ | (simp; done) | (simp; omega)) _))
        replace g0 := keepc hbS5 g0; replace g1 := keepc hbS5 g1; replace y0 := keepc hbS5 y0; replace y1 := keepc hbS5 y1; replace z0 := keepc hbS5 z0; replace z1 := keepc hbS5 z1; replace u0 := keepc hbS5 u0; replace u1 := keepc hbS5 u1
        replace hC1 := hC1.below hbS5
        have t0 : (w5.alloc (.cells #[.int .i64 y2, .int .i64 e2] 33)).cell? ⟨w5.heap.size, 0, none⟩ = some (.int .i64 y2) := by simp [go_sem]
        have t1 : (w5.alloc (.cells #[.int .i64 y2, .int .i64 e2] 33)).cell? ⟨w5.heap.size, 1, none⟩ = some (.int .i64 e2) := by simp [go_sem]
        have hBs5 := bcall hB_w5 (by omega) hbS5
        clear hB_w5
        clear hbS5
        go_wp2
        go_ret
        exact ⟨rfl, hBs5⟩
      · have V1 : Hid (rayN wd cs x2 3 = (y, 3, true)) := v1
        have V2 : Hid (rayN wd cs y 0 = (z, 0, true)) := v2
        have V3 : Hid (rayN wd cs z 1 = (x, 1, true)) := v3
        clear v1 v2 v3 k1
        go_wp2_with fail
        refine (ray_impl V1.out a1 c1 _ hC1 (by omega)).mono ?_
        rintro e w4 ⟨rfl, hb_w4⟩
        have hz_w4 := hb_w4.size
        try simp at hz_w4
        replace g0 := keepc hb_w4 g0; replace g1 := keepc hb_w4 g1; replace y0 := keepc hb_w4 y0; replace y1 := keepc hb_w4 y1; replace z0 := keepc hb_w4 z0; replace z1 := keepc hb_w4 z1
        replace hC1 := hC1.below hb_w4
        have hB_w4 := bcall hBs3 (by first | omega | (simp; omega)) hb_w4
        clear hBs3 hb_w4
        have hbS4 : Below w4.heap.size w4 (w4.alloc (.cells #[.int .i64 y, .int .i64 3] 33)) := (by repeat (first | exact Below.refl _ _ | refine Below.alloc ?_ (by first | exact Nat.le_refl _ | (simp; done) | (simp; omega)) _ | refine Below.drew ?_ | refine Below.setCell ?_ (by first | exact Nat.le_refl _ | (simp; done) | (simp; omega)) _))
        replace g0 := keepc hbS4 g0; replace g1 := keepc hbS4 g1; replace y0 := keepc hbS4 y0; replace y1 := keepc hbS4 y1; replace z0 := keepc hbS4 z0; replace z1 := keepc hbS4 z1
        replace hC1 := hC1.below hbS4
        have u0 : (w4.alloc (.cells #[.int .i64 y, .int .i64 3] 33)).cell? ⟨w4.heap.size, 0, none⟩ = some (.int .i64 y) := by simp [go_sem]
        have u1 : (w4.alloc (.cells #[.int .i64 y, .int .i64 3] 33)).cell? ⟨w4.heap.size, 1, none⟩ = some (.int .i64 3) := by simp [go_sem]
        have hBs4 := bcall hB_w4 (by omega) hbS4
        clear hB_w4
        clear hbS4
        go_wp2_with fail
        refine (ray_impl V2.out a1 c1 _ hC1 (by omega)).mono ?_
        rintro e w5 ⟨rfl, hb_w5⟩
        have hz_w5 := hb_w5.size
        try simp at hz_w5
        replace g0 := keepc hb_w5 g0; replace g1 := keepc hb_w5 g1; replace y0 := keepc hb_w5 y0; replace y1 := keepc hb_w5 y1; replace z0 := keepc hb_w5 z0; replace z1 := keepc hb_w5 z1; replace u0 := keepc hb_w5 u0; replace u1 := keepc hb_w5 u1
        replace hC1 := hC1.below hb_w5
        have hB_w5 := bcall hBs4 (by first | omega | (simp; omega)) hb_w5
        clear hBs4 hb_w5
        have hbS5 : Below w5.heap.size w5 (w5.alloc (.cells #[.int .i64 z, .int .i64 0] 33)) := (by repeat (first | exact Below.refl _ _ | refine Below.alloc ?_ (by first | exact Nat.le_refl _ | (simp; done) | (simp; omega)) _ | refine Below.drew ?_ | refine Below.setCell ?_ (by first | exact Nat.le_refl _ | (simp; done) | (simp; omega)) _))
        replace g0 := keepc hbS5 g0; replace g1 := keepc hbS5 g1; replace y0 := keepc hbS5 y0; replace y1 := keepc hbS5 y1; replace z0 := keepc hbS5 z0; replace z1 := keepc hbS5 z1; replace u0 := keepc hbS5 u0; replace u1 := keepc hbS5 u1
        replace hC1 := hC1.below hbS5
        have t0 : (w5.alloc (.cells #[.int .i64 z, .int .i64 0] 33)).cell? ⟨w5.heap.size, 0, none⟩ = some (.int .i64 z) := by simp [go_sem]
        have t1 : (w5.alloc (.cells #[.int .i64 z, .int .i64 0] 33)).cell? ⟨w5.heap.size, 1, none⟩ = some (.int .i64 0) := by simp [go_sem]
        have hBs5 := bcall hB_w5 (by omega) hbS5
        clear hB_w5
        clear hbS5
        go_wp2_with fail
        refine (ray_impl V3.out a1 c1 _ hC1 (by omega)).mono ?_
        rintro e w6 ⟨rfl, hb_w6⟩
        have hz_w6 := hb_w6.size
        try simp at hz_w6
        replace g0 := keepc hb_w6 g0; replace g1 := keepc hb_w6 g1; replace y0 := keepc hb_w6 y0; replace y1 := keepc hb_w6 y1; replace z0 := keepc hb_w6 z0; replace z1 := keepc hb_w6 z1; replace u0 := keepc hb_w6 u0; replace u1 := keepc hb_w6 u1; replace t0 := keepc hb_w6 t0; replace t1 := keepc hb_w6 t1
        replace hC1 := hC1.below hb_w6
        have hB_w6 := bcall hBs5 (by first | omega | (simp; omega)) hb_w6
        clear hBs5 hb_w6
        have hbS6 : Below w6.heap.size w6 (w6.alloc (.cells #[.int .i64 x, .int .i64 1] 33)) := (by repeat (first | exact Below.refl _ _ | refine Below.alloc ?_ (by first | exact Nat.le_refl _ | (simp; done) | (simp; omega)) _ | refine Below.drew ?_ | refine Below.setCell ?_ (by first | exact Nat.le_refl _ | (simp; done) | (simp; omega)) _))
        replace g0 := keepc hbS6 g0; replace g1 := keepc hbS6 g1; replace y0 := keepc hbS6 y0; replace y1 := keepc hbS6 y1; replace z0 := keepc hbS6 z0; replace z1 := keepc hbS6 z1; replace u0 := keepc hbS6 u0; replace u1 := keepc hbS6 u1; replace t0 := keepc hbS6 t0; replace t1 := keepc hbS6 t1
        replace hC1 := hC1.below hbS6
        have s0 : (w6.alloc (.cells #[.int .i64 x, .int .i64 1] 33)).cell? ⟨w6.heap.size, 0, none⟩ = some (.int .i64 x) := by simp [go_sem]
        have s1 : (w6.alloc (.cells #[.int .i64 x, .int .i64 1] 33)).cell? ⟨w6.heap.size, 1, none⟩ = some (.int .i64 1) := by simp [go_sem]
        have hBs6 := bcall hB_w6 (by omega) hbS6
        clear hB_w6
        clear hbS6
        go_wp2
        go_ret
        exact ⟨rfl, hBs6⟩
    · rcases k2 with ⟨⟨y, e1, v1⟩, y2, e2, v2⟩ | ⟨y, z, v1, v2, v3⟩
      · have V1 : Hid (rayN wd cs x2 0 = (y, e1, false)) := v1
        have V2 : Hid (rayN wd cs x 0 = (y2, e2, false)) := v2
        clear v1 v2 k1
        go_wp2_with fail
        refine (ray_impl V1.out a1 c1 _ hC1 (by omega)).mono ?_
        rintro e w4 ⟨rfl, hb_w4⟩
        have hz_w4 := hb_w4.size
        try simp at hz_w4
        replace g0 := keepc hb_w4 g0; replace g1 := keepc hb_w4 g1; replace y0 := keepc hb_w4 y0; replace y1 := keepc hb_w4 y1; replace z0 := keepc hb_w4 z0; replace z1 := keepc hb_w4 z1
        replace hC1 := hC1.below hb_w4
        have hB_w4 := bcall hBs3 (by first | omega | (simp; omega)) hb_w4
        clear hBs3 hb_w4
        have hbS4 : Below w4.heap.size w4 (w4.alloc (.cells #[.int .i64 y, .int .i64 e1] 33)) := (by repeat (first | exact Below.refl _ _ | refine Below.alloc ?_ (by first | exact Nat.le_refl _ | (simp; done) | (simp; omega)) _ | refine Below.drew ?_ | refine Below.setCell ?_ (by first | exact Nat.le_refl _ | (simp; done) | (simp; omega)) _))
        replace g0 := keepc hbS4 g0; replace g1 := keepc hbS4 g1; replace y0 := keepc hbS4 y0; replace y1 := keepc hbS4 y1; replace z0 := keepc hbS4 z0; replace z1 := keepc hbS4 z1
        replace hC1 := hC1.below hbS4
        have u0 : (w4.alloc (.cells #[.int .i64 y, .int .i64 e1] 33)).cell? ⟨w4.heap.size, 0, none⟩ = some (.int .i64 y) := by simp [go_sem]
        have u1 : (w4.alloc (.cells #[.int .i64 y, .int .i64 e1] 33)).cell? ⟨w4.heap.size, 1, none⟩ = some (.int .i64 e1) := by simp [go_sem]
        have hBs4 := bcall hB_w4 (by omega) hbS4
        clear hB_w4
        clear hbS4
        go_wp2_with fail
        refine (ray_impl V2.out a1 c1 _ hC1 (by omega)).mono ?_
        rintro e w5 ⟨rfl, hb_w5⟩
        have hz_w5 := hb_w5.size
        try simp at hz_w5
        replace g0 := keepc hb_w5 g0; replace g1 := keepc hb_w5 g1; replace y0 := keepc hb_w5 y0; replace y1 := keepc hb_w5 y1; replace z0 := keepc hb_w5 z0; replace z1 := keepc hb_w5 z1; replace u0 := keepc hb_w5 u0; replace u1 := keepc hb_w5 u1
        replace hC1 := hC1.below hb_w5
        have hB_w5 := bcall hBs4 (by first | omega | (simp; omega)) hb_w5
        clear hBs4 hb_w5
        have hbS5 : Below w5.heap.size w5 (w5.alloc (.cells #[.int .i64 y2, .int .i64 e2] 33)) := (by repeat (first | exact Below.refl _ _ | refine Below.alloc ?_ (by first | exact Nat.le_refl _ | (simp; done) | (simp; omega)) _ | refine Below.drew ?_ | refine Below.setCell ?_ (by first | exact Nat.le_refl _ | (simp; done) | (simp; omega)) _))
        replace g0 := keepc hbS5 g0; replace g1 := keepc hbS5 g1; replace y0 := keepc hbS5 y0; replace y1 := keepc hbS5 y1; replace z0 := keepc hbS5 z0; replace z1 := keepc hbS5 z1; replace u0 := keepc hbS5 u0; replace u1 := keepc hbS5 u1
        replace hC1 := hC1.below hbS5
        have t0 : (w5.alloc (.cells #[.int .i64 y2, .int .i64 e2] 33)).cell? ⟨w5.heap.size, 0, none⟩ = some (.int .i64 y2) := by simp [go_sem]
        have t1 : (w5.alloc (.cells #[.int .i64 y2, .int .i64 e2] 33)).cell? ⟨w5.heap.size, 1, none⟩ = some (.int .i64 e2) := by simp [go_sem]
        have hBs5 := bcall hB_w5 (by omega) hbS5
        clear hB_w5
        clear hbS5
        go_wp2
        go_ret
        exact ⟨rfl, hBs5⟩
      · have V1 : Hid (rayN wd cs x2 0 = (y, 0, true)) := v1
        have V2 : Hid (rayN wd cs y 1 = (z, 1, true)) := v2
        have V3 : Hid (rayN wd cs z 2 = (x, 2, true)) := v3
        clear v1 v2 v3 k1
        go_wp2_with fail
        refine (ray_impl V1.out a1 c1 _ hC1 (by omega)).mono ?_
        rintro e w4 ⟨rfl, hb_w4⟩
        have hz_w4 := hb_w4.size
        try simp at hz_w4
        replace g0 := keepc hb_w4 g0; replace g1 := keepc hb_w4 g1; replace y0 := keepc hb_w4 y0; replace y1 := keepc hb_w4 y1; replace z0 := keepc hb_w4 z0; replace z1 := keepc hb_w4 z1
        replace hC1 := hC1.below hb_w4
        have hB_w4 := bcall hBs3 (by first | omega | (simp; omega)) hb_w4
        clear hBs3 hb_w4
        have hbS4 : Below w4.heap.size w4 (w4.alloc (.cells #[.int .i64 y, .int .i64 0] 33)) := (by repeat (first | exact Below.refl _ _ | refine Below.alloc ?_ (by first | exact Nat.le_refl _ | (simp; done) | (simp; omega)) _ | refine Below.drew ?_ | refine Below.setCell ?_ (by first | exact Nat.le_refl _ | (simp; done) | (simp; omega)) _))
        replace g0 := keepc hbS4 g0; replace g1 := keepc hbS4 g1; replace y0 := keepc hbS4 y0; replace y1 := keepc hbS4 y1; replace z0 := keepc hbS4 z0; replace z1 := keepc hbS4 z1
        replace hC1 := hC1.below hbS4
        have u0 : (w4.alloc (.cells #[.int .i64 y, .int .i64 0] 33)).cell? ⟨w4.heap.size, 0, none⟩ = some (.int .i64 y) := by simp [go_sem]
        have u1 : (w4.alloc (.cells #[.int .i64 y, .int .i64 0] 33)).cell? ⟨w4.heap.size, 1, none⟩ = some (.int .i64 0) := by simp [go_sem]
        have hBs4 := bcall hB_w4 (by omega) hbS4
        clear hB_w4
        clear hbS4
        go_wp2_with fail
        refine (ray_impl V2.out a1 c1 _ hC1 (by omega)).mono ?_
        rintro e w5 ⟨rfl, hb_w5⟩
        have hz_w5 := hb_w5.size
        try simp at hz_w5
        replace g0 := keepc hb_w5 g0; replace g1 := keepc hb_w5 g1; replace y0 := keepc hb_w5 y0; replace y1 := keepc hb_w5 y1; replace z0 := keepc hb_w5 z0; replace z1 := keepc hb_w5 z1; replace u0 := keepc hb_w5 u0; replace u1 := keepc hb_w5 u1
        replace hC1 := hC1.below hb_w5
        have hB_w5 := bcall hBs4 (by first | omega | (simp; omega)) hb_w5
        clear hBs4 hb_w5
        have hbS5 : Below w5.heap.size w5 (w5.alloc (.cells #[.int .i64 z, .int .i64 1] 33)) := (by repeat (first | exact Below.refl _ _ | refine Below.alloc ?_ (by first | exact Nat.le_refl _ | (simp; done) | (simp; omega)) _ | refine Below.drew ?_ | refine Below.setCell ?_ (by first | exact Nat.le_refl _ | (simp; done) | (simp; omega)) _))
        replace g0 := keepc hbS5 g0; replace g1 := keepc hbS5 g1; replace y0 := keepc hbS5 y0; replace y1 := keepc hbS5 y1; replace z0 := keepc hbS5 z0; replace z1 := keepc hbS5 z1; replace u0 := keepc hbS5 u0; replace u1 := keepc hbS5 u1
        replace hC1 := hC1.below hbS5
        have t0 : (w5.alloc (.cells #[.int .i64 z, .int .i64 1] 33)).cell? ⟨w5.heap.size, 0, none⟩ = some (.int .i64 z) := by simp [go_sem]
        have t1 : (w5.alloc (.cells #[.int .i64 z, .int .i64 1] 33)).cell? ⟨w5.heap.size, 1, none⟩ = some (.int .i64 1) := by simp [go_sem]
        have hBs5 := bcall hB_w5 (by omega) hbS5
        clear hB_w5
        clear hbS5
        go_wp2_with fail
        refine (ray_impl V3.out a1 c1 _ hC1 (by omega)).mono ?_
        rintro e w6 ⟨rfl, hb_w6⟩
        have hz_w6 := hb_w6.size
        try simp at hz_w6
        replace g0 := keepc hb_w6 g0; replace g1 := keepc hb_w6 g1; replace y0 := keepc hb_w6 y0; replace y1 := keepc hb_w6 y1; replace z0 := keepc hb_w6 z0; replace z1 := keepc hb_w6 z1; replace u0 := keepc hb_w6 u0; replace u1 := keepc hb_w6 u1; replace t0 := keepc hb_w6 t0; replace t1 := keepc hb_w6 t1
        replace hC1 := hC1.below hb_w6
        have hB_w6 := bcall hBs5 (by first | omega | (simp; omega)) hb_w6
        clear hBs5 hb_w6
        have hbS6 : Below w6.heap.size w6 (w6.alloc (.cells #[.int .i64 x, .int .i64 2] 33)) := (by repeat (first | exact Below.refl _ _ | refine Below.alloc ?_ (by first | exact Nat.le_refl _ | (simp; done) | (simp; omega)) _ | refine Below.drew ?_ | refine Below.setCell ?_ (by first | exact Nat.le_refl _ | (simp; done) | (simp; omega)) _))
        replace g0 := keepc hbS6 g0; replace g1 := keepc hbS6 g1; replace y0 := keepc hbS6 y0; replace y1 := keepc hbS6 y1; replace z0 := keepc hbS6 z0; replace z1 := keepc hbS6 z1; replace u0 := keepc hbS6 u0; replace u1 := keepc hbS6 u1; replace t0 := keepc hbS6 t0; replace t1 := keepc hbS6 t1
        replace hC1 := hC1.below hbS6
        have s0 : (w6.alloc (.cells #[.int .i64 x, .int .i64 2] 33)).cell? ⟨w6.heap.size, 0, none⟩ = some (.int .i64 x) := by simp [go_sem]
        have s1 : (w6.alloc (.cells #[.int .i64 x, .int .i64 2] 33)).cell? ⟨w6.heap.size, 1, none⟩ = some (.int .i64 2) := by simp [go_sem]
        have hBs6 := bcall hB_w6 (by omega) hbS6
        clear hB_w6
        clear hbS6
        go_wp2
        go_ret
        exact ⟨rfl, hBs6⟩

theorem walk (a : Option Addr) (n cap : Nat) (f : Nat → Int) (w : World) (h : BytesAt w a n f) (hm : n ≤ cap ∧ cap ≤ 9223372036854775807) :
    Calls Try.prog 6 #[.slice a n cap] w fun e w' => e = .returned (.bool true) ∧ Below w.heap.size w w' := by
  by_cases hs : n ≤ 1048576
  · exact small a n cap f w h hm hs
  · exact big a n cap f w h hm (by omega)

set_option maxRecDepth 100000 in
theorem lifted (os : Os) (started : os.Started) (H : Type) (enc : TypeId × Value → H) :
    ReturnsInHanded {} Try.checked os 6 .any (Rows.fnRayRoundSpec.pre6 enc Try.prog Try.f6 Rows.fnRayRoundRow.domain false) (Rows.fnRayRoundSpec.post enc Try.prog Try.f6 false true false false) := by
  refine returnsInHanded_of_change (C := Try.checked) own started (by kernel_rfl) Try.func6
    (ChangeSpec.witness6 (enc := enc) (C := Try.checked) false ⟨#[], #[.slice none 0 0], []⟩ 8 (by kernel_rfl) (by kernel_rfl) (by kernel_rfl) (by kernel_rfl)) ?_
  intro W base args ds gs before hval0 hW hcnd _
  have hval : ∀ (j : Nat) t v, Try.f6.params[j]? = some t → args[j]? = some v → Value.okWide Try.prog W .any base t v := hval0
  have hW' := hW
  obtain ⟨p, q, hA0, hV, rfl, hfz, hnd⟩ := hW
  have hA : DataW.TrodAll enc Try.prog W 0 (fun _ => true) true Try.f6.params.toList args.toList ds p := hA0
  rw [Try.params6] at hA hval
  obtain ⟨v0, vs0, d0, ds0, p0, q0, hargs, rfl, rfl, h0, r0⟩ := trodAll_cons hA
  obtain ⟨rfl, rfl, rfl⟩ := trodAll_nil r0
  obtain rfl : args = #[v0] := by cases args; simp_all
  obtain ⟨rfl, rfl⟩ := trodVars_none hV
  have k0 := h0
  have lt0 : ∀ x ∈ p0, x.block < W.heap.size := by obtain ⟨m, hm⟩ := k0; exact DataW.trod_lt m _ _ _ hm
  obtain ⟨a0, n0, cap0, f0, rfl, hC0, hm0⟩ := open_bytes (hval 0 22 v0 rfl rfl) h0
  clear hA0 hval0
  refine (walk a0 n0 cap0 f0 W hC0 hm0).mono fun e W' ⟨he, bel⟩ => ?_
  subst he
  exact ⟨_, rfl, _, _, _, [], _, [], hW', trodAll_mk1 (shut_bool Try.underlying4 _), (trodAll_cons_mk (Below.trod laidOut (by kernel_rfl) (of_decide_eq_true (by kernel_rfl)) k0 bel lt0) trodAll_mk0), rfl, bel.frame _, fun h => by cases h⟩

theorem over : Rows.fnRayRoundRow.holds Try.pinned (OpenSpec.ofChange Rows.fnRayRoundSpec) :=
  OpenClaim.holds_of_wide 6 Try.f6 rfl rfl rfl rfl rfl rfl rfl ⟨rfl, rfl, rfl, rfl, rfl⟩ rfl rfl rfl rfl rfl (by kernel_rfl) Try.func6 (by kernel_rfl)
    (of_decide_eq_true (by kernel_rfl)) (by unfold Func.isWrapper; first | (rw [if_pos (by decide +kernel)]; kernel_rfl) | (rw [if_neg (by decide +kernel)]; exact ⟨rfl, rfl⟩))
    (fun os started H enc _ => lifted os started H enc)

end Go.Proofs.Ytgikknbjmbolaaa.LwRayRound

namespace Go.Proofs.Ytgikknbjmbolaaa
/-- The statement. -/
theorem lwRayRound : Rows.FnRayRoundSaid := LwRayRound.over
#print axioms lwRayRound
end Go.Proofs.Ytgikknbjmbolaaa
