/-
  'laws.FnPutLast' returns true for all codes: what is put last counts, and at two places it does not matter which is put first. No condition.
-/
import Derived.Test.YtmnninhifiajhaaFb
import Derived.Test.YtmnninhifiajhaaDq
import Derived.Test.YtmnninhifiajhaaDl
import Derived.Test.YtmnninhifiajhaaMp
namespace Go.Proofs.Ytmnninhifiajhaa.LwPutLast
open Go.ChangeShapes Go.WideShapes Go.ChangeAt Go.RowKit
set_option linter.unusedVariables false
attribute [local go_sem ↓] Go.wp_at_zero Go.wp_at_succ

theorem put_two {wd xw yw : Int} {cs xc yc : List (Int × Int)} {at_ k l at2 k2 l2 : Int} (hx : putG wd cs at_ k l = (xw, xc, true)) (hy : putG wd cs at2 k2 l2 = (yw, yc, true)) :
    ∃ zc uc : List (Int × Int), putG xw xc at2 k2 l2 = (wd, zc, true) ∧ putG yw yc at_ k l = (wd, uc, true) ∧ xw = wd ∧ yw = wd ∧ (at_ = at2 → zc = yc) ∧ (at_ ≠ at2 → zc = uc) := by
  obtain ⟨i, rfl, i1, i2, i3, rfl, rfl, i6⟩ := putG_yes hx
  obtain ⟨j, rfl, j1, j2, j3, rfl, rfl, j6⟩ := putG_yes hy
  refine ⟨_, _, putG_at _ _ j k2 l2 (by simpa using j1) i6 j3, putG_at _ _ i k l (by simpa using i1) j6 i3, rfl, rfl, ?_, ?_⟩
  · intro e
    obtain rfl : i = j := by omega
    simp
  · intro e
    exact (List.set_comm _ _ (by omega))

/-- Too long a code. -/
theorem big (a : Option Addr) (n cap : Nat) (f : Nat → Int) (a' : Option Addr) (n' cap' : Nat) (f' : Nat → Int) (w : World) (h : BytesAt w a n f) (hm : n ≤ cap ∧ cap ≤ 9223372036854775807) (h' : BytesAt w a' n' f') (hm' : n' ≤ cap' ∧ cap' ≤ 9223372036854775807) (hbig : 1048576 < n) :
    Calls Try.prog 4 #[.slice a n cap, .slice a' n' cap'] w fun e w' => e = .returned (.bool true) ∧ Below w.heap.size w w' := by
  have hb : (1048576 : Int) < (n : Int) := by omega
  go_enter Try.func4, Try.ntmps4
  go_wp2
  go_ret
  exact ⟨rfl, Below.refl _ _⟩
theorem big' (a : Option Addr) (n cap : Nat) (f : Nat → Int) (a' : Option Addr) (n' cap' : Nat) (f' : Nat → Int) (w : World) (h : BytesAt w a n f) (hm : n ≤ cap ∧ cap ≤ 9223372036854775807) (h' : BytesAt w a' n' f') (hm' : n' ≤ cap' ∧ cap' ≤ 9223372036854775807) (hsm : n ≤ 1048576) (hbig : 1048576 < n') :
    Calls Try.prog 4 #[.slice a n cap, .slice a' n' cap'] w fun e w' => e = .returned (.bool true) ∧ Below w.heap.size w w' := by
  have hb : (n : Int) ≤ 1048576 := by omega
  have hb' : (1048576 : Int) < (n' : Int) := by omega
  go_enter Try.func4, Try.ntmps4
  go_wp2
  go_ret
  exact ⟨rfl, Below.refl _ _⟩

set_option maxHeartbeats 4000000 in
theorem small (a : Option Addr) (n cap : Nat) (f : Nat → Int) (a' : Option Addr) (n' cap' : Nat) (f' : Nat → Int) (w : World) (h : BytesAt w a n f) (hm : n ≤ cap ∧ cap ≤ 9223372036854775807) (h' : BytesAt w a' n' f') (hm' : n' ≤ cap' ∧ cap' ≤ 9223372036854775807) (hsm : n ≤ 1048576) (hsm' : n' ≤ 1048576) :
    Calls Try.prog 4 #[.slice a n cap, .slice a' n' cap'] w fun e w' => e = .returned (.bool true) ∧ Below w.heap.size w w' := by
  have hb : (n : Int) ≤ 1048576 := by omega
  have hb' : (n' : Int) ≤ 1048576 := by omega
  go_enter Try.func4, Try.ntmps4
  go_wp2_with fail
  refine (drawGridPut_any a n cap f w h hsm hm.1 hm.2).mono ?_
  rintro e w1 ⟨wd, a1, c1, cs, at_, k, l, rfl, hC1, hl1, hat1, hat2, hb_w1⟩
  have hz_w1 := hb_w1.size
  try simp at hz_w1
  replace h' := h'.below hb_w1
  have hbS1 : Below w1.heap.size w1 ((w1.alloc (.cells #[.int .i64 wd, .slice a1 cs.length c1] 25)).alloc (.cells #[.int .i64 k, .int .i64 l] 27)) := (by repeat (first | exact Below.refl _ _ | refine Below.alloc ?_ (by first | exact Nat.le_refl _ | (simp; done) | (simp; omega)) _ | refine Below.drew ?_ | refine Below.setCell ?_ (by first | exact Nat.le_refl _ | (simp; done) | (simp; omega)) _))
  replace hC1 := hC1.below hbS1
  replace h' := h'.below hbS1
  have g0 : ((w1.alloc (.cells #[.int .i64 wd, .slice a1 cs.length c1] 25)).alloc (.cells #[.int .i64 k, .int .i64 l] 27)).cell? ⟨w1.heap.size, 0, none⟩ = some (.int .i64 wd) := by simp [go_sem]
  have g1 : ((w1.alloc (.cells #[.int .i64 wd, .slice a1 cs.length c1] 25)).alloc (.cells #[.int .i64 k, .int .i64 l] 27)).cell? ⟨w1.heap.size, 1, none⟩ = some (.slice a1 cs.length c1) := by simp [go_sem]
  have d0 : ((w1.alloc (.cells #[.int .i64 wd, .slice a1 cs.length c1] 25)).alloc (.cells #[.int .i64 k, .int .i64 l] 27)).cell? ⟨w1.heap.size + 1, 0, none⟩ = some (.int .i64 k) := by simp [go_sem]
  have d1 : ((w1.alloc (.cells #[.int .i64 wd, .slice a1 cs.length c1] 25)).alloc (.cells #[.int .i64 k, .int .i64 l] 27)).cell? ⟨w1.heap.size + 1, 1, none⟩ = some (.int .i64 l) := by simp [go_sem]
  have hBs1 := bcall hb_w1 (by omega) hbS1
  clear hb_w1
  clear hbS1
  go_wp2_with fail
  refine (drawGridPut_any a' n' cap' f' _ h' hsm' hm'.1 hm'.2).mono ?_
  rintro e w2 ⟨wd2, a2, c2, cs2, at2, k2, l2, rfl, hC2, hl2, hat3, hat4, hb_w2⟩
  have hz_w2 := hb_w2.size
  try simp at hz_w2
  replace g0 := keepc hb_w2 g0; replace g1 := keepc hb_w2 g1; replace d0 := keepc hb_w2 d0; replace d1 := keepc hb_w2 d1
  replace hC1 := hC1.below hb_w2
  replace h' := h'.below hb_w2
  have hB_w2 := bcall hBs1 (by first | omega | (simp; omega)) hb_w2
  clear hBs1 hb_w2
  have hbS2 : Below w2.heap.size w2 ((w2.alloc (.cells #[.int .i64 wd2, .slice a2 cs2.length c2] 25)).alloc (.cells #[.int .i64 k2, .int .i64 l2] 27)) := (by repeat (first | exact Below.refl _ _ | refine Below.alloc ?_ (by first | exact Nat.le_refl _ | (simp; done) | (simp; omega)) _ | refine Below.drew ?_ | refine Below.setCell ?_ (by first | exact Nat.le_refl _ | (simp; done) | (simp; omega)) _))
  replace g0 := keepc hbS2 g0; replace g1 := keepc hbS2 g1; replace d0 := keepc hbS2 d0; replace d1 := keepc hbS2 d1
  replace hC1 := hC1.below hbS2
  replace h' := h'.below hbS2
  have o0 : ((w2.alloc (.cells #[.int .i64 wd2, .slice a2 cs2.length c2] 25)).alloc (.cells #[.int .i64 k2, .int .i64 l2] 27)).cell? ⟨w2.heap.size, 0, none⟩ = some (.int .i64 wd2) := by simp [go_sem]
  have o1 : ((w2.alloc (.cells #[.int .i64 wd2, .slice a2 cs2.length c2] 25)).alloc (.cells #[.int .i64 k2, .int .i64 l2] 27)).cell? ⟨w2.heap.size, 1, none⟩ = some (.slice a2 cs2.length c2) := by simp [go_sem]
  have e0 : ((w2.alloc (.cells #[.int .i64 wd2, .slice a2 cs2.length c2] 25)).alloc (.cells #[.int .i64 k2, .int .i64 l2] 27)).cell? ⟨w2.heap.size + 1, 0, none⟩ = some (.int .i64 k2) := by simp [go_sem]
  have e1 : ((w2.alloc (.cells #[.int .i64 wd2, .slice a2 cs2.length c2] 25)).alloc (.cells #[.int .i64 k2, .int .i64 l2] 27)).cell? ⟨w2.heap.size + 1, 1, none⟩ = some (.int .i64 l2) := by simp [go_sem]
  have hBs2 := bcall hB_w2 (by omega) hbS2
  clear hB_w2
  clear hbS2
  clear o0 o1 h'
  obtain ⟨xw, xc, ok, hx⟩ : ∃ xw xc ok, putG wd cs at_ k l = (xw, xc, ok) := ⟨_, _, _, rfl⟩
  obtain ⟨yw, yc, fine, hy⟩ : ∃ yw yc fine, putG wd cs at2 k2 l2 = (yw, yc, fine) := ⟨_, _, _, rfl⟩
  have hxl : xc.length ≤ 1048576 := by have := putG_len3 hx; omega
  have hyl : yc.length ≤ 1048576 := by have := putG_len3 hy; omega
  have heq : eqL xw xw xc xc = true := by simp [eqL]
  go_wp2_with fail
  refine (put_spec hx a1 c1 _ hC1 (by omega)).mono ?_
  rintro e w3 ⟨v_w3, rfl, hO_w3, hb_w3⟩
  obtain ⟨a3, c3, rfl, hC3⟩ := hO_w3.slice
  clear hO_w3
  have hz_w3 := hb_w3.size
  try simp at hz_w3
  replace g0 := keepc hb_w3 g0; replace g1 := keepc hb_w3 g1; replace d0 := keepc hb_w3 d0; replace d1 := keepc hb_w3 d1; replace e0 := keepc hb_w3 e0; replace e1 := keepc hb_w3 e1
  replace hC1 := hC1.below hb_w3
  have hB_w3 := bcall hBs2 (by first | omega | (simp; omega)) hb_w3
  clear hBs2 hb_w3
  have hbS3 : Below w3.heap.size w3 (w3.alloc (.cells #[.int .i64 xw, .slice a3 xc.length c3] 25)) := (by repeat (first | exact Below.refl _ _ | refine Below.alloc ?_ (by first | exact Nat.le_refl _ | (simp; done) | (simp; omega)) _ | refine Below.drew ?_ | refine Below.setCell ?_ (by first | exact Nat.le_refl _ | (simp; done) | (simp; omega)) _))
  replace g0 := keepc hbS3 g0; replace g1 := keepc hbS3 g1; replace d0 := keepc hbS3 d0; replace d1 := keepc hbS3 d1; replace e0 := keepc hbS3 e0; replace e1 := keepc hbS3 e1
  replace hC1 := hC1.below hbS3
  replace hC3 := hC3.below hbS3
  have t0 : (w3.alloc (.cells #[.int .i64 xw, .slice a3 xc.length c3] 25)).cell? ⟨w3.heap.size, 0, none⟩ = some (.int .i64 xw) := by simp [go_sem]
  have t1 : (w3.alloc (.cells #[.int .i64 xw, .slice a3 xc.length c3] 25)).cell? ⟨w3.heap.size, 1, none⟩ = some (.slice a3 xc.length c3) := by simp [go_sem]
  have hBs3 := bcall hB_w3 (by omega) hbS3
  clear hB_w3
  clear hbS3
  go_wp2_with fail
  refine (put_impl hx a1 c1 _ hC1 (by omega)).mono ?_
  rintro e w4 ⟨v_w4, rfl, hO_w4, hb_w4⟩
  obtain ⟨a4, c4, rfl, hC4⟩ := hO_w4.slice
  clear hO_w4
  have hz_w4 := hb_w4.size
  try simp at hz_w4
  replace g0 := keepc hb_w4 g0; replace g1 := keepc hb_w4 g1; replace d0 := keepc hb_w4 d0; replace d1 := keepc hb_w4 d1; replace e0 := keepc hb_w4 e0; replace e1 := keepc hb_w4 e1; replace t0 := keepc hb_w4 t0; replace t1 := keepc hb_w4 t1
  replace hC1 := hC1.below hb_w4
  replace hC3 := hC3.below hb_w4
  have hB_w4 := bcall hBs3 (by first | omega | (simp; omega)) hb_w4
  clear hBs3 hb_w4
  have hbS4 : Below w4.heap.size w4 (w4.alloc (.cells #[.int .i64 xw, .slice a4 xc.length c4] 25)) := (by repeat (first | exact Below.refl _ _ | refine Below.alloc ?_ (by first | exact Nat.le_refl _ | (simp; done) | (simp; omega)) _ | refine Below.drew ?_ | refine Below.setCell ?_ (by first | exact Nat.le_refl _ | (simp; done) | (simp; omega)) _))
  replace g0 := keepc hbS4 g0; replace g1 := keepc hbS4 g1; replace d0 := keepc hbS4 d0; replace d1 := keepc hbS4 d1; replace e0 := keepc hbS4 e0; replace e1 := keepc hbS4 e1; replace t0 := keepc hbS4 t0; replace t1 := keepc hbS4 t1
  replace hC1 := hC1.below hbS4
  replace hC3 := hC3.below hbS4
  replace hC4 := hC4.below hbS4
  have x0 : (w4.alloc (.cells #[.int .i64 xw, .slice a4 xc.length c4] 25)).cell? ⟨w4.heap.size, 0, none⟩ = some (.int .i64 xw) := by simp [go_sem]
  have x1 : (w4.alloc (.cells #[.int .i64 xw, .slice a4 xc.length c4] 25)).cell? ⟨w4.heap.size, 1, none⟩ = some (.slice a4 xc.length c4) := by simp [go_sem]
  have hBs4 := bcall hB_w4 (by omega) hbS4
  clear hB_w4
  clear hbS4
  go_wp2_with fail
  refine (put_impl hy a1 c1 _ hC1 (by omega)).mono ?_
  rintro e w5 ⟨v_w5, rfl, hO_w5, hb_w5⟩
  obtain ⟨a5, c5, rfl, hC5⟩ := hO_w5.slice
  clear hO_w5
  have hz_w5 := hb_w5.size
  try simp at hz_w5
  replace g0 := keepc hb_w5 g0; replace g1 := keepc hb_w5 g1; replace d0 := keepc hb_w5 d0; replace d1 := keepc hb_w5 d1; replace e0 := keepc hb_w5 e0; replace e1 := keepc hb_w5 e1; replace t0 := keepc hb_w5 t0; replace t1 := keepc hb_w5 t1; replace x0 := keepc hb_w5 x0; replace x1 := keepc hb_w5 x1
  replace hC1 := hC1.below hb_w5
  replace hC3 := hC3.below hb_w5
  replace hC4 := hC4.below hb_w5
  have hB_w5 := bcall hBs4 (by first | omega | (simp; omega)) hb_w5
  clear hBs4 hb_w5
  have hbS5 : Below w5.heap.size w5 (w5.alloc (.cells #[.int .i64 yw, .slice a5 yc.length c5] 25)) := (by repeat (first | exact Below.refl _ _ | refine Below.alloc ?_ (by first | exact Nat.le_refl _ | (simp; done) | (simp; omega)) _ | refine Below.drew ?_ | refine Below.setCell ?_ (by first | exact Nat.le_refl _ | (simp; done) | (simp; omega)) _))
  replace g0 := keepc hbS5 g0; replace g1 := keepc hbS5 g1; replace d0 := keepc hbS5 d0; replace d1 := keepc hbS5 d1; replace e0 := keepc hbS5 e0; replace e1 := keepc hbS5 e1; replace t0 := keepc hbS5 t0; replace t1 := keepc hbS5 t1; replace x0 := keepc hbS5 x0; replace x1 := keepc hbS5 x1
  replace hC1 := hC1.below hbS5
  replace hC3 := hC3.below hbS5
  replace hC4 := hC4.below hbS5
  replace hC5 := hC5.below hbS5
  have y0 : (w5.alloc (.cells #[.int .i64 yw, .slice a5 yc.length c5] 25)).cell? ⟨w5.heap.size, 0, none⟩ = some (.int .i64 yw) := by simp [go_sem]
  have y1 : (w5.alloc (.cells #[.int .i64 yw, .slice a5 yc.length c5] 25)).cell? ⟨w5.heap.size, 1, none⟩ = some (.slice a5 yc.length c5) := by simp [go_sem]
  have hBs5 := bcall hB_w5 (by omega) hbS5
  clear hB_w5
  clear hbS5
  clear g0 g1 hC1
  cases ok with
  | false =>
    clear hx hy
    go_wp2_with fail
    refine (llGrid_any _ _ _ _ _ _ xc xc _ hC4 hC3 hxl hxl).mono ?_
    rintro e w6 ⟨rfl, hb_w6⟩
    have hz_w6 := hb_w6.size
    try simp at hz_w6
    replace d0 := keepc hb_w6 d0; replace d1 := keepc hb_w6 d1; replace e0 := keepc hb_w6 e0; replace e1 := keepc hb_w6 e1; replace t0 := keepc hb_w6 t0; replace t1 := keepc hb_w6 t1; replace x0 := keepc hb_w6 x0; replace x1 := keepc hb_w6 x1; replace y0 := keepc hb_w6 y0; replace y1 := keepc hb_w6 y1
    replace hC3 := hC3.below hb_w6
    replace hC4 := hC4.below hb_w6
    replace hC5 := hC5.below hb_w6
    have hB_w6 := bcall hBs5 (by first | omega | (simp; omega)) hb_w6
    clear hBs5 hb_w6
    go_wp2_with fail
    refine (llGrid_any _ _ _ _ _ _ xc xc _ hC4 hC3 hxl hxl).mono ?_
    rintro e w7 ⟨rfl, hb_w7⟩
    have hz_w7 := hb_w7.size
    try simp at hz_w7
    replace d0 := keepc hb_w7 d0; replace d1 := keepc hb_w7 d1; replace e0 := keepc hb_w7 e0; replace e1 := keepc hb_w7 e1; replace t0 := keepc hb_w7 t0; replace t1 := keepc hb_w7 t1; replace x0 := keepc hb_w7 x0; replace x1 := keepc hb_w7 x1; replace y0 := keepc hb_w7 y0; replace y1 := keepc hb_w7 y1
    replace hC3 := hC3.below hb_w7
    replace hC4 := hC4.below hb_w7
    replace hC5 := hC5.below hb_w7
    have hB_w7 := bcall hB_w6 (by first | omega | (simp; omega)) hb_w7
    clear hB_w6 hb_w7
    go_wp2
    go_ret
    exact ⟨rfl, hB_w7⟩
  | true =>
    cases fine with
    | false =>
      clear hx hy
      go_wp2_with fail
      refine (llGrid_any _ _ _ _ _ _ xc xc _ hC4 hC3 hxl hxl).mono ?_
      rintro e w6 ⟨rfl, hb_w6⟩
      have hz_w6 := hb_w6.size
      try simp at hz_w6
      replace d0 := keepc hb_w6 d0; replace d1 := keepc hb_w6 d1; replace e0 := keepc hb_w6 e0; replace e1 := keepc hb_w6 e1; replace t0 := keepc hb_w6 t0; replace t1 := keepc hb_w6 t1; replace x0 := keepc hb_w6 x0; replace x1 := keepc hb_w6 x1; replace y0 := keepc hb_w6 y0; replace y1 := keepc hb_w6 y1
      replace hC3 := hC3.below hb_w6
      replace hC4 := hC4.below hb_w6
      replace hC5 := hC5.below hb_w6
      have hB_w6 := bcall hBs5 (by first | omega | (simp; omega)) hb_w6
      clear hBs5 hb_w6
      go_wp2_with fail
      refine (llGrid_any _ _ _ _ _ _ xc xc _ hC4 hC3 hxl hxl).mono ?_
      rintro e w7 ⟨rfl, hb_w7⟩
      have hz_w7 := hb_w7.size
      try simp at hz_w7
      replace d0 := keepc hb_w7 d0; replace d1 := keepc hb_w7 d1; replace e0 := keepc hb_w7 e0; replace e1 := keepc hb_w7 e1; replace t0 := keepc hb_w7 t0; replace t1 := keepc hb_w7 t1; replace x0 := keepc hb_w7 x0; replace x1 := keepc hb_w7 x1; replace y0 := keepc hb_w7 y0; replace y1 := keepc hb_w7 y1
      replace hC3 := hC3.below hb_w7
      replace hC4 := hC4.below hb_w7
      replace hC5 := hC5.below hb_w7
      have hB_w7 := bcall hB_w6 (by first | omega | (simp; omega)) hb_w7
      clear hB_w6 hb_w7
      go_wp2
      go_ret
      exact ⟨rfl, hB_w7⟩
    | true =>
      obtain ⟨zc, uc, hA, hB, e1, e2, same, apart⟩ := put_two hx hy
      have HS : Hid (at_ = at2 → zc = yc) := same
      have HA : Hid (at_ ≠ at2 → zc = uc) := apart
      have HX : Hid (xw = wd ∧ yw = wd) := ⟨e1, e2⟩
      have PA : Hid (putG xw xc at2 k2 l2 = (wd, zc, true)) := hA
      have PB : Hid (putG yw yc at_ k l = (wd, uc, true)) := hB
      have hzl : zc.length ≤ 1048576 := by have := putG_len3 hA; omega
      have hul : uc.length ≤ 1048576 := by have := putG_len3 hB; omega
      clear hx hy hA hB same apart e1 e2
      go_wp2_with fail
      refine (llGrid_any _ _ _ _ _ _ xc xc _ hC4 hC3 hxl hxl).mono ?_
      rintro e w6 ⟨rfl, hb_w6⟩
      have hz_w6 := hb_w6.size
      try simp at hz_w6
      replace d0 := keepc hb_w6 d0; replace d1 := keepc hb_w6 d1; replace e0 := keepc hb_w6 e0; replace e1 := keepc hb_w6 e1; replace t0 := keepc hb_w6 t0; replace t1 := keepc hb_w6 t1; replace x0 := keepc hb_w6 x0; replace x1 := keepc hb_w6 x1; replace y0 := keepc hb_w6 y0; replace y1 := keepc hb_w6 y1
      replace hC3 := hC3.below hb_w6
      replace hC4 := hC4.below hb_w6
      replace hC5 := hC5.below hb_w6
      have hB_w6 := bcall hBs5 (by first | omega | (simp; omega)) hb_w6
      clear hBs5 hb_w6
      clear t0 t1 hC3
      go_wp2_with fail
      refine (put_impl PA.out a4 c4 _ hC4 hxl).mono ?_
      rintro e w7 ⟨v_w7, rfl, hO_w7, hb_w7⟩
      obtain ⟨a7, c7, rfl, hC7⟩ := hO_w7.slice
      clear hO_w7
      have hz_w7 := hb_w7.size
      try simp at hz_w7
      replace d0 := keepc hb_w7 d0; replace d1 := keepc hb_w7 d1; replace e0 := keepc hb_w7 e0; replace e1 := keepc hb_w7 e1; replace x0 := keepc hb_w7 x0; replace x1 := keepc hb_w7 x1; replace y0 := keepc hb_w7 y0; replace y1 := keepc hb_w7 y1
      replace hC4 := hC4.below hb_w7
      replace hC5 := hC5.below hb_w7
      have hB_w7 := bcall hB_w6 (by first | omega | (simp; omega)) hb_w7
      clear hB_w6 hb_w7
      have hbS6 : Below w7.heap.size w7 (w7.alloc (.cells #[.int .i64 wd, .slice a7 zc.length c7] 25)) := (by repeat (first | exact Below.refl _ _ | refine Below.alloc ?_ (by first | exact Nat.le_refl _ | (simp; done) | (simp; omega)) _ | refine Below.drew ?_ | refine Below.setCell ?_ (by first | exact Nat.le_refl _ | (simp; done) | (simp; omega)) _))
      replace d0 := keepc hbS6 d0; replace d1 := keepc hbS6 d1; replace e0 := keepc hbS6 e0; replace e1 := keepc hbS6 e1; replace x0 := keepc hbS6 x0; replace x1 := keepc hbS6 x1; replace y0 := keepc hbS6 y0; replace y1 := keepc hbS6 y1
      replace hC4 := hC4.below hbS6
      replace hC5 := hC5.below hbS6
      replace hC7 := hC7.below hbS6
      have z0 : (w7.alloc (.cells #[.int .i64 wd, .slice a7 zc.length c7] 25)).cell? ⟨w7.heap.size, 0, none⟩ = some (.int .i64 wd) := by simp [go_sem]
      have z1 : (w7.alloc (.cells #[.int .i64 wd, .slice a7 zc.length c7] 25)).cell? ⟨w7.heap.size, 1, none⟩ = some (.slice a7 zc.length c7) := by simp [go_sem]
      have hBs6 := bcall hB_w7 (by omega) hbS6
      clear hB_w7
      clear hbS6
      clear x0 x1 hC4
      go_wp2_with fail
      refine (put_impl PB.out a5 c5 _ hC5 hyl).mono ?_
      rintro e w8 ⟨v_w8, rfl, hO_w8, hb_w8⟩
      obtain ⟨a8, c8, rfl, hC8⟩ := hO_w8.slice
      clear hO_w8
      have hz_w8 := hb_w8.size
      try simp at hz_w8
      replace d0 := keepc hb_w8 d0; replace d1 := keepc hb_w8 d1; replace e0 := keepc hb_w8 e0; replace e1 := keepc hb_w8 e1; replace y0 := keepc hb_w8 y0; replace y1 := keepc hb_w8 y1; replace z0 := keepc hb_w8 z0; replace z1 := keepc hb_w8 z1
      replace hC5 := hC5.below hb_w8
      replace hC7 := hC7.below hb_w8
      have hB_w8 := bcall hBs6 (by first | omega | (simp; omega)) hb_w8
      clear hBs6 hb_w8
      have hbS7 : Below w8.heap.size w8 (w8.alloc (.cells #[.int .i64 wd, .slice a8 uc.length c8] 25)) := (by repeat (first | exact Below.refl _ _ | refine Below.alloc ?_ (by first | exact Nat.le_refl _ | (simp; done) | (simp; omega)) _ | refine Below.drew ?_ | refine Below.setCell ?_ (by first | exact Nat.le_refl _ | (simp; done) | (simp; omega)) _))
      replace d0 := keepc hbS7 d0; replace d1 := keepc hbS7 d1; replace e0 := keepc hbS7 e0; replace e1 := keepc hbS7 e1; replace y0 := keepc hbS7 y0; replace y1 := keepc hbS7 y1; replace z0 := keepc hbS7 z0; replace z1 := keepc hbS7 z1
      replace hC5 := hC5.below hbS7
      replace hC7 := hC7.below hbS7
      replace hC8 := hC8.below hbS7
      have u0 : (w8.alloc (.cells #[.int .i64 wd, .slice a8 uc.length c8] 25)).cell? ⟨w8.heap.size, 0, none⟩ = some (.int .i64 wd) := by simp [go_sem]
      have u1 : (w8.alloc (.cells #[.int .i64 wd, .slice a8 uc.length c8] 25)).cell? ⟨w8.heap.size, 1, none⟩ = some (.slice a8 uc.length c8) := by simp [go_sem]
      have hBs7 := bcall hB_w8 (by omega) hbS7
      clear hB_w8
      clear hbS7
      clear d0 d1 e0 e1
      by_cases he : at_ = at2
      · have b1 : ((at_ : Int) == at2) = true := by simp [he]
        have hq : eqL wd yw zc yc = true := by obtain ⟨_, q⟩ := HX.out; simp [eqL, HS.out he, q]
        clear he
        go_wp2_with fail
        refine (llGrid_any _ _ _ _ _ _ zc yc _ hC7 hC5 hzl hyl).mono ?_
        rintro e w9 ⟨rfl, hb_w9⟩
        have hz_w9 := hb_w9.size
        try simp at hz_w9
        replace y0 := keepc hb_w9 y0; replace y1 := keepc hb_w9 y1; replace z0 := keepc hb_w9 z0; replace z1 := keepc hb_w9 z1; replace u0 := keepc hb_w9 u0; replace u1 := keepc hb_w9 u1
        replace hC5 := hC5.below hb_w9
        replace hC7 := hC7.below hb_w9
        replace hC8 := hC8.below hb_w9
        have hB_w9 := bcall hBs7 (by first | omega | (simp; omega)) hb_w9
        clear hBs7 hb_w9
        go_wp2
        go_ret
        exact ⟨rfl, hB_w9⟩
      · have b1 : ((at_ : Int) == at2) = false := by simp [he]
        have hq : eqL wd wd zc uc = true := by simp [eqL, HA.out he]
        clear he
        go_wp2_with fail
        refine (llGrid_any _ _ _ _ _ _ zc uc _ hC7 hC8 hzl hul).mono ?_
        rintro e w9 ⟨rfl, hb_w9⟩
        have hz_w9 := hb_w9.size
        try simp at hz_w9
        replace y0 := keepc hb_w9 y0; replace y1 := keepc hb_w9 y1; replace z0 := keepc hb_w9 z0; replace z1 := keepc hb_w9 z1; replace u0 := keepc hb_w9 u0; replace u1 := keepc hb_w9 u1
        replace hC5 := hC5.below hb_w9
        replace hC7 := hC7.below hb_w9
        replace hC8 := hC8.below hb_w9
        have hB_w9 := bcall hBs7 (by first | omega | (simp; omega)) hb_w9
        clear hBs7 hb_w9
        go_wp2
        go_ret
        exact ⟨rfl, hB_w9⟩

theorem walk (a : Option Addr) (n cap : Nat) (f : Nat → Int) (a' : Option Addr) (n' cap' : Nat) (f' : Nat → Int) (w : World) (h : BytesAt w a n f) (hm : n ≤ cap ∧ cap ≤ 9223372036854775807) (h' : BytesAt w a' n' f') (hm' : n' ≤ cap' ∧ cap' ≤ 9223372036854775807) :
    Calls Try.prog 4 #[.slice a n cap, .slice a' n' cap'] w fun e w' => e = .returned (.bool true) ∧ Below w.heap.size w w' := by
  by_cases hs : n ≤ 1048576
  · by_cases hs' : n' ≤ 1048576
    · exact small a n cap f a' n' cap' f' w h hm h' hm' hs hs'
    · exact big' a n cap f a' n' cap' f' w h hm h' hm' hs (by omega)
  · exact big a n cap f a' n' cap' f' w h hm h' hm' (by omega)

set_option maxRecDepth 100000 in
theorem lifted (os : Os) (started : os.Started) (H : Type) (enc : TypeId × Value → H) :
    ReturnsInHanded {} Try.checked os 4 .any (Rows.fnPutLastSpec.pre6 enc Try.prog Try.f4 Rows.fnPutLastRow.domain false) (Rows.fnPutLastSpec.post enc Try.prog Try.f4 false true false false) := by
  refine returnsInHanded_of_change (C := Try.checked) own started (by kernel_rfl) Try.func4
    (ChangeSpec.witness6 (enc := enc) (C := Try.checked) false ⟨#[], #[.slice none 0 0, .slice none 0 0], []⟩ 8 (by kernel_rfl) (by kernel_rfl) (by kernel_rfl) (by kernel_rfl)) ?_
  intro W base args ds gs before hval0 hW hcnd _
  have hval : ∀ (j : Nat) t v, Try.f4.params[j]? = some t → args[j]? = some v → Value.okWide Try.prog W .any base t v := hval0
  have hW' := hW
  obtain ⟨p, q, hA0, hV, rfl, hfz, hnd⟩ := hW
  have hA : DataW.TrodAll enc Try.prog W 0 (fun _ => true) true Try.f4.params.toList args.toList ds p := hA0
  rw [Try.params4] at hA hval
  obtain ⟨v0, vs0, d0, ds0, p0, q0, hargs, rfl, rfl, h0, r0⟩ := trodAll_cons hA
  obtain ⟨v1, vs1, d1, ds1, p1, q1, rfl, rfl, rfl, h1, r1⟩ := trodAll_cons r0
  obtain ⟨rfl, rfl, rfl⟩ := trodAll_nil r1
  obtain rfl : args = #[v0, v1] := by cases args; simp_all
  obtain ⟨rfl, rfl⟩ := trodVars_none hV
  have k0 := h0
  have lt0 : ∀ x ∈ p0, x.block < W.heap.size := by obtain ⟨m, hm⟩ := k0; exact DataW.trod_lt m _ _ _ hm
  obtain ⟨a0, n0, cap0, f0, rfl, hC0, hm0⟩ := open_bytes (hval 0 22 v0 rfl rfl) h0
  have k1 := h1
  have lt1 : ∀ x ∈ p1, x.block < W.heap.size := by obtain ⟨m, hm⟩ := k1; exact DataW.trod_lt m _ _ _ hm
  obtain ⟨a1, n1, cap1, f1, rfl, hC1, hm1⟩ := open_bytes (hval 1 22 v1 rfl rfl) h1
  clear hA0 hval0
  refine (walk a0 n0 cap0 f0 a1 n1 cap1 f1 W hC0 hm0 hC1 hm1).mono fun e W' ⟨he, bel⟩ => ?_
  subst he
  exact ⟨_, rfl, _, _, _, [], _, [], hW', trodAll_mk1 (shut_bool Try.underlying4 _), (trodAll_cons_mk (Below.trod laidOut (by kernel_rfl) (of_decide_eq_true (by kernel_rfl)) k0 bel lt0) (trodAll_cons_mk (Below.trod laidOut (by kernel_rfl) (of_decide_eq_true (by kernel_rfl)) k1 bel lt1) trodAll_mk0)), rfl, bel.frame _, fun h => by cases h⟩

theorem over : Rows.fnPutLastRow.holds Try.pinned (OpenSpec.ofChange Rows.fnPutLastSpec) :=
  OpenClaim.holds_of_wide 4 Try.f4 rfl rfl rfl rfl rfl rfl rfl ⟨rfl, rfl, rfl, rfl, rfl⟩ rfl rfl rfl rfl rfl (by kernel_rfl) Try.func4 (by kernel_rfl)
    (of_decide_eq_true (by kernel_rfl)) (by unfold Func.isWrapper; first | (rw [if_pos (by decide +kernel)]; kernel_rfl) | (rw [if_neg (by decide +kernel)]; exact ⟨rfl, rfl⟩))
    (fun os started H enc _ => lifted os started H enc)

end Go.Proofs.Ytmnninhifiajhaa.LwPutLast

namespace Go.Proofs.Ytmnninhifiajhaa
/-- The statement. -/
theorem lwPutLast : Rows.FnPutLastSaid := LwPutLast.over
#print axioms lwPutLast
end Go.Proofs.Ytmnninhifiajhaa
