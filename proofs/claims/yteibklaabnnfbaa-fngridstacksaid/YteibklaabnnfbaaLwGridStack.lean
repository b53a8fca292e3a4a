/-
  'laws.FnGridStack' returns true for all codes: rows behind rows are a grid. No condition.
-/
import Derived.Test.YteibklaabnnfbaaRz
import Derived.Laws.Concat
namespace Go.Proofs.Yteibklaabnnfbaa.LwGridStack
open Go.ChangeShapes Go.WideShapes Go.ChangeAt Go.RowKit
set_option linter.unusedVariables false
attribute [local go_sem ↓] Go.wp_at_zero Go.wp_at_succ

theorem str_join (x y : List UInt8) : str x ++ str y = str (x ++ y) := by
  apply ByteArray.ext
  simp [str]
theorem readA {wd : Int} {cs : List (Int × Int)} {tx : List UInt8} (hok : okG wd cs = true) (hx : textG wd cs = tx) (w : World) (hm : tx.length ≤ 1048576) :
    Calls Try.prog 8 #[.string (str tx)] w fun e w' => ∃ v, e = .returned (.tuple #[.agg #[.int .i64 wd, v], .bool true]) ∧ Own w' w.heap.size v cs ∧ Below w.heap.size w w' := by
  refine (implGridRead_any tx w hm).mono ?_
  rintro e w' ⟨h, hb⟩
  rcases h with ⟨wd2, v, ds, k1, k2, rfl, hO⟩ | ⟨k, _⟩
  · obtain ⟨rfl, rfl⟩ := text_inj wd wd2 cs ds hok k1 (hx.trans k2.symm)
    exact ⟨v, rfl, hO, hb⟩
  · exact absurd hx (k wd cs hok)
theorem readB {tx : List UInt8} (hno : ∀ x es, okG x es = true → textG x es ≠ tx) (w : World) (hm : tx.length ≤ 1048576) :
    Calls Try.prog 8 #[.string (str tx)] w fun e w' => e = .returned (.tuple #[.agg #[.int .i64 0, .slice none 0 0], .bool false]) ∧ Below w.heap.size w w' := by
  refine (implGridRead_any tx w hm).mono ?_
  rintro e w' ⟨h, hb⟩
  rcases h with ⟨wd2, v, ds, k1, k2, rfl, hO⟩ | ⟨k, rfl⟩
  · exact absurd k2 (hno wd2 ds k1)
  · exact ⟨rfl, hb⟩

/-- Too long a code. -/
theorem big (a : Option Addr) (n cap : Nat) (f : Nat → Int) (a' : Option Addr) (n' cap' : Nat) (f' : Nat → Int) (w : World) (h : BytesAt w a n f) (hm : n ≤ cap ∧ cap ≤ 9223372036854775807) (h' : BytesAt w a' n' f') (hm' : n' ≤ cap' ∧ cap' ≤ 9223372036854775807) (hbig : 1048576 < n) :
    Calls Try.prog 4 #[.slice a n cap, .slice a' n' cap'] w fun e w' => e = .returned (.bool true) ∧ Below w.heap.size w w' := by
  have hb : (1048576 : Int) < (n : Int) := by omega
  go_enter Try.func4, Try.ntmps4
  go_wp2
  go_ret
  exact ⟨rfl, Below.refl _ _⟩
theorem big' (a : Option Addr) (n cap : Nat) (f : Nat → Int) (a' : Option Addr) (n' cap' : Nat) (f' : Nat → Int) (w : World) (h : BytesAt w a n f) (hm : n ≤ cap ∧ cap ≤ 9223372036854775807) (h' : BytesAt w a' n' f') (hm' : n' ≤ cap' ∧ cap' ≤ 9223372036854775807) (hsm : n ≤ 1048576) (hbig : 1048576 < n') :
    Calls Try.prog 4 #[.slice a n cap, .slice a' n' cap'] w fun e w' => e = .returned (.bool true) ∧ Below w.heap.size w w' := by
  have hb : (n : Int) ≤ 1048576 := by omega
  have hb' : (1048576 : Int) < (n' : Int) := by omega
  go_enter Try.func4, Try.ntmps4
  go_wp2
  go_ret
  exact ⟨rfl, Below.refl _ _⟩

set_option maxRecDepth 100000 in
set_option maxHeartbeats 4000000 in
theorem small (a : Option Addr) (n cap : Nat) (f : Nat → Int) (a' : Option Addr) (n' cap' : Nat) (f' : Nat → Int) (w : World) (h : BytesAt w a n f) (hm : n ≤ cap ∧ cap ≤ 9223372036854775807) (h' : BytesAt w a' n' f') (hm' : n' ≤ cap' ∧ cap' ≤ 9223372036854775807) (hsm : n ≤ 1048576) (hsm' : n' ≤ 1048576) :
    Calls Try.prog 4 #[.slice a n cap, .slice a' n' cap'] w fun e w' => e = .returned (.bool true) ∧ Below w.heap.size w w' := by
  have hb : (n : Int) ≤ 1048576 := by omega
  have hb' : (n' : Int) ≤ 1048576 := by omega
  go_enter Try.func4, Try.ntmps4
  go_wp2_with fail
  refine (drawGridText_any a n cap f w h hsm hm.1 hm.2).mono ?_
  rintro e w1 ⟨wd, a1, c1, cs, rfl, hC1, hl1, hb_w1⟩
  have hz_w1 := hb_w1.size
  try simp at hz_w1
  replace h' := h'.below hb_w1
  have hbS1 : Below w1.heap.size w1 (w1.alloc (.cells #[.int .i64 wd, .slice a1 cs.length c1] 26)) := (by repeat (first | exact Below.refl _ _ | refine Below.alloc ?_ (by first | exact Nat.le_refl _ | (simp; done) | (simp; omega)) _ | refine Below.drew ?_ | refine Below.setCell ?_ (by first | exact Nat.le_refl _ | (simp; done) | (simp; omega)) _))
  replace hC1 := hC1.below hbS1
  replace h' := h'.below hbS1
  have g0 : (w1.alloc (.cells #[.int .i64 wd, .slice a1 cs.length c1] 26)).cell? ⟨w1.heap.size, 0, none⟩ = some (.int .i64 wd) := by simp [go_sem]
  have g1 : (w1.alloc (.cells #[.int .i64 wd, .slice a1 cs.length c1] 26)).cell? ⟨w1.heap.size, 1, none⟩ = some (.slice a1 cs.length c1) := by simp [go_sem]
  have hBs1 := bcall hb_w1 (by omega) hbS1
  clear hb_w1
  clear hbS1
  go_wp2_with fail
  refine (drawGridText_any a' n' cap' f' _ h' hsm' hm'.1 hm'.2).mono ?_
  rintro e w2 ⟨wd2, a2, c2, ds, rfl, hC2, hl2, hb_w2⟩
  have hz_w2 := hb_w2.size
  try simp at hz_w2
  replace g0 := keepc hb_w2 g0; replace g1 := keepc hb_w2 g1
  replace hC1 := hC1.below hb_w2
  replace h' := h'.below hb_w2
  have hB_w2 := bcall hBs1 (by first | omega | (simp; omega)) hb_w2
  clear hBs1 hb_w2
  clear h'
  have hbS2 : Below w2.heap.size w2 (w2.alloc (.cells #[.int .i64 wd2, .slice a2 ds.length c2] 26)) := (by repeat (first | exact Below.refl _ _ | refine Below.alloc ?_ (by first | exact Nat.le_refl _ | (simp; done) | (simp; omega)) _ | refine Below.drew ?_ | refine Below.setCell ?_ (by first | exact Nat.le_refl _ | (simp; done) | (simp; omega)) _))
  replace g0 := keepc hbS2 g0; replace g1 := keepc hbS2 g1
  replace hC1 := hC1.below hbS2
  replace hC2 := hC2.below hbS2
  have o0 : (w2.alloc (.cells #[.int .i64 wd2, .slice a2 ds.length c2] 26)).cell? ⟨w2.heap.size, 0, none⟩ = some (.int .i64 wd2) := by simp [go_sem]
  have o1 : (w2.alloc (.cells #[.int .i64 wd2, .slice a2 ds.length c2] 26)).cell? ⟨w2.heap.size, 1, none⟩ = some (.slice a2 ds.length c2) := by simp [go_sem]
  have hBs2 := bcall hB_w2 (by omega) hbS2
  clear hB_w2
  clear hbS2
  obtain ⟨tx, hx⟩ : ∃ tx, textG wd cs = tx := ⟨_, rfl⟩
  obtain ⟨ty, hy⟩ : ∃ ty, textG wd2 ds = ty := ⟨_, rfl⟩
  have HX : Hid (textG wd cs = tx) := hx
  have HY : Hid (textG wd2 ds = ty) := hy
  clear hx hy
  go_wp2_with fail
  refine (text_impl HX.out a1 c1 _ hC1 (by omega)).mono ?_
  rintro e w3 ⟨rfl, hb_w3⟩
  have hz_w3 := hb_w3.size
  try simp at hz_w3
  replace g0 := keepc hb_w3 g0; replace g1 := keepc hb_w3 g1; replace o0 := keepc hb_w3 o0; replace o1 := keepc hb_w3 o1
  replace hC1 := hC1.below hb_w3
  replace hC2 := hC2.below hb_w3
  have hB_w3 := bcall hBs2 (by first | omega | (simp; omega)) hb_w3
  clear hBs2 hb_w3
  go_wp2_with fail
  refine (text_impl HY.out a2 c2 _ hC2 (by omega)).mono ?_
  rintro e w4 ⟨rfl, hb_w4⟩
  have hz_w4 := hb_w4.size
  try simp at hz_w4
  replace g0 := keepc hb_w4 g0; replace g1 := keepc hb_w4 g1; replace o0 := keepc hb_w4 o0; replace o1 := keepc hb_w4 o1
  replace hC1 := hC1.below hb_w4
  replace hC2 := hC2.below hb_w4
  have hB_w4 := bcall hB_w3 (by first | omega | (simp; omega)) hb_w4
  clear hB_w3 hb_w4
  have n1 : ((str tx).toList == (str tx).toList) = true := by simp
  have n2 : ((str ty).toList == (str ty).toList) = true := by simp
  by_cases ex : tx = []
  · have e1 : (str tx).toList.isEmpty = true := by rw [str_empty]; simp [ex]
    clear ex
    go_wp2_with fail
    refine (text_spec HX.out a1 c1 _ hC1 (by omega)).mono ?_
    rintro e w5 ⟨rfl, hb_w5⟩
    have hz_w5 := hb_w5.size
    try simp at hz_w5
    replace g0 := keepc hb_w5 g0; replace g1 := keepc hb_w5 g1; replace o0 := keepc hb_w5 o0; replace o1 := keepc hb_w5 o1
    replace hC1 := hC1.below hb_w5
    replace hC2 := hC2.below hb_w5
    have hB_w5 := bcall hB_w4 (by first | omega | (simp; omega)) hb_w5
    clear hB_w4 hb_w5
    go_wp2_with fail
    refine (text_spec HY.out a2 c2 _ hC2 (by omega)).mono ?_
    rintro e w6 ⟨rfl, hb_w6⟩
    have hz_w6 := hb_w6.size
    try simp at hz_w6
    replace g0 := keepc hb_w6 g0; replace g1 := keepc hb_w6 g1; replace o0 := keepc hb_w6 o0; replace o1 := keepc hb_w6 o1
    replace hC1 := hC1.below hb_w6
    replace hC2 := hC2.below hb_w6
    have hB_w6 := bcall hB_w5 (by first | omega | (simp; omega)) hb_w6
    clear hB_w5 hb_w6
    go_wp2_with fail
    refine (text_spec HX.out a1 c1 _ hC1 (by omega)).mono ?_
    rintro e w7 ⟨rfl, hb_w7⟩
    have hz_w7 := hb_w7.size
    try simp at hz_w7
    replace g0 := keepc hb_w7 g0; replace g1 := keepc hb_w7 g1; replace o0 := keepc hb_w7 o0; replace o1 := keepc hb_w7 o1
    replace hC1 := hC1.below hb_w7
    replace hC2 := hC2.below hb_w7
    have hB_w7 := bcall hB_w6 (by first | omega | (simp; omega)) hb_w7
    clear hB_w6 hb_w7
    go_wp2_with fail
    refine (text_spec HY.out a2 c2 _ hC2 (by omega)).mono ?_
    rintro e w8 ⟨rfl, hb_w8⟩
    have hz_w8 := hb_w8.size
    try simp at hz_w8
    replace g0 := keepc hb_w8 g0; replace g1 := keepc hb_w8 g1; replace o0 := keepc hb_w8 o0; replace o1 := keepc hb_w8 o1
    replace hC1 := hC1.below hb_w8
    replace hC2 := hC2.below hb_w8
    have hB_w8 := bcall hB_w7 (by first | omega | (simp; omega)) hb_w8
    clear hB_w7 hb_w8
    go_wp2
    go_ret
    exact ⟨rfl, hB_w8⟩
  by_cases ey : ty = []
  · have e1 : (str tx).toList.isEmpty = false := by rw [str_empty]; simp [ex]
    have e2 : (str ty).toList.isEmpty = true := by rw [str_empty]; simp [ey]
    clear ex ey
    go_wp2_with fail
    refine (text_spec HX.out a1 c1 _ hC1 (by omega)).mono ?_
    rintro e w5 ⟨rfl, hb_w5⟩
    have hz_w5 := hb_w5.size
    try simp at hz_w5
    replace g0 := keepc hb_w5 g0; replace g1 := keepc hb_w5 g1; replace o0 := keepc hb_w5 o0; replace o1 := keepc hb_w5 o1
    replace hC1 := hC1.below hb_w5
    replace hC2 := hC2.below hb_w5
    have hB_w5 := bcall hB_w4 (by first | omega | (simp; omega)) hb_w5
    clear hB_w4 hb_w5
    go_wp2_with fail
    refine (text_spec HY.out a2 c2 _ hC2 (by omega)).mono ?_
    rintro e w6 ⟨rfl, hb_w6⟩
    have hz_w6 := hb_w6.size
    try simp at hz_w6
    replace g0 := keepc hb_w6 g0; replace g1 := keepc hb_w6 g1; replace o0 := keepc hb_w6 o0; replace o1 := keepc hb_w6 o1
    replace hC1 := hC1.below hb_w6
    replace hC2 := hC2.below hb_w6
    have hB_w6 := bcall hB_w5 (by first | omega | (simp; omega)) hb_w6
    clear hB_w5 hb_w6
    go_wp2_with fail
    refine (text_spec HX.out a1 c1 _ hC1 (by omega)).mono ?_
    rintro e w7 ⟨rfl, hb_w7⟩
    have hz_w7 := hb_w7.size
    try simp at hz_w7
    replace g0 := keepc hb_w7 g0; replace g1 := keepc hb_w7 g1; replace o0 := keepc hb_w7 o0; replace o1 := keepc hb_w7 o1
    replace hC1 := hC1.below hb_w7
    replace hC2 := hC2.below hb_w7
    have hB_w7 := bcall hB_w6 (by first | omega | (simp; omega)) hb_w7
    clear hB_w6 hb_w7
    go_wp2_with fail
    refine (text_spec HY.out a2 c2 _ hC2 (by omega)).mono ?_
    rintro e w8 ⟨rfl, hb_w8⟩
    have hz_w8 := hb_w8.size
    try simp at hz_w8
    replace g0 := keepc hb_w8 g0; replace g1 := keepc hb_w8 g1; replace o0 := keepc hb_w8 o0; replace o1 := keepc hb_w8 o1
    replace hC1 := hC1.below hb_w8
    replace hC2 := hC2.below hb_w8
    have hB_w8 := bcall hB_w7 (by first | omega | (simp; omega)) hb_w8
    clear hB_w7 hb_w8
    go_wp2
    go_ret
    exact ⟨rfl, hB_w8⟩
  have e1 : (str tx).toList.isEmpty = false := by rw [str_empty]; simp [ex]
  have e2 : (str ty).toList.isEmpty = false := by rw [str_empty]; simp [ey]
  have k1 : okG wd cs = true := by
    by_cases q : okG wd cs = true
    · exact q
    · exact absurd (HX.out.symm.trans ((text_nil wd cs).2 (by simpa using q))) ex
  have k2 : okG wd2 ds = true := by
    by_cases q : okG wd2 ds = true
    · exact q
    · exact absurd (HY.out.symm.trans ((text_nil wd2 ds).2 (by simpa using q))) ey
  have L1 := okG_lenD wd cs k1
  have L2 := okG_lenD wd2 ds k2
  have K1 : Hid (okG wd cs = true) := k1
  have K2 : Hid (okG wd2 ds = true) := k2
  have LT : Hid (tx.length ≤ 62 ∧ ty.length ≤ 62) := by
    refine ⟨?_, ?_⟩
    · rw [← HX.out]; unfold textG; split <;> first | exact Nat.le_trans (textN_len _ _ _) (by omega) | (simp; done)
    · rw [← HY.out]; unfold textG; split <;> first | exact Nat.le_trans (textN_len _ _ _) (by omega) | (simp; done)
  clear ex ey k1 k2
  go_wp2_with fail
  refine (text_spec HX.out a1 c1 _ hC1 (by omega)).mono ?_
  rintro e w5 ⟨rfl, hb_w5⟩
  have hz_w5 := hb_w5.size
  try simp at hz_w5
  replace g0 := keepc hb_w5 g0; replace g1 := keepc hb_w5 g1; replace o0 := keepc hb_w5 o0; replace o1 := keepc hb_w5 o1
  replace hC1 := hC1.below hb_w5
  replace hC2 := hC2.below hb_w5
  have hB_w5 := bcall hB_w4 (by first | omega | (simp; omega)) hb_w5
  clear hB_w4 hb_w5
  go_wp2_with fail
  refine (text_spec HY.out a2 c2 _ hC2 (by omega)).mono ?_
  rintro e w6 ⟨rfl, hb_w6⟩
  have hz_w6 := hb_w6.size
  try simp at hz_w6
  replace g0 := keepc hb_w6 g0; replace g1 := keepc hb_w6 g1; replace o0 := keepc hb_w6 o0; replace o1 := keepc hb_w6 o1
  replace hC1 := hC1.below hb_w6
  replace hC2 := hC2.below hb_w6
  have hB_w6 := bcall hB_w5 (by first | omega | (simp; omega)) hb_w6
  clear hB_w5 hb_w6
  obtain ⟨i0, hi, iz0, iz1, iz2⟩ := info_parts infoCell
  have hCa := hC1
  have hCb := hC2
  rcases hC1 with q | ⟨b1, of1, rfl, hl1, hc1⟩
  · rw [q] at L1; simp at L1
  rcases hC2 with q | ⟨b2, of2, rfl, hl2, hc2⟩
  · rw [q] at L2; simp at L2
  have src1 := src_of hc1
  have src2 := src_of hc2
  have E1 := own_emptyZ w6 w6.heap.size (Nat.le_refl _)
  have B1 : Below w6.heap.size w6 (w6.alloc (.cells #[] 44)) := (by repeat (first | exact Below.refl _ _ | refine Below.alloc ?_ (by first | exact Nat.le_refl _ | (simp; done) | (simp; omega)) _ | refine Below.drew ?_ | refine Below.setCell ?_ (by first | exact Nat.le_refl _ | (simp; done) | (simp; omega)) _))
  have E3 := E1.alloc (.cells #[.int .i64 0, .slice none 0 0] 26)
  have B3 : Below w6.heap.size w6 ((w6.alloc (.cells #[] 44)).alloc (.cells #[.int .i64 0, .slice none 0 0] 26)) := (by repeat (first | exact Below.refl _ _ | refine Below.alloc ?_ (by first | exact Nat.le_refl _ | (simp; done) | (simp; omega)) _ | refine Below.drew ?_ | refine Below.setCell ?_ (by first | exact Nat.le_refl _ | (simp; done) | (simp; omega)) _))
  have E4 := own_emptyZ (w6.alloc (.cells #[.int .i64 0, .slice none 0 0] 26)) w6.heap.size (by simp)
  simp only [World.size_alloc] at E4
  have B4 : Below w6.heap.size w6 ((w6.alloc (.cells #[.int .i64 0, .slice none 0 0] 26)).alloc (.cells #[] 44)) := (by repeat (first | exact Below.refl _ _ | refine Below.alloc ?_ (by first | exact Nat.le_refl _ | (simp; done) | (simp; omega)) _ | refine Below.drew ?_ | refine Below.setCell ?_ (by first | exact Nat.le_refl _ | (simp; done) | (simp; omega)) _))
  have B5 : Below w6.heap.size w6 (w6.alloc (.cells #[.int .i64 0, .slice none 0 0] 26)) := (by repeat (first | exact Below.refl _ _ | refine Below.alloc ?_ (by first | exact Nat.le_refl _ | (simp; done) | (simp; omega)) _ | refine Below.drew ?_ | refine Below.setCell ?_ (by first | exact Nat.le_refl _ | (simp; done) | (simp; omega)) _))
  clear hc1 hc2
  go_wp2
  go_cut [9] (fun s9 wc => ∃ (blk : Nat), s9 = .pointer (some ⟨blk, 0, none⟩) ∧ BoxR wc blk wd (cs.length + ds.length) (cs ++ ds) ∧ Below w6.heap.size w6 wc)
  case first =>
    go_region_held_law (fun w' => w'.cell? ⟨w1.heap.size, 0, none⟩ = some (.int .i64 wd) ∧ w'.cell? ⟨w1.heap.size, 1, none⟩ = some (.slice (some ⟨b1, of1, none⟩) cs.length c1) ∧ w'.cell? ⟨w2.heap.size, 1, none⟩ = some (.slice (some ⟨b2, of2, none⟩) ds.length c2))
      (first
        | exact ⟨keepc hb7 g0, keepc hb7 g1, keepc hb7 o1⟩
        | exact ⟨keepc (hb7.alloc hb7.size _) g0, keepc (hb7.alloc hb7.size _) g1, keepc (hb7.alloc hb7.size _) o1⟩
        | exact ⟨setc (by omega) (setc (by omega) (keepc hb7 g0)), setc (by omega) (setc (by omega) (keepc hb7 g1)), setc (by omega) (setc (by omega) (keepc hb7 o1))⟩
        | exact ⟨keepc hb6 g0, keepc hb6 g1, keepc hb6 o1⟩
        | exact ⟨keepc (hb6.alloc hb6.size _) g0, keepc (hb6.alloc hb6.size _) g1, keepc (hb6.alloc hb6.size _) o1⟩
        | exact ⟨keepc B1 g0, keepc B1 g1, keepc B1 o1⟩
        | exact ⟨keepc B3 g0, keepc B3 g1, keepc B3 o1⟩
        | exact ⟨keepc B4 g0, keepc B4 g1, keepc B4 o1⟩
        | exact ⟨keepc B5 g0, keepc B5 g1, keepc B5 o1⟩
        | go_keep)
      (first
        | (refine step_append_lies _ (by rfl) _ _ _ (by rfl) w6.heap.size 44 i0 (.agg #[.int .i64 0, .int .i64 0]) 2 16 Try.underlying24 hi iz0 iz1 iz2 rfl (by omega) (.slice (some ⟨w6.heap.size, 0, none⟩) 0 0) 0 [] (by rfl) (by first | exact E1 | exact E1.drew) ⟨b1, of1, none⟩ cs.length c1 (flat cs) (by rfl) (flat_len cs) (by first | exact src1.below (B1) hl1 | exact src1.below (B1).drew hl1) (flat_oneR cs) (by omega) (by unfold maxLen; omega) (by omega) (by first | (simp; done) | (simp; omega)) (w6.heap.size + 1) (by first | (simp; done) | (simp; omega)) ?_; intro g6 k6 v6 hO6 hg6 hat6 hlt6; have hb6 : Below w6.heap.size w6 v6 := Below.grown (by first | exact (B1) | exact (B1).drew) hg6 (by first | (simp; done) | (simp; omega)) (fun k hk => by simp [Value.ownBlock] at hk; omega); have hz6 := hg6.size; simp at hz6; have hO6n := own_first hO6; have zh := hb6.size; skip)
        | (refine step_append_lies _ (by rfl) _ _ _ (by rfl) w6.heap.size 44 i0 (.agg #[.int .i64 0, .int .i64 0]) 2 16 Try.underlying24 hi iz0 iz1 iz2 rfl (by omega) (.slice (some ⟨w6.heap.size, 0, none⟩) 0 0) 0 [] (by rfl) (by first | exact E3 | exact E3.drew) ⟨b1, of1, none⟩ cs.length c1 (flat cs) (by rfl) (flat_len cs) (by first | exact src1.below (B3) hl1 | exact src1.below (B3).drew hl1) (flat_oneR cs) (by omega) (by unfold maxLen; omega) (by omega) (by first | (simp; done) | (simp; omega)) (w6.heap.size + 1 + 1) (by first | (simp; done) | (simp; omega)) ?_; intro g6 k6 v6 hO6 hg6 hat6 hlt6; have hb6 : Below w6.heap.size w6 v6 := Below.grown (by first | exact (B3) | exact (B3).drew) hg6 (by first | (simp; done) | (simp; omega)) (fun k hk => by simp [Value.ownBlock] at hk; omega); have hz6 := hg6.size; simp at hz6; have hO6n := own_first hO6; have zh := hb6.size; have z0 : v6.cell? ⟨w6.heap.size + 1, 0, none⟩ = some (.int .i64 0) := gcell (rb := w6.heap.size) hg6 (by omega) (by simp [go_sem]); have z1 : v6.cell? ⟨w6.heap.size + 1, 1, none⟩ = some (.slice none 0 0) := gcell (rb := w6.heap.size) hg6 (by omega) (by simp [go_sem]); have zf0 : v6.frozen? ⟨w6.heap.size + 1, 0, none⟩ = false := gfroz (rb := w6.heap.size) hg6 (by omega) (v := .int .i64 0) (by simp [go_sem]) (by simp [go_sem]); have zf1 : v6.frozen? ⟨w6.heap.size + 1, 1, none⟩ = false := gfroz (rb := w6.heap.size) hg6 (by omega) (v := .slice none 0 0) (by simp [go_sem]) (by simp [go_sem]); have zb6 : g6 ≠ w6.heap.size + 1 := (by rcases hat6 with q | q; (simp [Value.ownBlock] at q; omega); omega))
        | (refine step_append_lies _ (by rfl) _ _ _ (by rfl) w6.heap.size 44 i0 (.agg #[.int .i64 0, .int .i64 0]) 2 16 Try.underlying24 hi iz0 iz1 iz2 rfl (by omega) (.slice (some ⟨w6.heap.size + 1, 0, none⟩) 0 0) 0 [] (by rfl) (by first | exact E4 | exact E4.drew) ⟨b1, of1, none⟩ cs.length c1 (flat cs) (by rfl) (flat_len cs) (by first | exact src1.below (B4) hl1 | exact src1.below (B4).drew hl1) (flat_oneR cs) (by omega) (by unfold maxLen; omega) (by omega) (by first | (simp; done) | (simp; omega)) (w6.heap.size + 1 + 1) (by first | (simp; done) | (simp; omega)) ?_; intro g6 k6 v6 hO6 hg6 hat6 hlt6; have hb6 : Below w6.heap.size w6 v6 := Below.grown (by first | exact (B4) | exact (B4).drew) hg6 (by first | (simp; done) | (simp; omega)) (fun k hk => by simp [Value.ownBlock] at hk; omega); have hz6 := hg6.size; simp at hz6; have hO6n := own_first hO6; have zh := hb6.size; have z0 : v6.cell? ⟨w6.heap.size, 0, none⟩ = some (.int .i64 0) := gcell (rb := w6.heap.size + 1) hg6 (by omega) (by simp [go_sem]); have z1 : v6.cell? ⟨w6.heap.size, 1, none⟩ = some (.slice none 0 0) := gcell (rb := w6.heap.size + 1) hg6 (by omega) (by simp [go_sem]); have zf0 : v6.frozen? ⟨w6.heap.size, 0, none⟩ = false := gfroz (rb := w6.heap.size + 1) hg6 (by omega) (v := .int .i64 0) (by simp [go_sem]) (by simp [go_sem]); have zf1 : v6.frozen? ⟨w6.heap.size, 1, none⟩ = false := gfroz (rb := w6.heap.size + 1) hg6 (by omega) (v := .slice none 0 0) (by simp [go_sem]) (by simp [go_sem]); have zb6 : g6 ≠ w6.heap.size := (by rcases hat6 with q | q; (simp [Value.ownBlock] at q; omega); omega))
        | (refine step_append_lies _ (by rfl) _ _ _ (by rfl) w6.heap.size 44 i0 (.agg #[.int .i64 0, .int .i64 0]) 2 16 Try.underlying24 hi iz0 iz1 iz2 rfl (by omega) (.slice (some ⟨g6, 0, none⟩) (0 + cs.length) k6) (0 + cs.length) ([] ++ flat cs) (by rfl) (by first | exact hO6 | exact hO6.drew) ⟨b2, of2, none⟩ ds.length c2 (flat ds) (by rfl) (flat_len ds) (by first | exact src2.below (hb6) hl2 | exact src2.below (hb6).drew hl2) (flat_oneR ds) (by omega) (by unfold maxLen; omega) (by omega) (by have := hb6.size; first | omega | (simp; omega)) (v6.heap.size) (by first | rfl | (simp; done)) ?_; intro g7 k7 v7 hO7 hg7 hat7 hlt7; have hb7 : Below w6.heap.size w6 v7 := Below.grown (by first | exact (hb6) | exact (hb6).drew) hg7 (by have := hb6.size; first | omega | (simp; omega)) (fun k hk => by simp [Value.ownBlock] at hk; have := World.ownsRow.lt hO6 g6 rfl; omega); have hOw := own_joinA hO7; (try replace zf0 := gfroz (rb := g6) hg7 (fun q => zb6 q.symm) z0 zf0); (try replace zf1 := gfroz (rb := g6) hg7 (fun q => zb6 q.symm) z1 zf1); (try replace z0 := gcell (rb := g6) hg7 (fun q => zb6 q.symm) z0); (try replace z1 := gcell (rb := g6) hg7 (fun q => zb6 q.symm) z1); (try have zb7 : g7 ≠ w6.heap.size + 1 := (by rcases hat7 with q | q; (simp [Value.ownBlock] at q; omega); omega)); (try have zb8 : g7 ≠ w6.heap.size := (by rcases hat7 with q | q; (simp [Value.ownBlock] at q; omega); omega)))
        | (refine step_append_lies _ (by rfl) _ _ _ (by rfl) w6.heap.size 44 i0 (.agg #[.int .i64 0, .int .i64 0]) 2 16 Try.underlying24 hi iz0 iz1 iz2 rfl (by omega) (.slice (some ⟨g6, 0, none⟩) (0 + cs.length) k6) (0 + cs.length) ([] ++ flat cs) (by rfl) (by first | exact (hO6.alloc _) | exact (hO6.alloc _).drew) ⟨b2, of2, none⟩ ds.length c2 (flat ds) (by rfl) (flat_len ds) (by first | exact src2.below ((hb6.alloc hb6.size _)) hl2 | exact src2.below ((hb6.alloc hb6.size _)).drew hl2) (flat_oneR ds) (by omega) (by unfold maxLen; omega) (by omega) (by have := hb6.size; first | omega | (simp; omega)) (v6.heap.size + 1) (by first | rfl | (simp; done)) ?_; intro g7 k7 v7 hO7 hg7 hat7 hlt7; have hb7 : Below w6.heap.size w6 v7 := Below.grown (by first | exact ((hb6.alloc hb6.size _)) | exact ((hb6.alloc hb6.size _)).drew) hg7 (by have := hb6.size; first | omega | (simp; omega)) (fun k hk => by simp [Value.ownBlock] at hk; have := World.ownsRow.lt hO6 g6 rfl; omega); have hOw := own_joinA hO7; have sl6 := World.ownsRow.lt hO6 g6 rfl; have z0 : v7.cell? ⟨v6.heap.size, 0, none⟩ = some (.int .i64 0) := gcell (rb := g6) hg7 (by omega) (by simp [go_sem]); have z1 : v7.cell? ⟨v6.heap.size, 1, none⟩ = some (.slice none 0 0) := gcell (rb := g6) hg7 (by omega) (by simp [go_sem]); have zf0 : v7.frozen? ⟨v6.heap.size, 0, none⟩ = false := gfroz (rb := g6) hg7 (by omega) (v := .int .i64 0) (by simp [go_sem]) (by simp [go_sem]); have zf1 : v7.frozen? ⟨v6.heap.size, 1, none⟩ = false := gfroz (rb := g6) hg7 (by omega) (v := .slice none 0 0) (by simp [go_sem]) (by simp [go_sem]); have zb9 : g7 ≠ v6.heap.size := (by rcases hat7 with q | q; (simp [Value.ownBlock] at q; omega); omega))
        | (refine step_append_lies _ (by rfl) _ _ _ (by rfl) w6.heap.size 44 i0 (.agg #[.int .i64 0, .int .i64 0]) 2 16 Try.underlying24 hi iz0 iz1 iz2 rfl (by omega) (.slice (some ⟨g6, 0, none⟩) cs.length k6) cs.length (flat cs) (by rfl) (by first | exact hO6n | exact hO6n.drew) ⟨b2, of2, none⟩ ds.length c2 (flat ds) (by rfl) (flat_len ds) (by first | exact src2.below (hb6) hl2 | exact src2.below (hb6).drew hl2) (flat_oneR ds) (by omega) (by unfold maxLen; omega) (by omega) (by have := hb6.size; first | omega | (simp; omega)) (v6.heap.size) (by first | rfl | (simp; done)) ?_; intro g7 k7 v7 hO7 hg7 hat7 hlt7; have hb7 : Below w6.heap.size w6 v7 := Below.grown (by first | exact (hb6) | exact (hb6).drew) hg7 (by have := hb6.size; first | omega | (simp; omega)) (fun k hk => by simp [Value.ownBlock] at hk; have := World.ownsRow.lt hO6 g6 rfl; omega); have hOw := own_joinB hO7; (try replace zf0 := gfroz (rb := g6) hg7 (fun q => zb6 q.symm) z0 zf0); (try replace zf1 := gfroz (rb := g6) hg7 (fun q => zb6 q.symm) z1 zf1); (try replace z0 := gcell (rb := g6) hg7 (fun q => zb6 q.symm) z0); (try replace z1 := gcell (rb := g6) hg7 (fun q => zb6 q.symm) z1); (try have zb7 : g7 ≠ w6.heap.size + 1 := (by rcases hat7 with q | q; (simp [Value.ownBlock] at q; omega); omega)); (try have zb8 : g7 ≠ w6.heap.size := (by rcases hat7 with q | q; (simp [Value.ownBlock] at q; omega); omega)))
        | (refine step_append_lies _ (by rfl) _ _ _ (by rfl) w6.heap.size 44 i0 (.agg #[.int .i64 0, .int .i64 0]) 2 16 Try.underlying24 hi iz0 iz1 iz2 rfl (by omega) (.slice (some ⟨g6, 0, none⟩) cs.length k6) cs.length (flat cs) (by rfl) (by first | exact (hO6n.alloc _) | exact (hO6n.alloc _).drew) ⟨b2, of2, none⟩ ds.length c2 (flat ds) (by rfl) (flat_len ds) (by first | exact src2.below ((hb6.alloc hb6.size _)) hl2 | exact src2.below ((hb6.alloc hb6.size _)).drew hl2) (flat_oneR ds) (by omega) (by unfold maxLen; omega) (by omega) (by have := hb6.size; first | omega | (simp; omega)) (v6.heap.size + 1) (by first | rfl | (simp; done)) ?_; intro g7 k7 v7 hO7 hg7 hat7 hlt7; have hb7 : Below w6.heap.size w6 v7 := Below.grown (by first | exact ((hb6.alloc hb6.size _)) | exact ((hb6.alloc hb6.size _)).drew) hg7 (by have := hb6.size; first | omega | (simp; omega)) (fun k hk => by simp [Value.ownBlock] at hk; have := World.ownsRow.lt hO6 g6 rfl; omega); have hOw := own_joinB hO7; have sl6 := World.ownsRow.lt hO6 g6 rfl; have z0 : v7.cell? ⟨v6.heap.size, 0, none⟩ = some (.int .i64 0) := gcell (rb := g6) hg7 (by omega) (by simp [go_sem]); have z1 : v7.cell? ⟨v6.heap.size, 1, none⟩ = some (.slice none 0 0) := gcell (rb := g6) hg7 (by omega) (by simp [go_sem]); have zf0 : v7.frozen? ⟨v6.heap.size, 0, none⟩ = false := gfroz (rb := g6) hg7 (by omega) (v := .int .i64 0) (by simp [go_sem]) (by simp [go_sem]); have zf1 : v7.frozen? ⟨v6.heap.size, 1, none⟩ = false := gfroz (rb := g6) hg7 (by omega) (v := .slice none 0 0) (by simp [go_sem]) (by simp [go_sem]); have zb9 : g7 ≠ v6.heap.size := (by rcases hat7 with q | q; (simp [Value.ownBlock] at q; omega); omega))
        | fail)
    · have hbox := boxR_new hb7 hOw (by simp) wd
      go_wp2_with fail
      go_meet
      case rel => exact ⟨_, rfl, hbox⟩
    · have hbox := boxR_set hb7 (by omega) hOw (by simp) zb9 z0 z1 wd
      go_wp2_with fail
      go_meet
      case rel => exact ⟨_, rfl, hbox⟩
    · have hbox := boxR_set hb7 (by omega) hOw (by simp) zb7 z0 z1 wd
      go_wp2_with fail
      go_meet
      case rel => exact ⟨_, rfl, hbox⟩
    · have hbox := boxR_set hb7 (by omega) hOw (by simp) zb8 z0 z1 wd
      go_wp2_with fail
      go_meet
      case rel => exact ⟨_, rfl, hbox⟩
  case rest =>
    obtain ⟨blk, rfl, ⟨a9, c9, hblk, x0, x1, hC9⟩, hb9⟩ := hcut
    replace g0 := keepc hb9 g0; replace g1 := keepc hb9 g1; replace o0 := keepc hb9 o0; replace o1 := keepc hb9 o1
    have hz9 := hb9.size
    have hB9 := bcall hB_w6 (by omega) hb9
    obtain ⟨es, hes⟩ : ∃ es, es = cs ++ ds := ⟨_, rfl⟩
    have hlen : cs.length + ds.length = es.length := by rw [hes, List.length_append]
    rw [hlen] at x1
    rw [← hes] at hC9
    have hle : es.length ≤ 50 := by omega
    have HL : Hid (cs.length + ds.length = es.length) := hlen
    have HE : Hid (es = cs ++ ds) := hes
    have ha : ∀ w : World, Sem.run Try.prog (Op.stringOp .add (str tx) (str ty)) w = .ok (.string (str (tx ++ ty))) w := fun w => by
      obtain ⟨q1, q2⟩ := LT.out
      rw [run_string_add w (str tx) (str ty) (by rw [str_size]; omega) (by rw [str_size]; omega), str_join]
    have hm5 : IntKind.i64.wrap (5 * wd) = 5 * wd := IntWalk.i64_in _ (by omega)
    have htl : (tx ++ ty).length ≤ 1048576 := by obtain ⟨q1, q2⟩ := LT.out; rw [List.length_append]; omega
    clear B1 B3 B4 B5 E1 E3 E4 src1 src2 hl1 hl2 hb9 hlen hes hB_w6
    by_cases fit : wd = wd2 ∧ (es.length : Int) ≤ 5 * wd
    · obtain ⟨rfl, f2⟩ := fit
      have Y := stack_yes K1.out K2.out (by rw [← HE.out]; exact f2)
      rw [← HE.out, HX.out, HY.out] at Y
      have Y1 := Y.1
      have Y2 : Hid (textG wd es = tx ++ ty) := Y.2
      have heq : eqL wd wd es es = true := by simp [eqL]
      have b1 : (wd == wd) = true := by simp
      clear Y
      go_wp2_with fail
      refine (readA Y1 Y2.out _ htl).mono ?_
      rintro e w7 ⟨v7, rfl, hO7, hb7⟩
      obtain ⟨a7, c7, rfl, hC7⟩ := hO7.slice
      clear hO7
      have hz7 := hb7.size
      replace g0 := keepc hb7 g0; replace g1 := keepc hb7 g1; replace o0 := keepc hb7 o0; replace o1 := keepc hb7 o1; replace x0 := keepc hb7 x0; replace x1 := keepc hb7 x1
      replace hC9 := hC9.below hb7
      have hB7 := bcall hB9 (by omega) hb7
      clear hb7 hB9
      have hbS : Below w7.heap.size w7 (w7.alloc (.cells #[.int .i64 wd, .slice a7 es.length c7] 26)) := (by repeat (first | exact Below.refl _ _ | refine Below.alloc ?_ (by first | exact Nat.le_refl _ | (simp; done) | (simp; omega)) _ | refine Below.drew ?_ | refine Below.setCell ?_ (by first | exact Nat.le_refl _ | (simp; done) | (simp; omega)) _))
      have y0 : (w7.alloc (.cells #[.int .i64 wd, .slice a7 es.length c7] 26)).cell? ⟨w7.heap.size, 0, none⟩ = some (.int .i64 wd) := by simp [go_sem]
      have y1 : (w7.alloc (.cells #[.int .i64 wd, .slice a7 es.length c7] 26)).cell? ⟨w7.heap.size, 1, none⟩ = some (.slice a7 es.length c7) := by simp [go_sem]
      replace x0 := keepc hbS x0; replace x1 := keepc hbS x1
      replace hC9 := hC9.below hbS
      replace hC7 := hC7.below hbS
      have hBS := bcall hB7 (by omega) hbS
      clear hbS hB7
      go_wp2_with fail
      refine (llGrid_any _ _ _ _ _ _ es es _ hC7 hC9 (by omega) (by omega)).mono ?_
      rintro e w8 ⟨rfl, hb8⟩
      have hz8 := hb8.size
      simp at hz8
      replace x0 := keepc hb8 x0; replace x1 := keepc hb8 x1
      replace hC9 := hC9.below hb8
      have hB8 := bcall hBS (by simp; omega) hb8
      go_wp2_with fail
      refine (implGridOk_any _ _ _ es _ hC9 (by omega)).mono ?_
      rintro e w9 ⟨rfl, hb10⟩
      have hB10 := bcall hB8 (by omega) hb10
      go_wp2
      go_ret
      exact ⟨rfl, hB10⟩
    · have hno := stack_no K1.out K2.out (by rw [← HE.out]; exact fit)
      rw [HX.out, HY.out] at hno
      have NO : Hid (∀ x es, okG x es = true → textG x es ≠ tx ++ ty) := hno
      clear hno
      by_cases f1 : wd = wd2
      · subst f1
        have f2 : ¬ (es.length : Int) ≤ 5 * wd := fun q => fit ⟨rfl, q⟩
        have f3 : 5 * wd < (es.length : Int) := by omega
        have f4 : decide ((es.length : Int) ≤ 5 * wd) = false := by simp; omega
        have b1 : (wd == wd) = true := by simp
        clear fit f2
        go_wp2_with fail
        refine (readB NO.out _ htl).mono ?_
        rintro e w7 ⟨rfl, hb7⟩
        have hB7 := bcall hB9 (by omega) hb7
        go_wp2
        go_ret
        exact ⟨rfl, hB7.alloc (by have := hb7.size; omega) _⟩
      · have b1 : (wd == wd2) = false := by simp [f1]
        clear fit f1
        go_wp2_with fail
        refine (readB NO.out _ htl).mono ?_
        rintro e w7 ⟨rfl, hb7⟩
        have hB7 := bcall hB9 (by omega) hb7
        go_wp2
        go_ret
        exact ⟨rfl, hB7.alloc (by have := hb7.size; omega) _⟩

theorem walk (a : Option Addr) (n cap : Nat) (f : Nat → Int) (a' : Option Addr) (n' cap' : Nat) (f' : Nat → Int) (w : World) (h : BytesAt w a n f) (hm : n ≤ cap ∧ cap ≤ 9223372036854775807) (h' : BytesAt w a' n' f') (hm' : n' ≤ cap' ∧ cap' ≤ 9223372036854775807) :
    Calls Try.prog 4 #[.slice a n cap, .slice a' n' cap'] w fun e w' => e = .returned (.bool true) ∧ Below w.heap.size w w' := by
  by_cases hs : n ≤ 1048576
  · by_cases hs' : n' ≤ 1048576
    · exact small a n cap f a' n' cap' f' w h hm h' hm' hs hs'
    · exact big' a n cap f a' n' cap' f' w h hm h' hm' hs (by omega)
  · exact big a n cap f a' n' cap' f' w h hm h' hm' (by omega)

set_option maxRecDepth 100000 in
theorem lifted (os : Os) (started : os.Started) (H : Type) (enc : TypeId × Value → H) :
    ReturnsInHanded {} Try.checked os 4 .any (Rows.fnGridStackSpec.pre6 enc Try.prog Try.f4 Rows.fnGridStackRow.domain false) (Rows.fnGridStackSpec.post enc Try.prog Try.f4 false true false false) := by
  refine returnsInHanded_of_change (C := Try.checked) own started (by kernel_rfl) Try.func4
    (ChangeSpec.witness6 (enc := enc) (C := Try.checked) false ⟨#[], #[.slice none 0 0, .slice none 0 0], []⟩ 8 (by kernel_rfl) (by kernel_rfl) (by kernel_rfl) (by kernel_rfl)) ?_
  intro W base args ds gs before hval0 hW hcnd _
  have hval : ∀ (j : Nat) t v, Try.f4.params[j]? = some t → args[j]? = some v → Value.okWide Try.prog W .any base t v := hval0
  have hW' := hW
  obtain ⟨p, q, hA0, hV, rfl, hfz, hnd⟩ := hW
  have hA : DataW.TrodAll enc Try.prog W 0 (fun _ => true) true Try.f4.params.toList args.toList ds p := hA0
  rw [Try.params4] at hA hval
  obtain ⟨v0, vs0, d0, ds0, p0, q0, hargs, rfl, rfl, h0, r0⟩ := trodAll_cons hA
  obtain ⟨v1, vs1, d1, ds1, p1, q1, rfl, rfl, rfl, h1, r1⟩ := trodAll_cons r0
  obtain ⟨rfl, rfl, rfl⟩ := trodAll_nil r1
  obtain rfl : args = #[v0, v1] := by cases args; simp_all
  obtain ⟨rfl, rfl⟩ := trodVars_none hV
  have k0 := h0
  have lt0 : ∀ x ∈ p0, x.block < W.heap.size := by obtain ⟨m, hm⟩ := k0; exact DataW.trod_lt m _ _ _ hm
  obtain ⟨a0, n0, cap0, f0, rfl, hC0, hm0⟩ := open_bytes (hval 0 22 v0 rfl rfl) h0
  have k1 := h1
  have lt1 : ∀ x ∈ p1, x.block < W.heap.size := by obtain ⟨m, hm⟩ := k1; exact DataW.trod_lt m _ _ _ hm
  obtain ⟨a1, n1, cap1, f1, rfl, hC1, hm1⟩ := open_bytes (hval 1 22 v1 rfl rfl) h1
  clear hA0 hval0
  refine (walk a0 n0 cap0 f0 a1 n1 cap1 f1 W hC0 hm0 hC1 hm1).mono fun e W' ⟨he, bel⟩ => ?_
  subst he
  exact ⟨_, rfl, _, _, _, [], _, [], hW', trodAll_mk1 (shut_bool Try.underlying4 _), (trodAll_cons_mk (Below.trod laidOut (by kernel_rfl) (of_decide_eq_true (by kernel_rfl)) k0 bel lt0) (trodAll_cons_mk (Below.trod laidOut (by kernel_rfl) (of_decide_eq_true (by kernel_rfl)) k1 bel lt1) trodAll_mk0)), rfl, bel.frame _, fun h => by cases h⟩

theorem over : Rows.fnGridStackRow.holds Try.pinned (OpenSpec.ofChange Rows.fnGridStackSpec) :=
  OpenClaim.holds_of_wide 4 Try.f4 rfl rfl rfl rfl rfl rfl rfl ⟨rfl, rfl, rfl, rfl, rfl⟩ rfl rfl rfl rfl rfl (by kernel_rfl) Try.func4 (by kernel_rfl)
    (of_decide_eq_true (by kernel_rfl)) (by unfold Func.isWrapper; first | (rw [if_pos (by decide +kernel)]; kernel_rfl) | (rw [if_neg (by decide +kernel)]; exact ⟨rfl, rfl⟩))
    (fun os started H enc _ => lifted os started H enc)

end Go.Proofs.Yteibklaabnnfbaa.LwGridStack

namespace Go.Proofs.Yteibklaabnnfbaa
/-- The statement. -/
theorem lwGridStack : Rows.FnGridStackSaid := LwGridStack.over
#print axioms lwGridStack
end Go.Proofs.Yteibklaabnnfbaa
