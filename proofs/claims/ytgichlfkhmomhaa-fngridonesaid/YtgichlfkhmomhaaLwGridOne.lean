/-
  'laws.FnGridOne' returns true for all codes: two grids are the same just if their texts are. No condition.
-/
import Derived.Test.YtgichlfkhmomhaaFb
import Derived.Test.YtgichlfkhmomhaaSf
namespace Go.Proofs.Ytgichlfkhmomhaa.LwGridOne
open Go.ChangeShapes Go.WideShapes Go.ChangeAt Go.RowKit
set_option linter.unusedVariables false
attribute [local go_sem ↓] Go.wp_at_zero Go.wp_at_succ

/-- Too long a code. -/
theorem big (a : Option Addr) (n cap : Nat) (f : Nat → Int) (a' : Option Addr) (n' cap' : Nat) (f' : Nat → Int) (w : World) (h : BytesAt w a n f) (hm : n ≤ cap ∧ cap ≤ 9223372036854775807) (h' : BytesAt w a' n' f') (hm' : n' ≤ cap' ∧ cap' ≤ 9223372036854775807) (hbig : 1048576 < n) :
    Calls Try.prog 5 #[.slice a n cap, .slice a' n' cap'] w fun e w' => e = .returned (.bool true) ∧ Below w.heap.size w w' := by
  have hb : (1048576 : Int) < (n : Int) := by omega
  go_enter Try.func5, Try.ntmps5
  go_wp2
  go_ret
  exact ⟨rfl, Below.refl _ _⟩
theorem big' (a : Option Addr) (n cap : Nat) (f : Nat → Int) (a' : Option Addr) (n' cap' : Nat) (f' : Nat → Int) (w : World) (h : BytesAt w a n f) (hm : n ≤ cap ∧ cap ≤ 9223372036854775807) (h' : BytesAt w a' n' f') (hm' : n' ≤ cap' ∧ cap' ≤ 9223372036854775807) (hsm : n ≤ 1048576) (hbig : 1048576 < n') :
    Calls Try.prog 5 #[.slice a n cap, .slice a' n' cap'] w fun e w' => e = .returned (.bool true) ∧ Below w.heap.size w w' := by
  have hb : (n : Int) ≤ 1048576 := by omega
  have hb' : (1048576 : Int) < (n' : Int) := by omega
  go_enter Try.func5, Try.ntmps5
  go_wp2
  go_ret
  exact ⟨rfl, Below.refl _ _⟩

set_option maxRecDepth 100000 in
set_option maxHeartbeats 8000000 in
theorem small (a : Option Addr) (n cap : Nat) (f : Nat → Int) (a' : Option Addr) (n' cap' : Nat) (f' : Nat → Int) (w : World) (h : BytesAt w a n f) (hm : n ≤ cap ∧ cap ≤ 9223372036854775807) (h' : BytesAt w a' n' f') (hm' : n' ≤ cap' ∧ cap' ≤ 9223372036854775807) (hsm : n ≤ 1048576) (hsm' : n' ≤ 1048576) :
    Calls Try.prog 5 #[.slice a n cap, .slice a' n' cap'] w fun e w' => e = .returned (.bool true) ∧ Below w.heap.size w w' := by
  have hb : (n : Int) ≤ 1048576 := by omega
  have hb' : (n' : Int) ≤ 1048576 := by omega
  go_enter Try.func5, Try.ntmps5
  go_wp2_with fail
  refine (drawGridText_any a n cap f w h hsm hm.1 hm.2).mono ?_
  rintro e w1 ⟨wd, a1, c1, cs, rfl, hC1, hl1, hb_w1⟩
  have hz_w1 := hb_w1.size
  try simp at hz_w1
  replace h' := h'.below hb_w1
  have hbS1 : Below w1.heap.size w1 (w1.alloc (.cells #[.int .i64 wd, .slice a1 cs.length c1] 25)) := (by repeat (first | exact Below.refl _ _ | refine Below.alloc ?_ (by first | exact Nat.le_refl _ | (simp; done) | (simp; omega)) _ | refine Below.drew ?_ | refine Below.setCell ?_ (by first | exact Nat.le_refl _ | (simp; done) | (simp; omega)) _))
  replace hC1 := hC1.below hbS1
  replace h' := h'.below hbS1
  have g0 : (w1.alloc (.cells #[.int .i64 wd, .slice a1 cs.length c1] 25)).cell? ⟨w1.heap.size, 0, none⟩ = some (.int .i64 wd) := by simp [go_sem]
  have g1 : (w1.alloc (.cells #[.int .i64 wd, .slice a1 cs.length c1] 25)).cell? ⟨w1.heap.size, 1, none⟩ = some (.slice a1 cs.length c1) := by simp [go_sem]
  have hBs1 := bcall hb_w1 (by omega) hbS1
  clear hb_w1
  clear hbS1
  go_wp2_with fail
  refine (drawGridText_any a' n' cap' f' _ h' hsm' hm'.1 hm'.2).mono ?_
  rintro e w2 ⟨wd2, a2, c2, ds, rfl, hC2, hl2, hb_w2⟩
  have hz_w2 := hb_w2.size
  try simp at hz_w2
  replace g0 := keepc hb_w2 g0; replace g1 := keepc hb_w2 g1
  replace hC1 := hC1.below hb_w2
  replace h' := h'.below hb_w2
  have hB_w2 := bcall hBs1 (by first | omega | (simp; omega)) hb_w2
  clear hBs1 hb_w2
  clear h'
  have hbS2 : Below w2.heap.size w2 (w2.alloc (.cells #[.int .i64 wd2, .slice a2 ds.length c2] 25)) := (by repeat (first | exact Below.refl _ _ | refine Below.alloc ?_ (by first | exact Nat.le_refl _ | (simp; done) | (simp; omega)) _ | refine Below.drew ?_ | refine Below.setCell ?_ (by first | exact Nat.le_refl _ | (simp; done) | (simp; omega)) _))
  replace g0 := keepc hbS2 g0; replace g1 := keepc hbS2 g1
  replace hC1 := hC1.below hbS2
  replace hC2 := hC2.below hbS2
  have o0 : (w2.alloc (.cells #[.int .i64 wd2, .slice a2 ds.length c2] 25)).cell? ⟨w2.heap.size, 0, none⟩ = some (.int .i64 wd2) := by simp [go_sem]
  have o1 : (w2.alloc (.cells #[.int .i64 wd2, .slice a2 ds.length c2] 25)).cell? ⟨w2.heap.size, 1, none⟩ = some (.slice a2 ds.length c2) := by simp [go_sem]
  have hBs2 := bcall hB_w2 (by omega) hbS2
  clear hB_w2
  clear hbS2
  obtain ⟨tx, hx⟩ : ∃ tx, textG wd cs = tx := ⟨_, rfl⟩
  obtain ⟨ty, hy⟩ : ∃ ty, textG wd2 ds = ty := ⟨_, rfl⟩
  have HX : Hid (textG wd cs = tx) := hx
  have HY : Hid (textG wd2 ds = ty) := hy
  clear hx hy
  go_wp2_with fail
  refine (text_impl HX.out a1 c1 _ hC1 (by omega)).mono ?_
  rintro e w3 ⟨rfl, hb_w3⟩
  have hz_w3 := hb_w3.size
  try simp at hz_w3
  replace g0 := keepc hb_w3 g0; replace g1 := keepc hb_w3 g1; replace o0 := keepc hb_w3 o0; replace o1 := keepc hb_w3 o1
  replace hC1 := hC1.below hb_w3
  replace hC2 := hC2.below hb_w3
  have hB_w3 := bcall hBs2 (by first | omega | (simp; omega)) hb_w3
  clear hBs2 hb_w3
  go_wp2_with fail
  refine (text_impl HY.out a2 c2 _ hC2 (by omega)).mono ?_
  rintro e w4 ⟨rfl, hb_w4⟩
  have hz_w4 := hb_w4.size
  try simp at hz_w4
  replace g0 := keepc hb_w4 g0; replace g1 := keepc hb_w4 g1; replace o0 := keepc hb_w4 o0; replace o1 := keepc hb_w4 o1
  replace hC1 := hC1.below hb_w4
  replace hC2 := hC2.below hb_w4
  have hB_w4 := bcall hB_w3 (by first | omega | (simp; omega)) hb_w4
  clear hB_w3 hb_w4
  have n1 : ((str tx).toList == (str tx).toList) = true := by simp
  have n2 : ((str ty).toList == (str ty).toList) = true := by simp
  by_cases ex : tx = []
  · have e1 : (str tx).toList.isEmpty = true := by rw [str_empty]; simp [ex]
    clear ex
    go_wp2_with fail
    refine (text_spec HX.out a1 c1 _ hC1 (by omega)).mono ?_
    rintro e w5 ⟨rfl, hb_w5⟩
    have hz_w5 := hb_w5.size
    try simp at hz_w5
    replace g0 := keepc hb_w5 g0; replace g1 := keepc hb_w5 g1; replace o0 := keepc hb_w5 o0; replace o1 := keepc hb_w5 o1
    replace hC1 := hC1.below hb_w5
    replace hC2 := hC2.below hb_w5
    have hB_w5 := bcall hB_w4 (by first | omega | (simp; omega)) hb_w5
    clear hB_w4 hb_w5
    go_wp2_with fail
    refine (text_spec HY.out a2 c2 _ hC2 (by omega)).mono ?_
    rintro e w6 ⟨rfl, hb_w6⟩
    have hz_w6 := hb_w6.size
    try simp at hz_w6
    replace g0 := keepc hb_w6 g0; replace g1 := keepc hb_w6 g1; replace o0 := keepc hb_w6 o0; replace o1 := keepc hb_w6 o1
    replace hC1 := hC1.below hb_w6
    replace hC2 := hC2.below hb_w6
    have hB_w6 := bcall hB_w5 (by first | omega | (simp; omega)) hb_w6
    clear hB_w5 hb_w6
    go_wp2_with fail
    refine (text_spec HX.out a1 c1 _ hC1 (by omega)).mono ?_
    rintro e w7 ⟨rfl, hb_w7⟩
    have hz_w7 := hb_w7.size
    try simp at hz_w7
    replace g0 := keepc hb_w7 g0; replace g1 := keepc hb_w7 g1; replace o0 := keepc hb_w7 o0; replace o1 := keepc hb_w7 o1
    replace hC1 := hC1.below hb_w7
    replace hC2 := hC2.below hb_w7
    have hB_w7 := bcall hB_w6 (by first | omega | (simp; omega)) hb_w7
    clear hB_w6 hb_w7
    go_wp2_with fail
    refine (text_spec HY.out a2 c2 _ hC2 (by omega)).mono ?_
    rintro e w8 ⟨rfl, hb_w8⟩
    have hz_w8 := hb_w8.size
    try simp at hz_w8
    replace g0 := keepc hb_w8 g0; replace g1 := keepc hb_w8 g1; replace o0 := keepc hb_w8 o0; replace o1 := keepc hb_w8 o1
    replace hC1 := hC1.below hb_w8
    replace hC2 := hC2.below hb_w8
    have hB_w8 := bcall hB_w7 (by first | omega | (simp; omega)) hb_w8
    clear hB_w7 hb_w8
    go_wp2
    go_ret
    exact ⟨rfl, hB_w8⟩
  by_cases ey : ty = []
  · have e1 : (str tx).toList.isEmpty = false := by rw [str_empty]; simp [ex]
    have e2 : (str ty).toList.isEmpty = true := by rw [str_empty]; simp [ey]
    clear ex ey
    go_wp2_with fail
    refine (text_spec HX.out a1 c1 _ hC1 (by omega)).mono ?_
    rintro e w5 ⟨rfl, hb_w5⟩
    have hz_w5 := hb_w5.size
    try simp at hz_w5
    replace g0 := keepc hb_w5 g0; replace g1 := keepc hb_w5 g1; replace o0 := keepc hb_w5 o0; replace o1 := keepc hb_w5 o1
    replace hC1 := hC1.below hb_w5
    replace hC2 := hC2.below hb_w5
    have hB_w5 := bcall hB_w4 (by first | omega | (simp; omega)) hb_w5
    clear hB_w4 hb_w5
    go_wp2_with fail
    refine (text_spec HY.out a2 c2 _ hC2 (by omega)).mono ?_
    rintro e w6 ⟨rfl, hb_w6⟩
    have hz_w6 := hb_w6.size
    try simp at hz_w6
    replace g0 := keepc hb_w6 g0; replace g1 := keepc hb_w6 g1; replace o0 := keepc hb_w6 o0; replace o1 := keepc hb_w6 o1
    replace hC1 := hC1.below hb_w6
    replace hC2 := hC2.below hb_w6
    have hB_w6 := bcall hB_w5 (by first | omega | (simp; omega)) hb_w6
    clear hB_w5 hb_w6
    go_wp2_with fail
    refine (text_spec HX.out a1 c1 _ hC1 (by omega)).mono ?_
    rintro e w7 ⟨rfl, hb_w7⟩
    have hz_w7 := hb_w7.size
    try simp at hz_w7
    replace g0 := keepc hb_w7 g0; replace g1 := keepc hb_w7 g1; replace o0 := keepc hb_w7 o0; replace o1 := keepc hb_w7 o1
    replace hC1 := hC1.below hb_w7
    replace hC2 := hC2.below hb_w7
    have hB_w7 := bcall hB_w6 (by first | omega | (simp; omega)) hb_w7
    clear hB_w6 hb_w7
    go_wp2_with fail
    refine (text_spec HY.out a2 c2 _ hC2 (by omega)).mono ?_
    rintro e w8 ⟨rfl, hb_w8⟩
    have hz_w8 := hb_w8.size
    try simp at hz_w8
    replace g0 := keepc hb_w8 g0; replace g1 := keepc hb_w8 g1; replace o0 := keepc hb_w8 o0; replace o1 := keepc hb_w8 o1
    replace hC1 := hC1.below hb_w8
    replace hC2 := hC2.below hb_w8
    have hB_w8 := bcall hB_w7 (by first | omega | (simp; omega)) hb_w8
    clear hB_w7 hb_w8
    go_wp2
    go_ret
    exact ⟨rfl, hB_w8⟩
  have e1 : (str tx).toList.isEmpty = false := by rw [str_empty]; simp [ex]
  have e2 : (str ty).toList.isEmpty = false := by rw [str_empty]; simp [ey]
  have k1 : okG wd cs = true := by
    by_cases q : okG wd cs = true
    · exact q
    · exact absurd (HX.out.symm.trans ((text_nil wd cs).2 (by simpa using q))) ex
  have k2 : okG wd2 ds = true := by
    by_cases q : okG wd2 ds = true
    · exact q
    · exact absurd (HY.out.symm.trans ((text_nil wd2 ds).2 (by simpa using q))) ey
  by_cases et : tx = ty
  · have e3 : ((str tx).toList == (str ty).toList) = true := by rw [str_beq]; simp [et]
    have e4 : eqL wd wd2 cs ds = true := by
      obtain ⟨q1, q2⟩ := text_inj wd wd2 cs ds k1 k2 (by rw [HX.out, HY.out, et])
      simp [eqL, q1, q2]
    clear et ex ey k1 k2
    go_wp2_with fail
    refine (text_spec HX.out a1 c1 _ hC1 (by omega)).mono ?_
    rintro e w5 ⟨rfl, hb_w5⟩
    have hz_w5 := hb_w5.size
    try simp at hz_w5
    replace g0 := keepc hb_w5 g0; replace g1 := keepc hb_w5 g1; replace o0 := keepc hb_w5 o0; replace o1 := keepc hb_w5 o1
    replace hC1 := hC1.below hb_w5
    replace hC2 := hC2.below hb_w5
    have hB_w5 := bcall hB_w4 (by first | omega | (simp; omega)) hb_w5
    clear hB_w4 hb_w5
    go_wp2_with fail
    refine (text_spec HY.out a2 c2 _ hC2 (by omega)).mono ?_
    rintro e w6 ⟨rfl, hb_w6⟩
    have hz_w6 := hb_w6.size
    try simp at hz_w6
    replace g0 := keepc hb_w6 g0; replace g1 := keepc hb_w6 g1; replace o0 := keepc hb_w6 o0; replace o1 := keepc hb_w6 o1
    replace hC1 := hC1.below hb_w6
    replace hC2 := hC2.below hb_w6
    have hB_w6 := bcall hB_w5 (by first | omega | (simp; omega)) hb_w6
    clear hB_w5 hb_w6
    go_wp2_with fail
    refine (llGrid_any _ _ _ _ _ _ cs ds _ hC1 hC2 (by omega) (by omega)).mono ?_
    rintro e w7 ⟨rfl, hb_w7⟩
    have hz_w7 := hb_w7.size
    try simp at hz_w7
    replace g0 := keepc hb_w7 g0; replace g1 := keepc hb_w7 g1; replace o0 := keepc hb_w7 o0; replace o1 := keepc hb_w7 o1
    replace hC1 := hC1.below hb_w7
    replace hC2 := hC2.below hb_w7
    have hB_w7 := bcall hB_w6 (by first | omega | (simp; omega)) hb_w7
    clear hB_w6 hb_w7
    go_wp2
    go_ret
    exact ⟨rfl, hB_w7⟩
  · have e3 : ((str tx).toList == (str ty).toList) = false := by rw [str_beq]; simp [et]
    have e4 : eqL wd wd2 cs ds = false := by
      simp only [eqL, decide_eq_false_iff_not]
      rintro ⟨rfl, rfl⟩
      exact et (by rw [← HX.out, ← HY.out])
    clear et ex ey k1 k2
    go_wp2_with fail
    refine (text_spec HX.out a1 c1 _ hC1 (by omega)).mono ?_
    rintro e w5 ⟨rfl, hb_w5⟩
    have hz_w5 := hb_w5.size
    try simp at hz_w5
    replace g0 := keepc hb_w5 g0; replace g1 := keepc hb_w5 g1; replace o0 := keepc hb_w5 o0; replace o1 := keepc hb_w5 o1
    replace hC1 := hC1.below hb_w5
    replace hC2 := hC2.below hb_w5
    have hB_w5 := bcall hB_w4 (by first | omega | (simp; omega)) hb_w5
    clear hB_w4 hb_w5
    go_wp2_with fail
    refine (text_spec HY.out a2 c2 _ hC2 (by omega)).mono ?_
    rintro e w6 ⟨rfl, hb_w6⟩
    have hz_w6 := hb_w6.size
    try simp at hz_w6
    replace g0 := keepc hb_w6 g0; replace g1 := keepc hb_w6 g1; replace o0 := keepc hb_w6 o0; replace o1 := keepc hb_w6 o1
    replace hC1 := hC1.below hb_w6
    replace hC2 := hC2.below hb_w6
    have hB_w6 := bcall hB_w5 (by first | omega | (simp; omega)) hb_w6
    clear hB_w5 hb_w6
    go_wp2_with fail
    refine (llGrid_any _ _ _ _ _ _ cs ds _ hC1 hC2 (by omega) (by omega)).mono ?_
    rintro e w7 ⟨rfl, hb_w7⟩
    have hz_w7 := hb_w7.size
    try simp at hz_w7
    replace g0 := keepc hb_w7 g0; replace g1 := keepc hb_w7 g1; replace o0 := keepc hb_w7 o0; replace o1 := keepc hb_w7 o1
    replace hC1 := hC1.below hb_w7
    replace hC2 := hC2.below hb_w7
    have hB_w7 := bcall hB_w6 (by first | omega | (simp; omega)) hb_w7
    clear hB_w6 hb_w7
    go_wp2
    go_ret
    exact ⟨rfl, hB_w7⟩

theorem walk (a : Option Addr) (n cap : Nat) (f : Nat → Int) (a' : Option Addr) (n' cap' : Nat) (f' : Nat → Int) (w : World) (h : BytesAt w a n f) (hm : n ≤ cap ∧ cap ≤ 9223372036854775807) (h' : BytesAt w a' n' f') (hm' : n' ≤ cap' ∧ cap' ≤ 9223372036854775807) :
    Calls Try.prog 5 #[.slice a n cap, .slice a' n' cap'] w fun e w' => e = .returned (.bool true) ∧ Below w.heap.size w w' := by
  by_cases hs : n ≤ 1048576
  · by_cases hs' : n' ≤ 1048576
    · exact small a n cap f a' n' cap' f' w h hm h' hm' hs hs'
    · exact big' a n cap f a' n' cap' f' w h hm h' hm' hs (by omega)
  · exact big a n cap f a' n' cap' f' w h hm h' hm' (by omega)

set_option maxRecDepth 100000 in
theorem lifted (os : Os) (started : os.Started) (H : Type) (enc : TypeId × Value → H) :
    ReturnsInHanded {} Try.checked os 5 .any (Rows.fnGridOneSpec.pre6 enc Try.prog Try.f5 Rows.fnGridOneRow.domain false) (Rows.fnGridOneSpec.post enc Try.prog Try.f5 false true false false) := by
  refine returnsInHanded_of_change (C := Try.checked) own started (by kernel_rfl) Try.func5
    (ChangeSpec.witness6 (enc := enc) (C := Try.checked) false ⟨#[], #[.slice none 0 0, .slice none 0 0], []⟩ 8 (by kernel_rfl) (by kernel_rfl) (by kernel_rfl) (by kernel_rfl)) ?_
  intro W base args ds gs before hval0 hW hcnd _
  have hval : ∀ (j : Nat) t v, Try.f5.params[j]? = some t → args[j]? = some v → Value.okWide Try.prog W .any base t v := hval0
  have hW' := hW
  obtain ⟨p, q, hA0, hV, rfl, hfz, hnd⟩ := hW
  have hA : DataW.TrodAll enc Try.prog W 0 (fun _ => true) true Try.f5.params.toList args.toList ds p := hA0
  rw [Try.params5] at hA hval
  obtain ⟨v0, vs0, d0, ds0, p0, q0, hargs, rfl, rfl, h0, r0⟩ := trodAll_cons hA
  obtain ⟨v1, vs1, d1, ds1, p1, q1, rfl, rfl, rfl, h1, r1⟩ := trodAll_cons r0
  obtain ⟨rfl, rfl, rfl⟩ := trodAll_nil r1
  obtain rfl : args = #[v0, v1] := by cases args; simp_all
  obtain ⟨rfl, rfl⟩ := trodVars_none hV
  have k0 := h0
  have lt0 : ∀ x ∈ p0, x.block < W.heap.size := by obtain ⟨m, hm⟩ := k0; exact DataW.trod_lt m _ _ _ hm
  obtain ⟨a0, n0, cap0, f0, rfl, hC0, hm0⟩ := open_bytes (hval 0 22 v0 rfl rfl) h0
  have k1 := h1
  have lt1 : ∀ x ∈ p1, x.block < W.heap.size := by obtain ⟨m, hm⟩ := k1; exact DataW.trod_lt m _ _ _ hm
  obtain ⟨a1, n1, cap1, f1, rfl, hC1, hm1⟩ := open_bytes (hval 1 22 v1 rfl rfl) h1
  clear hA0 hval0
  refine (walk a0 n0 cap0 f0 a1 n1 cap1 f1 W hC0 hm0 hC1 hm1).mono fun e W' ⟨he, bel⟩ => ?_
  subst he
  exact ⟨_, rfl, _, _, _, [], _, [], hW', trodAll_mk1 (shut_bool Try.underlying4 _), (trodAll_cons_mk (Below.trod laidOut (by kernel_rfl) (of_decide_eq_true (by kernel_rfl)) k0 bel lt0) (trodAll_cons_mk (Below.trod laidOut (by kernel_rfl) (of_decide_eq_true (by kernel_rfl)) k1 bel lt1) trodAll_mk0)), rfl, bel.frame _, fun h => by cases h⟩

theorem over : Rows.fnGridOneRow.holds Try.pinned (OpenSpec.ofChange Rows.fnGridOneSpec) :=
  OpenClaim.holds_of_wide 5 Try.f5 rfl rfl rfl rfl rfl rfl rfl ⟨rfl, rfl, rfl, rfl, rfl⟩ rfl rfl rfl rfl rfl (by kernel_rfl) Try.func5 (by kernel_rfl)
    (of_decide_eq_true (by kernel_rfl)) (by unfold Func.isWrapper; first | (rw [if_pos (by decide +kernel)]; kernel_rfl) | (rw [if_neg (by decide +kernel)]; exact ⟨rfl, rfl⟩))
    (fun os started H enc _ => lifted os started H enc)

end Go.Proofs.Ytgichlfkhmomhaa.LwGridOne

namespace Go.Proofs.Ytgichlfkhmomhaa
/-- The statement. -/
theorem lwGridOne : Rows.FnGridOneSaid := LwGridOne.over
#print axioms lwGridOne
end Go.Proofs.Ytgichlfkhmomhaa
