/-
  'laws.FnGridStrict' returns true for all codes: a grid is written in one way. No condition.
-/
import Derived.Test.YteibklaabnnfbaaFb
import Derived.Test.YteibklaabnnfbaaRv
import Derived.Test.YteibklaabnnfbaaDr
namespace Go.Proofs.Yteibklaabnnfbaa.LwGridStrict
open Go.ChangeShapes Go.WideShapes Go.ChangeAt Go.RowKit
set_option linter.unusedVariables false
attribute [local go_sem ↓] Go.wp_at_zero Go.wp_at_succ

/-- Too long a code. -/
theorem big (a : Option Addr) (n cap : Nat) (f : Nat → Int) (w : World) (h : BytesAt w a n f) (hm : n ≤ cap ∧ cap ≤ 9223372036854775807) (hbig : 1048576 < n) :
    Calls Try.prog 3 #[.slice a n cap] w fun e w' => e = .returned (.bool true) ∧ Below w.heap.size w w' := by
  have hb : (1048576 : Int) < (n : Int) := by omega
  go_enter Try.func3, Try.ntmps3
  go_wp2
  go_ret
  exact ⟨rfl, Below.refl _ _⟩

set_option maxRecDepth 100000 in
set_option maxHeartbeats 8000000 in
theorem small (a : Option Addr) (n cap : Nat) (f : Nat → Int) (w : World) (h : BytesAt w a n f) (hm : n ≤ cap ∧ cap ≤ 9223372036854775807) (hsm : n ≤ 1048576) :
    Calls Try.prog 3 #[.slice a n cap] w fun e w' => e = .returned (.bool true) ∧ Below w.heap.size w w' := by
  have hb : (n : Int) ≤ 1048576 := by omega
  go_enter Try.func3, Try.ntmps3
  go_wp2_with fail
  refine (drawGridRead_any a n cap f w h hsm hm.1 hm.2).mono ?_
  rintro e w1 ⟨S, rfl, hS, hb_w1⟩
  have hz_w1 := hb_w1.size
  try simp at hz_w1
  obtain ⟨t, rfl⟩ : ∃ t, S = str t := ⟨S.data.toList, by simp [str]⟩
  rw [str_size] at hS
  obtain ⟨tw, tc, tb, hl, hT, hV⟩ := read_val t
  have CS : Hid (∀ w : World, Calls Try.prog 7 #[.string (str t)] w fun e w' => ∃ v, e = .returned (.tuple #[.agg #[.int .i64 tw, v], .bool tb]) ∧ Own w' w.heap.size v tc ∧ Below w.heap.size w w') := by
    intro w
    refine (specGridRead_any t w (by omega)).mono ?_
    rintro e w' ⟨h, hb⟩
    obtain ⟨v, rfl, hO⟩ := hV e w' _ h
    exact ⟨v, rfl, hO, hb⟩
  have CI : Hid (∀ w : World, Calls Try.prog 8 #[.string (str t)] w fun e w' => ∃ v, e = .returned (.tuple #[.agg #[.int .i64 tw, v], .bool tb]) ∧ Own w' w.heap.size v tc ∧ Below w.heap.size w w') := by
    intro w
    refine (implGridRead_any t w (by omega)).mono ?_
    rintro e w' ⟨h, hb⟩
    obtain ⟨v, rfl, hO⟩ := hV e w' _ h
    exact ⟨v, rfl, hO, hb⟩
  have heq : eqL tw tw tc tc = true := by simp [eqL]
  clear hV
  cases tb
  · clear hT
    go_wp2_with fail
    refine (CS.out _).mono ?_
    rintro e w2 ⟨v2, rfl, hO2, hb_w2⟩
    obtain ⟨a2, c2, rfl, hC2⟩ := hO2.slice
    clear hO2
    have hz_w2 := hb_w2.size
    try simp at hz_w2
    have hB_w2 := bcall hb_w1 (by first | omega | (simp; omega)) hb_w2
    clear hb_w1 hb_w2
    have hbS1 : Below w2.heap.size w2 (w2.alloc (.cells #[.int .i64 tw, .slice a2 tc.length c2] 26)) := (by repeat (first | exact Below.refl _ _ | refine Below.alloc ?_ (by first | exact Nat.le_refl _ | (simp; done) | (simp; omega)) _ | refine Below.drew ?_ | refine Below.setCell ?_ (by first | exact Nat.le_refl _ | (simp; done) | (simp; omega)) _))
    replace hC2 := hC2.below hbS1
    have y0 : (w2.alloc (.cells #[.int .i64 tw, .slice a2 tc.length c2] 26)).cell? ⟨w2.heap.size, 0, none⟩ = some (.int .i64 tw) := by simp [go_sem]
    have y1 : (w2.alloc (.cells #[.int .i64 tw, .slice a2 tc.length c2] 26)).cell? ⟨w2.heap.size, 1, none⟩ = some (.slice a2 tc.length c2) := by simp [go_sem]
    have hBs1 := bcall hB_w2 (by omega) hbS1
    clear hB_w2
    clear hbS1
    go_wp2_with fail
    refine (CI.out _).mono ?_
    rintro e w3 ⟨v3, rfl, hO3, hb_w3⟩
    obtain ⟨a3, c3, rfl, hC3⟩ := hO3.slice
    clear hO3
    have hz_w3 := hb_w3.size
    try simp at hz_w3
    replace y0 := keepc hb_w3 y0; replace y1 := keepc hb_w3 y1
    replace hC2 := hC2.below hb_w3
    have hB_w3 := bcall hBs1 (by first | omega | (simp; omega)) hb_w3
    clear hBs1 hb_w3
    have hbS2 : Below w3.heap.size w3 (w3.alloc (.cells #[.int .i64 tw, .slice a3 tc.length c3] 26)) := (by repeat (first | exact Below.refl _ _ | refine Below.alloc ?_ (by first | exact Nat.le_refl _ | (simp; done) | (simp; omega)) _ | refine Below.drew ?_ | refine Below.setCell ?_ (by first | exact Nat.le_refl _ | (simp; done) | (simp; omega)) _))
    replace y0 := keepc hbS2 y0; replace y1 := keepc hbS2 y1
    replace hC2 := hC2.below hbS2
    replace hC3 := hC3.below hbS2
    have z0 : (w3.alloc (.cells #[.int .i64 tw, .slice a3 tc.length c3] 26)).cell? ⟨w3.heap.size, 0, none⟩ = some (.int .i64 tw) := by simp [go_sem]
    have z1 : (w3.alloc (.cells #[.int .i64 tw, .slice a3 tc.length c3] 26)).cell? ⟨w3.heap.size, 1, none⟩ = some (.slice a3 tc.length c3) := by simp [go_sem]
    have hBs2 := bcall hB_w3 (by omega) hbS2
    clear hB_w3
    clear hbS2
    go_wp2_with fail
    refine (llGrid_any _ _ _ _ _ _ tc tc _ hC3 hC2 (by omega) (by omega)).mono ?_
    rintro e w4 ⟨rfl, hb_w4⟩
    have hz_w4 := hb_w4.size
    try simp at hz_w4
    replace y0 := keepc hb_w4 y0; replace y1 := keepc hb_w4 y1; replace z0 := keepc hb_w4 z0; replace z1 := keepc hb_w4 z1
    replace hC2 := hC2.below hb_w4
    replace hC3 := hC3.below hb_w4
    have hB_w4 := bcall hBs2 (by first | omega | (simp; omega)) hb_w4
    clear hBs2 hb_w4
    go_wp2_with fail
    refine (llGrid_any _ _ _ _ _ _ tc tc _ hC3 hC2 (by omega) (by omega)).mono ?_
    rintro e w5 ⟨rfl, hb_w5⟩
    have hz_w5 := hb_w5.size
    try simp at hz_w5
    replace y0 := keepc hb_w5 y0; replace y1 := keepc hb_w5 y1; replace z0 := keepc hb_w5 z0; replace z1 := keepc hb_w5 z1
    replace hC2 := hC2.below hb_w5
    replace hC3 := hC3.below hb_w5
    have hB_w5 := bcall hB_w4 (by first | omega | (simp; omega)) hb_w5
    clear hB_w4 hb_w5
    go_wp2
    go_ret
    exact ⟨rfl, hB_w5⟩
  · obtain ⟨hok, htx⟩ := hT rfl
    have HT : Hid (textG tw tc = t) := htx
    have b1 : ((str t).toList == (str t).toList) = true := by simp
    clear htx hT
    go_wp2_with fail
    refine (CS.out _).mono ?_
    rintro e w2 ⟨v2, rfl, hO2, hb_w2⟩
    obtain ⟨a2, c2, rfl, hC2⟩ := hO2.slice
    clear hO2
    have hz_w2 := hb_w2.size
    try simp at hz_w2
    have hB_w2 := bcall hb_w1 (by first | omega | (simp; omega)) hb_w2
    clear hb_w1 hb_w2
    have hbS1 : Below w2.heap.size w2 (w2.alloc (.cells #[.int .i64 tw, .slice a2 tc.length c2] 26)) := (by repeat (first | exact Below.refl _ _ | refine Below.alloc ?_ (by first | exact Nat.le_refl _ | (simp; done) | (simp; omega)) _ | refine Below.drew ?_ | refine Below.setCell ?_ (by first | exact Nat.le_refl _ | (simp; done) | (simp; omega)) _))
    replace hC2 := hC2.below hbS1
    have y0 : (w2.alloc (.cells #[.int .i64 tw, .slice a2 tc.length c2] 26)).cell? ⟨w2.heap.size, 0, none⟩ = some (.int .i64 tw) := by simp [go_sem]
    have y1 : (w2.alloc (.cells #[.int .i64 tw, .slice a2 tc.length c2] 26)).cell? ⟨w2.heap.size, 1, none⟩ = some (.slice a2 tc.length c2) := by simp [go_sem]
    have hBs1 := bcall hB_w2 (by omega) hbS1
    clear hB_w2
    clear hbS1
    go_wp2_with fail
    refine (CI.out _).mono ?_
    rintro e w3 ⟨v3, rfl, hO3, hb_w3⟩
    obtain ⟨a3, c3, rfl, hC3⟩ := hO3.slice
    clear hO3
    have hz_w3 := hb_w3.size
    try simp at hz_w3
    replace y0 := keepc hb_w3 y0; replace y1 := keepc hb_w3 y1
    replace hC2 := hC2.below hb_w3
    have hB_w3 := bcall hBs1 (by first | omega | (simp; omega)) hb_w3
    clear hBs1 hb_w3
    have hbS2 : Below w3.heap.size w3 (w3.alloc (.cells #[.int .i64 tw, .slice a3 tc.length c3] 26)) := (by repeat (first | exact Below.refl _ _ | refine Below.alloc ?_ (by first | exact Nat.le_refl _ | (simp; done) | (simp; omega)) _ | refine Below.drew ?_ | refine Below.setCell ?_ (by first | exact Nat.le_refl _ | (simp; done) | (simp; omega)) _))
    replace y0 := keepc hbS2 y0; replace y1 := keepc hbS2 y1
    replace hC2 := hC2.below hbS2
    replace hC3 := hC3.below hbS2
    have z0 : (w3.alloc (.cells #[.int .i64 tw, .slice a3 tc.length c3] 26)).cell? ⟨w3.heap.size, 0, none⟩ = some (.int .i64 tw) := by simp [go_sem]
    have z1 : (w3.alloc (.cells #[.int .i64 tw, .slice a3 tc.length c3] 26)).cell? ⟨w3.heap.size, 1, none⟩ = some (.slice a3 tc.length c3) := by simp [go_sem]
    have hBs2 := bcall hB_w3 (by omega) hbS2
    clear hB_w3
    clear hbS2
    go_wp2_with fail
    refine (llGrid_any _ _ _ _ _ _ tc tc _ hC3 hC2 (by omega) (by omega)).mono ?_
    rintro e w4 ⟨rfl, hb_w4⟩
    have hz_w4 := hb_w4.size
    try simp at hz_w4
    replace y0 := keepc hb_w4 y0; replace y1 := keepc hb_w4 y1; replace z0 := keepc hb_w4 z0; replace z1 := keepc hb_w4 z1
    replace hC2 := hC2.below hb_w4
    replace hC3 := hC3.below hb_w4
    have hB_w4 := bcall hBs2 (by first | omega | (simp; omega)) hb_w4
    clear hBs2 hb_w4
    go_wp2_with fail
    refine (implGridOk_any _ _ _ tc _ hC3 (by omega)).mono ?_
    rintro e w5 ⟨rfl, hb_w5⟩
    have hz_w5 := hb_w5.size
    try simp at hz_w5
    replace y0 := keepc hb_w5 y0; replace y1 := keepc hb_w5 y1; replace z0 := keepc hb_w5 z0; replace z1 := keepc hb_w5 z1
    replace hC2 := hC2.below hb_w5
    replace hC3 := hC3.below hb_w5
    have hB_w5 := bcall hB_w4 (by first | omega | (simp; omega)) hb_w5
    clear hB_w4 hb_w5
    go_wp2_with fail
    refine (text_impl HT.out _ _ _ hC3 (by omega)).mono ?_
    rintro e w6 ⟨rfl, hb_w6⟩
    have hz_w6 := hb_w6.size
    try simp at hz_w6
    replace y0 := keepc hb_w6 y0; replace y1 := keepc hb_w6 y1; replace z0 := keepc hb_w6 z0; replace z1 := keepc hb_w6 z1
    replace hC2 := hC2.below hb_w6
    replace hC3 := hC3.below hb_w6
    have hB_w6 := bcall hB_w5 (by first | omega | (simp; omega)) hb_w6
    clear hB_w5 hb_w6
    go_wp2
    go_ret
    exact ⟨rfl, hB_w6⟩

theorem walk (a : Option Addr) (n cap : Nat) (f : Nat → Int) (w : World) (h : BytesAt w a n f) (hm : n ≤ cap ∧ cap ≤ 9223372036854775807) :
    Calls Try.prog 3 #[.slice a n cap] w fun e w' => e = .returned (.bool true) ∧ Below w.heap.size w w' := by
  by_cases hs : n ≤ 1048576
  · exact small a n cap f w h hm hs
  · exact big a n cap f w h hm (by omega)

set_option maxRecDepth 100000 in
theorem lifted (os : Os) (started : os.Started) (H : Type) (enc : TypeId × Value → H) :
    ReturnsInHanded {} Try.checked os 3 .any (Rows.fnGridStrictSpec.pre6 enc Try.prog Try.f3 Rows.fnGridStrictRow.domain false) (Rows.fnGridStrictSpec.post enc Try.prog Try.f3 false true false false) := by
  refine returnsInHanded_of_change (C := Try.checked) own started (by kernel_rfl) Try.func3
    (ChangeSpec.witness6 (enc := enc) (C := Try.checked) false ⟨#[], #[.slice none 0 0], []⟩ 8 (by kernel_rfl) (by kernel_rfl) (by kernel_rfl) (by kernel_rfl)) ?_
  intro W base args ds gs before hval0 hW hcnd _
  have hval : ∀ (j : Nat) t v, Try.f3.params[j]? = some t → args[j]? = some v → Value.okWide Try.prog W .any base t v := hval0
  have hW' := hW
  obtain ⟨p, q, hA0, hV, rfl, hfz, hnd⟩ := hW
  have hA : DataW.TrodAll enc Try.prog W 0 (fun _ => true) true Try.f3.params.toList args.toList ds p := hA0
  rw [Try.params3] at hA hval
  obtain ⟨v0, vs0, d0, ds0, p0, q0, hargs, rfl, rfl, h0, r0⟩ := trodAll_cons hA
  obtain ⟨rfl, rfl, rfl⟩ := trodAll_nil r0
  obtain rfl : args = #[v0] := by cases args; simp_all
  obtain ⟨rfl, rfl⟩ := trodVars_none hV
  have k0 := h0
  have lt0 : ∀ x ∈ p0, x.block < W.heap.size := by obtain ⟨m, hm⟩ := k0; exact DataW.trod_lt m _ _ _ hm
  obtain ⟨a0, n0, cap0, f0, rfl, hC0, hm0⟩ := open_bytes (hval 0 22 v0 rfl rfl) h0
  clear hA0 hval0
  refine (walk a0 n0 cap0 f0 W hC0 hm0).mono fun e W' ⟨he, bel⟩ => ?_
  subst he
  exact ⟨_, rfl, _, _, _, [], _, [], hW', trodAll_mk1 (shut_bool Try.underlying4 _), (trodAll_cons_mk (Below.trod laidOut (by kernel_rfl) (of_decide_eq_true (by kernel_rfl)) k0 bel lt0) trodAll_mk0), rfl, bel.frame _, fun h => by cases h⟩

theorem over : Rows.fnGridStrictRow.holds Try.pinned (OpenSpec.ofChange Rows.fnGridStrictSpec) :=
  OpenClaim.holds_of_wide 3 Try.f3 rfl rfl rfl rfl rfl rfl rfl ⟨rfl, rfl, rfl, rfl, rfl⟩ rfl rfl rfl rfl rfl (by kernel_rfl) Try.func3 (by kernel_rfl)
    (of_decide_eq_true (by kernel_rfl)) (by unfold Func.isWrapper; first | (rw [if_pos (by decide +kernel)]; kernel_rfl) | (rw [if_neg (by decide +kernel)]; exact ⟨rfl, rfl⟩))
    (fun os started H enc _ => lifted os started H enc)

end Go.Proofs.Yteibklaabnnfbaa.LwGridStrict

namespace Go.Proofs.Yteibklaabnnfbaa
/-- The statement. -/
theorem lwGridStrict : Rows.FnGridStrictSaid := LwGridStrict.over
#print axioms lwGridStrict
end Go.Proofs.Yteibklaabnnfbaa
