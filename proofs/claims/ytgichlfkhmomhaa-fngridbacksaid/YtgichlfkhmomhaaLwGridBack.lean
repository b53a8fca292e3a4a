/-
  'laws.FnGridBack' returns true for every code: a grid is read back from its text. No condition.
-/
import Derived.Test.YtgichlfkhmomhaaFb
import Derived.Test.YtgichlfkhmomhaaRw
import Derived.Deep.RegionHeld3
namespace Go.Proofs.Ytgichlfkhmomhaa.LwGridBack
open Go.ChangeShapes Go.WideShapes Go.ChangeAt Go.RowKit
set_option linter.unusedVariables false
attribute [local go_sem ↓] Go.wp_at_zero Go.wp_at_succ

theorem read_back {wd : Int} {cs : List (Int × Int)} {tx : List UInt8} (hok : okG wd cs = true) (hx : textG wd cs = tx) (w : World) (hm : tx.length ≤ 1048576) :
    Calls Try.prog 14 #[.string (str tx)] w fun e w' => ∃ v, e = .returned (.tuple #[.agg #[.int .i64 wd, v], .bool true]) ∧ Own w' w.heap.size v cs ∧ Below w.heap.size w w' := by
  refine (implGridRead_any tx w hm).mono ?_
  rintro e w' ⟨h, hb⟩
  rcases h with ⟨wd2, v, ds, k1, k2, rfl, hO⟩ | ⟨k, _⟩
  · obtain ⟨rfl, rfl⟩ := text_inj wd wd2 cs ds hok k1 (hx.trans k2.symm)
    exact ⟨v, rfl, hO, hb⟩
  · exact absurd hx (k wd cs hok)

/-- Too long a code. -/
theorem big (a : Option Addr) (n cap : Nat) (f : Nat → Int) (w : World) (h : BytesAt w a n f) (hm : n ≤ cap ∧ cap ≤ 9223372036854775807) (hbig : 1048576 < n) :
    Calls Try.prog 3 #[.slice a n cap] w fun e w' => e = .returned (.bool true) ∧ Below w.heap.size w w' := by
  have hb : (1048576 : Int) < (n : Int) := by omega
  go_enter Try.func3, Try.ntmps3
  go_wp2
  go_ret
  exact ⟨rfl, Below.refl _ _⟩

set_option maxRecDepth 100000 in
set_option maxHeartbeats 8000000 in
theorem small (a : Option Addr) (n cap : Nat) (f : Nat → Int) (w : World) (h : BytesAt w a n f) (hm : n ≤ cap ∧ cap ≤ 9223372036854775807) (hsm : n ≤ 1048576) :
    Calls Try.prog 3 #[.slice a n cap] w fun e w' => e = .returned (.bool true) ∧ Below w.heap.size w w' := by
  have hb : (n : Int) ≤ 1048576 := by omega
  go_enter Try.func3, Try.ntmps3
  go_wp2_with fail
  refine (drawGridText_any a n cap f w h hsm hm.1 hm.2).mono ?_
  rintro e w1 ⟨wd, a1, c1, cs, rfl, hC1, hl1, hb_w1⟩
  have hz_w1 := hb_w1.size
  try simp at hz_w1
  have hbS1 : Below w1.heap.size w1 (w1.alloc (.cells #[.int .i64 wd, .slice a1 cs.length c1] 25)) := (by repeat (first | exact Below.refl _ _ | refine Below.alloc ?_ (by first | exact Nat.le_refl _ | (simp; done) | (simp; omega)) _ | refine Below.drew ?_ | refine Below.setCell ?_ (by first | exact Nat.le_refl _ | (simp; done) | (simp; omega)) _))
  replace hC1 := hC1.below hbS1
  have g0 : (w1.alloc (.cells #[.int .i64 wd, .slice a1 cs.length c1] 25)).cell? ⟨w1.heap.size, 0, none⟩ = some (.int .i64 wd) := by simp [go_sem]
  have g1 : (w1.alloc (.cells #[.int .i64 wd, .slice a1 cs.length c1] 25)).cell? ⟨w1.heap.size, 1, none⟩ = some (.slice a1 cs.length c1) := by simp [go_sem]
  have hBs1 := bcall hb_w1 (by omega) hbS1
  clear hb_w1
  clear hbS1
  obtain ⟨tx, hx⟩ : ∃ tx, textG wd cs = tx := ⟨_, rfl⟩
  have HX : Hid (textG wd cs = tx) := hx
  clear hx
  go_wp2_with fail
  refine (text_impl HX.out a1 c1 _ hC1 (by omega)).mono ?_
  rintro e w2 ⟨rfl, hb_w2⟩
  have hz_w2 := hb_w2.size
  try simp at hz_w2
  replace g0 := keepc hb_w2 g0; replace g1 := keepc hb_w2 g1
  replace hC1 := hC1.below hb_w2
  have hB_w2 := bcall hBs1 (by first | omega | (simp; omega)) hb_w2
  clear hBs1 hb_w2
  have n1 : ((str tx).toList == (str tx).toList) = true := by simp
  by_cases ex : tx = []
  · have e1 : (str tx).toList.isEmpty = true := by rw [str_empty]; simp [ex]
    clear ex
    go_wp2_with fail
    refine (text_spec HX.out a1 c1 _ hC1 (by omega)).mono ?_
    rintro e w3 ⟨rfl, hb_w3⟩
    have hz_w3 := hb_w3.size
    try simp at hz_w3
    replace g0 := keepc hb_w3 g0; replace g1 := keepc hb_w3 g1
    replace hC1 := hC1.below hb_w3
    have hB_w3 := bcall hB_w2 (by first | omega | (simp; omega)) hb_w3
    clear hB_w2 hb_w3
    go_wp2_with fail
    refine (text_spec HX.out a1 c1 _ hC1 (by omega)).mono ?_
    rintro e w4 ⟨rfl, hb_w4⟩
    have hz_w4 := hb_w4.size
    try simp at hz_w4
    replace g0 := keepc hb_w4 g0; replace g1 := keepc hb_w4 g1
    replace hC1 := hC1.below hb_w4
    have hB_w4 := bcall hB_w3 (by first | omega | (simp; omega)) hb_w4
    clear hB_w3 hb_w4
    go_wp2
    go_ret
    exact ⟨rfl, hB_w4⟩
  · have e1 : (str tx).toList.isEmpty = false := by rw [str_empty]; simp [ex]
    have hok : okG wd cs = true := by
      by_cases q : okG wd cs = true
      · exact q
      · exact absurd (HX.out.symm.trans ((text_nil wd cs).2 (by simpa using q))) ex
    obtain ⟨W, H, ew, k1, k2, k3, k4, k5, k6, k7, _⟩ := read_shape tx wd cs hok HX.out
    have hw1 : 1 ≤ wd := by omega
    have hw0 : (wd == 0) = false := by simp; omega
    obtain ⟨N, hN⟩ : ∃ N, tx.length = N := ⟨_, rfl⟩
    have hsz : (str tx).size = N := by rw [str_size, hN]
    have hN30 : N ≤ 30 := by rw [← hN, k6]; exact Nat.le_trans (Nat.mul_le_mul (show W + 1 ≤ 6 by omega) k4) (by omega)
    have vq : IntKind.i64.wrap ((cs.length : Int) / wd) = (H : Int) := by
      rw [ew, k5, show ((W * H : Nat) : Int) / (W : Int) = (H : Int) by rw [Int.natCast_mul]; exact Int.mul_ediv_cancel_left _ (by omega)]
      exact IntWalk.i64_in _ (by omega)
    have vs : IntKind.i64.wrap ((cs.length : Int) + (H : Int)) = (N : Int) := by
      rw [k5, ← hN, k6, show ((W * H : Nat) : Int) + (H : Int) = (((W + 1) * H : Nat) : Int) by rw [Nat.add_mul, Nat.one_mul, Int.natCast_add]]
      exact IntWalk.i64_in _ (by rw [← k6, hN]; omega)
    have e6 : (cs.length : Int).tdiv wd = (cs.length : Int) / wd := Int.tdiv_eq_ediv_of_nonneg (by omega)
    have hne : ¬ wd = 0 := by omega
    have vt : IntKind.i64.wrap ((cs.length : Int).tdiv wd) = (H : Int) := by rw [e6]; exact vq
    have htl : tx.length ≤ 1048576 := by omega
    have e7 : ((N : Int) == (N : Int)) = true := by simp
    have heq : eqL wd wd cs cs = true := by simp [eqL]
    have HO : Hid (okG wd cs = true) := hok
    clear ex ew k5 k6 k7 hN
    go_wp2_with fail
    refine (text_spec HX.out a1 c1 _ hC1 (by omega)).mono ?_
    rintro e w3 ⟨rfl, hb_w3⟩
    have hz_w3 := hb_w3.size
    try simp at hz_w3
    replace g0 := keepc hb_w3 g0; replace g1 := keepc hb_w3 g1
    replace hC1 := hC1.below hb_w3
    have hB_w3 := bcall hB_w2 (by first | omega | (simp; omega)) hb_w3
    clear hB_w2 hb_w3
    go_wp2_with fail
    refine (read_back HO.out HX.out _ htl).mono ?_
    rintro e w4 ⟨v_w4, rfl, hO_w4, hb_w4⟩
    obtain ⟨a4, c4, rfl, hC4⟩ := hO_w4.slice
    clear hO_w4
    have hz_w4 := hb_w4.size
    try simp at hz_w4
    replace g0 := keepc hb_w4 g0; replace g1 := keepc hb_w4 g1
    replace hC1 := hC1.below hb_w4
    have hB_w4 := bcall hB_w3 (by first | omega | (simp; omega)) hb_w4
    clear hB_w3 hb_w4
    have hbS2 : Below w4.heap.size w4 (w4.alloc (.cells #[.int .i64 wd, .slice a4 cs.length c4] 25)) := (by repeat (first | exact Below.refl _ _ | refine Below.alloc ?_ (by first | exact Nat.le_refl _ | (simp; done) | (simp; omega)) _ | refine Below.drew ?_ | refine Below.setCell ?_ (by first | exact Nat.le_refl _ | (simp; done) | (simp; omega)) _))
    replace g0 := keepc hbS2 g0; replace g1 := keepc hbS2 g1
    replace hC1 := hC1.below hbS2
    replace hC4 := hC4.below hbS2
    have x0 : (w4.alloc (.cells #[.int .i64 wd, .slice a4 cs.length c4] 25)).cell? ⟨w4.heap.size, 0, none⟩ = some (.int .i64 wd) := by simp [go_sem]
    have x1 : (w4.alloc (.cells #[.int .i64 wd, .slice a4 cs.length c4] 25)).cell? ⟨w4.heap.size, 1, none⟩ = some (.slice a4 cs.length c4) := by simp [go_sem]
    have hBs2 := bcall hB_w4 (by omega) hbS2
    clear hB_w4
    clear hbS2
    go_wp2
    obtain ⟨w5, hw5⟩ : ∃ w5, w5 = w4.alloc (.cells #[.int .i64 wd, .slice a4 cs.length c4] 25) := ⟨_, rfl⟩
    rw [← hw5] at g0 g1 x0 x1 hC1 hC4 hBs2 ⊢
    clear hw5
    have hz5 := hBs2.size
    go_region_held3 (fun w' => w'.cell? ⟨w1.heap.size, 0, none⟩ = some (.int .i64 wd) ∧ w'.cell? ⟨w1.heap.size, 1, none⟩ = some (.slice a1 cs.length c1) ∧ w'.cell? ⟨w4.heap.size, 0, none⟩ = some (.int .i64 wd) ∧ w'.cell? ⟨w4.heap.size, 1, none⟩ = some (.slice a4 cs.length c4))
      (first
        | with_reducible exact ⟨keepc hb7 g0, keepc hb7 g1, keepc hb7 x0, keepc hb7 x1⟩
        | with_reducible exact ⟨keepc hb6 g0, keepc hb6 g1, keepc hb6 x0, keepc hb6 x1⟩
        | go_keep)
      (first
        | (go_at_call 15; refine (llGrid_any _ _ _ _ _ _ cs cs _ (by first | with_reducible exact hC4 | with_reducible exact hC4.below (Below.refl _ _).drew) (by first | with_reducible exact hC1 | with_reducible exact hC1.below (Below.refl _ _).drew) (by omega) (by omega)).mono ?_; rintro e w6 ⟨rfl, hb6'⟩; have hb6 : Below w5.heap.size w5 w6 := (by first | with_reducible exact hb6' | with_reducible exact bdrew hb6'))
        | (go_at_call 16; refine (implGridOk_any _ _ _ cs _ (hC1.below hb6) (by omega)).mono ?_; rintro e w7 ⟨rfl, hb7'⟩; have hb7 : Below w5.heap.size w5 w7 := bcall hb6 hb6.size hb7'))
    have hBf := bcall hBs2 (by omega) hb7
    go_wp2
    go_ret
    exact ⟨rfl, hBf⟩

theorem walk (a : Option Addr) (n cap : Nat) (f : Nat → Int) (w : World) (h : BytesAt w a n f) (hm : n ≤ cap ∧ cap ≤ 9223372036854775807) :
    Calls Try.prog 3 #[.slice a n cap] w fun e w' => e = .returned (.bool true) ∧ Below w.heap.size w w' := by
  by_cases hs : n ≤ 1048576
  · exact small a n cap f w h hm hs
  · exact big a n cap f w h hm (by omega)

set_option maxRecDepth 100000 in
theorem lifted (os : Os) (started : os.Started) (H : Type) (enc : TypeId × Value → H) :
    ReturnsInHanded {} Try.checked os 3 .any (Rows.fnGridBackSpec.pre6 enc Try.prog Try.f3 Rows.fnGridBackRow.domain false) (Rows.fnGridBackSpec.post enc Try.prog Try.f3 false true false false) := by
  refine returnsInHanded_of_change (C := Try.checked) own started (by kernel_rfl) Try.func3
    (ChangeSpec.witness6 (enc := enc) (C := Try.checked) false ⟨#[], #[.slice none 0 0], []⟩ 8 (by kernel_rfl) (by kernel_rfl) (by kernel_rfl) (by kernel_rfl)) ?_
  intro W base args ds gs before hval0 hW hcnd _
  have hval : ∀ (j : Nat) t v, Try.f3.params[j]? = some t → args[j]? = some v → Value.okWide Try.prog W .any base t v := hval0
  have hW' := hW
  obtain ⟨p, q, hA0, hV, rfl, hfz, hnd⟩ := hW
  have hA : DataW.TrodAll enc Try.prog W 0 (fun _ => true) true Try.f3.params.toList args.toList ds p := hA0
  rw [Try.params3] at hA hval
  obtain ⟨v0, vs0, d0, ds0, p0, q0, hargs, rfl, rfl, h0, r0⟩ := trodAll_cons hA
  obtain ⟨rfl, rfl, rfl⟩ := trodAll_nil r0
  obtain rfl : args = #[v0] := by cases args; simp_all
  obtain ⟨rfl, rfl⟩ := trodVars_none hV
  have k0 := h0
  have lt0 : ∀ x ∈ p0, x.block < W.heap.size := by obtain ⟨m, hm⟩ := k0; exact DataW.trod_lt m _ _ _ hm
  obtain ⟨a0, n0, cap0, f0, rfl, hC0, hm0⟩ := open_bytes (hval 0 22 v0 rfl rfl) h0
  clear hA0 hval0
  refine (walk a0 n0 cap0 f0 W hC0 hm0).mono fun e W' ⟨he, bel⟩ => ?_
  subst he
  exact ⟨_, rfl, _, _, _, [], _, [], hW', trodAll_mk1 (shut_bool Try.underlying4 _), (trodAll_cons_mk (Below.trod laidOut (by kernel_rfl) (of_decide_eq_true (by kernel_rfl)) k0 bel lt0) trodAll_mk0), rfl, bel.frame _, fun h => by cases h⟩

theorem over : Rows.fnGridBackRow.holds Try.pinned (OpenSpec.ofChange Rows.fnGridBackSpec) :=
  OpenClaim.holds_of_wide 3 Try.f3 rfl rfl rfl rfl rfl rfl rfl ⟨rfl, rfl, rfl, rfl, rfl⟩ rfl rfl rfl rfl rfl (by kernel_rfl) Try.func3 (by kernel_rfl)
    (of_decide_eq_true (by kernel_rfl)) (by unfold Func.isWrapper; first | (rw [if_pos (by decide +kernel)]; kernel_rfl) | (rw [if_neg (by decide +kernel)]; exact ⟨rfl, rfl⟩))
    (fun os started H enc _ => lifted os started H enc)

end Go.Proofs.Ytgichlfkhmomhaa.LwGridBack

namespace Go.Proofs.Ytgichlfkhmomhaa
/-- The statement. -/
theorem lwGridBack : Rows.FnGridBackSaid := LwGridBack.over
#print axioms lwGridBack
end Go.Proofs.Ytgichlfkhmomhaa
