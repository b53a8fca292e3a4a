/-
  'laws.FnTrailAll' returns true for all codes: no light comes from nowhere, and none goes nowhere. No condition.
-/
import Derived.Test.YtjfeeibnjgjchaaFb
import Derived.Test.YtjfeeibnjgjchaaUk
import Derived.Test.YtjfeeibnjgjchaaUl
namespace Go.Proofs.Ytjfeeibnjgjchaa.LwTrailAll
open Go.ChangeShapes Go.WideShapes Go.ChangeAt Go.RowKit
set_option linter.unusedVariables false
attribute [local go_sem ↓] Go.wp_at_zero Go.wp_at_succ

/-- Too long a code. -/
theorem big (a : Option Addr) (n cap : Nat) (f : Nat → Int) (w : World) (h : BytesAt w a n f) (hm : n ≤ cap ∧ cap ≤ 9223372036854775807) (hbig : 1048576 < n) :
    Calls Try.prog 3 #[.slice a n cap] w fun e w' => e = .returned (.bool true) ∧ Below w.heap.size w w' := by
  have hb : (1048576 : Int) < (n : Int) := by omega
  go_enter Try.func3, Try.ntmps3
  go_wp2
  go_ret
  exact ⟨rfl, Below.refl _ _⟩

set_option maxRecDepth 100000 in
set_option maxHeartbeats 8000000 in
theorem small (a : Option Addr) (n cap : Nat) (f : Nat → Int) (w : World) (h : BytesAt w a n f) (hm : n ≤ cap ∧ cap ≤ 9223372036854775807) (hsm : n ≤ 1048576) :
    Calls Try.prog 3 #[.slice a n cap] w fun e w' => e = .returned (.bool true) ∧ Below w.heap.size w w' := by
  have hb : (n : Int) ≤ 1048576 := by omega
  go_enter Try.func3, Try.ntmps3
  go_wp2_with fail
  refine (drawTrailEnds_any a n cap f w h hsm hm.1 hm.2).mono ?_
  rintro e w1 ⟨wd, a1, c1, cs, k, rfl, hC1, hl1, hk1, hb_w1⟩
  have hz_w1 := hb_w1.size
  try simp at hz_w1
  have hbS1 : Below w1.heap.size w1 (w1.alloc (.cells #[.int .i64 wd, .slice a1 cs.length c1] 25)) := (by repeat (first | exact Below.refl _ _ | refine Below.alloc ?_ (by first | exact Nat.le_refl _ | (simp; done) | (simp; omega)) _ | refine Below.drew ?_ | refine Below.setCell ?_ (by first | exact Nat.le_refl _ | (simp; done) | (simp; omega)) _))
  replace hC1 := hC1.below hbS1
  have g0 : (w1.alloc (.cells #[.int .i64 wd, .slice a1 cs.length c1] 25)).cell? ⟨w1.heap.size, 0, none⟩ = some (.int .i64 wd) := by simp [go_sem]
  have g1 : (w1.alloc (.cells #[.int .i64 wd, .slice a1 cs.length c1] 25)).cell? ⟨w1.heap.size, 1, none⟩ = some (.slice a1 cs.length c1) := by simp [go_sem]
  have hBs1 := bcall hb_w1 (by omega) hbS1
  clear hb_w1
  clear hbS1
  obtain ⟨L, hL⟩ : ∃ L, trailT wd cs k = L := ⟨_, rfl⟩
  have HL : Hid (trailT wd cs k = L) := hL
  obtain ⟨ke1, ke2, ke3, ke4, ke5⟩ := ends_known hL
  obtain ⟨ES, hES⟩ : ∃ ES, L.2 = ES := ⟨_, rfl⟩
  have EX : Hid ((trailT wd cs k).2 = ES) := by show _ = _; rw [hL]; exact hES
  have HX : Hid (L.2 = ES) := hES
  rw [hES] at ke1 ke2 ke3 ke4 ke5
  have KE1 : Hid (∀ u ∈ ES, EndOk wd cs u) := ke1
  have KE2 : Hid (∀ u ∈ ES, u.2.2 ≤ 64) := ke2
  have hlen : ES.length ≤ 1000000 := by omega
  clear ke1 ke2 ke5 hES hL
  go_wp2_with fail
  refine (implEndsR EX.out a1 c1 _ hC1 (by omega)).mono ?_
  rintro e w2 ⟨a2, c2, rfl, hR2, hb_w2⟩
  have hz_w2 := hb_w2.size
  try simp at hz_w2
  replace g0 := keepc hb_w2 g0; replace g1 := keepc hb_w2 g1
  replace hC1 := hC1.below hb_w2
  have hB_w2 := bcall hBs1 (by first | omega | (simp; omega)) hb_w2
  clear hBs1 hb_w2
  go_wp2_with fail
  refine (specEndsR EX.out a1 c1 _ hC1 (by omega)).mono ?_
  rintro e w3 ⟨a3, c3, rfl, hR3, hb_w3⟩
  have hz_w3 := hb_w3.size
  try simp at hz_w3
  replace g0 := keepc hb_w3 g0; replace g1 := keepc hb_w3 g1
  replace hC1 := hC1.below hb_w3
  replace hR2 := hR2.below hb_w3
  have hB_w3 := bcall hB_w2 (by first | omega | (simp; omega)) hb_w3
  clear hB_w2 hb_w3
  go_wp2_with fail
  refine (llEnds_same a2 a3 c2 c3 ES _ hR2 hR3 hlen).mono ?_
  rintro e w4 ⟨rfl, hb_w4⟩
  have hz_w4 := hb_w4.size
  try simp at hz_w4
  replace g0 := keepc hb_w4 g0; replace g1 := keepc hb_w4 g1
  replace hC1 := hC1.below hb_w4
  replace hR2 := hR2.below hb_w4
  replace hR3 := hR3.below hb_w4
  have hB_w4 := bcall hB_w3 (by first | omega | (simp; omega)) hb_w4
  clear hB_w3 hb_w4
  go_wp2_with fail
  refine (llSight_any wd a1 c1 cs _ hC1 (by omega) k).mono ?_
  rintro e w5 ⟨rfl, hb_w5⟩
  have hz_w5 := hb_w5.size
  try simp at hz_w5
  replace g0 := keepc hb_w5 g0; replace g1 := keepc hb_w5 g1
  replace hC1 := hC1.below hb_w5
  replace hR2 := hR2.below hb_w5
  replace hR3 := hR3.below hb_w5
  have hB_w5 := bcall hB_w4 (by first | omega | (simp; omega)) hb_w5
  clear hB_w4 hb_w5
  clear hR3
  rcases hs : inS wd cs k with _ | _
  · go_wp2_with fail
    refine (specEndsR EX.out a1 c1 _ hC1 (by omega)).mono ?_
    rintro e w6 ⟨a6, c6, rfl, hR6, hb_w6⟩
    have hz_w6 := hb_w6.size
    try simp at hz_w6
    replace g0 := keepc hb_w6 g0; replace g1 := keepc hb_w6 g1
    replace hC1 := hC1.below hb_w6
    replace hR2 := hR2.below hb_w6
    have hB_w6 := bcall hB_w5 (by first | omega | (simp; omega)) hb_w6
    clear hB_w5 hb_w6
    go_wp2_with fail
    refine (llEnds_same a2 a6 c2 c6 ES _ hR2 hR6 hlen).mono ?_
    rintro e w7 ⟨rfl, hb_w7⟩
    have hz_w7 := hb_w7.size
    try simp at hz_w7
    replace g0 := keepc hb_w7 g0; replace g1 := keepc hb_w7 g1
    replace hC1 := hC1.below hb_w7
    replace hR2 := hR2.below hb_w7
    replace hR6 := hR6.below hb_w7
    have hB_w7 := bcall hB_w6 (by first | omega | (simp; omega)) hb_w7
    clear hB_w6 hb_w7
    go_wp2
    go_ret
    exact ⟨rfl, hB_w7⟩
  · have hT := trail_ok hs
    have hsum : sumW ES = 64 := by rw [← HX.out, ← HL.out]; exact hT.sum
    have HS : Hid (sumW ES = 64) := hsum
    have HB : Hid (∀ i, 0 ≤ sumW (ES.take i) ∧ sumW (ES.take i) ≤ 64) := by
      intro i
      have hpos : ∀ u ∈ ES, 1 ≤ u.2.2 := fun u hu => (KE1.out u hu).1
      have q1 := sumW_pos (ES.take i) (fun u hu => hpos u (List.mem_of_mem_take hu))
      have q2 := sum_take hpos i
      omega
    clear hT hsum hs
    go_wp2_with fail
    go_loopw [6, 7] (fun nn ii wr => ∃ i : Nat, i ≤ ES.length ∧ ii = .int .i64 i ∧ nn = .int .i64 (sumW (ES.take i)) ∧ wr = w5) (fun _ ii _ => ES.length - (intOf ii).toNat)
    case atStart => exact ⟨0, Nat.zero_le _, rfl, rfl, rfl⟩
    case round =>
      obtain ⟨i, hi, rfl, rfl, rfl⟩ := hrel
      obtain ⟨s, es0⟩ : ∃ s, sumW (ES.take i) = s := ⟨_, rfl⟩
      have hsb := HB.out i
      rw [es0] at hsb ⊢
      by_cases hlt : i < ES.length
      · obtain ⟨b, off, ea, x0, x1, x2⟩ := hR2.at hlt
        subst ea
        obtain ⟨t, et⟩ : ∃ t, ES.getD i (0, 0, 0) = t := ⟨_, rfl⟩
        have hmem : t ∈ ES := by rw [← et]; simp [List.getElem?_eq_getElem hlt]
        rw [et] at x0 x1 x2
        have hw1 := (KE1.out t hmem).1
        have hw2 := KE2.out t hmem
        have hst : sumW (ES.take (i + 1)) = s + t.2.2 := by
          rw [take_one ES i (0, 0, 0) hlt, sumW_append, es0, et]
          simp [sumW]
        obtain ⟨t0, t1, t2⟩ := t
        simp only at x0 x1 x2 hw1 hw2 hst
        have HST : Hid (sumW (ES.take (i + 1)) = s + t2) := hst
        have b1 : decide (t2 < 1) = false := by simp; omega
        clear hst es0 hmem et
        go_wp2_with fail
        go_roundw
        case rel => exact ⟨i + 1, by omega, by go_num, by rw [HST.out], by first | trivial | rfl⟩
        case measure => simp [intOf]; omega
      · have hfin : s = 64 := by rw [← es0, ← HS.out, List.take_of_length_le (by omega)]
        subst hfin
        clear es0
        go_wp2_with fail
        go_ret
        exact ⟨rfl, hB_w5⟩

theorem walk (a : Option Addr) (n cap : Nat) (f : Nat → Int) (w : World) (h : BytesAt w a n f) (hm : n ≤ cap ∧ cap ≤ 9223372036854775807) :
    Calls Try.prog 3 #[.slice a n cap] w fun e w' => e = .returned (.bool true) ∧ Below w.heap.size w w' := by
  by_cases hs : n ≤ 1048576
  · exact small a n cap f w h hm hs
  · exact big a n cap f w h hm (by omega)

set_option maxRecDepth 100000 in
theorem lifted (os : Os) (started : os.Started) (H : Type) (enc : TypeId × Value → H) :
    ReturnsInHanded {} Try.checked os 3 .any (Rows.fnTrailAllSpec.pre6 enc Try.prog Try.f3 Rows.fnTrailAllRow.domain false) (Rows.fnTrailAllSpec.post enc Try.prog Try.f3 false true false false) := by
  refine returnsInHanded_of_change (C := Try.checked) own started (by kernel_rfl) Try.func3
    (ChangeSpec.witness6 (enc := enc) (C := Try.checked) false ⟨#[], #[.slice none 0 0], []⟩ 8 (by kernel_rfl) (by kernel_rfl) (by kernel_rfl) (by kernel_rfl)) ?_
  intro W base args ds gs before hval0 hW hcnd _
  have hval : ∀ (j : Nat) t v, Try.f3.params[j]? = some t → args[j]? = some v → Value.okWide Try.prog W .any base t v := hval0
  have hW' := hW
  obtain ⟨p, q, hA0, hV, rfl, hfz, hnd⟩ := hW
  have hA : DataW.TrodAll enc Try.prog W 0 (fun _ => true) true Try.f3.params.toList args.toList ds p := hA0
  rw [Try.params3] at hA hval
  obtain ⟨v0, vs0, d0, ds0, p0, q0, hargs, rfl, rfl, h0, r0⟩ := trodAll_cons hA
  obtain ⟨rfl, rfl, rfl⟩ := trodAll_nil r0
  obtain rfl : args = #[v0] := by cases args; simp_all
  obtain ⟨rfl, rfl⟩ := trodVars_none hV
  have k0 := h0
  have lt0 : ∀ x ∈ p0, x.block < W.heap.size := by obtain ⟨m, hm⟩ := k0; exact DataW.trod_lt m _ _ _ hm
  obtain ⟨a0, n0, cap0, f0, rfl, hC0, hm0⟩ := open_bytes (hval 0 22 v0 rfl rfl) h0
  clear hA0 hval0
  refine (walk a0 n0 cap0 f0 W hC0 hm0).mono fun e W' ⟨he, bel⟩ => ?_
  subst he
  exact ⟨_, rfl, _, _, _, [], _, [], hW', trodAll_mk1 (shut_bool Try.underlying4 _), (trodAll_cons_mk (Below.trod laidOut (by kernel_rfl) (of_decide_eq_true (by kernel_rfl)) k0 bel lt0) trodAll_mk0), rfl, bel.frame _, fun h => by cases h⟩

theorem over : Rows.fnTrailAllRow.holds Try.pinned (OpenSpec.ofChange Rows.fnTrailAllSpec) :=
  OpenClaim.holds_of_wide 3 Try.f3 rfl rfl rfl rfl rfl rfl rfl ⟨rfl, rfl, rfl, rfl, rfl⟩ rfl rfl rfl rfl rfl (by kernel_rfl) Try.func3 (by kernel_rfl)
    (of_decide_eq_true (by kernel_rfl)) (by unfold Func.isWrapper; first | (rw [if_pos (by decide +kernel)]; kernel_rfl) | (rw [if_neg (by decide +kernel)]; exact ⟨rfl, rfl⟩))
    (fun os started H enc _ => lifted os started H enc)

end Go.Proofs.Ytjfeeibnjgjchaa.LwTrailAll

namespace Go.Proofs.Ytjfeeibnjgjchaa
/-- The statement. -/
theorem lwTrailAll : Rows.FnTrailAllSaid := LwTrailAll.over
#print axioms lwTrailAll
end Go.Proofs.Ytjfeeibnjgjchaa
