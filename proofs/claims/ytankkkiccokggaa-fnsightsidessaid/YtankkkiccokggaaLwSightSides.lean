/-
  'laws.FnSightSides' returns true for all codes: each row and column is seen from both sides. No condition.
-/
import Derived.Test.YtankkkiccokggaaFb
import Derived.Test.YtankkkiccokggaaVp
import Derived.Test.YtankkkiccokggaaVl
import Derived.BigQuiet
namespace Go.Proofs.Ytankkkiccokggaa.LwSightSides
open Go.ChangeShapes Go.WideShapes Go.ChangeAt Go.RowKit
set_option linter.unusedVariables false
attribute [local go_sem ↓] Go.wp_at_zero Go.wp_at_succ

/-- Too long a code. -/
theorem big (a : Option Addr) (n cap : Nat) (f : Nat → Int) (w : World) (h : BytesAt w a n f) (hm : n ≤ cap ∧ cap ≤ 9223372036854775807) (hbig : 1048576 < n) :
    Calls Try.prog 5 #[.slice a n cap] w fun e w' => e = .returned (.bool true) ∧ Below w.heap.size w w' := by
  have hb : (1048576 : Int) < (n : Int) := by omega
  go_enter Try.func5, Try.ntmps5
  go_wp2
  go_ret
  exact ⟨rfl, Below.refl _ _⟩

set_option maxRecDepth 100000 in
set_option maxHeartbeats 8000000 in
theorem small (a : Option Addr) (n cap : Nat) (f : Nat → Int) (w : World) (h : BytesAt w a n f) (hm : n ≤ cap ∧ cap ≤ 9223372036854775807) (hsm : n ≤ 1048576) :
    Calls Try.prog 5 #[.slice a n cap] w fun e w' => e = .returned (.bool true) ∧ Below w.heap.size w w' := by
  have hb : (n : Int) ≤ 1048576 := by omega
  go_enter Try.func5, Try.ntmps5
  go_wp2_with fail
  refine (drawSightMany_any a n cap f w h hsm hm.1 hm.2).mono ?_
  rintro e w1 ⟨wd, a1, c1, cs, rfl, hC1, hl1, hb_w1⟩
  have hz_w1 := hb_w1.size
  try simp at hz_w1
  have hbS1 : Below w1.heap.size w1 (w1.alloc (.cells #[.int .i64 wd, .slice a1 cs.length c1] 25)) := (by repeat (first | exact Below.refl _ _ | refine Below.alloc ?_ (by first | exact Nat.le_refl _ | (simp; done) | (simp; omega)) _ | refine Below.drew ?_ | refine Below.setCell ?_ (by first | exact Nat.le_refl _ | (simp; done) | (simp; omega)) _))
  replace hC1 := hC1.below hbS1
  have g0 : (w1.alloc (.cells #[.int .i64 wd, .slice a1 cs.length c1] 25)).cell? ⟨w1.heap.size, 0, none⟩ = some (.int .i64 wd) := by simp [go_sem]
  have g1 : (w1.alloc (.cells #[.int .i64 wd, .slice a1 cs.length c1] 25)).cell? ⟨w1.heap.size, 1, none⟩ = some (.slice a1 cs.length c1) := by simp [go_sem]
  have hBs1 := bcall hb_w1 (by omega) hbS1
  clear hb_w1
  clear hbS1
  obtain ⟨M, hM⟩ : ∃ M, manyG wd cs = M := ⟨_, rfl⟩
  have EM : Hid (manyG wd cs = M) := hM
  clear hM
  have bk : (M == M) = true := by simp
  have bn : (M != M) = false := by simp
  go_wp2_with fail
  refine (implMany_any wd a1 c1 cs _ hC1 (by omega)).mono ?_
  rintro e w2 ⟨rfl, hb_w2⟩
  rw [EM.out]
  have hz_w2 := hb_w2.size
  try simp at hz_w2
  replace g0 := keepc hb_w2 g0; replace g1 := keepc hb_w2 g1
  replace hC1 := hC1.below hb_w2
  have hB_w2 := bcall hBs1 (by first | omega | (simp; omega)) hb_w2
  clear hBs1 hb_w2
  go_wp2_with fail
  refine (specMany_any wd a1 c1 cs _ hC1 (by omega)).mono ?_
  rintro e w3 ⟨rfl, hb_w3⟩
  rw [EM.out]
  have hz_w3 := hb_w3.size
  try simp at hz_w3
  replace g0 := keepc hb_w3 g0; replace g1 := keepc hb_w3 g1
  replace hC1 := hC1.below hb_w3
  have hB_w3 := bcall hB_w2 (by first | omega | (simp; omega)) hb_w3
  clear hB_w2 hb_w3
  by_cases e0 : M = 0
  · have b0 : (M == 0) = true := by simp [e0]
    clear e0
    go_wp2_with fail
    refine (specMany_any wd a1 c1 cs _ hC1 (by omega)).mono ?_
    rintro e w4 ⟨rfl, hb_w4⟩
    rw [EM.out]
    have hz_w4 := hb_w4.size
    try simp at hz_w4
    replace g0 := keepc hb_w4 g0; replace g1 := keepc hb_w4 g1
    replace hC1 := hC1.below hb_w4
    have hB_w4 := bcall hB_w3 (by first | omega | (simp; omega)) hb_w4
    clear hB_w3 hb_w4
    go_wp2
    go_ret
    exact ⟨rfl, hB_w4⟩
  · have b0 : (M == 0) = false := by simp [e0]
    have hok : okG wd cs = true := many_ok (by rw [EM.out]; exact e0)
    obtain ⟨W, H, SZ⟩ := siz_of hok
    obtain ⟨m, hm1⟩ : ∃ m : Nat, m = 2 * (W + H) := ⟨_, rfl⟩
    have hMm : M = (m : Int) := by rw [← EM.out, SZ.em, hm1]; simp
    have hW := SZ.hW
    have hH := SZ.hH
    have hm2 : 1 ≤ m ∧ m ≤ 20 := by omega
    have HS : Hid (∀ K : Nat, K < m → ∃ x d, inRay wd cs (K : Int) = (x, d, true) ∧ ∀ J : Nat, J < m → J ≠ K → ∃ x2 d2, inRay wd cs (J : Int) = (x2, d2, true) ∧ ¬ (x = x2 ∧ d = d2)) := by
      intro K hK
      refine ⟨_, _, inRay_at SZ K (by omega), fun J hJ hne => ⟨_, _, inRay_at SZ J (by omega), ?_⟩⟩
      rintro ⟨q1, q2⟩
      exact hne (sight_inj W H J K SZ.hW SZ.hH (by omega) (by omega) (Prod.ext q1.symm q2.symm))
    have HF : Hid (inRay wd cs (m : Int) = (0, 0, false)) := inRay_out (by rw [EM.out, hMm]; omega)
    have EW := SZ.ew
    have EI : Hid ((cs.length : Int) / wd = (H : Int)) := SZ.hI
    have hv : Hid ((m : Int) = 2 * ((W : Int) + (H : Int))) := by show _ = _; rw [hm1]; simp
    subst hMm
    subst EW
    clear hm1 SZ hok e0 EM
    go_wp2
    go_loopw [5, 6, 7, 8, 9, 10] (fun kk l6 l7 l8 l9 l10 wr => ∃ K : Nat, K ≤ m ∧ kk = .int .i64 K ∧ Below w3.heap.size w3 wr) (fun kk _ _ _ _ _ _ => m - (intOf kk).toNat)
    case atStart => exact ⟨0, Nat.zero_le _, rfl, by first | exact Below.refl _ _ | exact (Below.refl _ _).drew⟩
    case round =>
      rename World => wo
      obtain ⟨K, hK, rfl, hb⟩ := hrel
      replace g0 := keepc hb g0; replace g1 := keepc hb g1
      have hC2 := hC1.below hb
      have hz := hb.size
      by_cases hlt : K < m
      · obtain ⟨x, d, hr, hne⟩ := HS.out K hlt
        have KR : Hid (inRay (W : Int) cs (K : Int) = (x, d, true)) := hr
        have HN : Hid (∀ J : Nat, J < m → J ≠ K → ∃ x2 d2, inRay (W : Int) cs (J : Int) = (x2, d2, true) ∧ ¬ (x = x2 ∧ d = d2)) := hne
        clear hr hne
        go_wp2_with fail
        refine (implRay_any (W : Int) a1 c1 cs _ hC2 (by omega) (K : Int) _ _ _ KR.out).mono ?_
        rintro e w5 ⟨rfl, hb5⟩
        have hz5 := hb5.size
        have hbX : Below w5.heap.size w5 (w5.alloc (.cells #[.int .i64 x, .int .i64 d] 29)) := (by repeat (first | exact Below.refl _ _ | refine Below.alloc ?_ (by first | exact Nat.le_refl _ | (simp; done) | (simp; omega)) _ | refine Below.drew ?_ | refine Below.setCell ?_ (by first | exact Nat.le_refl _ | (simp; done) | (simp; omega)) _))
        have y0 : (w5.alloc (.cells #[.int .i64 x, .int .i64 d] 29)).cell? ⟨w5.heap.size, 0, none⟩ = some (.int .i64 x) := by simp [go_sem]
        have y1 : (w5.alloc (.cells #[.int .i64 x, .int .i64 d] 29)).cell? ⟨w5.heap.size, 1, none⟩ = some (.int .i64 d) := by simp [go_sem]
        have hB6 : Below w3.heap.size w3 (w5.alloc (.cells #[.int .i64 x, .int .i64 d] 29)) := bcall (bcall hb hz hb5) (by omega) hbX
        have hC6 := (hC2.below hb5).below hbX
        replace g0 := keepc hb5 g0; replace g1 := keepc hb5 g1
        replace g0 := keepc hbX g0; replace g1 := keepc hbX g1
        clear hb5 hbX
        go_wp2
        obtain ⟨w6, hw6⟩ : ∃ w6, w6 = w5.alloc (.cells #[.int .i64 x, .int .i64 d] 29) := ⟨_, rfl⟩
        rw [← hw6] at y0 y1 hB6 hC6 g0 g1 ⊢
        clear hw6
        go_loopw [8, 9, 10] (fun ii l9 l10 wq => ∃ J : Nat, J ≤ K ∧ ii = .int .i64 J ∧ Below w6.heap.size w6 wq) (fun ii _ _ _ => K - (intOf ii).toNat)
        case atStart => exact ⟨0, Nat.zero_le _, rfl, Below.refl _ _⟩
        case round =>
          obtain ⟨J, hJ, rfl, hbq⟩ := hrel
          replace g0 := keepc hbq g0; replace g1 := keepc hbq g1; replace y0 := keepc hbq y0; replace y1 := keepc hbq y1
          have hC7 := hC6.below hbq
          have hzq := hbq.size
          by_cases hjl : J < K
          · obtain ⟨x2, d2, hr2, hne2⟩ := HN.out J (by omega) (by omega)
            have KR2 : Hid (inRay (W : Int) cs (J : Int) = (x2, d2, true)) := hr2
            have qe := eqlRayS x d x2 d2 false (decide_eq_false hne2).symm
            clear hr2 hne2
            go_wp2_with fail
            refine (implRay_any (W : Int) a1 c1 cs _ hC7 (by omega) (J : Int) _ _ _ KR2.out).mono ?_
            rintro e w8 ⟨rfl, hb8⟩
            have hz8 := hb8.size
            have hbY : Below w8.heap.size w8 (w8.alloc (.cells #[.int .i64 x2, .int .i64 d2] 29)) := (by repeat (first | exact Below.refl _ _ | refine Below.alloc ?_ (by first | exact Nat.le_refl _ | (simp; done) | (simp; omega)) _ | refine Below.drew ?_ | refine Below.setCell ?_ (by first | exact Nat.le_refl _ | (simp; done) | (simp; omega)) _))
            have hB9 : Below w6.heap.size w6 (w8.alloc (.cells #[.int .i64 x2, .int .i64 d2] 29)) := bcall (bcall hbq hzq hb8) (by omega) hbY
            replace g0 := keepc hb8 g0; replace g1 := keepc hb8 g1; replace y0 := keepc hb8 y0; replace y1 := keepc hb8 y1
            replace g0 := keepc hbY g0; replace g1 := keepc hbY g1; replace y0 := keepc hbY y0; replace y1 := keepc hbY y1
            clear hb8 hbY
            go_wp2
            go_roundw
            case rel => exact ⟨J + 1, by omega, by go_num, hB9⟩
            case measure => simp [intOf]; omega
          · have hB9 := bcall hB6 hB6.size hbq
            go_wp2
            go_roundw
            case rel => exact ⟨K + 1, by omega, by go_num, hB9⟩
            case measure => simp [intOf]; omega
      · obtain rfl : K = m := by omega
        go_wp2_with fail
        refine (implRay_any (W : Int) a1 c1 cs _ hC2 (by omega) (K : Int) _ _ _ HF.out).mono ?_
        rintro e w5 ⟨rfl, hb5⟩
        have hz5 := hb5.size
        have hbX : Below w5.heap.size w5 (w5.alloc (.cells #[.int .i64 0, .int .i64 0] 29)) := (by repeat (first | exact Below.refl _ _ | refine Below.alloc ?_ (by first | exact Nat.le_refl _ | (simp; done) | (simp; omega)) _ | refine Below.drew ?_ | refine Below.setCell ?_ (by first | exact Nat.le_refl _ | (simp; done) | (simp; omega)) _))
        have hB6 := bcall (bcall (bcall hB_w3 (by omega) hb) (by omega) hb5) (by omega) hbX
        replace g0 := keepc hb5 g0; replace g1 := keepc hb5 g1
        replace g0 := keepc hbX g0; replace g1 := keepc hbX g1
        clear hb5 hbX
        have hne : ¬ (W : Int) = 0 := by omega
        have e6 : (cs.length : Int).tdiv (W : Int) = (H : Int) := by rw [Int.tdiv_eq_ediv_of_nonneg (by omega)]; exact EI.out
        have w1' : IntKind.i64.wrap (H : Int) = (H : Int) := IntWalk.i64_in _ (by omega)
        have w2' : IntKind.i64.wrap ((W : Int) + (H : Int)) = (W : Int) + (H : Int) := IntWalk.i64_in _ (by omega)
        have w3' : IntKind.i64.wrap (2 * ((W : Int) + (H : Int))) = (K : Int) := by rw [← hv.out]; exact IntWalk.i64_in _ (by omega)
        go_wp2
        go_quiet (fail)
        go_wp2
        go_ret
        exact ⟨rfl, ⟨hB6.os, hB6.tape, hB6.output, hB6.size, hB6.block⟩⟩

theorem walk (a : Option Addr) (n cap : Nat) (f : Nat → Int) (w : World) (h : BytesAt w a n f) (hm : n ≤ cap ∧ cap ≤ 9223372036854775807) :
    Calls Try.prog 5 #[.slice a n cap] w fun e w' => e = .returned (.bool true) ∧ Below w.heap.size w w' := by
  by_cases hs : n ≤ 1048576
  · exact small a n cap f w h hm hs
  · exact big a n cap f w h hm (by omega)

set_option maxRecDepth 100000 in
theorem lifted (os : Os) (started : os.Started) (H : Type) (enc : TypeId × Value → H) :
    ReturnsInHanded {} Try.checked os 5 .any (Rows.fnSightSidesSpec.pre6 enc Try.prog Try.f5 Rows.fnSightSidesRow.domain false) (Rows.fnSightSidesSpec.post enc Try.prog Try.f5 false true false false) := by
  refine returnsInHanded_of_change (C := Try.checked) own started (by kernel_rfl) Try.func5
    (ChangeSpec.witness6 (enc := enc) (C := Try.checked) false ⟨#[], #[.slice none 0 0], []⟩ 8 (by kernel_rfl) (by kernel_rfl) (by kernel_rfl) (by kernel_rfl)) ?_
  intro W base args ds gs before hval0 hW hcnd _
  have hval : ∀ (j : Nat) t v, Try.f5.params[j]? = some t → args[j]? = some v → Value.okWide Try.prog W .any base t v := hval0
  have hW' := hW
  obtain ⟨p, q, hA0, hV, rfl, hfz, hnd⟩ := hW
  have hA : DataW.TrodAll enc Try.prog W 0 (fun _ => true) true Try.f5.params.toList args.toList ds p := hA0
  rw [Try.params5] at hA hval
  obtain ⟨v0, vs0, d0, ds0, p0, q0, hargs, rfl, rfl, h0, r0⟩ := trodAll_cons hA
  obtain ⟨rfl, rfl, rfl⟩ := trodAll_nil r0
  obtain rfl : args = #[v0] := by cases args; simp_all
  obtain ⟨rfl, rfl⟩ := trodVars_none hV
  have k0 := h0
  have lt0 : ∀ x ∈ p0, x.block < W.heap.size := by obtain ⟨m, hm⟩ := k0; exact DataW.trod_lt m _ _ _ hm
  obtain ⟨a0, n0, cap0, f0, rfl, hC0, hm0⟩ := open_bytes (hval 0 22 v0 rfl rfl) h0
  clear hA0 hval0
  refine (walk a0 n0 cap0 f0 W hC0 hm0).mono fun e W' ⟨he, bel⟩ => ?_
  subst he
  exact ⟨_, rfl, _, _, _, [], _, [], hW', trodAll_mk1 (shut_bool Try.underlying4 _), (trodAll_cons_mk (Below.trod laidOut (by kernel_rfl) (of_decide_eq_true (by kernel_rfl)) k0 bel lt0) trodAll_mk0), rfl, bel.frame _, fun h => by cases h⟩

theorem over : Rows.fnSightSidesRow.holds Try.pinned (OpenSpec.ofChange Rows.fnSightSidesSpec) :=
  OpenClaim.holds_of_wide 5 Try.f5 rfl rfl rfl rfl rfl rfl rfl ⟨rfl, rfl, rfl, rfl, rfl⟩ rfl rfl rfl rfl rfl (by kernel_rfl) Try.func5 (by kernel_rfl)
    (of_decide_eq_true (by kernel_rfl)) (by unfold Func.isWrapper; first | (rw [if_pos (by decide +kernel)]; kernel_rfl) | (rw [if_neg (by decide +kernel)]; exact ⟨rfl, rfl⟩))
    (fun os started H enc _ => lifted os started H enc)

end Go.Proofs.Ytankkkiccokggaa.LwSightSides

namespace Go.Proofs.Ytankkkiccokggaa
/-- The statement. -/
theorem lwSightSides : Rows.FnSightSidesSaid := LwSightSides.over
#print axioms lwSightSides
end Go.Proofs.Ytankkkiccokggaa
