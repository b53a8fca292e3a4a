/-
  'laws.FnSightOut' returns true for all codes: light leaves just where there is no next cell. No condition.
-/
import Derived.Test.YtankkkiccokggaaFb
import Derived.Test.YtankkkiccokggaaVp
import Derived.Test.YtankkkiccokggaaVo
namespace Go.Proofs.Ytankkkiccokggaa.LwSightOut
open Go.ChangeShapes Go.WideShapes Go.ChangeAt Go.RowKit
set_option linter.unusedVariables false
attribute [local go_sem ↓] Go.wp_at_zero Go.wp_at_succ

/-- Too long a code. -/
theorem big (a : Option Addr) (n cap : Nat) (f : Nat → Int) (w : World) (h : BytesAt w a n f) (hm : n ≤ cap ∧ cap ≤ 9223372036854775807) (hbig : 1048576 < n) :
    Calls Try.prog 4 #[.slice a n cap] w fun e w' => e = .returned (.bool true) ∧ Below w.heap.size w w' := by
  have hb : (1048576 : Int) < (n : Int) := by omega
  go_enter Try.func4, Try.ntmps4
  go_wp2
  go_ret
  exact ⟨rfl, Below.refl _ _⟩

set_option maxRecDepth 100000 in
set_option maxHeartbeats 8000000 in
theorem small (a : Option Addr) (n cap : Nat) (f : Nat → Int) (w : World) (h : BytesAt w a n f) (hm : n ≤ cap ∧ cap ≤ 9223372036854775807) (hsm : n ≤ 1048576) :
    Calls Try.prog 4 #[.slice a n cap] w fun e w' => e = .returned (.bool true) ∧ Below w.heap.size w w' := by
  have hb : (n : Int) ≤ 1048576 := by omega
  go_enter Try.func4, Try.ntmps4
  go_wp2_with fail
  refine (drawSightOf_any a n cap f w h hsm hm.1 hm.2).mono ?_
  rintro e w1 ⟨wd, a1, c1, cs, x, d, rfl, hC1, hl1, hx1, hd1, hb_w1⟩
  have hz_w1 := hb_w1.size
  try simp at hz_w1
  have hbS1 : Below w1.heap.size w1 (w1.alloc (.cells #[.int .i64 wd, .slice a1 cs.length c1] 25)) := (by repeat (first | exact Below.refl _ _ | refine Below.alloc ?_ (by first | exact Nat.le_refl _ | (simp; done) | (simp; omega)) _ | refine Below.drew ?_ | refine Below.setCell ?_ (by first | exact Nat.le_refl _ | (simp; done) | (simp; omega)) _))
  replace hC1 := hC1.below hbS1
  have g0 : (w1.alloc (.cells #[.int .i64 wd, .slice a1 cs.length c1] 25)).cell? ⟨w1.heap.size, 0, none⟩ = some (.int .i64 wd) := by simp [go_sem]
  have g1 : (w1.alloc (.cells #[.int .i64 wd, .slice a1 cs.length c1] 25)).cell? ⟨w1.heap.size, 1, none⟩ = some (.slice a1 cs.length c1) := by simp [go_sem]
  have hBs1 := bcall hb_w1 (by omega) hbS1
  clear hb_w1
  clear hbS1
  obtain ⟨k, ev⟩ : ∃ k, outOf wd cs x d = k := ⟨_, rfl⟩
  have EV : Hid (outOf wd cs x d = k) := ev
  clear ev
  have bk : (k == k) = true := by simp
  have bn : (k != k) = false := by simp
  go_wp2_with fail
  refine (implOf_any wd a1 c1 cs _ hC1 (by omega) x d).mono ?_
  rintro e w2 ⟨rfl, hb_w2⟩
  rw [EV.out]
  have hz_w2 := hb_w2.size
  try simp at hz_w2
  replace g0 := keepc hb_w2 g0; replace g1 := keepc hb_w2 g1
  replace hC1 := hC1.below hb_w2
  have hB_w2 := bcall hBs1 (by first | omega | (simp; omega)) hb_w2
  clear hBs1 hb_w2
  go_wp2_with fail
  refine (specOf_any wd a1 c1 cs _ hC1 (by omega) x d).mono ?_
  rintro e w3 ⟨rfl, hb_w3⟩
  rw [EV.out]
  have hz_w3 := hb_w3.size
  try simp at hz_w3
  replace g0 := keepc hb_w3 g0; replace g1 := keepc hb_w3 g1
  replace hC1 := hC1.below hb_w3
  have hB_w3 := bcall hB_w2 (by first | omega | (simp; omega)) hb_w3
  clear hB_w2 hb_w3
  go_wp2_with fail
  refine (specGridOk_any wd a1 c1 cs _ hC1 (by omega)).mono ?_
  rintro e w4 ⟨rfl, hb_w4⟩
  have hz_w4 := hb_w4.size
  try simp at hz_w4
  replace g0 := keepc hb_w4 g0; replace g1 := keepc hb_w4 g1
  replace hC1 := hC1.below hb_w4
  have hB_w4 := bcall hB_w3 (by first | omega | (simp; omega)) hb_w4
  clear hB_w3 hb_w4
  rcases hk : okG wd cs with _ | _
  · go_wp2_with fail
    refine (specOf_any wd a1 c1 cs _ hC1 (by omega) x d).mono ?_
    rintro e w5 ⟨rfl, hb_w5⟩
    rw [EV.out]
    have hz_w5 := hb_w5.size
    try simp at hz_w5
    replace g0 := keepc hb_w5 g0; replace g1 := keepc hb_w5 g1
    replace hC1 := hC1.below hb_w5
    have hB_w5 := bcall hB_w4 (by first | omega | (simp; omega)) hb_w5
    clear hB_w4 hb_w5
    go_wp2
    go_ret
    exact ⟨rfl, hB_w5⟩
  · by_cases h1 : x < 0
    · go_wp2_with fail
      refine (specOf_any wd a1 c1 cs _ hC1 (by omega) x d).mono ?_
      rintro e w5 ⟨rfl, hb_w5⟩
      rw [EV.out]
      have hz_w5 := hb_w5.size
      try simp at hz_w5
      replace g0 := keepc hb_w5 g0; replace g1 := keepc hb_w5 g1
      replace hC1 := hC1.below hb_w5
      have hB_w5 := bcall hB_w4 (by first | omega | (simp; omega)) hb_w5
      clear hB_w4 hb_w5
      go_wp2
      go_ret
      exact ⟨rfl, hB_w5⟩
    · by_cases h2 : (cs.length : Int) ≤ x
      · go_wp2_with fail
        refine (specOf_any wd a1 c1 cs _ hC1 (by omega) x d).mono ?_
        rintro e w5 ⟨rfl, hb_w5⟩
        rw [EV.out]
        have hz_w5 := hb_w5.size
        try simp at hz_w5
        replace g0 := keepc hb_w5 g0; replace g1 := keepc hb_w5 g1
        replace hC1 := hC1.below hb_w5
        have hB_w5 := bcall hB_w4 (by first | omega | (simp; omega)) hb_w5
        clear hB_w4 hb_w5
        go_wp2
        go_ret
        exact ⟨rfl, hB_w5⟩
      · by_cases h3 : 3 < d
        · go_wp2_with fail
          refine (specOf_any wd a1 c1 cs _ hC1 (by omega) x d).mono ?_
          rintro e w5 ⟨rfl, hb_w5⟩
          rw [EV.out]
          have hz_w5 := hb_w5.size
          try simp at hz_w5
          replace g0 := keepc hb_w5 g0; replace g1 := keepc hb_w5 g1
          replace hC1 := hC1.below hb_w5
          have hB_w5 := bcall hB_w4 (by first | omega | (simp; omega)) hb_w5
          clear hB_w4 hb_w5
          go_wp2
          go_ret
          exact ⟨rfl, hB_w5⟩
        · have h1' : 0 ≤ x := by omega
          have h2' : x < (cs.length : Int) := by omega
          have h3' : d ≤ 3 := by omega
          have h0' : 0 ≤ d := by omega
          clear h1 h2 h3
          rcases out_fact hk ⟨h1', h2'⟩ ⟨h0', h3'⟩ with ⟨x2, d2, hr, ho⟩ | ⟨hr, hi⟩
          · have KR : Hid (rayN wd cs x d = (x2, d2, true)) := hr
            have ek : k = -1 := by rw [← EV.out]; exact ho
            clear hr ho
            go_wp2_with fail
            refine (rayI KR.out a1 c1 _ hC1 (by omega)).mono ?_
            rintro e w5 ⟨rfl, hb_w5⟩
            have hz_w5 := hb_w5.size
            try simp at hz_w5
            replace g0 := keepc hb_w5 g0; replace g1 := keepc hb_w5 g1
            replace hC1 := hC1.below hb_w5
            have hB_w5 := bcall hB_w4 (by first | omega | (simp; omega)) hb_w5
            clear hB_w4 hb_w5
            have hbS2 : Below w5.heap.size w5 (w5.alloc (.cells #[.int .i64 x2, .int .i64 d2] 29)) := (by repeat (first | exact Below.refl _ _ | refine Below.alloc ?_ (by first | exact Nat.le_refl _ | (simp; done) | (simp; omega)) _ | refine Below.drew ?_ | refine Below.setCell ?_ (by first | exact Nat.le_refl _ | (simp; done) | (simp; omega)) _))
            replace g0 := keepc hbS2 g0; replace g1 := keepc hbS2 g1
            replace hC1 := hC1.below hbS2
            have u0 : (w5.alloc (.cells #[.int .i64 x2, .int .i64 d2] 29)).cell? ⟨w5.heap.size, 0, none⟩ = some (.int .i64 x2) := by simp [go_sem]
            have u1 : (w5.alloc (.cells #[.int .i64 x2, .int .i64 d2] 29)).cell? ⟨w5.heap.size, 1, none⟩ = some (.int .i64 d2) := by simp [go_sem]
            have hBs2 := bcall hB_w5 (by omega) hbS2
            clear hB_w5
            clear hbS2
            subst ek
            go_wp2
            go_ret
            exact ⟨rfl, hBs2⟩
          · have KR : Hid (rayN wd cs x d = (0, 0, false)) := hr
            rw [EV.out] at hi
            have KI : Hid (inRay wd cs k = (x, (d + 2) % 4, true)) := hi
            clear hr hi
            go_wp2_with fail
            refine (rayI KR.out a1 c1 _ hC1 (by omega)).mono ?_
            rintro e w5 ⟨rfl, hb_w5⟩
            have hz_w5 := hb_w5.size
            try simp at hz_w5
            replace g0 := keepc hb_w5 g0; replace g1 := keepc hb_w5 g1
            replace hC1 := hC1.below hb_w5
            have hB_w5 := bcall hB_w4 (by first | omega | (simp; omega)) hb_w5
            clear hB_w4 hb_w5
            have hbS2 : Below w5.heap.size w5 (w5.alloc (.cells #[.int .i64 0, .int .i64 0] 29)) := (by repeat (first | exact Below.refl _ _ | refine Below.alloc ?_ (by first | exact Nat.le_refl _ | (simp; done) | (simp; omega)) _ | refine Below.drew ?_ | refine Below.setCell ?_ (by first | exact Nat.le_refl _ | (simp; done) | (simp; omega)) _))
            replace g0 := keepc hbS2 g0; replace g1 := keepc hbS2 g1
            replace hC1 := hC1.below hbS2
            have u0 : (w5.alloc (.cells #[.int .i64 0, .int .i64 0] 29)).cell? ⟨w5.heap.size, 0, none⟩ = some (.int .i64 0) := by simp [go_sem]
            have u1 : (w5.alloc (.cells #[.int .i64 0, .int .i64 0] 29)).cell? ⟨w5.heap.size, 1, none⟩ = some (.int .i64 0) := by simp [go_sem]
            have hBs2 := bcall hB_w5 (by omega) hbS2
            clear hB_w5
            clear hbS2
            go_wp2_with fail
            refine (implRay_any wd a1 c1 cs _ hC1 (by omega) k _ _ _ KI.out).mono ?_
            rintro e w6 ⟨rfl, hb_w6⟩
            have hz_w6 := hb_w6.size
            try simp at hz_w6
            replace g0 := keepc hb_w6 g0; replace g1 := keepc hb_w6 g1; replace u0 := keepc hb_w6 u0; replace u1 := keepc hb_w6 u1
            replace hC1 := hC1.below hb_w6
            have hB_w6 := bcall hBs2 (by first | omega | (simp; omega)) hb_w6
            clear hBs2 hb_w6
            have hbS3 : Below w6.heap.size w6 (w6.alloc (.cells #[.int .i64 x, .int .i64 ((d + 2) % 4)] 29)) := (by repeat (first | exact Below.refl _ _ | refine Below.alloc ?_ (by first | exact Nat.le_refl _ | (simp; done) | (simp; omega)) _ | refine Below.drew ?_ | refine Below.setCell ?_ (by first | exact Nat.le_refl _ | (simp; done) | (simp; omega)) _))
            replace g0 := keepc hbS3 g0; replace g1 := keepc hbS3 g1; replace u0 := keepc hbS3 u0; replace u1 := keepc hbS3 u1
            replace hC1 := hC1.below hbS3
            have v0 : (w6.alloc (.cells #[.int .i64 x, .int .i64 ((d + 2) % 4)] 29)).cell? ⟨w6.heap.size, 0, none⟩ = some (.int .i64 x) := by simp [go_sem]
            have v1 : (w6.alloc (.cells #[.int .i64 x, .int .i64 ((d + 2) % 4)] 29)).cell? ⟨w6.heap.size, 1, none⟩ = some (.int .i64 ((d + 2) % 4)) := by simp [go_sem]
            have hBs3 := bcall hB_w6 (by omega) hbS3
            clear hB_w6
            clear hbS3
            have q1 := eqlRayS x ((d + 2) % 4) x ((d + 2) % 4) true (by simp)
            go_wp2
            go_ret
            exact ⟨rfl, hBs3⟩

theorem walk (a : Option Addr) (n cap : Nat) (f : Nat → Int) (w : World) (h : BytesAt w a n f) (hm : n ≤ cap ∧ cap ≤ 9223372036854775807) :
    Calls Try.prog 4 #[.slice a n cap] w fun e w' => e = .returned (.bool true) ∧ Below w.heap.size w w' := by
  by_cases hs : n ≤ 1048576
  · exact small a n cap f w h hm hs
  · exact big a n cap f w h hm (by omega)

set_option maxRecDepth 100000 in
theorem lifted (os : Os) (started : os.Started) (H : Type) (enc : TypeId × Value → H) :
    ReturnsInHanded {} Try.checked os 4 .any (Rows.fnSightOutSpec.pre6 enc Try.prog Try.f4 Rows.fnSightOutRow.domain false) (Rows.fnSightOutSpec.post enc Try.prog Try.f4 false true false false) := by
  refine returnsInHanded_of_change (C := Try.checked) own started (by kernel_rfl) Try.func4
    (ChangeSpec.witness6 (enc := enc) (C := Try.checked) false ⟨#[], #[.slice none 0 0], []⟩ 8 (by kernel_rfl) (by kernel_rfl) (by kernel_rfl) (by kernel_rfl)) ?_
  intro W base args ds gs before hval0 hW hcnd _
  have hval : ∀ (j : Nat) t v, Try.f4.params[j]? = some t → args[j]? = some v → Value.okWide Try.prog W .any base t v := hval0
  have hW' := hW
  obtain ⟨p, q, hA0, hV, rfl, hfz, hnd⟩ := hW
  have hA : DataW.TrodAll enc Try.prog W 0 (fun _ => true) true Try.f4.params.toList args.toList ds p := hA0
  rw [Try.params4] at hA hval
  obtain ⟨v0, vs0, d0, ds0, p0, q0, hargs, rfl, rfl, h0, r0⟩ := trodAll_cons hA
  obtain ⟨rfl, rfl, rfl⟩ := trodAll_nil r0
  obtain rfl : args = #[v0] := by cases args; simp_all
  obtain ⟨rfl, rfl⟩ := trodVars_none hV
  have k0 := h0
  have lt0 : ∀ x ∈ p0, x.block < W.heap.size := by obtain ⟨m, hm⟩ := k0; exact DataW.trod_lt m _ _ _ hm
  obtain ⟨a0, n0, cap0, f0, rfl, hC0, hm0⟩ := open_bytes (hval 0 22 v0 rfl rfl) h0
  clear hA0 hval0
  refine (walk a0 n0 cap0 f0 W hC0 hm0).mono fun e W' ⟨he, bel⟩ => ?_
  subst he
  exact ⟨_, rfl, _, _, _, [], _, [], hW', trodAll_mk1 (shut_bool Try.underlying4 _), (trodAll_cons_mk (Below.trod laidOut (by kernel_rfl) (of_decide_eq_true (by kernel_rfl)) k0 bel lt0) trodAll_mk0), rfl, bel.frame _, fun h => by cases h⟩

theorem over : Rows.fnSightOutRow.holds Try.pinned (OpenSpec.ofChange Rows.fnSightOutSpec) :=
  OpenClaim.holds_of_wide 4 Try.f4 rfl rfl rfl rfl rfl rfl rfl ⟨rfl, rfl, rfl, rfl, rfl⟩ rfl rfl rfl rfl rfl (by kernel_rfl) Try.func4 (by kernel_rfl)
    (of_decide_eq_true (by kernel_rfl)) (by unfold Func.isWrapper; first | (rw [if_pos (by decide +kernel)]; kernel_rfl) | (rw [if_neg (by decide +kernel)]; exact ⟨rfl, rfl⟩))
    (fun os started H enc _ => lifted os started H enc)

end Go.Proofs.Ytankkkiccokggaa.LwSightOut

namespace Go.Proofs.Ytankkkiccokggaa
/-- The statement. -/
theorem lwSightOut : Rows.FnSightOutSaid := LwSightOut.over
#print axioms lwSightOut
end Go.Proofs.Ytankkkiccokggaa
