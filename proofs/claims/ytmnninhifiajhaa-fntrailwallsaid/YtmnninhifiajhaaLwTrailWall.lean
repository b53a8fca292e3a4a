/-
  'laws.FnTrailWall' returns true for all codes: at a wall all ends. No condition.
-/
import Derived.Test.YtmnninhifiajhaaFb
import Derived.Test.YtmnninhifiajhaaUp
import Derived.Test.YtmnninhifiajhaaUl
import Derived.Deep.RegionWith
import Derived.Deep.RegionHeld3
import Derived.Deep.DrawnRows
namespace Go.Proofs.Ytmnninhifiajhaa.LwTrailWall
open Go.ChangeShapes Go.WideShapes Go.ChangeAt Go.RowKit
set_option linter.unusedVariables false
attribute [local go_sem ↓] Go.wp_at_zero Go.wp_at_succ

theorem lit_row (w : World) (x y z : Int) : R3At (w.alloc (.cells #[.int .i64 x, .int .i64 y, .int .i64 z] 68)) (some ⟨w.heap.size, 0, none⟩) [(x, y, z)] := by
  refine Or.inr ⟨w.heap.size, 0, rfl, by simp, fun i hi => ?_⟩
  simp only [List.length_singleton] at hi
  obtain rfl : i = 0 := by omega
  simp [go_sem]

/-- Too long a code. -/
theorem big (a : Option Addr) (n cap : Nat) (f : Nat → Int) (w : World) (h : BytesAt w a n f) (hm : n ≤ cap ∧ cap ≤ 9223372036854775807) (hbig : 1048576 < n) :
    Calls Try.prog 9 #[.slice a n cap] w fun e w' => e = .returned (.bool true) ∧ Below w.heap.size w w' := by
  have hb : (1048576 : Int) < (n : Int) := by omega
  go_enter Try.func9, Try.ntmps9
  go_wp2
  go_ret
  exact ⟨rfl, Below.refl _ _⟩

set_option maxRecDepth 100000 in
set_option maxHeartbeats 8000000 in
theorem small (a : Option Addr) (n cap : Nat) (f : Nat → Int) (w : World) (h : BytesAt w a n f) (hm : n ≤ cap ∧ cap ≤ 9223372036854775807) (hsm : n ≤ 1048576) :
    Calls Try.prog 9 #[.slice a n cap] w fun e w' => e = .returned (.bool true) ∧ Below w.heap.size w w' := by
  have hb : (n : Int) ≤ 1048576 := by omega
  go_enter Try.func9, Try.ntmps9
  go_wp2_with fail
  refine (drawTrailEnds_any a n cap f w h hsm hm.1 hm.2).mono ?_
  rintro e w1 ⟨wd, a1, c1, cs, k, rfl, hC1, hl1, hk1, hb_w1⟩
  have hz_w1 := hb_w1.size
  try simp at hz_w1
  have hbS1 : Below w1.heap.size w1 (w1.alloc (.cells #[.int .i64 wd, .slice a1 cs.length c1] 25)) := (by repeat (first | exact Below.refl _ _ | refine Below.alloc ?_ (by first | exact Nat.le_refl _ | (simp; done) | (simp; omega)) _ | refine Below.drew ?_ | refine Below.setCell ?_ (by first | exact Nat.le_refl _ | (simp; done) | (simp; omega)) _))
  replace hC1 := hC1.below hbS1
  have g0 : (w1.alloc (.cells #[.int .i64 wd, .slice a1 cs.length c1] 25)).cell? ⟨w1.heap.size, 0, none⟩ = some (.int .i64 wd) := by simp [go_sem]
  have g1 : (w1.alloc (.cells #[.int .i64 wd, .slice a1 cs.length c1] 25)).cell? ⟨w1.heap.size, 1, none⟩ = some (.slice a1 cs.length c1) := by simp [go_sem]
  have hBs1 := bcall hb_w1 (by omega) hbS1
  clear hb_w1
  clear hbS1
  obtain ⟨L, hL⟩ : ∃ L, trailT wd cs k = L := ⟨_, rfl⟩
  have HL : Hid (trailT wd cs k = L) := hL
  obtain ⟨ke1, ke2, ke3, ke4, ke5⟩ := ends_known hL
  obtain ⟨ES, hES⟩ : ∃ ES, L.2 = ES := ⟨_, rfl⟩
  have EX : Hid ((trailT wd cs k).2 = ES) := by show _ = _; rw [hL]; exact hES
  have HX : Hid (L.2 = ES) := hES
  rw [hES] at ke1 ke2 ke3 ke4 ke5
  have KE1 : Hid (∀ u ∈ ES, EndOk wd cs u) := ke1
  have KE2 : Hid (∀ u ∈ ES, u.2.2 ≤ 64) := ke2
  have hlen : ES.length ≤ 1000000 := by omega
  clear ke1 ke2 ke5 hES hL
  go_wp2_with fail
  refine (implEndsR EX.out a1 c1 _ hC1 (by omega)).mono ?_
  rintro e w2 ⟨a2, c2, rfl, hR2, hb_w2⟩
  have hz_w2 := hb_w2.size
  try simp at hz_w2
  replace g0 := keepc hb_w2 g0; replace g1 := keepc hb_w2 g1
  replace hC1 := hC1.below hb_w2
  have hB_w2 := bcall hBs1 (by first | omega | (simp; omega)) hb_w2
  clear hBs1 hb_w2
  go_wp2_with fail
  refine (specEndsR EX.out a1 c1 _ hC1 (by omega)).mono ?_
  rintro e w3 ⟨a3, c3, rfl, hR3, hb_w3⟩
  have hz_w3 := hb_w3.size
  try simp at hz_w3
  replace g0 := keepc hb_w3 g0; replace g1 := keepc hb_w3 g1
  replace hC1 := hC1.below hb_w3
  replace hR2 := hR2.below hb_w3
  have hB_w3 := bcall hB_w2 (by first | omega | (simp; omega)) hb_w3
  clear hB_w2 hb_w3
  go_wp2_with fail
  refine (llEnds_same a2 a3 c2 c3 ES _ hR2 hR3 hlen).mono ?_
  rintro e w4 ⟨rfl, hb_w4⟩
  have hz_w4 := hb_w4.size
  try simp at hz_w4
  replace g0 := keepc hb_w4 g0; replace g1 := keepc hb_w4 g1
  replace hC1 := hC1.below hb_w4
  replace hR2 := hR2.below hb_w4
  replace hR3 := hR3.below hb_w4
  have hB_w4 := bcall hB_w3 (by first | omega | (simp; omega)) hb_w4
  clear hB_w3 hb_w4
  go_wp2_with fail
  refine (llSight_any wd a1 c1 cs _ hC1 (by omega) k).mono ?_
  rintro e w5 ⟨rfl, hb_w5⟩
  have hz_w5 := hb_w5.size
  try simp at hz_w5
  replace g0 := keepc hb_w5 g0; replace g1 := keepc hb_w5 g1
  replace hC1 := hC1.below hb_w5
  replace hR2 := hR2.below hb_w5
  replace hR3 := hR3.below hb_w5
  have hB_w5 := bcall hB_w4 (by first | omega | (simp; omega)) hb_w5
  clear hB_w4 hb_w5
  clear hR3
  rcases hs : inS wd cs k with _ | _
  · go_wp2_with fail
    refine (specEndsR EX.out a1 c1 _ hC1 (by omega)).mono ?_
    rintro e w6 ⟨a6, c6, rfl, hR6, hb_w6⟩
    have hz_w6 := hb_w6.size
    try simp at hz_w6
    replace g0 := keepc hb_w6 g0; replace g1 := keepc hb_w6 g1
    replace hC1 := hC1.below hb_w6
    replace hR2 := hR2.below hb_w6
    have hB_w6 := bcall hB_w5 (by first | omega | (simp; omega)) hb_w6
    clear hB_w5 hb_w6
    go_wp2_with fail
    refine (llEnds_same a2 a6 c2 c6 ES _ hR2 hR6 hlen).mono ?_
    rintro e w7 ⟨rfl, hb_w7⟩
    have hz_w7 := hb_w7.size
    try simp at hz_w7
    replace g0 := keepc hb_w7 g0; replace g1 := keepc hb_w7 g1
    replace hC1 := hC1.below hb_w7
    replace hR2 := hR2.below hb_w7
    replace hR6 := hR6.below hb_w7
    have hB_w7 := bcall hB_w6 (by first | omega | (simp; omega)) hb_w7
    clear hB_w6 hb_w7
    go_wp2
    go_ret
    exact ⟨rfl, hB_w7⟩
  · obtain ⟨x, d, hr⟩ := inS_ray' hs
    have hok := inS_ok hs
    obtain ⟨⟨hx, _⟩, _⟩ := enough_sight hr
    obtain ⟨X, hX⟩ := Int.eq_ofNat_of_zero_le hx.1
    have hXl : X < cs.length := by omega
    obtain ⟨pw1, pw2⟩ := put_wall hs hr hX hXl
    have KR : Hid (inRay wd cs k = (x, d, true)) := hr
    obtain ⟨xs, exs⟩ : ∃ xs, cs.set X (1, 0) = xs := ⟨_, rfl⟩
    rw [exs] at pw1 pw2
    have hxl : xs.length ≤ 31 := by rw [← exs]; simpa using hl1
    have HP : Hid (putG wd cs x 1 0 = (wd, xs, true)) := by show _ = _; rw [hX, putG_at wd cs X 1 0 hXl hok (by decide), exs]
    have HE : Hid ((trailT wd xs k).2 = [(1, x, 64)]) := pw1
    have HT : Hid (∀ i, inS wd cs i = true → toN wd xs i k = 0) := pw2
    obtain ⟨M, hM⟩ : ∃ M, manyG wd cs = M := ⟨_, rfl⟩
    have EM : Hid (manyG wd cs = M) := hM
    have hMM := manyG_to wd cs
    rw [hM] at hMM
    have hM1 := hMM.1
    have hM2 := hMM.2
    have HIN : Hid (∀ i : Nat, (i : Int) < M → inS wd cs (i : Int) = true) := fun i hi => decide_eq_true ⟨by omega, by rw [EM.out]; exact hi⟩
    clear pw1 pw2 hr hs exs hM hMM hok hx hX
    go_wp2_with fail
    refine (implRay_any wd a1 c1 cs _ hC1 (by omega) k x d true KR.out).mono ?_
    rintro e w6 ⟨rfl, hb_w6⟩
    have hz_w6 := hb_w6.size
    try simp at hz_w6
    replace g0 := keepc hb_w6 g0; replace g1 := keepc hb_w6 g1
    replace hC1 := hC1.below hb_w6
    replace hR2 := hR2.below hb_w6
    have hB_w6 := bcall hB_w5 (by first | omega | (simp; omega)) hb_w6
    clear hB_w5 hb_w6
    have hbS2 : Below w6.heap.size w6 (w6.alloc (.cells #[.int .i64 x, .int .i64 d] 62)) := (by repeat (first | exact Below.refl _ _ | refine Below.alloc ?_ (by first | exact Nat.le_refl _ | (simp; done) | (simp; omega)) _ | refine Below.drew ?_ | refine Below.setCell ?_ (by first | exact Nat.le_refl _ | (simp; done) | (simp; omega)) _))
    replace g0 := keepc hbS2 g0; replace g1 := keepc hbS2 g1
    replace hC1 := hC1.below hbS2
    replace hR2 := hR2.below hbS2
    have y0 : (w6.alloc (.cells #[.int .i64 x, .int .i64 d] 62)).cell? ⟨w6.heap.size, 0, none⟩ = some (.int .i64 x) := by simp [go_sem]
    have y1 : (w6.alloc (.cells #[.int .i64 x, .int .i64 d] 62)).cell? ⟨w6.heap.size, 1, none⟩ = some (.int .i64 d) := by simp [go_sem]
    have hBs2 := bcall hB_w6 (by omega) hbS2
    clear hB_w6
    clear hbS2
    go_wp2_with fail
    refine (implGridPut_any wd a1 c1 cs x 1 0 _ hC1 (by omega)).mono ?_
    rintro e w7 ⟨v7, rfl, hO7, hb_w7⟩
    rw [HP.out] at hO7 ⊢
    simp only at hO7
    obtain ⟨a7, c7, rfl, hC7⟩ := hO7.slice
    clear hO7
    have hz_w7 := hb_w7.size
    try simp at hz_w7
    replace g0 := keepc hb_w7 g0; replace g1 := keepc hb_w7 g1; replace y0 := keepc hb_w7 y0; replace y1 := keepc hb_w7 y1
    replace hC1 := hC1.below hb_w7
    replace hR2 := hR2.below hb_w7
    have hB_w7 := bcall hBs2 (by first | omega | (simp; omega)) hb_w7
    clear hBs2 hb_w7
    have hbS3 : Below w7.heap.size w7 (w7.alloc (.cells #[.int .i64 wd, .slice a7 xs.length c7] 25)) := (by repeat (first | exact Below.refl _ _ | refine Below.alloc ?_ (by first | exact Nat.le_refl _ | (simp; done) | (simp; omega)) _ | refine Below.drew ?_ | refine Below.setCell ?_ (by first | exact Nat.le_refl _ | (simp; done) | (simp; omega)) _))
    replace g0 := keepc hbS3 g0; replace g1 := keepc hbS3 g1; replace y0 := keepc hbS3 y0; replace y1 := keepc hbS3 y1
    replace hC1 := hC1.below hbS3
    replace hR2 := hR2.below hbS3
    replace hC7 := hC7.below hbS3
    have x0 : (w7.alloc (.cells #[.int .i64 wd, .slice a7 xs.length c7] 25)).cell? ⟨w7.heap.size, 0, none⟩ = some (.int .i64 wd) := by simp [go_sem]
    have x1 : (w7.alloc (.cells #[.int .i64 wd, .slice a7 xs.length c7] 25)).cell? ⟨w7.heap.size, 1, none⟩ = some (.slice a7 xs.length c7) := by simp [go_sem]
    have hBs3 := bcall hB_w7 (by omega) hbS3
    clear hB_w7
    clear hbS3
    go_wp2_with fail
    obtain ⟨w8, hw8⟩ : ∃ w8, w8 = w7.alloc (.cells #[.int .i64 wd, .slice a7 xs.length c7] 25) := ⟨_, rfl⟩
    rw [← hw8] at g0 g1 y0 y1 x0 x1 hC1 hC7 hBs3 ⊢
    clear hw8 hR2
    go_loopw [10] (fun ii wr => ∃ i : Nat, (i : Int) ≤ M ∧ ii = .int .i64 i ∧ Below w8.heap.size w8 wr) (fun ii _ => (M - intOf ii).toNat)
    case atStart => exact ⟨0, by omega, rfl, Below.refl _ _⟩
    case round =>
      rename World => wo
      obtain ⟨i, hi, rfl, hbo⟩ := hrel
      have hC1' := hC1.below hbo
      have hC7' := hC7.below hbo
      replace g0 := keepc hbo g0; replace g1 := keepc hbo g1; replace y0 := keepc hbo y0; replace y1 := keepc hbo y1; replace x0 := keepc hbo x0; replace x1 := keepc hbo x1
      have hzo := hbo.size
      go_wp2_with fail
      refine (implMany_any wd a1 c1 cs _ hC1' (by omega)).mono ?_
      rintro e wm ⟨rfl, hbm⟩
      rw [EM.out]
      have hC7m := hC7'.below hbm
      replace g0 := keepc hbm g0; replace g1 := keepc hbm g1; replace y0 := keepc hbm y0; replace y1 := keepc hbm y1; replace x0 := keepc hbm x0; replace x1 := keepc hbm x1
      have hbw := bcall hbo hbo.size hbm
      have hzm := hbm.size
      clear hbm
      by_cases hlt : (i : Int) < M
      · have HZ : Hid (toN wd xs (i : Int) k = 0) := HT.out _ (HIN.out i hlt)
        go_wp2_with fail
        refine (implToR HZ.out a7 c7 _ hC7m (by omega)).mono ?_
        rintro e wt ⟨rfl, hbt⟩
        have hbz := bcall hbw (by omega) hbt
        go_wp2_with fail
        go_roundw
        case rel => exact ⟨i + 1, by omega, by go_num, hbz⟩
        case measure => simp [intOf]; omega
      · have hBw := bcall hBs3 hBs3.size hbw
        have hbL : Below wm.heap.size wm (wm.alloc (.cells #[.int .i64 1, .int .i64 x, .int .i64 64] 68)) := (by repeat (first | exact Below.refl _ _ | refine Below.alloc ?_ (by first | exact Nat.le_refl _ | (simp; done) | (simp; omega)) _ | refine Below.drew ?_ | refine Below.setCell ?_ (by first | exact Nat.le_refl _ | (simp; done) | (simp; omega)) _))
        have hRL0 : R3At (wm.alloc (.cells #[.int .i64 1, .int .i64 x, .int .i64 64] 68)) (some ⟨wm.heap.size, 0, none⟩) [(1, x, 64)] := lit_row _ _ _ _
        go_wp2
        go_region_held3 (fun w' => w'.cell? ⟨w7.heap.size, 0, none⟩ = some (.int .i64 wd) ∧ w'.cell? ⟨w7.heap.size, 1, none⟩ = some (.slice a7 xs.length c7) ∧ w'.cell? ⟨w6.heap.size, 0, none⟩ = some (.int .i64 x))
          (first
            | exact ⟨x0, x1, y0⟩
            | exact ⟨keepc hbL x0, keepc hbL x1, keepc hbL y0⟩
            | exact ⟨keepc hb9 x0, keepc hb9 x1, keepc hb9 y0⟩
            | exact ⟨keepc hb8 x0, keepc hb8 x1, keepc hb8 y0⟩
            | exact ⟨keepc hbL8 (keepc hb8 x0), keepc hbL8 (keepc hb8 x1), keepc hbL8 (keepc hb8 y0)⟩
            | go_keep)
          (first
            | (have hguard := hRLb; go_at_call 37; refine (llEnds_same a8 (some ⟨wm.heap.size, 0, none⟩) c8 1 [(1, x, 64)] _ (by first | exact hR8 | exact hR8.below (Below.refl _ _).drew) (by first | exact hRLb | exact hRLb.below (Below.refl _ _).drew) (by simp)).mono ?_; rintro e w9 ⟨rfl, hb9'⟩; have hb9 : Below wm.heap.size wm w9 := (by first | exact bcall hb8 hb8.size hb9' | exact bcall hb8 hb8.size (bdrew hb9')))
            | (have hguard := hRL8; go_at_call 37; refine (llEnds_same a8 (some ⟨w8'.heap.size, 0, none⟩) c8 1 [(1, x, 64)] _ (by first | exact hR8.below hbL8 | exact (hR8.below hbL8).below (Below.refl _ _).drew) (by first | exact hRL8 | exact hRL8.below (Below.refl _ _).drew) (by simp)).mono ?_; rintro e w9 ⟨rfl, hb9'⟩; have hb9 : Below wm.heap.size wm w9 := (by first | exact bcall (hb8.alloc hb8.size _) (hb8.alloc hb8.size _).size hb9' | exact bcall (hb8.alloc hb8.size _) (hb8.alloc hb8.size _).size (bdrew hb9')))
            | (go_at_call 38; refine (implEndsR HE.out a7 c7 _ (by first | exact hC7m | exact hC7m.below (Below.refl _ _).drew | exact hC7m.below (Below.refl _ _).drew.drew) (by omega)).mono ?_; rintro e w8' ⟨a8, c8, rfl, hR8, hb8'⟩; have hb8 : Below wm.heap.size wm w8' := (by first | exact hb8' | exact bdrew hb8' | exact bdrew (bdrew hb8')); have hbL8 : Below w8'.heap.size w8' (w8'.alloc (.cells #[.int .i64 1, .int .i64 x, .int .i64 64] 68)) := ((Below.refl _ _).alloc (Nat.le_refl _) _); have hRL8 : R3At (w8'.alloc (.cells #[.int .i64 1, .int .i64 x, .int .i64 64] 68)) (some ⟨w8'.heap.size, 0, none⟩) [(1, x, 64)] := lit_row _ _ _ _)
            | (go_at_call 38; refine (implEndsR HE.out a7 c7 _ (by first | exact hC7m.below hbL | exact (hC7m.below hbL).below (Below.refl _ _).drew) (by omega)).mono ?_; rintro e w8' ⟨a8, c8, rfl, hR8, hb8'⟩; have hb8n : Below (wm.alloc (.cells #[.int .i64 1, .int .i64 x, .int .i64 64] 68)).heap.size (wm.alloc (.cells #[.int .i64 1, .int .i64 x, .int .i64 64] 68)) w8' := (by first | exact hb8' | exact bdrew hb8'); have hb8 : Below wm.heap.size wm w8' := bcall hbL hbL.size hb8n; have hRLb := hRL0.below hb8n)
            | fail)
        all_goals
          have hBf := bcall hBw hBw.size hb9
          go_wp2
          go_ret
          exact ⟨rfl, by first | exact hBf | exact hBf.drew⟩

theorem walk (a : Option Addr) (n cap : Nat) (f : Nat → Int) (w : World) (h : BytesAt w a n f) (hm : n ≤ cap ∧ cap ≤ 9223372036854775807) :
    Calls Try.prog 9 #[.slice a n cap] w fun e w' => e = .returned (.bool true) ∧ Below w.heap.size w w' := by
  by_cases hs : n ≤ 1048576
  · exact small a n cap f w h hm hs
  · exact big a n cap f w h hm (by omega)

set_option maxRecDepth 100000 in
theorem lifted (os : Os) (started : os.Started) (H : Type) (enc : TypeId × Value → H) :
    ReturnsInHanded {} Try.checked os 9 .any (Rows.fnTrailWallSpec.pre6 enc Try.prog Try.f9 Rows.fnTrailWallRow.domain false) (Rows.fnTrailWallSpec.post enc Try.prog Try.f9 false true false false) := by
  refine returnsInHanded_of_change (C := Try.checked) own started (by kernel_rfl) Try.func9
    (ChangeSpec.witness6 (enc := enc) (C := Try.checked) false ⟨#[], #[.slice none 0 0], []⟩ 8 (by kernel_rfl) (by kernel_rfl) (by kernel_rfl) (by kernel_rfl)) ?_
  intro W base args ds gs before hval0 hW hcnd _
  have hval : ∀ (j : Nat) t v, Try.f9.params[j]? = some t → args[j]? = some v → Value.okWide Try.prog W .any base t v := hval0
  have hW' := hW
  obtain ⟨p, q, hA0, hV, rfl, hfz, hnd⟩ := hW
  have hA : DataW.TrodAll enc Try.prog W 0 (fun _ => true) true Try.f9.params.toList args.toList ds p := hA0
  rw [Try.params9] at hA hval
  obtain ⟨v0, vs0, d0, ds0, p0, q0, hargs, rfl, rfl, h0, r0⟩ := trodAll_cons hA
  obtain ⟨rfl, rfl, rfl⟩ := trodAll_nil r0
  obtain rfl : args = #[v0] := by cases args; simp_all
  obtain ⟨rfl, rfl⟩ := trodVars_none hV
  have k0 := h0
  have lt0 : ∀ x ∈ p0, x.block < W.heap.size := by obtain ⟨m, hm⟩ := k0; exact DataW.trod_lt m _ _ _ hm
  obtain ⟨a0, n0, cap0, f0, rfl, hC0, hm0⟩ := open_bytes (hval 0 22 v0 rfl rfl) h0
  clear hA0 hval0
  refine (walk a0 n0 cap0 f0 W hC0 hm0).mono fun e W' ⟨he, bel⟩ => ?_
  subst he
  exact ⟨_, rfl, _, _, _, [], _, [], hW', trodAll_mk1 (shut_bool Try.underlying4 _), (trodAll_cons_mk (Below.trod laidOut (by kernel_rfl) (of_decide_eq_true (by kernel_rfl)) k0 bel lt0) trodAll_mk0), rfl, bel.frame _, fun h => by cases h⟩

theorem over : Rows.fnTrailWallRow.holds Try.pinned (OpenSpec.ofChange Rows.fnTrailWallSpec) :=
  OpenClaim.holds_of_wide 9 Try.f9 rfl rfl rfl rfl rfl rfl rfl ⟨rfl, rfl, rfl, rfl, rfl⟩ rfl rfl rfl rfl rfl (by kernel_rfl) Try.func9 (by kernel_rfl)
    (of_decide_eq_true (by kernel_rfl)) (by unfold Func.isWrapper; first | (rw [if_pos (by decide +kernel)]; kernel_rfl) | (rw [if_neg (by decide +kernel)]; exact ⟨rfl, rfl⟩))
    (fun os started H enc _ => lifted os started H enc)

end Go.Proofs.Ytmnninhifiajhaa.LwTrailWall

namespace Go.Proofs.Ytmnninhifiajhaa
/-- The statement. -/
theorem lwTrailWall : Rows.FnTrailWallSaid := LwTrailWall.over
#print axioms lwTrailWall
end Go.Proofs.Ytmnninhifiajhaa
