/-
  'laws.FnTrailKinds' returns true for all codes: light ends where it can end. No condition.
-/
import Derived.Test.YtjfeeibnjgjchaaFb
import Derived.Test.YtjfeeibnjgjchaaUn
import Derived.Test.YtjfeeibnjgjchaaDy
namespace Go.Proofs.Ytjfeeibnjgjchaa.LwTrailKinds
open Go.ChangeShapes Go.WideShapes Go.ChangeAt Go.RowKit
set_option linter.unusedVariables false
attribute [local go_sem ↓] Go.wp_at_zero Go.wp_at_succ

/-- Too long a code. -/
theorem big (a : Option Addr) (n cap : Nat) (f : Nat → Int) (w : World) (h : BytesAt w a n f) (hm : n ≤ cap ∧ cap ≤ 9223372036854775807) (hbig : 1048576 < n) :
    Calls Try.prog 6 #[.slice a n cap] w fun e w' => e = .returned (.bool true) ∧ Below w.heap.size w w' := by
  have hb : (1048576 : Int) < (n : Int) := by omega
  go_enter Try.func6, Try.ntmps6
  go_wp2
  go_ret
  exact ⟨rfl, Below.refl _ _⟩

set_option maxRecDepth 100000 in
set_option maxHeartbeats 8000000 in
theorem small (a : Option Addr) (n cap : Nat) (f : Nat → Int) (w : World) (h : BytesAt w a n f) (hm : n ≤ cap ∧ cap ≤ 9223372036854775807) (hsm : n ≤ 1048576) :
    Calls Try.prog 6 #[.slice a n cap] w fun e w' => e = .returned (.bool true) ∧ Below w.heap.size w w' := by
  have hb : (n : Int) ≤ 1048576 := by omega
  go_enter Try.func6, Try.ntmps6
  go_wp2_with fail
  refine (drawTrailEndsX_any a n cap f w h hsm hm.1 hm.2).mono ?_
  rintro e w1 ⟨wd, a1, c1, cs, k, rfl, hok1, hl1, hk1, hb_w1⟩
  have hC1 := hok1.cells
  have hcp := hok1.cap
  have hcm := hok1.max
  clear hok1
  have hz_w1 := hb_w1.size
  try simp at hz_w1
  have hbS1 : Below w1.heap.size w1 (w1.alloc (.cells #[.int .i64 wd, .slice a1 cs.length c1] 25)) := (by repeat (first | exact Below.refl _ _ | refine Below.alloc ?_ (by first | exact Nat.le_refl _ | (simp; done) | (simp; omega)) _ | refine Below.drew ?_ | refine Below.setCell ?_ (by first | exact Nat.le_refl _ | (simp; done) | (simp; omega)) _))
  replace hC1 := hC1.below hbS1
  have g0 : (w1.alloc (.cells #[.int .i64 wd, .slice a1 cs.length c1] 25)).cell? ⟨w1.heap.size, 0, none⟩ = some (.int .i64 wd) := by simp [go_sem]
  have g1 : (w1.alloc (.cells #[.int .i64 wd, .slice a1 cs.length c1] 25)).cell? ⟨w1.heap.size, 1, none⟩ = some (.slice a1 cs.length c1) := by simp [go_sem]
  have hBs1 := bcall hb_w1 (by omega) hbS1
  clear hb_w1
  clear hbS1
  obtain ⟨L, hL⟩ : ∃ L, trailT wd cs k = L := ⟨_, rfl⟩
  have HL : Hid (trailT wd cs k = L) := hL
  obtain ⟨ke1, ke2, ke3, ke4, ke5⟩ := ends_known hL
  obtain ⟨ES, hES⟩ : ∃ ES, L.2 = ES := ⟨_, rfl⟩
  have EX : Hid ((trailT wd cs k).2 = ES) := by show _ = _; rw [hL]; exact hES
  rw [hES] at ke1 ke2 ke3 ke4 ke5
  have KE1 : Hid (∀ u ∈ ES, EndOk wd cs u) := ke1
  have hlen : ES.length ≤ 1000000 := by omega
  obtain ⟨FT, hFT⟩ : ∃ FT, footN wd cs k = FT := ⟨_, rfl⟩
  have EF : Hid (footN wd cs k = FT) := hFT
  have hfl := foot_len wd cs k hl1
  rw [hFT] at hfl
  have HEF : Hid (∀ u ∈ ES, u.1 ≠ 0 → decide (u.2.1 ∈ FT) = true) := fun u hu h0 => by
    rw [← hFT]
    exact decide_eq_true (end_foot (by rw [hL, hES]; exact hu) h0)
  clear ke1 ke2 ke5 hES hL hFT
  go_wp2_with fail
  refine (implEndsR EX.out a1 c1 _ hC1 (by omega)).mono ?_
  rintro e w2 ⟨a2, c2, rfl, hR2, hb_w2⟩
  have hz_w2 := hb_w2.size
  try simp at hz_w2
  replace g0 := keepc hb_w2 g0; replace g1 := keepc hb_w2 g1
  replace hC1 := hC1.below hb_w2
  have hB_w2 := bcall hBs1 (by first | omega | (simp; omega)) hb_w2
  clear hBs1 hb_w2
  go_wp2_with fail
  refine (specEndsR EX.out a1 c1 _ hC1 (by omega)).mono ?_
  rintro e w3 ⟨a3, c3, rfl, hR3, hb_w3⟩
  have hz_w3 := hb_w3.size
  try simp at hz_w3
  replace g0 := keepc hb_w3 g0; replace g1 := keepc hb_w3 g1
  replace hC1 := hC1.below hb_w3
  replace hR2 := hR2.below hb_w3
  have hB_w3 := bcall hB_w2 (by first | omega | (simp; omega)) hb_w3
  clear hB_w2 hb_w3
  go_wp2_with fail
  refine (llEnds_same a2 a3 c2 c3 ES _ hR2 hR3 hlen).mono ?_
  rintro e w4 ⟨rfl, hb_w4⟩
  have hz_w4 := hb_w4.size
  try simp at hz_w4
  replace g0 := keepc hb_w4 g0; replace g1 := keepc hb_w4 g1
  replace hC1 := hC1.below hb_w4
  replace hR2 := hR2.below hb_w4
  replace hR3 := hR3.below hb_w4
  have hB_w4 := bcall hB_w3 (by first | omega | (simp; omega)) hb_w4
  clear hB_w3 hb_w4
  go_wp2_with fail
  refine (llSight_any wd a1 c1 cs _ hC1 (by omega) k).mono ?_
  rintro e w5 ⟨rfl, hb_w5⟩
  have hz_w5 := hb_w5.size
  try simp at hz_w5
  replace g0 := keepc hb_w5 g0; replace g1 := keepc hb_w5 g1
  replace hC1 := hC1.below hb_w5
  replace hR2 := hR2.below hb_w5
  replace hR3 := hR3.below hb_w5
  have hB_w5 := bcall hB_w4 (by first | omega | (simp; omega)) hb_w5
  clear hB_w4 hb_w5
  clear hR3
  rcases hs : inS wd cs k with _ | _
  · go_wp2_with fail
    refine (specEndsR EX.out a1 c1 _ hC1 (by omega)).mono ?_
    rintro e w6 ⟨a6, c6, rfl, hR6, hb_w6⟩
    have hz_w6 := hb_w6.size
    try simp at hz_w6
    replace g0 := keepc hb_w6 g0; replace g1 := keepc hb_w6 g1
    replace hC1 := hC1.below hb_w6
    replace hR2 := hR2.below hb_w6
    have hB_w6 := bcall hB_w5 (by first | omega | (simp; omega)) hb_w6
    clear hB_w5 hb_w6
    go_wp2_with fail
    refine (llEnds_same a2 a6 c2 c6 ES _ hR2 hR6 hlen).mono ?_
    rintro e w7 ⟨rfl, hb_w7⟩
    have hz_w7 := hb_w7.size
    try simp at hz_w7
    replace g0 := keepc hb_w7 g0; replace g1 := keepc hb_w7 g1
    replace hC1 := hC1.below hb_w7
    replace hR2 := hR2.below hb_w7
    replace hR6 := hR6.below hb_w7
    have hB_w7 := bcall hB_w6 (by first | omega | (simp; omega)) hb_w7
    clear hB_w6 hb_w7
    go_wp2
    go_ret
    exact ⟨rfl, hB_w7⟩
  · go_wp2_with fail
    refine (implFootR EF.out a1 c1 _ hC1 (by omega)).mono ?_
    rintro e w6 ⟨a6, c6, rfl, hF6, hb_w6⟩
    have hz_w6 := hb_w6.size
    try simp at hz_w6
    replace g0 := keepc hb_w6 g0; replace g1 := keepc hb_w6 g1
    replace hC1 := hC1.below hb_w6
    replace hR2 := hR2.below hb_w6
    have hB_w6 := bcall hB_w5 (by first | omega | (simp; omega)) hb_w6
    clear hB_w5 hb_w6
    clear hs
    go_wp2_with fail
    go_loopw [7] (fun ii wr => ∃ i : Nat, i ≤ ES.length ∧ ii = .int .i64 i ∧ Below w6.heap.size w6 wr) (fun ii _ => ES.length - (intOf ii).toNat)
    case atStart => exact ⟨0, Nat.zero_le _, rfl, Below.refl _ _⟩
    case round =>
      rename World => wo
      obtain ⟨i, hi, rfl, hbo⟩ := hrel
      by_cases hlt : i < ES.length
      · obtain ⟨b, off, ea, x0, x1, x2⟩ := (hR2.below hbo).at hlt
        subst ea
        obtain ⟨t, et⟩ : ∃ t, ES.getD i (0, 0, 0) = t := ⟨_, rfl⟩
        have hmem : t ∈ ES := by rw [← et]; simp [List.getElem?_eq_getElem hlt]
        rw [et] at x0 x1 x2
        obtain ⟨hw1, hK⟩ := KE1.out t hmem
        have hmf := HEF.out t hmem
        obtain ⟨t0, t1, t2⟩ := t
        simp only at x0 x1 x2 hw1 hK hmf
        clear hmem et
        rcases hK with ⟨k0, hx⟩ | ⟨hx, ⟨k0, ek⟩ | ⟨k0, ek⟩ | ⟨k0, ek⟩⟩
        · subst k0
          have HIN : Hid (inS wd cs t1 = true) := decide_eq_true hx
          have hbE : Below wo.heap.size wo (wo.alloc (.cells #[.int .i64 0, .int .i64 t1, .int .i64 t2] 33)) := (by repeat (first | exact Below.refl _ _ | refine Below.alloc ?_ (by first | exact Nat.le_refl _ | (simp; done) | (simp; omega)) _ | refine Below.drew ?_ | refine Below.setCell ?_ (by first | exact Nat.le_refl _ | (simp; done) | (simp; omega)) _))
          have hbF := bcall hbo hbo.size hbE
          have h0 := keepc hbE (keepc hbo g0)
          have h1 := keepc hbE (keepc hbo g1)
          have hC2 := (hC1.below hbo).below hbE
          have hF2 := (hF6.below hbo).below hbE
          have y0 : (wo.alloc (.cells #[.int .i64 0, .int .i64 t1, .int .i64 t2] 33)).cell? ⟨wo.heap.size, 0, none⟩ = some (.int .i64 0) := by simp [go_sem]
          have y1 : (wo.alloc (.cells #[.int .i64 0, .int .i64 t1, .int .i64 t2] 33)).cell? ⟨wo.heap.size, 1, none⟩ = some (.int .i64 t1) := by simp [go_sem]
          have y2 : (wo.alloc (.cells #[.int .i64 0, .int .i64 t1, .int .i64 t2] 33)).cell? ⟨wo.heap.size, 2, none⟩ = some (.int .i64 t2) := by simp [go_sem]
          go_wp2_with fail
          refine (llSight_any wd a1 c1 cs _ hC2 (by omega) t1).mono ?_
          rintro e wv ⟨rfl, hbv⟩
          rw [HIN.out]
          have hbG := bcall hbF (by have := hbo.size; simp; omega) hbv
          have u0 := keepc hbv y0
          have u1 := keepc hbv y1
          have v0 := keepc hbv h0
          have v1 := keepc hbv h1
          clear hbv hbE hbF
          go_wp2_with fail
          go_roundw
          case rel => exact ⟨i + 1, by omega, by go_num, hbG⟩
          case measure => simp [intOf]; omega
        · subst k0
          have HM : Hid (decide (t1 ∈ FT) = true) := hmf (by decide)
          have hbE : Below wo.heap.size wo (wo.alloc (.cells #[.int .i64 1, .int .i64 t1, .int .i64 t2] 33)) := (by repeat (first | exact Below.refl _ _ | refine Below.alloc ?_ (by first | exact Nat.le_refl _ | (simp; done) | (simp; omega)) _ | refine Below.drew ?_ | refine Below.setCell ?_ (by first | exact Nat.le_refl _ | (simp; done) | (simp; omega)) _))
          have hbF := bcall hbo hbo.size hbE
          have h0 := keepc hbE (keepc hbo g0)
          have h1 := keepc hbE (keepc hbo g1)
          have hC2 := (hC1.below hbo).below hbE
          have hF2 := (hF6.below hbo).below hbE
          have y0 : (wo.alloc (.cells #[.int .i64 1, .int .i64 t1, .int .i64 t2] 33)).cell? ⟨wo.heap.size, 0, none⟩ = some (.int .i64 1) := by simp [go_sem]
          have y1 : (wo.alloc (.cells #[.int .i64 1, .int .i64 t1, .int .i64 t2] 33)).cell? ⟨wo.heap.size, 1, none⟩ = some (.int .i64 t1) := by simp [go_sem]
          have y2 : (wo.alloc (.cells #[.int .i64 1, .int .i64 t1, .int .i64 t2] 33)).cell? ⟨wo.heap.size, 2, none⟩ = some (.int .i64 t2) := by simp [go_sem]
          obtain ⟨X, rfl⟩ := Int.eq_ofNat_of_zero_le hx.1
          have hX : X < cs.length := by omega
          have hXi : (X : Int) < (cs.length : Int) := by omega
          obtain ⟨bc, oc, eac, zc⟩ : ∃ b off, a1 = some ⟨b, off, none⟩ ∧ (wo.alloc (.cells #[.int .i64 1, .int .i64 (X : Int), .int .i64 t2] 33)).cell? ⟨b, off + X * 2, none⟩ = some (.int .i64 (1)) := by
            rcases hC2 with q | ⟨b, off, q, _, hc⟩
            · rw [q] at hX; simp at hX
            · refine ⟨b, off, q, ?_⟩
              rw [(hc X hX).1, ← ek]
              simp [kd]
          subst eac
          go_wp2_with fail
          refine (llHas_any _ _ FT _ _ hF2 (by omega)).mono ?_
          rintro e w' ⟨rfl, rfl⟩
          rw [HM.out]
          go_wp2_with fail
          go_roundw
          case rel => exact ⟨i + 1, by omega, by go_num, hbF⟩
          case measure => simp [intOf]; omega
        · subst k0
          have HM : Hid (decide (t1 ∈ FT) = true) := hmf (by decide)
          have hbE : Below wo.heap.size wo (wo.alloc (.cells #[.int .i64 2, .int .i64 t1, .int .i64 t2] 33)) := (by repeat (first | exact Below.refl _ _ | refine Below.alloc ?_ (by first | exact Nat.le_refl _ | (simp; done) | (simp; omega)) _ | refine Below.drew ?_ | refine Below.setCell ?_ (by first | exact Nat.le_refl _ | (simp; done) | (simp; omega)) _))
          have hbF := bcall hbo hbo.size hbE
          have h0 := keepc hbE (keepc hbo g0)
          have h1 := keepc hbE (keepc hbo g1)
          have hC2 := (hC1.below hbo).below hbE
          have hF2 := (hF6.below hbo).below hbE
          have y0 : (wo.alloc (.cells #[.int .i64 2, .int .i64 t1, .int .i64 t2] 33)).cell? ⟨wo.heap.size, 0, none⟩ = some (.int .i64 2) := by simp [go_sem]
          have y1 : (wo.alloc (.cells #[.int .i64 2, .int .i64 t1, .int .i64 t2] 33)).cell? ⟨wo.heap.size, 1, none⟩ = some (.int .i64 t1) := by simp [go_sem]
          have y2 : (wo.alloc (.cells #[.int .i64 2, .int .i64 t1, .int .i64 t2] 33)).cell? ⟨wo.heap.size, 2, none⟩ = some (.int .i64 t2) := by simp [go_sem]
          obtain ⟨X, rfl⟩ := Int.eq_ofNat_of_zero_le hx.1
          have hX : X < cs.length := by omega
          have hXi : (X : Int) < (cs.length : Int) := by omega
          obtain ⟨bc, oc, eac, zc⟩ : ∃ b off, a1 = some ⟨b, off, none⟩ ∧ (wo.alloc (.cells #[.int .i64 2, .int .i64 (X : Int), .int .i64 t2] 33)).cell? ⟨b, off + X * 2, none⟩ = some (.int .i64 (7)) := by
            rcases hC2 with q | ⟨b, off, q, _, hc⟩
            · rw [q] at hX; simp at hX
            · refine ⟨b, off, q, ?_⟩
              rw [(hc X hX).1, ← ek]
              simp [kd]
          subst eac
          go_wp2_with fail
          refine (llHas_any _ _ FT _ _ hF2 (by omega)).mono ?_
          rintro e w' ⟨rfl, rfl⟩
          rw [HM.out]
          go_wp2_with fail
          go_roundw
          case rel => exact ⟨i + 1, by omega, by go_num, hbF⟩
          case measure => simp [intOf]; omega
        · subst k0
          have HM : Hid (decide (t1 ∈ FT) = true) := hmf (by decide)
          have hbE : Below wo.heap.size wo (wo.alloc (.cells #[.int .i64 3, .int .i64 t1, .int .i64 t2] 33)) := (by repeat (first | exact Below.refl _ _ | refine Below.alloc ?_ (by first | exact Nat.le_refl _ | (simp; done) | (simp; omega)) _ | refine Below.drew ?_ | refine Below.setCell ?_ (by first | exact Nat.le_refl _ | (simp; done) | (simp; omega)) _))
          have hbF := bcall hbo hbo.size hbE
          have h0 := keepc hbE (keepc hbo g0)
          have h1 := keepc hbE (keepc hbo g1)
          have hC2 := (hC1.below hbo).below hbE
          have hF2 := (hF6.below hbo).below hbE
          have y0 : (wo.alloc (.cells #[.int .i64 3, .int .i64 t1, .int .i64 t2] 33)).cell? ⟨wo.heap.size, 0, none⟩ = some (.int .i64 3) := by simp [go_sem]
          have y1 : (wo.alloc (.cells #[.int .i64 3, .int .i64 t1, .int .i64 t2] 33)).cell? ⟨wo.heap.size, 1, none⟩ = some (.int .i64 t1) := by simp [go_sem]
          have y2 : (wo.alloc (.cells #[.int .i64 3, .int .i64 t1, .int .i64 t2] 33)).cell? ⟨wo.heap.size, 2, none⟩ = some (.int .i64 t2) := by simp [go_sem]
          obtain ⟨X, rfl⟩ := Int.eq_ofNat_of_zero_le hx.1
          have hX : X < cs.length := by omega
          have hXi : (X : Int) < (cs.length : Int) := by omega
          obtain ⟨ck, eck⟩ : ∃ c, cs.getD X (0, 0) = c := ⟨_, rfl⟩
          have HCL : Hid (clearB [ck] = false) := by
            show _ = _
            refine clearB_not (c := ck) (by simp) ?_
            rw [← eck]
            simpa [kd] using ek
          obtain ⟨bc, oc, eac, hC3⟩ : ∃ b off, a1 = some ⟨b, off, none⟩ ∧ CellsAt (wo.alloc (.cells #[.int .i64 3, .int .i64 (X : Int), .int .i64 t2] 33)) (some ⟨b, off + X * 2, none⟩) [ck] := by
            rcases hC2 with q | ⟨b, off, q, hbl, hc⟩
            · rw [q] at hX; simp at hX
            · refine ⟨b, off, q, Or.inr ⟨b, off + X * 2, rfl, hbl, fun j hj => ?_⟩⟩
              simp only [List.length_singleton] at hj
              obtain rfl : j = 0 := by omega
              have := hc X hX
              rw [eck] at this
              simpa using this
          subst eac
          have i1 : (X : Int) + 1 ≤ (c1 : Int) := by omega
          have i2 : (c1 : Int) ≤ 9223372036854775807 := by omega
          have i3 : X < c1 := by omega
          have i4 : (X : Int) < (c1 : Int) := by omega
          go_wp2_with fail
          refine (llHas_any _ _ FT _ _ hF2 (by omega)).mono ?_
          rintro e w' ⟨rfl, rfl⟩
          rw [HM.out]
          go_wp2_with fail
          refine (llClear_any 1 _ _ [ck] _ hC3 (by simp)).mono ?_
          rintro e wv ⟨rfl, hbv⟩
          rw [HCL.out]
          have hbG := bcall hbF (by have := hbo.size; simp; omega) hbv
          clear hbv hbE hbF
          go_wp2_with fail
          go_roundw
          case rel => exact ⟨i + 1, by omega, by go_num, hbG⟩
          case measure => simp [intOf]; omega
      · go_wp2_with fail
        go_ret
        exact ⟨rfl, bcall hB_w6 (by omega) hbo⟩

theorem walk (a : Option Addr) (n cap : Nat) (f : Nat → Int) (w : World) (h : BytesAt w a n f) (hm : n ≤ cap ∧ cap ≤ 9223372036854775807) :
    Calls Try.prog 6 #[.slice a n cap] w fun e w' => e = .returned (.bool true) ∧ Below w.heap.size w w' := by
  by_cases hs : n ≤ 1048576
  · exact small a n cap f w h hm hs
  · exact big a n cap f w h hm (by omega)

set_option maxRecDepth 100000 in
theorem lifted (os : Os) (started : os.Started) (H : Type) (enc : TypeId × Value → H) :
    ReturnsInHanded {} Try.checked os 6 .any (Rows.fnTrailKindsSpec.pre6 enc Try.prog Try.f6 Rows.fnTrailKindsRow.domain false) (Rows.fnTrailKindsSpec.post enc Try.prog Try.f6 false true false false) := by
  refine returnsInHanded_of_change (C := Try.checked) own started (by kernel_rfl) Try.func6
    (ChangeSpec.witness6 (enc := enc) (C := Try.checked) false ⟨#[], #[.slice none 0 0], []⟩ 8 (by kernel_rfl) (by kernel_rfl) (by kernel_rfl) (by kernel_rfl)) ?_
  intro W base args ds gs before hval0 hW hcnd _
  have hval : ∀ (j : Nat) t v, Try.f6.params[j]? = some t → args[j]? = some v → Value.okWide Try.prog W .any base t v := hval0
  have hW' := hW
  obtain ⟨p, q, hA0, hV, rfl, hfz, hnd⟩ := hW
  have hA : DataW.TrodAll enc Try.prog W 0 (fun _ => true) true Try.f6.params.toList args.toList ds p := hA0
  rw [Try.params6] at hA hval
  obtain ⟨v0, vs0, d0, ds0, p0, q0, hargs, rfl, rfl, h0, r0⟩ := trodAll_cons hA
  obtain ⟨rfl, rfl, rfl⟩ := trodAll_nil r0
  obtain rfl : args = #[v0] := by cases args; simp_all
  obtain ⟨rfl, rfl⟩ := trodVars_none hV
  have k0 := h0
  have lt0 : ∀ x ∈ p0, x.block < W.heap.size := by obtain ⟨m, hm⟩ := k0; exact DataW.trod_lt m _ _ _ hm
  obtain ⟨a0, n0, cap0, f0, rfl, hC0, hm0⟩ := open_bytes (hval 0 22 v0 rfl rfl) h0
  clear hA0 hval0
  refine (walk a0 n0 cap0 f0 W hC0 hm0).mono fun e W' ⟨he, bel⟩ => ?_
  subst he
  exact ⟨_, rfl, _, _, _, [], _, [], hW', trodAll_mk1 (shut_bool Try.underlying4 _), (trodAll_cons_mk (Below.trod laidOut (by kernel_rfl) (of_decide_eq_true (by kernel_rfl)) k0 bel lt0) trodAll_mk0), rfl, bel.frame _, fun h => by cases h⟩

theorem over : Rows.fnTrailKindsRow.holds Try.pinned (OpenSpec.ofChange Rows.fnTrailKindsSpec) :=
  OpenClaim.holds_of_wide 6 Try.f6 rfl rfl rfl rfl rfl rfl rfl ⟨rfl, rfl, rfl, rfl, rfl⟩ rfl rfl rfl rfl rfl (by kernel_rfl) Try.func6 (by kernel_rfl)
    (of_decide_eq_true (by kernel_rfl)) (by unfold Func.isWrapper; first | (rw [if_pos (by decide +kernel)]; kernel_rfl) | (rw [if_neg (by decide +kernel)]; exact ⟨rfl, rfl⟩))
    (fun os started H enc _ => lifted os started H enc)

end Go.Proofs.Ytjfeeibnjgjchaa.LwTrailKinds

namespace Go.Proofs.Ytjfeeibnjgjchaa
/-- The statement. -/
theorem lwTrailKinds : Rows.FnTrailKindsSaid := LwTrailKinds.over
#print axioms lwTrailKinds
end Go.Proofs.Ytjfeeibnjgjchaa
