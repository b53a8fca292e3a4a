/-
  'laws.FnTurnKinds' returns true for every code: turned, or in a mirror, a drawn grid has as many cells of each kind as it had. No condition.
-/
import Derived.Test.YtdgahcadjjokcaaFb
import Derived.Test.YtdgahcadjjokcaaTg
import Derived.Test.YtdgahcadjjokcaaKa
namespace Go.Proofs.Ytdgahcadjjokcaa.LwTurnKinds
open Go.ChangeShapes Go.WideShapes Go.ChangeAt Go.RowKit
set_option linter.unusedVariables false
attribute [local go_sem ↓] Go.wp_at_zero Go.wp_at_succ

theorem turnG_lenK (wd : Int) (cs : List (Int × Int)) : (turnG wd cs).2.length ≤ 25 := by
  unfold turnG
  by_cases h : okG wd cs = true
  · rw [if_pos h]
    have := okG_lenD wd cs h
    simp [turnC]
    omega
  · rw [if_neg h]
    simp
theorem flipG_lenK (wd : Int) (cs : List (Int × Int)) : (flipG wd cs).2.length ≤ 25 := by
  unfold flipG
  by_cases h : okG wd cs = true
  · rw [if_pos h]
    have := okG_lenD wd cs h
    simp [flipC]
    omega
  · rw [if_neg h]
    simp

/-- Too long a code. -/
theorem big (a : Option Addr) (n cap : Nat) (f : Nat → Int) (w : World) (h : BytesAt w a n f) (hm : n ≤ cap ∧ cap ≤ 9223372036854775807) (hbig : 1048576 < n) :
    Calls Try.prog 7 #[.slice a n cap] w fun e w' => e = .returned (.bool true) ∧ Below w.heap.size w w' := by
  have hb : (1048576 : Int) < (n : Int) := by omega
  go_enter Try.func7, Try.ntmps7
  go_wp2
  go_ret
  exact ⟨rfl, Below.refl _ _⟩

set_option maxHeartbeats 2000000 in
theorem small (a : Option Addr) (n cap : Nat) (f : Nat → Int) (w : World) (h : BytesAt w a n f) (hm : n ≤ cap ∧ cap ≤ 9223372036854775807) (hsm : n ≤ 1048576) :
    Calls Try.prog 7 #[.slice a n cap] w fun e w' => e = .returned (.bool true) ∧ Below w.heap.size w w' := by
  have hb : (n : Int) ≤ 1048576 := by omega
  go_enter Try.func7, Try.ntmps7
  go_wp2_with fail
  refine (drawGridTurn_any a n cap f w h hsm hm.1 hm.2).mono ?_
  rintro e w1 ⟨wd, a1, c1, cs, rfl, hC1, hl1, hb1⟩
  have hz1 := hb1.size
  obtain ⟨xw, xc, hx⟩ : ∃ xw xc, turnG wd cs = (xw, xc) := ⟨_, _, rfl⟩
  obtain ⟨yw, yc, hy⟩ : ∃ yw yc, flipG wd cs = (yw, yc) := ⟨_, _, rfl⟩
  have hbY : Below w1.heap.size w1 (w1.alloc (.cells #[.int .i64 wd, .slice a1 cs.length c1] 25)) := (by repeat (first | exact Below.refl _ _ | refine Below.alloc ?_ (by first | exact Nat.le_refl _ | (simp; done) | (simp; omega)) _ | refine Below.drew ?_ | refine Below.setCell ?_ (by first | exact Nat.le_refl _ | (simp; done) | (simp; omega)) _))
  have hC1' := hC1.below hbY
  go_wp2_with fail
  refine (implGridTurn_any wd a1 c1 cs _ hC1' (by omega)).mono ?_
  rw [hx]
  rintro e w2 ⟨v2, rfl, hO2, hb2⟩
  obtain ⟨a2, c2, rfl, hC2⟩ := hO2.slice
  have hz2 := hb2.size
  simp at hz2
  have g0 : w2.cell? ⟨w1.heap.size, 0, none⟩ = some (.int .i64 wd) := keepc hb2 (by simp [go_sem])
  have g1 : w2.cell? ⟨w1.heap.size, 1, none⟩ = some (.slice a1 cs.length c1) := keepc hb2 (by simp [go_sem])
  have hb12 : Below w1.heap.size w1 w2 := bcall hbY (by simp) hb2
  have hB2 : Below w.heap.size w w2 := bcall hb1 (by omega) hb12
  have hC12 := hC1.below hb12
  have hbZ : Below w2.heap.size w2 (w2.alloc (.cells #[.int .i64 xw, .slice a2 xc.length c2] 25)) := (by repeat (first | exact Below.refl _ _ | refine Below.alloc ?_ (by first | exact Nat.le_refl _ | (simp; done) | (simp; omega)) _ | refine Below.drew ?_ | refine Below.setCell ?_ (by first | exact Nat.le_refl _ | (simp; done) | (simp; omega)) _))
  have g0' : (w2.alloc (.cells #[.int .i64 xw, .slice a2 xc.length c2] 25)).cell? ⟨w1.heap.size, 0, none⟩ = some (.int .i64 wd) := keepc hbZ g0
  have g1' : (w2.alloc (.cells #[.int .i64 xw, .slice a2 xc.length c2] 25)).cell? ⟨w1.heap.size, 1, none⟩ = some (.slice a1 cs.length c1) := keepc hbZ g1
  clear hb2 hbY hC1'
  go_wp2_with fail
  refine (implGridFlip_any wd a1 c1 cs _ (hC12.below hbZ) (by omega)).mono ?_
  rw [hy]
  rintro e w4 ⟨v4, rfl, hO4, hb4⟩
  obtain ⟨a4, c4, rfl, hC4⟩ := hO4.slice
  have hz4 := hb4.size
  simp at hz4
  replace g0 : w4.cell? ⟨w1.heap.size, 0, none⟩ = some (.int .i64 wd) := keepc hb4 g0'
  replace g1 : w4.cell? ⟨w1.heap.size, 1, none⟩ = some (.slice a1 cs.length c1) := keepc hb4 g1'
  have x0 : w4.cell? ⟨w2.heap.size, 0, none⟩ = some (.int .i64 xw) := keepc hb4 (by simp [go_sem])
  have x1 : w4.cell? ⟨w2.heap.size, 1, none⟩ = some (.slice a2 xc.length c2) := keepc hb4 (by simp [go_sem])
  replace hC2 := (hC2.below hbZ).below hb4
  replace hC12 := (hC12.below hbZ).below hb4
  have hB4 : Below w.heap.size w w4 := bcall (bcall hB2 (by omega) hbZ) (by simp; omega) hb4
  have hbA : Below w4.heap.size w4 (w4.alloc (.cells #[.int .i64 yw, .slice a4 yc.length c4] 25)) := (by repeat (first | exact Below.refl _ _ | refine Below.alloc ?_ (by first | exact Nat.le_refl _ | (simp; done) | (simp; omega)) _ | refine Below.drew ?_ | refine Below.setCell ?_ (by first | exact Nat.le_refl _ | (simp; done) | (simp; omega)) _))
  clear hb4 hbZ g0' g1'
  obtain ⟨w5, hw5⟩ : ∃ w5, w5 = w4.alloc (.cells #[.int .i64 yw, .slice a4 yc.length c4] 25) := ⟨_, rfl⟩
  have y0 : w5.cell? ⟨w4.heap.size, 0, none⟩ = some (.int .i64 yw) := by rw [hw5]; simp [go_sem]
  have y1 : w5.cell? ⟨w4.heap.size, 1, none⟩ = some (.slice a4 yc.length c4) := by rw [hw5]; simp [go_sem]
  have hz5 : w5.heap.size = w4.heap.size + 1 := by rw [hw5]; simp
  rw [← hw5] at hbA
  replace g0 := keepc hbA g0; replace g1 := keepc hbA g1; replace x0 := keepc hbA x0; replace x1 := keepc hbA x1
  replace hC2 := hC2.below hbA
  replace hC4 := hC4.below hbA
  replace hC12 := hC12.below hbA
  have hB5 : Below w.heap.size w w5 := bcall hB4 (by omega) hbA
  have hlen := turnG_lenK wd cs
  rw [hx] at hlen
  have hxl : xc.length ≤ 1048576 := by simp only at hlen; omega
  have hlen2 := flipG_lenK wd cs
  rw [hy] at hlen2
  have hyl : yc.length ≤ 1048576 := by simp only at hlen2; omega
  have CS : Hid (∀ (a : Option Addr) (cap : Nat) (w : World), CellsAt w a cs → Calls Try.prog 16 #[.agg #[.int .i64 wd, .slice a cs.length cap]] w fun e w' => ∃ v, e = .returned (.agg #[.int .i64 xw, v]) ∧ Own w' w.heap.size v xc ∧ Below w.heap.size w w') := by
    intro a cap w h
    have := specGridTurn_any wd a cap cs w h (by omega)
    rw [hx] at this
    exact this
  have CF : Hid (∀ (a : Option Addr) (cap : Nat) (w : World), CellsAt w a cs → Calls Try.prog 20 #[.agg #[.int .i64 wd, .slice a cs.length cap]] w fun e w' => ∃ v, e = .returned (.agg #[.int .i64 yw, v]) ∧ Own w' w.heap.size v yc ∧ Below w.heap.size w w') := by
    intro a cap w h
    have := specGridFlip_any wd a cap cs w h (by omega)
    rw [hy] at this
    exact this
  have heq : eqL xw xw xc xc = true := by simp [eqL]
  have heq2 : eqL yw yw yc yc = true := by simp [eqL]
  by_cases hok : okG wd cs = true
  · go_wp2
    rw [← hw5]
    clear hw5
    go_region_held3 (fun w' => w'.cell? ⟨w1.heap.size, 0, none⟩ = some (.int .i64 wd) ∧ w'.cell? ⟨w1.heap.size, 1, none⟩ = some (.slice a1 cs.length c1) ∧ w'.cell? ⟨w2.heap.size, 0, none⟩ = some (.int .i64 xw) ∧ w'.cell? ⟨w2.heap.size, 1, none⟩ = some (.slice a2 xc.length c2) ∧ w'.cell? ⟨w4.heap.size, 0, none⟩ = some (.int .i64 yw) ∧ w'.cell? ⟨w4.heap.size, 1, none⟩ = some (.slice a4 yc.length c4))
      (first | exact ⟨keepc hK g0, keepc hK g1, keepc hK x0, keepc hK x1, keepc hK y0, keepc hK y1⟩ | exact ⟨keepc hL2 g0, keepc hL2 g1, keepc hL2 x0, keepc hL2 x1, keepc hL2 y0, keepc hL2 y1⟩ | exact ⟨keepc hF g0, keepc hF g1, keepc hF x0, keepc hF x1, keepc hF y0, keepc hF y1⟩ | exact ⟨keepc hL1 g0, keepc hL1 g1, keepc hL1 x0, keepc hL1 x1, keepc hL1 y0, keepc hL1 y1⟩ | exact ⟨keepc hT g0, keepc hT g1, keepc hT x0, keepc hT x1, keepc hT y0, keepc hT y1⟩ | go_keep)
      (first
        | (go_at_call 16; refine (CS.out _ _ _ (by first | exact hC12 | exact hC12.below (Below.refl _ _).drew)).mono ?_; rintro e wT ⟨vT, rfl, hOT, hT'⟩; obtain ⟨aT, cT, rfl, hCT⟩ := hOT.slice; have hT : Below w5.heap.size w5 wT := (by first | exact hT' | exact bdrew hT'))
        | (go_at_call_of 12 cT; refine (llGrid_any _ _ _ _ _ _ xc xc _ (hC2.below hT) hCT hxl hxl).mono ?_; rintro e wA ⟨rfl, hA'⟩; have hL1 : Below w5.heap.size w5 wA := bcall hT hT.size hA')
        | (go_at_call 20; refine (CF.out _ _ _ (hC12.below hL1)).mono ?_; rintro e wF ⟨vF, rfl, hOF, hF'⟩; obtain ⟨aF, cF, rfl, hCF⟩ := hOF.slice; have hF : Below w5.heap.size w5 wF := bcall hL1 hL1.size hF')
        | (go_at_call_of 12 cF; refine (llGrid_any _ _ _ _ _ _ yc yc _ (hC4.below hF) hCF hyl hyl).mono ?_; rintro e wB ⟨rfl, hB'⟩; have hL2 : Below w5.heap.size w5 wB := bcall hF hF.size hB')
        | (go_at_call 17; refine (specGridOk_any _ _ _ cs _ (hC12.below hL2) (by omega)).mono ?_; rintro e w6 ⟨rfl, hK'⟩; have hK : Below w5.heap.size w5 w6 := bcall hL2 hL2.size hK'))
    have hz6 := hK.size
    have hB6 : Below w.heap.size w w6 := bcall hB5 (by omega) hK
    replace hC2 := hC2.below hK
    replace hC4 := hC4.below hK
    replace hC12 := hC12.below hK
    replace g0 := keepc hK g0; replace g1 := keepc hK g1; replace x0 := keepc hK x0; replace x1 := keepc hK x1; replace y0 := keepc hK y0; replace y1 := keepc hK y1
    clear hT hT' hL1 hA' hF hF' hL2 hB' hK hK' hCT hOT hCF hOF CS CF
    obtain ⟨xc', yc', P1, P2, L1, L2, N1, N2⟩ := kinds_ok wd cs hok
    rw [hx] at P1
    rw [hy] at P2
    simp only [Prod.mk.injEq] at P1 P2
    obtain ⟨Q1, rfl⟩ := P1
    obtain ⟨Q2, rfl⟩ := P2
    have M1 : Hid (∀ k, cntK k xc = cntK k cs) := N1
    have M2 : Hid (∀ k, cntK k yc = cntK k cs) := N2
    have M3 : Hid (xw = (cs.length : Int) / wd ∧ yw = wd) := ⟨Q1, Q2⟩
    have M4 : Hid (okG wd cs = true) := hok
    clear N1 N2 L1 L2 hx hy Q1 Q2 hok heq heq2 hO2 hO4 hC1 hb12 hB2 hB4 hbA hB5
    go_wp2
    go_loopw [6] (fun i wr => ∃ k : Nat, k ≤ 8 ∧ i = .int .i64 k ∧ Below w6.heap.size w6 wr) (fun i _ => 8 - (intOf i).toNat)
    case atStart => exact ⟨0, Nat.zero_le _, rfl, Below.refl _ _⟩
    case round =>
      obtain ⟨k, hk, rfl, hb⟩ := hrel
      replace g0 := keepc hb g0; replace g1 := keepc hb g1; replace x0 := keepc hb x0; replace x1 := keepc hb x1; replace y0 := keepc hb y0; replace y1 := keepc hb y1
      replace hC2 := hC2.below hb
      replace hC4 := hC4.below hb
      replace hC12 := hC12.below hb
      have hz := hb.size
      by_cases hlt : k < 8
      · have e1 : ((cntK k xc : Int) != (cntK k cs : Int)) = false := by rw [M1.out]; simp
        have e2 : ((cntK k yc : Int) != (cntK k cs : Int)) = false := by rw [M2.out]; simp
        go_wp2
        go_region_held3 (fun w' => w'.cell? ⟨w1.heap.size, 0, none⟩ = some (.int .i64 wd) ∧ w'.cell? ⟨w1.heap.size, 1, none⟩ = some (.slice a1 cs.length c1) ∧ w'.cell? ⟨w2.heap.size, 0, none⟩ = some (.int .i64 xw) ∧ w'.cell? ⟨w2.heap.size, 1, none⟩ = some (.slice a2 xc.length c2) ∧ w'.cell? ⟨w4.heap.size, 0, none⟩ = some (.int .i64 yw) ∧ w'.cell? ⟨w4.heap.size, 1, none⟩ = some (.slice a4 yc.length c4))
          (first | exact ⟨keepc hZ g0, keepc hZ g1, keepc hZ x0, keepc hZ x1, keepc hZ y0, keepc hZ y1⟩ | exact ⟨keepc hY g0, keepc hY g1, keepc hY x0, keepc hY x1, keepc hY y0, keepc hY y1⟩ | exact ⟨keepc hG g0, keepc hG g1, keepc hG x0, keepc hG x1, keepc hG y0, keepc hG y1⟩ | exact ⟨keepc hX g0, keepc hX g1, keepc hX x0, keepc hX x1, keepc hX y0, keepc hX y1⟩ | go_keep)
          (first
            | (go_at_call_of 21 c2; refine (llKinds_any _ _ _ xc _ _ (by first | exact hC2 | exact hC2.below (Below.refl _ _).drew) hxl).mono ?_; rintro e wX ⟨rfl, hX'⟩; have hX : Below wr.heap.size wr wX := (by first | exact hX' | exact bdrew hX'))
            | (go_at_call_of 21 c4; refine (llKinds_any _ _ _ yc _ _ (hC4.below hG) hyl).mono ?_; rintro e wY ⟨rfl, hY'⟩; have hY : Below wr.heap.size wr wY := bcall hG hG.size hY')
            | (go_at_call_of 21 c1; refine (llKinds_any _ _ _ cs _ _ (hC12.below hY) (by omega)).mono ?_; rintro e wZ ⟨rfl, hZ'⟩; have hZ : Below wr.heap.size wr wZ := bcall hY hY.size hZ')
            | (go_at_call_of 21 c1; refine (llKinds_any _ _ _ cs _ _ (hC12.below hX) (by omega)).mono ?_; rintro e wG ⟨rfl, hG'⟩; have hG : Below wr.heap.size wr wG := bcall hX hX.size hG'))
        have hbn : Below w6.heap.size w6 wZ := bcall hb (by omega) hZ
        clear hX hX' hG hG' hY hY' hZ hZ'
        go_wp2
        go_roundw
        case rel => exact ⟨k + 1, by omega, by go_num, hbn⟩
        case measure => simp [intOf]; omega
      · obtain ⟨q1, q2⟩ := M3.out
        obtain ⟨W, H, rfl, i1, i2, i3, i4, i5, i6, i7⟩ := okG_nat wd cs M4.out
        subst q1
        subst q2
        have e3 : (((cs.length : Int) / (W : Int)) == ((cs.length : Int) / (W : Int))) = true := by simp
        have e4 : (((W : Int)) == ((W : Int))) = true := by simp
        have e5 : ((W : Int) == 0) = false := by simp; omega
        have e6 : (cs.length : Int).tdiv (W : Int) = (cs.length : Int) / (W : Int) := Int.tdiv_eq_ediv_of_nonneg (by omega)
        have e7 : IntKind.i64.wrap ((cs.length : Int) / (W : Int)) = (cs.length : Int) / (W : Int) := by rw [i7]; exact IntWalk.i64_in _ (by omega)
        have hBw : Below w.heap.size w wr := bcall hB6 (by omega) hb
        go_wp2
        go_quiet (fail)
        go_wp2
        go_ret
        exact ⟨rfl, ⟨hBw.os, hBw.tape, hBw.output, hBw.size, hBw.block⟩⟩
  · have hno : okG wd cs = false := by simpa using hok
    clear hok
    go_wp2
    rw [← hw5]
    clear hw5
    go_region_held3 (fun w' => w'.cell? ⟨w1.heap.size, 0, none⟩ = some (.int .i64 wd) ∧ w'.cell? ⟨w1.heap.size, 1, none⟩ = some (.slice a1 cs.length c1) ∧ w'.cell? ⟨w2.heap.size, 0, none⟩ = some (.int .i64 xw) ∧ w'.cell? ⟨w2.heap.size, 1, none⟩ = some (.slice a2 xc.length c2) ∧ w'.cell? ⟨w4.heap.size, 0, none⟩ = some (.int .i64 yw) ∧ w'.cell? ⟨w4.heap.size, 1, none⟩ = some (.slice a4 yc.length c4))
      (first | exact ⟨keepc hK g0, keepc hK g1, keepc hK x0, keepc hK x1, keepc hK y0, keepc hK y1⟩ | exact ⟨keepc hL2 g0, keepc hL2 g1, keepc hL2 x0, keepc hL2 x1, keepc hL2 y0, keepc hL2 y1⟩ | exact ⟨keepc hF g0, keepc hF g1, keepc hF x0, keepc hF x1, keepc hF y0, keepc hF y1⟩ | exact ⟨keepc hL1 g0, keepc hL1 g1, keepc hL1 x0, keepc hL1 x1, keepc hL1 y0, keepc hL1 y1⟩ | exact ⟨keepc hT g0, keepc hT g1, keepc hT x0, keepc hT x1, keepc hT y0, keepc hT y1⟩ | go_keep)
      (first
        | (go_at_call 16; refine (CS.out _ _ _ (by first | exact hC12 | exact hC12.below (Below.refl _ _).drew)).mono ?_; rintro e wT ⟨vT, rfl, hOT, hT'⟩; obtain ⟨aT, cT, rfl, hCT⟩ := hOT.slice; have hT : Below w5.heap.size w5 wT := (by first | exact hT' | exact bdrew hT'))
        | (go_at_call_of 12 cT; refine (llGrid_any _ _ _ _ _ _ xc xc _ (hC2.below hT) hCT hxl hxl).mono ?_; rintro e wA ⟨rfl, hA'⟩; have hL1 : Below w5.heap.size w5 wA := bcall hT hT.size hA')
        | (go_at_call 20; refine (CF.out _ _ _ (hC12.below hL1)).mono ?_; rintro e wF ⟨vF, rfl, hOF, hF'⟩; obtain ⟨aF, cF, rfl, hCF⟩ := hOF.slice; have hF : Below w5.heap.size w5 wF := bcall hL1 hL1.size hF')
        | (go_at_call_of 12 cF; refine (llGrid_any _ _ _ _ _ _ yc yc _ (hC4.below hF) hCF hyl hyl).mono ?_; rintro e wB ⟨rfl, hB'⟩; have hL2 : Below w5.heap.size w5 wB := bcall hF hF.size hB')
        | (go_at_call 17; refine (specGridOk_any _ _ _ cs _ (hC12.below hL2) (by omega)).mono ?_; rintro e w6 ⟨rfl, hK'⟩; have hK : Below w5.heap.size w5 w6 := bcall hL2 hL2.size hK'))
    have hz6 := hK.size
    have hB6 : Below w.heap.size w w6 := bcall hB5 (by omega) hK
    replace hC2 := hC2.below hK
    replace hC4 := hC4.below hK
    replace hC12 := hC12.below hK
    replace g0 := keepc hK g0; replace g1 := keepc hK g1; replace x0 := keepc hK x0; replace x1 := keepc hK x1; replace y0 := keepc hK y0; replace y1 := keepc hK y1
    clear hT hT' hL1 hA' hF hF' hL2 hB' hK hK' hCT hOT hCF hOF
    go_wp2
    go_region_held3 (fun w' => w'.cell? ⟨w1.heap.size, 0, none⟩ = some (.int .i64 wd) ∧ w'.cell? ⟨w1.heap.size, 1, none⟩ = some (.slice a1 cs.length c1) ∧ w'.cell? ⟨w2.heap.size, 0, none⟩ = some (.int .i64 xw) ∧ w'.cell? ⟨w2.heap.size, 1, none⟩ = some (.slice a2 xc.length c2) ∧ w'.cell? ⟨w4.heap.size, 0, none⟩ = some (.int .i64 yw) ∧ w'.cell? ⟨w4.heap.size, 1, none⟩ = some (.slice a4 yc.length c4))
      (first | exact ⟨keepc hL2 g0, keepc hL2 g1, keepc hL2 x0, keepc hL2 x1, keepc hL2 y0, keepc hL2 y1⟩ | exact ⟨keepc hF g0, keepc hF g1, keepc hF x0, keepc hF x1, keepc hF y0, keepc hF y1⟩ | exact ⟨keepc hL1 g0, keepc hL1 g1, keepc hL1 x0, keepc hL1 x1, keepc hL1 y0, keepc hL1 y1⟩ | exact ⟨keepc hT g0, keepc hT g1, keepc hT x0, keepc hT x1, keepc hT y0, keepc hT y1⟩ | go_keep)
      (first
        | (go_at_call 16; refine (CS.out _ _ _ (by first | exact hC12 | exact hC12.below (Below.refl _ _).drew)).mono ?_; rintro e wT ⟨vT, rfl, hOT, hT'⟩; obtain ⟨aT, cT, rfl, hCT⟩ := hOT.slice; have hT : Below w6.heap.size w6 wT := (by first | exact hT' | exact bdrew hT'))
        | (go_at_call_of 12 cT; refine (llGrid_any _ _ _ _ _ _ xc xc _ (hC2.below hT) hCT hxl hxl).mono ?_; rintro e wA ⟨rfl, hA'⟩; have hL1 : Below w6.heap.size w6 wA := bcall hT hT.size hA')
        | (go_at_call 20; refine (CF.out _ _ _ (hC12.below hL1)).mono ?_; rintro e wF ⟨vF, rfl, hOF, hF'⟩; obtain ⟨aF, cF, rfl, hCF⟩ := hOF.slice; have hF : Below w6.heap.size w6 wF := bcall hL1 hL1.size hF')
        | (go_at_call_of 12 cF; refine (llGrid_any _ _ _ _ _ _ yc yc _ (hC4.below hF) hCF hyl hyl).mono ?_; rintro e wB ⟨rfl, hB'⟩; have hL2 : Below w6.heap.size w6 wB := bcall hF hF.size hB'))
    go_wp2
    go_ret
    exact ⟨rfl, bcall hB6 (by omega) hL2⟩

theorem walk (a : Option Addr) (n cap : Nat) (f : Nat → Int) (w : World) (h : BytesAt w a n f) (hm : n ≤ cap ∧ cap ≤ 9223372036854775807) :
    Calls Try.prog 7 #[.slice a n cap] w fun e w' => e = .returned (.bool true) ∧ Below w.heap.size w w' := by
  by_cases hs : n ≤ 1048576
  · exact small a n cap f w h hm hs
  · exact big a n cap f w h hm (by omega)

set_option maxRecDepth 100000 in
theorem lifted (os : Os) (started : os.Started) (H : Type) (enc : TypeId × Value → H) :
    ReturnsInHanded {} Try.checked os 7 .any (Rows.fnTurnKindsSpec.pre6 enc Try.prog Try.f7 Rows.fnTurnKindsRow.domain false) (Rows.fnTurnKindsSpec.post enc Try.prog Try.f7 false true false false) := by
  refine returnsInHanded_of_change (C := Try.checked) own started (by kernel_rfl) Try.func7
    (ChangeSpec.witness6 (enc := enc) (C := Try.checked) false ⟨#[], #[.slice none 0 0], []⟩ 8 (by kernel_rfl) (by kernel_rfl) (by kernel_rfl) (by kernel_rfl)) ?_
  intro W base args ds gs before hval0 hW hcnd _
  have hval : ∀ (j : Nat) t v, Try.f7.params[j]? = some t → args[j]? = some v → Value.okWide Try.prog W .any base t v := hval0
  have hW' := hW
  obtain ⟨p, q, hA0, hV, rfl, hfz, hnd⟩ := hW
  have hA : DataW.TrodAll enc Try.prog W 0 (fun _ => true) true Try.f7.params.toList args.toList ds p := hA0
  rw [Try.params7] at hA hval
  obtain ⟨v0, vs0, d0, ds0, p0, q0, hargs, rfl, rfl, h0, r0⟩ := trodAll_cons hA
  obtain ⟨rfl, rfl, rfl⟩ := trodAll_nil r0
  obtain rfl : args = #[v0] := by cases args; simp_all
  obtain ⟨rfl, rfl⟩ := trodVars_none hV
  have k0 := h0
  have lt0 : ∀ x ∈ p0, x.block < W.heap.size := by obtain ⟨m, hm⟩ := k0; exact DataW.trod_lt m _ _ _ hm
  obtain ⟨a0, n0, cap0, f0, rfl, hC0, hm0⟩ := open_bytes (hval 0 22 v0 rfl rfl) h0
  clear hA0 hval0
  refine (walk a0 n0 cap0 f0 W hC0 hm0).mono fun e W' ⟨he, bel⟩ => ?_
  subst he
  exact ⟨_, rfl, _, _, _, [], _, [], hW', trodAll_mk1 (shut_bool Try.underlying4 _), (trodAll_cons_mk (Below.trod laidOut (by kernel_rfl) (of_decide_eq_true (by kernel_rfl)) k0 bel lt0) trodAll_mk0), rfl, bel.frame _, fun h => by cases h⟩

theorem over : Rows.fnTurnKindsRow.holds Try.pinned (OpenSpec.ofChange Rows.fnTurnKindsSpec) :=
  OpenClaim.holds_of_wide 7 Try.f7 rfl rfl rfl rfl rfl rfl rfl ⟨rfl, rfl, rfl, rfl, rfl⟩ rfl rfl rfl rfl rfl (by kernel_rfl) Try.func7 (by kernel_rfl)
    (of_decide_eq_true (by kernel_rfl)) (by unfold Func.isWrapper; first | (rw [if_pos (by decide +kernel)]; kernel_rfl) | (rw [if_neg (by decide +kernel)]; exact ⟨rfl, rfl⟩))
    (fun os started H enc _ => lifted os started H enc)

end Go.Proofs.Ytdgahcadjjokcaa.LwTurnKinds

namespace Go.Proofs.Ytdgahcadjjokcaa
/-- The statement. -/
theorem lwTurnKinds : Rows.FnTurnKindsSaid := LwTurnKinds.over
#print axioms lwTurnKinds
end Go.Proofs.Ytdgahcadjjokcaa
