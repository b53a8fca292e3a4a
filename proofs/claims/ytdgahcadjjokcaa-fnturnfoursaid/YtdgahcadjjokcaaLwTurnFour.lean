/-
  'laws.FnTurnFour' returns true for every code: turned four times a drawn grid is as it was; turned twice it stands on its head. No condition.
-/
import Derived.Test.YtdgahcadjjokcaaFb
import Derived.Test.YtdgahcadjjokcaaTg
import Derived.Test.YtdgahcadjjokcaaMb
namespace Go.Proofs.Ytdgahcadjjokcaa.LwTurnFour
open Go.ChangeShapes Go.WideShapes Go.ChangeAt Go.RowKit
set_option linter.unusedVariables false
attribute [local go_sem ↓] Go.wp_at_zero Go.wp_at_succ

theorem turnG_len4 (wd : Int) (cs : List (Int × Int)) : (turnG wd cs).2.length ≤ 25 := by
  unfold turnG
  by_cases h : okG wd cs = true
  · rw [if_pos h]
    have := okG_lenD wd cs h
    simp [turnC]
    omega
  · rw [if_neg h]
    simp

theorem turn_call {wd tw : Int} {cs tc : List (Int × Int)} (h : turnG wd cs = (tw, tc)) (hm : cs.length ≤ 1048576) (a : Option Addr) (cap : Nat) (w : World) (hC : CellsAt w a cs) :
    Calls Try.prog 15 #[.agg #[.int .i64 wd, .slice a cs.length cap]] w fun e w' => ∃ v, e = .returned (.agg #[.int .i64 tw, v]) ∧ Own w' w.heap.size v tc ∧ Below w.heap.size w w' := by
  have := implGridTurn_any wd a cap cs w hC hm
  rw [h] at this
  exact this
/-- What is plain of an ok grid. -/
theorem plain (wd : Int) (cs : List (Int × Int)) (hok : okG wd cs = true) : ∃ (xc tc y1 : List (Int × Int)) (hd : Int), turnG wd cs = (hd, xc) ∧ okG hd xc = true ∧ turnG hd xc = (wd, tc) ∧ turnG wd tc = (hd, y1) ∧ turnG hd y1 = (wd, cs) ∧
    xc.length ≤ 25 ∧ tc.length = cs.length ∧ y1.length ≤ 25 ∧ (∀ i, i < cs.length → tc.getD (cs.length - 1 - i) (0, 0) = cs.getD i (0, 0)) := by
  obtain ⟨W, H, rfl, h1, h2, h3, h4, h5, h6, h7⟩ := okG_nat wd cs hok
  have h25 := okG_lenD _ _ hok
  have t1 := turnG_ok W H cs hok ⟨h1, h2⟩ ⟨h3, h4⟩ h5
  have l1 : (perm (turnAt W H) other cs).length = H * W := by rw [perm_len, h5, Nat.mul_comm]
  have t2 := turnG_ok H W _ t1.2 ⟨h3, h4⟩ ⟨h1, h2⟩ l1
  have l2 : (perm (turnAt H W) other (perm (turnAt W H) other cs)).length = W * H := by rw [perm_len, l1, Nat.mul_comm]
  have t3 := turnG_ok W H _ t2.2 ⟨h1, h2⟩ ⟨h3, h4⟩ l2
  have l3 : (perm (turnAt W H) other (perm (turnAt H W) other (perm (turnAt W H) other cs))).length = H * W := by rw [perm_len, l2, Nat.mul_comm]
  have t4 := turnG_ok H W _ t3.2 ⟨h3, h4⟩ ⟨h1, h2⟩ l3
  have two : ∀ ds : List (Int × Int), ds.length = W * H → perm (turnAt H W) other (perm (turnAt W H) other ds) = perm (fun j => W * H - 1 - j) (fun c => c) ds := by
    intro ds hd
    rw [perm_perm _ _ _ _ _ (fun j hj => by
      rw [hd] at hj ⊢
      have := (ix_all H W j ⟨h3, h4⟩ ⟨h1, h2⟩ (by rw [Nat.mul_comm]; exact hj)).2.2.2.2.1
      rw [Nat.mul_comm]; exact this)]
    exact perm_congr _ _ _ _ ds (fun j hj => (ix_all W H j ⟨h1, h2⟩ ⟨h3, h4⟩ (by rw [← hd]; exact hj)).2.2.2.2.2.2.1) other_other
  refine ⟨_, _, _, (H : Int), t1.1, t1.2, t2.1, t3.1, ?_, ?_, ?_, ?_, ?_⟩
  · rw [t4.1, two _ l2, two cs h5, perm_perm _ _ _ _ _ (fun j hj => by rw [h5] at hj ⊢; omega)]
    rw [perm_congr _ (fun j => j) _ (fun c => c) cs (fun j hj => by rw [h5] at hj; omega) (fun _ => rfl), perm_id]
  · rw [perm_len]; omega
  · rw [perm_len, perm_len]
  · rw [perm_len, perm_len, perm_len]; omega
  · intro i hi
    rw [two cs h5]
    have hlt : cs.length - 1 - i < cs.length := by omega
    simp only [perm]
    rw [List.getD_eq_getElem?_getD, List.getElem?_map, List.getElem?_range hlt]
    simp only [Option.map_some, Option.getD_some]
    rw [show W * H - 1 - (cs.length - 1 - i) = i by omega]

/-- Too long a code. -/
theorem big (a : Option Addr) (n cap : Nat) (f : Nat → Int) (w : World) (h : BytesAt w a n f) (hm : n ≤ cap ∧ cap ≤ 9223372036854775807) (hbig : 1048576 < n) :
    Calls Try.prog 5 #[.slice a n cap] w fun e w' => e = .returned (.bool true) ∧ Below w.heap.size w w' := by
  have hb : (1048576 : Int) < (n : Int) := by omega
  go_enter Try.func5, Try.ntmps5
  go_wp2
  go_ret
  exact ⟨rfl, Below.refl _ _⟩

set_option maxHeartbeats 2000000 in
theorem small (a : Option Addr) (n cap : Nat) (f : Nat → Int) (w : World) (h : BytesAt w a n f) (hm : n ≤ cap ∧ cap ≤ 9223372036854775807) (hsm : n ≤ 1048576) :
    Calls Try.prog 5 #[.slice a n cap] w fun e w' => e = .returned (.bool true) ∧ Below w.heap.size w w' := by
  have hb : (n : Int) ≤ 1048576 := by omega
  go_enter Try.func5, Try.ntmps5
  go_wp2_with fail
  refine (drawGridTurn_any a n cap f w h hsm hm.1 hm.2).mono ?_
  rintro e w1 ⟨wd, a1, c1, cs, rfl, hC1, hl1, hb1⟩
  have hz1 := hb1.size
  obtain ⟨xw, xc, hx⟩ : ∃ xw xc, turnG wd cs = (xw, xc) := ⟨_, _, rfl⟩
  have hbY : Below w1.heap.size w1 (w1.alloc (.cells #[.int .i64 wd, .slice a1 cs.length c1] 25)) := (by repeat (first | exact Below.refl _ _ | refine Below.alloc ?_ (by first | exact Nat.le_refl _ | (simp; done) | (simp; omega)) _ | refine Below.drew ?_ | refine Below.setCell ?_ (by first | exact Nat.le_refl _ | (simp; done) | (simp; omega)) _))
  have hC1' := hC1.below hbY
  go_wp2_with fail
  refine (implGridTurn_any wd a1 c1 cs _ hC1' (by omega)).mono ?_
  rw [hx]
  rintro e w2 ⟨v2, rfl, hO2, hb2⟩
  obtain ⟨a2, c2, rfl, hC2⟩ := hO2.slice
  have hz2 := hb2.size
  simp at hz2
  have g0 : w2.cell? ⟨w1.heap.size, 0, none⟩ = some (.int .i64 wd) := keepc hb2 (by simp [go_sem])
  have g1 : w2.cell? ⟨w1.heap.size, 1, none⟩ = some (.slice a1 cs.length c1) := keepc hb2 (by simp [go_sem])
  have hb12 : Below w1.heap.size w1 w2 := bcall hbY (by simp) hb2
  have hB2 : Below w.heap.size w w2 := bcall hb1 (by omega) hb12
  have hC12 := hC1.below hb12
  have hbZ : Below w2.heap.size w2 (w2.alloc (.cells #[.int .i64 xw, .slice a2 xc.length c2] 25)) := (by repeat (first | exact Below.refl _ _ | refine Below.alloc ?_ (by first | exact Nat.le_refl _ | (simp; done) | (simp; omega)) _ | refine Below.drew ?_ | refine Below.setCell ?_ (by first | exact Nat.le_refl _ | (simp; done) | (simp; omega)) _))
  obtain ⟨w3, hw3⟩ : ∃ w3, w3 = w2.alloc (.cells #[.int .i64 xw, .slice a2 xc.length c2] 25) := ⟨_, rfl⟩
  have x0 : w3.cell? ⟨w2.heap.size, 0, none⟩ = some (.int .i64 xw) := by rw [hw3]; simp [go_sem]
  have x1 : w3.cell? ⟨w2.heap.size, 1, none⟩ = some (.slice a2 xc.length c2) := by rw [hw3]; simp [go_sem]
  have hz3 : w3.heap.size = w2.heap.size + 1 := by rw [hw3]; simp
  rw [← hw3] at hbZ
  replace g0 := keepc hbZ g0; replace g1 := keepc hbZ g1
  replace hC2 := hC2.below hbZ
  replace hC12 := hC12.below hbZ
  have hB3 : Below w.heap.size w w3 := bcall hB2 (by omega) hbZ
  have hlen := turnG_len4 wd cs
  rw [hx] at hlen
  have hxl : xc.length ≤ 1048576 := by simp only at hlen; omega
  have CS : Hid (∀ (a : Option Addr) (cap : Nat) (w : World), CellsAt w a cs → Calls Try.prog 16 #[.agg #[.int .i64 wd, .slice a cs.length cap]] w fun e w' => ∃ v, e = .returned (.agg #[.int .i64 xw, v]) ∧ Own w' w.heap.size v xc ∧ Below w.heap.size w w') := by
    intro a cap w h
    have := specGridTurn_any wd a cap cs w h (by omega)
    rw [hx] at this
    exact this
  have heq : eqL xw xw xc xc = true := by simp [eqL]
  by_cases hok : okG wd cs = true
  · go_wp2
    rw [← hw3]
    clear hw3
    go_region_held3 (fun w' => w'.cell? ⟨w1.heap.size, 0, none⟩ = some (.int .i64 wd) ∧ w'.cell? ⟨w1.heap.size, 1, none⟩ = some (.slice a1 cs.length c1) ∧ w'.cell? ⟨w2.heap.size, 0, none⟩ = some (.int .i64 xw) ∧ w'.cell? ⟨w2.heap.size, 1, none⟩ = some (.slice a2 xc.length c2))
      (first
        | exact ⟨keepc hb6 (keepc hb5 (keepc hb4 g0)), keepc hb6 (keepc hb5 (keepc hb4 g1)), keepc hb6 (keepc hb5 (keepc hb4 x0)), keepc hb6 (keepc hb5 (keepc hb4 x1))⟩
        | exact ⟨keepc hb5 (keepc hb4 g0), keepc hb5 (keepc hb4 g1), keepc hb5 (keepc hb4 x0), keepc hb5 (keepc hb4 x1)⟩
        | exact ⟨keepc hb4 g0, keepc hb4 g1, keepc hb4 x0, keepc hb4 x1⟩
        | go_keep)
      (first
        | (go_at_call 16; refine (CS.out _ _ _ (by first | exact hC12 | exact hC12.below (Below.refl _ _).drew)).mono ?_; rintro e w4 ⟨v4, rfl, hO4, hb4'⟩; obtain ⟨a4, c4, rfl, hC4⟩ := hO4.slice; have hb4 : Below w3.heap.size w3 w4 := (by first | exact hb4' | exact bdrew hb4'))
        | (go_at_call 12; refine (llGrid_any _ _ _ _ _ _ xc xc _ (hC2.below hb4) hC4 hxl hxl).mono ?_; rintro e w5 ⟨rfl, hb5'⟩; have hb5 : Below w4.heap.size w4 w5 := (by first | exact hb5' | exact bdrew hb5'))
        | (go_at_call 17; refine (specGridOk_any _ _ _ cs _ ((hC12.below hb4).below hb5) (by omega)).mono ?_; rintro e w6 ⟨rfl, hb6'⟩; have hb6 : Below w5.heap.size w5 w6 := (by first | exact hb6' | exact bdrew hb6')))
    have hb36 : Below w3.heap.size w3 w6 := bcall (bcall hb4 hb4.size hb5) (Nat.le_trans hb4.size hb5.size) hb6
    have hz6 := hb36.size
    have hB6 : Below w.heap.size w w6 := bcall hB3 (by omega) hb36
    replace hC2 := hC2.below hb36
    replace hC12 := hC12.below hb36
    replace g0 := keepc hb36 g0; replace g1 := keepc hb36 g1; replace x0 := keepc hb36 x0; replace x1 := keepc hb36 x1
    clear hb4 hb5 hb6 hb36 hb4' hb5' hb6' hC4 hO4
    obtain ⟨xc', tc, y1, hd, P1, P2, P3, P4, P5, L1, L2, L3, LX⟩ := plain wd cs hok
    rw [hx] at P1
    simp only [Prod.mk.injEq] at P1
    obtain ⟨rfl, rfl⟩ := P1
    have Q3 : Hid (turnG xw xc = (wd, tc)) := P3
    have Q4 : Hid (turnG wd tc = (xw, y1)) := P4
    have Q5 : Hid (turnG xw y1 = (wd, cs)) := P5
    have Q6 : Hid (tc.length = cs.length) := L2
    have QX : Hid (∀ i, i < cs.length → tc.getD (cs.length - 1 - i) (0, 0) = cs.getD i (0, 0)) := LX
    have htc : tc.length ≤ 31 := by omega
    clear P3 P4 P5 hx L2 LX
    go_wp2_with fail
    refine (turn_call Q3.out (by omega) _ _ _ hC2).mono ?_
    rintro e w7 ⟨v7, rfl, hO7, hb7⟩
    obtain ⟨a7, c7, rfl, hC7⟩ := hO7.slice
    have hz7 := hb7.size
    have hB7 : Below w.heap.size w w7 := bcall hB6 (by omega) hb7
    replace hC2 := hC2.below hb7
    replace hC12 := hC12.below hb7
    replace g0 := keepc hb7 g0; replace g1 := keepc hb7 g1; replace x0 := keepc hb7 x0; replace x1 := keepc hb7 x1
    clear hb7 hO7
    have hbA : Below w7.heap.size w7 (w7.alloc (.cells #[.int .i64 wd, .slice a7 tc.length c7] 25)) := (by repeat (first | exact Below.refl _ _ | refine Below.alloc ?_ (by first | exact Nat.le_refl _ | (simp; done) | (simp; omega)) _ | refine Below.drew ?_ | refine Below.setCell ?_ (by first | exact Nat.le_refl _ | (simp; done) | (simp; omega)) _))
    have s1 : w1.heap.size < w7.heap.size := by omega
    have s2 : w2.heap.size < w7.heap.size := by omega
    go_wp2
    go_loopw [7] (fun i wr => ∃ k : Nat, k ≤ cs.length ∧ i = .int .i64 k ∧ Below w7.heap.size w7 wr ∧ wr.cell? ⟨w7.heap.size, 0, none⟩ = some (.int .i64 wd) ∧ wr.cell? ⟨w7.heap.size, 1, none⟩ = some (.slice a7 tc.length c7)) (fun i _ => cs.length - (intOf i).toNat)
    case atStart => exact ⟨0, Nat.zero_le _, rfl, hbA, by simp [go_sem], by simp [go_sem]⟩
    case round =>
      clear hbA
      obtain ⟨k, hk, rfl, hb, A0, A1⟩ := hrel
      replace g0 := keepc hb g0; replace g1 := keepc hb g1; replace x0 := keepc hb x0; replace x1 := keepc hb x1
      have hz := hb.size
      by_cases hlt : k < cs.length
      · have hq := QX.out k hlt
        have htl := Q6.out
        rcases hC7 with h0 | ⟨b7, o7, rfl, hbl7, hcell7⟩
        · rw [h0] at htl; simp at htl; omega
        rcases hC12 with h0 | ⟨b1, o1, rfl, hbl1, hcell1⟩
        · rw [h0] at hlt; simp at hlt
        obtain ⟨hy1, hy2⟩ := hcell7 (cs.length - 1 - k) (by omega)
        obtain ⟨hy3, hy4⟩ := hcell1 k hlt
        rw [hq] at hy1 hy2
        replace hy1 := keepc hb hy1; replace hy2 := keepc hb hy2; replace hy3 := keepc hb hy3; replace hy4 := keepc hb hy4
        obtain ⟨kx, lx, hkl⟩ : ∃ kx lx : Int, cs.getD k (0, 0) = (kx, lx) := ⟨_, _, rfl⟩
        rw [hkl] at hy1 hy2 hy3 hy4
        have hg := stG
        have hqq : ∀ w : World, Sem.run Try.prog (binOp .neq 27 (.agg #[.int .i64 kx, .int .i64 lx]) (.agg #[.int .i64 kx, .int .i64 lx])) w = .ok (.bool false) w := fun w => by rw [neqCell]; simp
        have i1 : (0 : Int) ≤ (cs.length : Int) - 1 - (k : Int) := by omega
        have i2 : (cs.length : Int) - 1 - (k : Int) < (tc.length : Int) := by omega
        have v1 : IntKind.i64.wrap ((cs.length : Int) - 1) = (cs.length : Int) - 1 := IntWalk.i64_in _ (by omega)
        have v2 : IntKind.i64.wrap ((cs.length : Int) - 1 - (k : Int)) = (cs.length : Int) - 1 - (k : Int) := IntWalk.i64_in _ (by omega)
        have v3 : ((cs.length : Int) - 1 - (k : Int)).toNat = cs.length - 1 - k := by omega
        have i3 : (k : Int) < (cs.length : Int) := by omega
        clear hcell7 hcell1 hkl hq htl
        go_wp2
        go_quiet (fail)
        go_wp2
        go_roundw
        case rel => exact ⟨k + 1, by omega, by go_num, ⟨hb.os, hb.tape, hb.output, hb.size, hb.block⟩, A0, A1⟩
        case measure => simp [intOf]; omega
      · have hwd : ((wd : Int) == wd) = true := by simp
        have hBw : Below w.heap.size w wr := bcall hB7 (by omega) hb
        replace hC2 := hC2.below hb
        replace hC12 := hC12.below hb
        replace hC7 := hC7.below hb
        have he1 : eqL wd wd cs cs = true := by simp [eqL]
        go_wp2
        go_region_held3 (fun w' => w'.cell? ⟨w1.heap.size, 0, none⟩ = some (.int .i64 wd) ∧ w'.cell? ⟨w1.heap.size, 1, none⟩ = some (.slice a1 cs.length c1) ∧ w'.cell? ⟨w2.heap.size, 0, none⟩ = some (.int .i64 xw) ∧ w'.cell? ⟨w2.heap.size, 1, none⟩ = some (.slice a2 xc.length c2) ∧ w'.cell? ⟨w7.heap.size, 0, none⟩ = some (.int .i64 wd) ∧ w'.cell? ⟨w7.heap.size, 1, none⟩ = some (.slice a7 tc.length c7))
          (first
            | exact ⟨keepc hbD g0, keepc hbD g1, keepc hbD x0, keepc hbD x1, keepc hbD A0, keepc hbD A1⟩
            | exact ⟨keepc hbC g0, keepc hbC g1, keepc hbC x0, keepc hbC x1, keepc hbC A0, keepc hbC A1⟩
            | exact ⟨keepc hb14 g0, keepc hb14 g1, keepc hb14 x0, keepc hb14 x1, keepc hb14 A0, keepc hb14 A1⟩
            | exact ⟨keepc hb13 g0, keepc hb13 g1, keepc hb13 x0, keepc hb13 x1, keepc hb13 A0, keepc hb13 A1⟩
            | go_keep)
          (first
            | (go_at_call_of 15 c7; refine (turn_call Q4.out (by omega) _ _ _ (by first | exact hC7 | exact hC7.below (Below.refl _ _).drew)).mono ?_; rintro e w13 ⟨v13, rfl, hO13, hb13'⟩; obtain ⟨a13, c13, rfl, hC13⟩ := hO13.slice; have hb13 : Below wr.heap.size wr w13 := (by first | exact hb13' | exact bdrew hb13'))
            | (go_at_call_of 15 c13; refine (turn_call Q5.out (by omega) _ _ _ hC13).mono ?_; rintro e w14 ⟨v14, rfl, hO14, hb14'⟩; obtain ⟨a14, c14, rfl, hC14⟩ := hO14.slice; have hb14 : Below wr.heap.size wr w14 := bcall hb13 hb13.size hb14')
            | (go_at_call 12; refine (llGrid_any _ _ _ _ _ _ cs cs _ hC14 (hC12.below hb14) (by omega) (by omega)).mono ?_; rintro e w15 ⟨rfl, hb15'⟩; have hbC : Below wr.heap.size wr w15 := bcall hb14 hb14.size hb15')
            | (go_at_call 13; refine (implGridOk_any _ _ _ xc _ (hC2.below hbC) (by omega)).mono ?_; rintro e w16 ⟨rfl, hb16'⟩; have hbD : Below wr.heap.size wr w16 := bcall hbC hbC.size hb16'))
        go_wp2
        go_ret
        exact ⟨rfl, bcall hBw (by omega) hbD⟩
  · have hno : okG wd cs = false := by simpa using hok
    clear hok
    go_wp2
    rw [← hw3]
    clear hw3
    go_region_held3 (fun w' => w'.cell? ⟨w1.heap.size, 0, none⟩ = some (.int .i64 wd) ∧ w'.cell? ⟨w1.heap.size, 1, none⟩ = some (.slice a1 cs.length c1) ∧ w'.cell? ⟨w2.heap.size, 0, none⟩ = some (.int .i64 xw) ∧ w'.cell? ⟨w2.heap.size, 1, none⟩ = some (.slice a2 xc.length c2))
      (first
        | exact ⟨keepc hb6 (keepc hb5 (keepc hb4 g0)), keepc hb6 (keepc hb5 (keepc hb4 g1)), keepc hb6 (keepc hb5 (keepc hb4 x0)), keepc hb6 (keepc hb5 (keepc hb4 x1))⟩
        | exact ⟨keepc hb5 (keepc hb4 g0), keepc hb5 (keepc hb4 g1), keepc hb5 (keepc hb4 x0), keepc hb5 (keepc hb4 x1)⟩
        | exact ⟨keepc hb4 g0, keepc hb4 g1, keepc hb4 x0, keepc hb4 x1⟩
        | go_keep)
      (first
        | (go_at_call 16; refine (CS.out _ _ _ (by first | exact hC12 | exact hC12.below (Below.refl _ _).drew)).mono ?_; rintro e w4 ⟨v4, rfl, hO4, hb4'⟩; obtain ⟨a4, c4, rfl, hC4⟩ := hO4.slice; have hb4 : Below w3.heap.size w3 w4 := (by first | exact hb4' | exact bdrew hb4'))
        | (go_at_call 12; refine (llGrid_any _ _ _ _ _ _ xc xc _ (hC2.below hb4) hC4 hxl hxl).mono ?_; rintro e w5 ⟨rfl, hb5'⟩; have hb5 : Below w4.heap.size w4 w5 := (by first | exact hb5' | exact bdrew hb5'))
        | (go_at_call 17; refine (specGridOk_any _ _ _ cs _ ((hC12.below hb4).below hb5) (by omega)).mono ?_; rintro e w6 ⟨rfl, hb6'⟩; have hb6 : Below w5.heap.size w5 w6 := (by first | exact hb6' | exact bdrew hb6')))
    have hb36 : Below w3.heap.size w3 w6 := bcall (bcall hb4 hb4.size hb5) (Nat.le_trans hb4.size hb5.size) hb6
    have hz6 := hb36.size
    have hB6 : Below w.heap.size w w6 := bcall hB3 (by omega) hb36
    replace hC2 := hC2.below hb36
    replace hC12 := hC12.below hb36
    replace g0 := keepc hb36 g0; replace g1 := keepc hb36 g1; replace x0 := keepc hb36 x0; replace x1 := keepc hb36 x1
    clear hb4 hb5 hb6 hb36 hb4' hb5' hb6' hC4 hO4
    go_wp2
    go_region_held3 (fun w' => w'.cell? ⟨w1.heap.size, 0, none⟩ = some (.int .i64 wd) ∧ w'.cell? ⟨w1.heap.size, 1, none⟩ = some (.slice a1 cs.length c1) ∧ w'.cell? ⟨w2.heap.size, 0, none⟩ = some (.int .i64 xw) ∧ w'.cell? ⟨w2.heap.size, 1, none⟩ = some (.slice a2 xc.length c2))
      (first
        | exact ⟨keepc hb8 (keepc hb7 g0), keepc hb8 (keepc hb7 g1), keepc hb8 (keepc hb7 x0), keepc hb8 (keepc hb7 x1)⟩
        | exact ⟨keepc hb7 g0, keepc hb7 g1, keepc hb7 x0, keepc hb7 x1⟩
        | go_keep)
      (first
        | (go_at_call 16; refine (CS.out _ _ _ (by first | exact hC12 | exact hC12.below (Below.refl _ _).drew)).mono ?_; rintro e w7 ⟨v7, rfl, hO7, hb7'⟩; obtain ⟨a7, c7, rfl, hC7⟩ := hO7.slice; have hb7 : Below w6.heap.size w6 w7 := (by first | exact hb7' | exact bdrew hb7'))
        | (go_at_call 12; refine (llGrid_any _ _ _ _ _ _ xc xc _ (hC2.below hb7) hC7 hxl hxl).mono ?_; rintro e w8 ⟨rfl, hb8'⟩; have hb8 : Below w7.heap.size w7 w8 := (by first | exact hb8' | exact bdrew hb8')))
    go_wp2
    go_ret
    exact ⟨rfl, bcall (bcall hB6 (by omega) hb7) (by have := hb7.size; omega) hb8⟩

theorem walk (a : Option Addr) (n cap : Nat) (f : Nat → Int) (w : World) (h : BytesAt w a n f) (hm : n ≤ cap ∧ cap ≤ 9223372036854775807) :
    Calls Try.prog 5 #[.slice a n cap] w fun e w' => e = .returned (.bool true) ∧ Below w.heap.size w w' := by
  by_cases hs : n ≤ 1048576
  · exact small a n cap f w h hm hs
  · exact big a n cap f w h hm (by omega)

set_option maxRecDepth 100000 in
theorem lifted (os : Os) (started : os.Started) (H : Type) (enc : TypeId × Value → H) :
    ReturnsInHanded {} Try.checked os 5 .any (Rows.fnTurnFourSpec.pre6 enc Try.prog Try.f5 Rows.fnTurnFourRow.domain false) (Rows.fnTurnFourSpec.post enc Try.prog Try.f5 false true false false) := by
  refine returnsInHanded_of_change (C := Try.checked) own started (by kernel_rfl) Try.func5
    (ChangeSpec.witness6 (enc := enc) (C := Try.checked) false ⟨#[], #[.slice none 0 0], []⟩ 8 (by kernel_rfl) (by kernel_rfl) (by kernel_rfl) (by kernel_rfl)) ?_
  intro W base args ds gs before hval0 hW hcnd _
  have hval : ∀ (j : Nat) t v, Try.f5.params[j]? = some t → args[j]? = some v → Value.okWide Try.prog W .any base t v := hval0
  have hW' := hW
  obtain ⟨p, q, hA0, hV, rfl, hfz, hnd⟩ := hW
  have hA : DataW.TrodAll enc Try.prog W 0 (fun _ => true) true Try.f5.params.toList args.toList ds p := hA0
  rw [Try.params5] at hA hval
  obtain ⟨v0, vs0, d0, ds0, p0, q0, hargs, rfl, rfl, h0, r0⟩ := trodAll_cons hA
  obtain ⟨rfl, rfl, rfl⟩ := trodAll_nil r0
  obtain rfl : args = #[v0] := by cases args; simp_all
  obtain ⟨rfl, rfl⟩ := trodVars_none hV
  have k0 := h0
  have lt0 : ∀ x ∈ p0, x.block < W.heap.size := by obtain ⟨m, hm⟩ := k0; exact DataW.trod_lt m _ _ _ hm
  obtain ⟨a0, n0, cap0, f0, rfl, hC0, hm0⟩ := open_bytes (hval 0 22 v0 rfl rfl) h0
  clear hA0 hval0
  refine (walk a0 n0 cap0 f0 W hC0 hm0).mono fun e W' ⟨he, bel⟩ => ?_
  subst he
  exact ⟨_, rfl, _, _, _, [], _, [], hW', trodAll_mk1 (shut_bool Try.underlying4 _), (trodAll_cons_mk (Below.trod laidOut (by kernel_rfl) (of_decide_eq_true (by kernel_rfl)) k0 bel lt0) trodAll_mk0), rfl, bel.frame _, fun h => by cases h⟩

theorem over : Rows.fnTurnFourRow.holds Try.pinned (OpenSpec.ofChange Rows.fnTurnFourSpec) :=
  OpenClaim.holds_of_wide 5 Try.f5 rfl rfl rfl rfl rfl rfl rfl ⟨rfl, rfl, rfl, rfl, rfl⟩ rfl rfl rfl rfl rfl (by kernel_rfl) Try.func5 (by kernel_rfl)
    (of_decide_eq_true (by kernel_rfl)) (by unfold Func.isWrapper; first | (rw [if_pos (by decide +kernel)]; kernel_rfl) | (rw [if_neg (by decide +kernel)]; exact ⟨rfl, rfl⟩))
    (fun os started H enc _ => lifted os started H enc)

end Go.Proofs.Ytdgahcadjjokcaa.LwTurnFour

namespace Go.Proofs.Ytdgahcadjjokcaa
/-- The statement. -/
theorem lwTurnFour : Rows.FnTurnFourSaid := LwTurnFour.over
#print axioms lwTurnFour
end Go.Proofs.Ytdgahcadjjokcaa
