/-
  'laws.FnFlipTwice' returns true for every code: in two mirrors a drawn grid is as it was; turned and in a mirror it is in a mirror and turned three times. No condition.
-/
import Derived.Test.YtdgahcadjjokcaaFb
import Derived.Test.YtdgahcadjjokcaaTg
import Derived.Test.YtdgahcadjjokcaaMb
namespace Go.Proofs.Ytdgahcadjjokcaa.LwFlipTwice
open Go.ChangeShapes Go.WideShapes Go.ChangeAt Go.RowKit
set_option linter.unusedVariables false
attribute [local go_sem ↓] Go.wp_at_zero Go.wp_at_succ

theorem flipG_len (wd : Int) (cs : List (Int × Int)) : (flipG wd cs).2.length ≤ 25 := by
  unfold flipG
  by_cases h : okG wd cs = true
  · rw [if_pos h]
    have := okG_lenD wd cs h
    simp [flipC]
    omega
  · rw [if_neg h]
    simp

theorem turn_call {wd tw : Int} {cs tc : List (Int × Int)} (h : turnG wd cs = (tw, tc)) (hm : cs.length ≤ 1048576) (a : Option Addr) (cap : Nat) (w : World) (hC : CellsAt w a cs) :
    Calls Try.prog 15 #[.agg #[.int .i64 wd, .slice a cs.length cap]] w fun e w' => ∃ v, e = .returned (.agg #[.int .i64 tw, v]) ∧ Own w' w.heap.size v tc ∧ Below w.heap.size w w' := by
  have := implGridTurn_any wd a cap cs w hC hm
  rw [h] at this
  exact this
theorem flip_call {wd tw : Int} {cs tc : List (Int × Int)} (h : flipG wd cs = (tw, tc)) (hm : cs.length ≤ 1048576) (a : Option Addr) (cap : Nat) (w : World) (hC : CellsAt w a cs) :
    Calls Try.prog 19 #[.agg #[.int .i64 wd, .slice a cs.length cap]] w fun e w' => ∃ v, e = .returned (.agg #[.int .i64 tw, v]) ∧ Own w' w.heap.size v tc ∧ Below w.heap.size w w' := by
  have := implGridFlip_any wd a cap cs w hC hm
  rw [h] at this
  exact this

/-- What is plain of an ok grid. -/
theorem plain (wd : Int) (cs : List (Int × Int)) (hok : okG wd cs = true) : ∃ (xc tc fc y1 y2 : List (Int × Int)) (hd : Int), flipG wd cs = (wd, xc) ∧ okG wd xc = true ∧ flipG wd xc = (wd, cs) ∧ turnG wd cs = (hd, tc) ∧ flipG hd tc = (hd, fc) ∧ turnG wd xc = (hd, y1) ∧ turnG hd y1 = (wd, y2) ∧ turnG wd y2 = (hd, fc) ∧
    xc.length ≤ 25 ∧ tc.length ≤ 25 ∧ fc.length ≤ 25 ∧ y1.length ≤ 25 ∧ y2.length ≤ 25 := by
  obtain ⟨W, H, rfl, h1, h2, h3, h4, h5, h6, h7⟩ := okG_nat wd cs hok
  have h25 := okG_lenD _ _ hok
  have f1 := flipG_ok W H cs hok ⟨h1, h2⟩ ⟨h3, h4⟩ h5
  have l1 : (perm (flipAt W) other cs).length = W * H := by rw [perm_len]; exact h5
  have f2 := flipG_ok W H _ f1.2 ⟨h1, h2⟩ ⟨h3, h4⟩ l1
  have t1 := turnG_ok W H cs hok ⟨h1, h2⟩ ⟨h3, h4⟩ h5
  have l2 : (perm (turnAt W H) other cs).length = H * W := by rw [perm_len, Nat.mul_comm]; exact h5
  have f3 := flipG_ok H W _ t1.2 ⟨h3, h4⟩ ⟨h1, h2⟩ l2
  have u1 := turnG_ok W H _ f1.2 ⟨h1, h2⟩ ⟨h3, h4⟩ l1
  have m1 : (perm (turnAt W H) other (perm (flipAt W) other cs)).length = H * W := by rw [perm_len, l1, Nat.mul_comm]
  have u2 := turnG_ok H W _ u1.2 ⟨h3, h4⟩ ⟨h1, h2⟩ m1
  have m2 : (perm (turnAt H W) other (perm (turnAt W H) other (perm (flipAt W) other cs))).length = W * H := by rw [perm_len, m1, Nat.mul_comm]
  have u3 := turnG_ok W H _ u2.2 ⟨h1, h2⟩ ⟨h3, h4⟩ m2
  rw [← flip_turn W H cs ⟨h1, h2⟩ ⟨h3, h4⟩ h5] at u3
  refine ⟨_, _, _, _, _, (H : Int), f1.1, f1.2, ?_, t1.1, f3.1, u1.1, u2.1, u3.1, ?_, ?_, ?_, ?_, ?_⟩
  · rw [f2.1, flip_flip W H cs ⟨h1, h2⟩ ⟨h3, h4⟩ h5]
  all_goals
    simp only [perm_len]
    omega

/-- Too long a code. -/
theorem big (a : Option Addr) (n cap : Nat) (f : Nat → Int) (w : World) (h : BytesAt w a n f) (hm : n ≤ cap ∧ cap ≤ 9223372036854775807) (hbig : 1048576 < n) :
    Calls Try.prog 6 #[.slice a n cap] w fun e w' => e = .returned (.bool true) ∧ Below w.heap.size w w' := by
  have hb : (1048576 : Int) < (n : Int) := by omega
  go_enter Try.func6, Try.ntmps6
  go_wp2
  go_ret
  exact ⟨rfl, Below.refl _ _⟩

set_option maxHeartbeats 2000000 in
theorem small (a : Option Addr) (n cap : Nat) (f : Nat → Int) (w : World) (h : BytesAt w a n f) (hm : n ≤ cap ∧ cap ≤ 9223372036854775807) (hsm : n ≤ 1048576) :
    Calls Try.prog 6 #[.slice a n cap] w fun e w' => e = .returned (.bool true) ∧ Below w.heap.size w w' := by
  have hb : (n : Int) ≤ 1048576 := by omega
  go_enter Try.func6, Try.ntmps6
  go_wp2_with fail
  refine (drawGridFlip_any a n cap f w h hsm hm.1 hm.2).mono ?_
  rintro e w1 ⟨wd, a1, c1, cs, rfl, hC1, hl1, hb1⟩
  have hz1 := hb1.size
  obtain ⟨xw, xc, hx⟩ : ∃ xw xc, flipG wd cs = (xw, xc) := ⟨_, _, rfl⟩
  have hbY : Below w1.heap.size w1 (w1.alloc (.cells #[.int .i64 wd, .slice a1 cs.length c1] 25)) := (by repeat (first | exact Below.refl _ _ | refine Below.alloc ?_ (by first | exact Nat.le_refl _ | (simp; done) | (simp; omega)) _ | refine Below.drew ?_ | refine Below.setCell ?_ (by first | exact Nat.le_refl _ | (simp; done) | (simp; omega)) _))
  have hC1' := hC1.below hbY
  go_wp2_with fail
  refine (implGridFlip_any wd a1 c1 cs _ hC1' (by omega)).mono ?_
  rw [hx]
  rintro e w2 ⟨v2, rfl, hO2, hb2⟩
  obtain ⟨a2, c2, rfl, hC2⟩ := hO2.slice
  have hz2 := hb2.size
  simp at hz2
  have g0 : w2.cell? ⟨w1.heap.size, 0, none⟩ = some (.int .i64 wd) := keepc hb2 (by simp [go_sem])
  have g1 : w2.cell? ⟨w1.heap.size, 1, none⟩ = some (.slice a1 cs.length c1) := keepc hb2 (by simp [go_sem])
  have hb12 : Below w1.heap.size w1 w2 := bcall hbY (by simp) hb2
  have hB2 : Below w.heap.size w w2 := bcall hb1 (by omega) hb12
  have hC12 := hC1.below hb12
  have hbZ : Below w2.heap.size w2 (w2.alloc (.cells #[.int .i64 xw, .slice a2 xc.length c2] 25)) := (by repeat (first | exact Below.refl _ _ | refine Below.alloc ?_ (by first | exact Nat.le_refl _ | (simp; done) | (simp; omega)) _ | refine Below.drew ?_ | refine Below.setCell ?_ (by first | exact Nat.le_refl _ | (simp; done) | (simp; omega)) _))
  obtain ⟨w3, hw3⟩ : ∃ w3, w3 = w2.alloc (.cells #[.int .i64 xw, .slice a2 xc.length c2] 25) := ⟨_, rfl⟩
  have x0 : w3.cell? ⟨w2.heap.size, 0, none⟩ = some (.int .i64 xw) := by rw [hw3]; simp [go_sem]
  have x1 : w3.cell? ⟨w2.heap.size, 1, none⟩ = some (.slice a2 xc.length c2) := by rw [hw3]; simp [go_sem]
  have hz3 : w3.heap.size = w2.heap.size + 1 := by rw [hw3]; simp
  rw [← hw3] at hbZ
  replace g0 := keepc hbZ g0; replace g1 := keepc hbZ g1
  replace hC2 := hC2.below hbZ
  replace hC12 := hC12.below hbZ
  have hB3 : Below w.heap.size w w3 := bcall hB2 (by omega) hbZ
  have hlen := flipG_len wd cs
  rw [hx] at hlen
  have hxl : xc.length ≤ 1048576 := by simp only at hlen; omega
  have CS : Hid (∀ (a : Option Addr) (cap : Nat) (w : World), CellsAt w a cs → Calls Try.prog 20 #[.agg #[.int .i64 wd, .slice a cs.length cap]] w fun e w' => ∃ v, e = .returned (.agg #[.int .i64 xw, v]) ∧ Own w' w.heap.size v xc ∧ Below w.heap.size w w') := by
    intro a cap w h
    have := specGridFlip_any wd a cap cs w h (by omega)
    rw [hx] at this
    exact this
  have heq : eqL xw xw xc xc = true := by simp [eqL]
  by_cases hok : okG wd cs = true
  · go_wp2
    rw [← hw3]
    clear hw3
    go_region_held3 (fun w' => w'.cell? ⟨w1.heap.size, 0, none⟩ = some (.int .i64 wd) ∧ w'.cell? ⟨w1.heap.size, 1, none⟩ = some (.slice a1 cs.length c1) ∧ w'.cell? ⟨w2.heap.size, 0, none⟩ = some (.int .i64 xw) ∧ w'.cell? ⟨w2.heap.size, 1, none⟩ = some (.slice a2 xc.length c2))
      (first
        | exact ⟨keepc hb6 (keepc hb5 (keepc hb4 g0)), keepc hb6 (keepc hb5 (keepc hb4 g1)), keepc hb6 (keepc hb5 (keepc hb4 x0)), keepc hb6 (keepc hb5 (keepc hb4 x1))⟩
        | exact ⟨keepc hb5 (keepc hb4 g0), keepc hb5 (keepc hb4 g1), keepc hb5 (keepc hb4 x0), keepc hb5 (keepc hb4 x1)⟩
        | exact ⟨keepc hb4 g0, keepc hb4 g1, keepc hb4 x0, keepc hb4 x1⟩
        | go_keep)
      (first
        | (go_at_call 20; refine (CS.out _ _ _ (by first | exact hC12 | exact hC12.below (Below.refl _ _).drew)).mono ?_; rintro e w4 ⟨v4, rfl, hO4, hb4'⟩; obtain ⟨a4, c4, rfl, hC4⟩ := hO4.slice; have hb4 : Below w3.heap.size w3 w4 := (by first | exact hb4' | exact bdrew hb4'))
        | (go_at_call 12; refine (llGrid_any _ _ _ _ _ _ xc xc _ (hC2.below hb4) hC4 hxl hxl).mono ?_; rintro e w5 ⟨rfl, hb5'⟩; have hb5 : Below w4.heap.size w4 w5 := (by first | exact hb5' | exact bdrew hb5'))
        | (go_at_call 17; refine (specGridOk_any _ _ _ cs _ ((hC12.below hb4).below hb5) (by omega)).mono ?_; rintro e w6 ⟨rfl, hb6'⟩; have hb6 : Below w5.heap.size w5 w6 := (by first | exact hb6' | exact bdrew hb6')))
    have hb36 : Below w3.heap.size w3 w6 := bcall (bcall hb4 hb4.size hb5) (Nat.le_trans hb4.size hb5.size) hb6
    have hz6 := hb36.size
    have hB6 : Below w.heap.size w w6 := bcall hB3 (by omega) hb36
    replace hC2 := hC2.below hb36
    replace hC12 := hC12.below hb36
    replace g0 := keepc hb36 g0; replace g1 := keepc hb36 g1; replace x0 := keepc hb36 x0; replace x1 := keepc hb36 x1
    clear hb4 hb5 hb6 hb36 hb4' hb5' hb6' hC4 hO4
    obtain ⟨xc', tc, fc, y1, y2, hd, P1, P2, P3, P4, P5, P6, P7, P8, L1, L2, L3, L4, L5⟩ := plain wd cs hok
    rw [hx] at P1
    simp only [Prod.mk.injEq] at P1
    obtain ⟨rfl, rfl⟩ := P1
    have Q3 : Hid (flipG xw xc = (xw, cs)) := P3
    have Q4 : Hid (turnG xw cs = (hd, tc)) := P4
    have Q5 : Hid (flipG hd tc = (hd, fc)) := P5
    have Q6 : Hid (turnG xw xc = (hd, y1)) := P6
    have Q7 : Hid (turnG hd y1 = (xw, y2)) := P7
    have Q8 : Hid (turnG xw y2 = (hd, fc)) := P8
    clear P3 P4 P5 P6 P7 P8 hx
    go_wp2_with fail
    refine (turn_call Q4.out (by omega) _ _ _ hC12).mono ?_
    rintro e w7 ⟨v7, rfl, hO7, hb7⟩
    obtain ⟨a7, c7, rfl, hC7⟩ := hO7.slice
    have hz7 := hb7.size
    have hB7 : Below w.heap.size w w7 := bcall hB6 (by omega) hb7
    replace hC2 := hC2.below hb7
    replace hC12 := hC12.below hb7
    replace g0 := keepc hb7 g0; replace g1 := keepc hb7 g1; replace x0 := keepc hb7 x0; replace x1 := keepc hb7 x1
    clear hb7 hO7
    go_wp2_with fail
    refine (flip_call Q5.out (by omega) _ _ _ hC7).mono ?_
    rintro e w8 ⟨v8, rfl, hO8, hb8⟩
    obtain ⟨a8, c8, rfl, hC8⟩ := hO8.slice
    have hz8 := hb8.size
    have hB8 : Below w.heap.size w w8 := bcall hB7 (by omega) hb8
    replace hC2 := hC2.below hb8
    replace hC12 := hC12.below hb8
    replace g0 := keepc hb8 g0; replace g1 := keepc hb8 g1; replace x0 := keepc hb8 x0; replace x1 := keepc hb8 x1
    clear hb8 hO8 hC7
    have hbA : Below w8.heap.size w8 (w8.alloc (.cells #[.int .i64 hd, .slice a8 fc.length c8] 25)) := (by repeat (first | exact Below.refl _ _ | refine Below.alloc ?_ (by first | exact Nat.le_refl _ | (simp; done) | (simp; omega)) _ | refine Below.drew ?_ | refine Below.setCell ?_ (by first | exact Nat.le_refl _ | (simp; done) | (simp; omega)) _))
    have s1 : w1.heap.size < w8.heap.size := by omega
    have s2 : w2.heap.size < w8.heap.size := by omega
    go_wp2_with fail
    refine (turn_call Q6.out (by omega) _ _ _ (hC2.below hbA)).mono ?_
    rintro e w9 ⟨v9, rfl, hO9, hb9⟩
    obtain ⟨a9, c9, rfl, hC9⟩ := hO9.slice
    have A0 : w9.cell? ⟨w8.heap.size, 0, none⟩ = some (.int .i64 hd) := keepc hb9 (by simp [go_sem])
    have A1 : w9.cell? ⟨w8.heap.size, 1, none⟩ = some (.slice a8 fc.length c8) := keepc hb9 (by simp [go_sem])
    have hb89 : Below w8.heap.size w8 w9 := bcall hbA (by simp) hb9
    have hz9 := hb9.size
    simp at hz9
    have hB9 : Below w.heap.size w w9 := bcall hB8 (by omega) hb89
    replace hC2 := hC2.below hb89
    replace hC12 := hC12.below hb89
    replace hC8 := hC8.below hb89
    replace g0 := keepc hb89 g0; replace g1 := keepc hb89 g1; replace x0 := keepc hb89 x0; replace x1 := keepc hb89 x1
    clear hb9 hb89 hbA hO9
    go_wp2_with fail
    refine (turn_call Q7.out (by omega) _ _ _ hC9).mono ?_
    rintro e w10 ⟨v10, rfl, hO10, hb10⟩
    obtain ⟨a10, c10, rfl, hC10⟩ := hO10.slice
    have hz10 := hb10.size
    have hB10 : Below w.heap.size w w10 := bcall hB9 (by omega) hb10
    replace hC2 := hC2.below hb10
    replace hC12 := hC12.below hb10
    replace hC8 := hC8.below hb10
    replace g0 := keepc hb10 g0; replace g1 := keepc hb10 g1; replace x0 := keepc hb10 x0; replace x1 := keepc hb10 x1; replace A0 := keepc hb10 A0; replace A1 := keepc hb10 A1
    clear hb10 hO10 hC9
    go_wp2_with fail
    refine (turn_call Q8.out (by omega) _ _ _ hC10).mono ?_
    rintro e w11 ⟨v11, rfl, hO11, hb11⟩
    obtain ⟨a11, c11, rfl, hC11⟩ := hO11.slice
    have hz11 := hb11.size
    have hB11 : Below w.heap.size w w11 := bcall hB10 (by omega) hb11
    replace hC2 := hC2.below hb11
    replace hC12 := hC12.below hb11
    replace hC8 := hC8.below hb11
    replace g0 := keepc hb11 g0; replace g1 := keepc hb11 g1; replace x0 := keepc hb11 x0; replace x1 := keepc hb11 x1; replace A0 := keepc hb11 A0; replace A1 := keepc hb11 A1
    clear hb11 hO11 hC10
    have hbB : Below w11.heap.size w11 (w11.alloc (.cells #[.int .i64 hd, .slice a11 fc.length c11] 25)) := (by repeat (first | exact Below.refl _ _ | refine Below.alloc ?_ (by first | exact Nat.le_refl _ | (simp; done) | (simp; omega)) _ | refine Below.drew ?_ | refine Below.setCell ?_ (by first | exact Nat.le_refl _ | (simp; done) | (simp; omega)) _))
    obtain ⟨w12, hw12⟩ : ∃ w12, w12 = w11.alloc (.cells #[.int .i64 hd, .slice a11 fc.length c11] 25) := ⟨_, rfl⟩
    have B0 : w12.cell? ⟨w11.heap.size, 0, none⟩ = some (.int .i64 hd) := by rw [hw12]; simp [go_sem]
    have B1 : w12.cell? ⟨w11.heap.size, 1, none⟩ = some (.slice a11 fc.length c11) := by rw [hw12]; simp [go_sem]
    have hz12 : w12.heap.size = w11.heap.size + 1 := by rw [hw12]; simp
    rw [← hw12] at hbB
    replace hC2 := hC2.below hbB
    replace hC12 := hC12.below hbB
    replace hC8 := hC8.below hbB
    replace hC11 := hC11.below hbB
    replace g0 := keepc hbB g0; replace g1 := keepc hbB g1; replace x0 := keepc hbB x0; replace x1 := keepc hbB x1; replace A0 := keepc hbB A0; replace A1 := keepc hbB A1
    have hB12 : Below w.heap.size w w12 := bcall hB11 (by omega) hbB
    have he1 : eqL xw xw cs cs = true := by simp [eqL]
    have he2 : eqL hd hd fc fc = true := by simp [eqL]
    go_wp2
    rw [← hw12]
    clear hw12
    go_region_held3 (fun w' => w'.cell? ⟨w1.heap.size, 0, none⟩ = some (.int .i64 xw) ∧ w'.cell? ⟨w1.heap.size, 1, none⟩ = some (.slice a1 cs.length c1) ∧ w'.cell? ⟨w2.heap.size, 0, none⟩ = some (.int .i64 xw) ∧ w'.cell? ⟨w2.heap.size, 1, none⟩ = some (.slice a2 xc.length c2) ∧ w'.cell? ⟨w8.heap.size, 0, none⟩ = some (.int .i64 hd) ∧ w'.cell? ⟨w8.heap.size, 1, none⟩ = some (.slice a8 fc.length c8) ∧ w'.cell? ⟨w11.heap.size, 0, none⟩ = some (.int .i64 hd) ∧ w'.cell? ⟨w11.heap.size, 1, none⟩ = some (.slice a11 fc.length c11))
      (first
        | exact ⟨keepc hbD g0, keepc hbD g1, keepc hbD x0, keepc hbD x1, keepc hbD A0, keepc hbD A1, keepc hbD B0, keepc hbD B1⟩
        | exact ⟨keepc hbC g0, keepc hbC g1, keepc hbC x0, keepc hbC x1, keepc hbC A0, keepc hbC A1, keepc hbC B0, keepc hbC B1⟩
        | exact ⟨keepc hb14 g0, keepc hb14 g1, keepc hb14 x0, keepc hb14 x1, keepc hb14 A0, keepc hb14 A1, keepc hb14 B0, keepc hb14 B1⟩
        | exact ⟨keepc hb13 g0, keepc hb13 g1, keepc hb13 x0, keepc hb13 x1, keepc hb13 A0, keepc hb13 A1, keepc hb13 B0, keepc hb13 B1⟩
        | go_keep)
      (first
        | (go_at_call 19; refine (flip_call Q3.out (by omega) _ _ _ (by first | exact hC2 | exact hC2.below (Below.refl _ _).drew)).mono ?_; rintro e w13 ⟨v13, rfl, hO13, hb13'⟩; obtain ⟨a13, c13, rfl, hC13⟩ := hO13.slice; have hb13 : Below w12.heap.size w12 w13 := (by first | exact hb13' | exact bdrew hb13'))
        | (go_at_call_of 12 c13; refine (llGrid_any _ _ _ _ _ _ cs cs _ hC13 (hC12.below hb13) (by omega) (by omega)).mono ?_; rintro e w14 ⟨rfl, hb14'⟩; have hb14 : Below w12.heap.size w12 w14 := bcall hb13 hb13.size hb14')
        | (go_at_call_of 12 c8; refine (llGrid_any _ _ _ _ _ _ fc fc _ (hC8.below hb14) (hC11.below hb14) (by omega) (by omega)).mono ?_; rintro e w15 ⟨rfl, hb15'⟩; have hbC : Below w12.heap.size w12 w15 := bcall hb14 hb14.size hb15')
        | (go_at_call 13; refine (implGridOk_any _ _ _ xc _ (hC2.below hbC) (by omega)).mono ?_; rintro e w16 ⟨rfl, hb16'⟩; have hbD : Below w12.heap.size w12 w16 := bcall hbC hbC.size hb16'))
    go_wp2
    go_ret
    exact ⟨rfl, bcall hB12 (by omega) hbD⟩
  · have hno : okG wd cs = false := by simpa using hok
    clear hok
    go_wp2
    rw [← hw3]
    clear hw3
    go_region_held3 (fun w' => w'.cell? ⟨w1.heap.size, 0, none⟩ = some (.int .i64 wd) ∧ w'.cell? ⟨w1.heap.size, 1, none⟩ = some (.slice a1 cs.length c1) ∧ w'.cell? ⟨w2.heap.size, 0, none⟩ = some (.int .i64 xw) ∧ w'.cell? ⟨w2.heap.size, 1, none⟩ = some (.slice a2 xc.length c2))
      (first
        | exact ⟨keepc hb6 (keepc hb5 (keepc hb4 g0)), keepc hb6 (keepc hb5 (keepc hb4 g1)), keepc hb6 (keepc hb5 (keepc hb4 x0)), keepc hb6 (keepc hb5 (keepc hb4 x1))⟩
        | exact ⟨keepc hb5 (keepc hb4 g0), keepc hb5 (keepc hb4 g1), keepc hb5 (keepc hb4 x0), keepc hb5 (keepc hb4 x1)⟩
        | exact ⟨keepc hb4 g0, keepc hb4 g1, keepc hb4 x0, keepc hb4 x1⟩
        | go_keep)
      (first
        | (go_at_call 20; refine (CS.out _ _ _ (by first | exact hC12 | exact hC12.below (Below.refl _ _).drew)).mono ?_; rintro e w4 ⟨v4, rfl, hO4, hb4'⟩; obtain ⟨a4, c4, rfl, hC4⟩ := hO4.slice; have hb4 : Below w3.heap.size w3 w4 := (by first | exact hb4' | exact bdrew hb4'))
        | (go_at_call 12; refine (llGrid_any _ _ _ _ _ _ xc xc _ (hC2.below hb4) hC4 hxl hxl).mono ?_; rintro e w5 ⟨rfl, hb5'⟩; have hb5 : Below w4.heap.size w4 w5 := (by first | exact hb5' | exact bdrew hb5'))
        | (go_at_call 17; refine (specGridOk_any _ _ _ cs _ ((hC12.below hb4).below hb5) (by omega)).mono ?_; rintro e w6 ⟨rfl, hb6'⟩; have hb6 : Below w5.heap.size w5 w6 := (by first | exact hb6' | exact bdrew hb6')))
    have hb36 : Below w3.heap.size w3 w6 := bcall (bcall hb4 hb4.size hb5) (Nat.le_trans hb4.size hb5.size) hb6
    have hz6 := hb36.size
    have hB6 : Below w.heap.size w w6 := bcall hB3 (by omega) hb36
    replace hC2 := hC2.below hb36
    replace hC12 := hC12.below hb36
    replace g0 := keepc hb36 g0; replace g1 := keepc hb36 g1; replace x0 := keepc hb36 x0; replace x1 := keepc hb36 x1
    clear hb4 hb5 hb6 hb36 hb4' hb5' hb6' hC4 hO4
    go_wp2
    go_region_held3 (fun w' => w'.cell? ⟨w1.heap.size, 0, none⟩ = some (.int .i64 wd) ∧ w'.cell? ⟨w1.heap.size, 1, none⟩ = some (.slice a1 cs.length c1) ∧ w'.cell? ⟨w2.heap.size, 0, none⟩ = some (.int .i64 xw) ∧ w'.cell? ⟨w2.heap.size, 1, none⟩ = some (.slice a2 xc.length c2))
      (first
        | exact ⟨keepc hb8 (keepc hb7 g0), keepc hb8 (keepc hb7 g1), keepc hb8 (keepc hb7 x0), keepc hb8 (keepc hb7 x1)⟩
        | exact ⟨keepc hb7 g0, keepc hb7 g1, keepc hb7 x0, keepc hb7 x1⟩
        | go_keep)
      (first
        | (go_at_call 20; refine (CS.out _ _ _ (by first | exact hC12 | exact hC12.below (Below.refl _ _).drew)).mono ?_; rintro e w7 ⟨v7, rfl, hO7, hb7'⟩; obtain ⟨a7, c7, rfl, hC7⟩ := hO7.slice; have hb7 : Below w6.heap.size w6 w7 := (by first | exact hb7' | exact bdrew hb7'))
        | (go_at_call 12; refine (llGrid_any _ _ _ _ _ _ xc xc _ (hC2.below hb7) hC7 hxl hxl).mono ?_; rintro e w8 ⟨rfl, hb8'⟩; have hb8 : Below w7.heap.size w7 w8 := (by first | exact hb8' | exact bdrew hb8')))
    go_wp2
    go_ret
    exact ⟨rfl, bcall (bcall hB6 (by omega) hb7) (by have := hb7.size; omega) hb8⟩

theorem walk (a : Option Addr) (n cap : Nat) (f : Nat → Int) (w : World) (h : BytesAt w a n f) (hm : n ≤ cap ∧ cap ≤ 9223372036854775807) :
    Calls Try.prog 6 #[.slice a n cap] w fun e w' => e = .returned (.bool true) ∧ Below w.heap.size w w' := by
  by_cases hs : n ≤ 1048576
  · exact small a n cap f w h hm hs
  · exact big a n cap f w h hm (by omega)

set_option maxRecDepth 100000 in
theorem lifted (os : Os) (started : os.Started) (H : Type) (enc : TypeId × Value → H) :
    ReturnsInHanded {} Try.checked os 6 .any (Rows.fnFlipTwiceSpec.pre6 enc Try.prog Try.f6 Rows.fnFlipTwiceRow.domain false) (Rows.fnFlipTwiceSpec.post enc Try.prog Try.f6 false true false false) := by
  refine returnsInHanded_of_change (C := Try.checked) own started (by kernel_rfl) Try.func6
    (ChangeSpec.witness6 (enc := enc) (C := Try.checked) false ⟨#[], #[.slice none 0 0], []⟩ 8 (by kernel_rfl) (by kernel_rfl) (by kernel_rfl) (by kernel_rfl)) ?_
  intro W base args ds gs before hval0 hW hcnd _
  have hval : ∀ (j : Nat) t v, Try.f6.params[j]? = some t → args[j]? = some v → Value.okWide Try.prog W .any base t v := hval0
  have hW' := hW
  obtain ⟨p, q, hA0, hV, rfl, hfz, hnd⟩ := hW
  have hA : DataW.TrodAll enc Try.prog W 0 (fun _ => true) true Try.f6.params.toList args.toList ds p := hA0
  rw [Try.params6] at hA hval
  obtain ⟨v0, vs0, d0, ds0, p0, q0, hargs, rfl, rfl, h0, r0⟩ := trodAll_cons hA
  obtain ⟨rfl, rfl, rfl⟩ := trodAll_nil r0
  obtain rfl : args = #[v0] := by cases args; simp_all
  obtain ⟨rfl, rfl⟩ := trodVars_none hV
  have k0 := h0
  have lt0 : ∀ x ∈ p0, x.block < W.heap.size := by obtain ⟨m, hm⟩ := k0; exact DataW.trod_lt m _ _ _ hm
  obtain ⟨a0, n0, cap0, f0, rfl, hC0, hm0⟩ := open_bytes (hval 0 22 v0 rfl rfl) h0
  clear hA0 hval0
  refine (walk a0 n0 cap0 f0 W hC0 hm0).mono fun e W' ⟨he, bel⟩ => ?_
  subst he
  exact ⟨_, rfl, _, _, _, [], _, [], hW', trodAll_mk1 (shut_bool Try.underlying4 _), (trodAll_cons_mk (Below.trod laidOut (by kernel_rfl) (of_decide_eq_true (by kernel_rfl)) k0 bel lt0) trodAll_mk0), rfl, bel.frame _, fun h => by cases h⟩

theorem over : Rows.fnFlipTwiceRow.holds Try.pinned (OpenSpec.ofChange Rows.fnFlipTwiceSpec) :=
  OpenClaim.holds_of_wide 6 Try.f6 rfl rfl rfl rfl rfl rfl rfl ⟨rfl, rfl, rfl, rfl, rfl⟩ rfl rfl rfl rfl rfl (by kernel_rfl) Try.func6 (by kernel_rfl)
    (of_decide_eq_true (by kernel_rfl)) (by unfold Func.isWrapper; first | (rw [if_pos (by decide +kernel)]; kernel_rfl) | (rw [if_neg (by decide +kernel)]; exact ⟨rfl, rfl⟩))
    (fun os started H enc _ => lifted os started H enc)

end Go.Proofs.Ytdgahcadjjokcaa.LwFlipTwice

namespace Go.Proofs.Ytdgahcadjjokcaa
/-- The statement. -/
theorem lwFlipTwice : Rows.FnFlipTwiceSaid := LwFlipTwice.over
#print axioms lwFlipTwice
end Go.Proofs.Ytdgahcadjjokcaa
