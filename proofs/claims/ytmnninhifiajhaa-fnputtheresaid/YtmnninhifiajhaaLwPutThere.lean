/-
  'laws.FnPutThere' returns true for every code: what is put is there, nothing else changes, and put back all is as it was. No condition.
-/
import Derived.Test.YtmnninhifiajhaaFb
import Derived.Test.YtmnninhifiajhaaDq
import Derived.Test.YtmnninhifiajhaaDl
import Derived.Test.YtmnninhifiajhaaMp
namespace Go.Proofs.Ytmnninhifiajhaa.LwPutThere
open Go.ChangeShapes Go.WideShapes Go.ChangeAt Go.RowKit
set_option linter.unusedVariables false
attribute [local go_sem ↓] Go.wp_at_zero Go.wp_at_succ

/-- Too long a code. -/
theorem big (a : Option Addr) (n cap : Nat) (f : Nat → Int) (w : World) (h : BytesAt w a n f) (hm : n ≤ cap ∧ cap ≤ 9223372036854775807) (hbig : 1048576 < n) :
    Calls Try.prog 3 #[.slice a n cap] w fun e w' => e = .returned (.bool true) ∧ Below w.heap.size w w' := by
  have hb : (1048576 : Int) < (n : Int) := by omega
  go_enter Try.func3, Try.ntmps3
  go_wp2
  go_ret
  exact ⟨rfl, Below.refl _ _⟩

set_option maxHeartbeats 2000000 in
theorem small (a : Option Addr) (n cap : Nat) (f : Nat → Int) (w : World) (h : BytesAt w a n f) (hm : n ≤ cap ∧ cap ≤ 9223372036854775807) (hsm : n ≤ 1048576) :
    Calls Try.prog 3 #[.slice a n cap] w fun e w' => e = .returned (.bool true) ∧ Below w.heap.size w w' := by
  have hb : (n : Int) ≤ 1048576 := by omega
  go_enter Try.func3, Try.ntmps3
  go_wp2_with fail
  refine (drawGridPut_any a n cap f w h hsm hm.1 hm.2).mono ?_
  rintro e w1 ⟨wd, a1, c1, cs, at_, k, l, rfl, hC1, hl1, hat1, hat2, hb1⟩
  have hz1 := hb1.size
  obtain ⟨xw, xc, ok, hx⟩ : ∃ xw xc ok, putG wd cs at_ k l = (xw, xc, ok) := ⟨_, _, _, rfl⟩
  have hbY : Below w1.heap.size w1 ((w1.alloc (.cells #[.int .i64 wd, .slice a1 cs.length c1] 25)).alloc (.cells #[.int .i64 k, .int .i64 l] 27)) := (by repeat (first | exact Below.refl _ _ | refine Below.alloc ?_ (by first | exact Nat.le_refl _ | (simp; done) | (simp; omega)) _ | refine Below.drew ?_ | refine Below.setCell ?_ (by first | exact Nat.le_refl _ | (simp; done) | (simp; omega)) _))
  go_wp2_with fail
  refine (put_spec hx a1 c1 _ (hC1.below hbY) (by omega)).mono ?_
  rintro e w2 ⟨v2, rfl, hO2, hb2⟩
  obtain ⟨a2, c2, rfl, hC2⟩ := hO2.slice
  have hz2 := hb2.size
  simp at hz2
  have g0 : w2.cell? ⟨w1.heap.size, 0, none⟩ = some (.int .i64 wd) := keepc hb2 (by simp [go_sem])
  have g1 : w2.cell? ⟨w1.heap.size, 1, none⟩ = some (.slice a1 cs.length c1) := keepc hb2 (by simp [go_sem])
  have d0 : w2.cell? ⟨w1.heap.size + 1, 0, none⟩ = some (.int .i64 k) := keepc hb2 (by simp [go_sem])
  have d1 : w2.cell? ⟨w1.heap.size + 1, 1, none⟩ = some (.int .i64 l) := keepc hb2 (by simp [go_sem])
  have hb12 : Below w1.heap.size w1 w2 := bcall hbY (by simp; omega) hb2
  have hB2 : Below w.heap.size w w2 := bcall hb1 (by omega) hb12
  have hC12 := hC1.below hb12
  have hbZ : Below w2.heap.size w2 (w2.alloc (.cells #[.int .i64 xw, .slice a2 xc.length c2] 25)) := (by repeat (first | exact Below.refl _ _ | refine Below.alloc ?_ (by first | exact Nat.le_refl _ | (simp; done) | (simp; omega)) _ | refine Below.drew ?_ | refine Below.setCell ?_ (by first | exact Nat.le_refl _ | (simp; done) | (simp; omega)) _))
  clear hb2 hbY hO2
  have g0' := keepc hbZ g0
  have g1' := keepc hbZ g1
  have d0' := keepc hbZ d0
  have d1' := keepc hbZ d1
  go_wp2_with fail
  refine (put_impl hx a1 c1 _ (hC12.below hbZ) (by omega)).mono ?_
  rintro e w3 ⟨v3, rfl, hO3, hb3⟩
  obtain ⟨a3, c3, rfl, hC3⟩ := hO3.slice
  have hz3 := hb3.size
  simp at hz3
  replace g0 := keepc hb3 g0'
  replace g1 := keepc hb3 g1'
  replace d0 := keepc hb3 d0'
  replace d1 := keepc hb3 d1'
  have t0 : w3.cell? ⟨w2.heap.size, 0, none⟩ = some (.int .i64 xw) := keepc hb3 (by simp [go_sem])
  have t1 : w3.cell? ⟨w2.heap.size, 1, none⟩ = some (.slice a2 xc.length c2) := keepc hb3 (by simp [go_sem])
  replace hC2 := (hC2.below hbZ).below hb3
  replace hC12 := (hC12.below hbZ).below hb3
  have hB3 : Below w.heap.size w w3 := bcall (bcall hB2 (by omega) hbZ) (by simp; omega) hb3
  have hbA : Below w3.heap.size w3 (w3.alloc (.cells #[.int .i64 xw, .slice a3 xc.length c3] 25)) := (by repeat (first | exact Below.refl _ _ | refine Below.alloc ?_ (by first | exact Nat.le_refl _ | (simp; done) | (simp; omega)) _ | refine Below.drew ?_ | refine Below.setCell ?_ (by first | exact Nat.le_refl _ | (simp; done) | (simp; omega)) _))
  clear hb3 hbZ g0' g1' d0' d1' hO3 hb12 hB2 hC1
  have hz4 : (w3.alloc (.cells #[.int .i64 xw, .slice a3 xc.length c3] 25)).heap.size = w3.heap.size + 1 := by simp
  have x0 : (w3.alloc (.cells #[.int .i64 xw, .slice a3 xc.length c3] 25)).cell? ⟨w3.heap.size, 0, none⟩ = some (.int .i64 xw) := by simp [go_sem]
  have x1 : (w3.alloc (.cells #[.int .i64 xw, .slice a3 xc.length c3] 25)).cell? ⟨w3.heap.size, 1, none⟩ = some (.slice a3 xc.length c3) := by simp [go_sem]
  replace g0 := keepc hbA g0; replace g1 := keepc hbA g1; replace d0 := keepc hbA d0; replace d1 := keepc hbA d1; replace t0 := keepc hbA t0; replace t1 := keepc hbA t1
  replace hC2 := hC2.below hbA
  replace hC3 := hC3.below hbA
  replace hC12 := hC12.below hbA
  have hB4 := bcall hB3 (by omega) hbA
  have hxl25 := putG_len3 hx
  have hxl : xc.length ≤ 1048576 := by omega
  have heq : eqL xw xw xc xc = true := by simp [eqL]
  clear hbA hB3
  cases ok with
  | false =>
    go_wp2_with fail
    refine (llGrid_any _ _ _ _ _ _ xc xc _ hC3 hC2 hxl hxl).mono ?_
    rintro e w5 ⟨rfl, hb5⟩
    replace t0 := keepc hb5 t0; replace t1 := keepc hb5 t1; replace x0 := keepc hb5 x0; replace x1 := keepc hb5 x1
    replace hC2 := hC2.below hb5
    replace hC3 := hC3.below hb5
    have hB5 : Below w.heap.size w w5 := bcall hB4 (by simp; omega) hb5
    have hz5 := hb5.size
    rw [hz4] at hz5
    clear hb5 hB4 hC12 g0 g1 d0 d1
    go_wp2_with fail
    refine (llGrid_any _ _ _ _ _ _ xc xc _ hC3 hC2 hxl hxl).mono ?_
    rintro e w6 ⟨rfl, hb6⟩
    go_wp2
    go_ret
    exact ⟨rfl, bcall hB5 (by omega) hb6⟩
  | true =>
    go_wp2_with fail
    refine (llGrid_any _ _ _ _ _ _ xc xc _ hC3 hC2 hxl hxl).mono ?_
    rintro e w5 ⟨rfl, hb5⟩
    replace g0 := keepc hb5 g0; replace g1 := keepc hb5 g1; replace d0 := keepc hb5 d0; replace d1 := keepc hb5 d1; replace x0 := keepc hb5 x0; replace x1 := keepc hb5 x1
    replace hC3 := hC3.below hb5
    replace hC12 := hC12.below hb5
    have hB5 : Below w.heap.size w w5 := bcall hB4 (by simp; omega) hb5
    have hz5 := hb5.size
    rw [hz4] at hz5
    obtain ⟨i0, hi0, hi1, ok1, ok2, ok3, ok4, ok5⟩ := putG_yes hx
    have HB := put_back hx i0 hi0
    have HC : Hid (∀ j, j < cs.length → xc.length = cs.length ∧ xc.getD j (0, 0) = if (j : Int) = at_ then (k, l) else cs.getD j (0, 0)) := fun j hj => put_cell hx j hj
    have HP : Hid (putG xw xc at_ (cs.getD i0 (0, 0)).1 (cs.getD i0 (0, 0)).2 = (wd, cs, true)) := HB
    have HI : Hid (at_ = (i0 : Int) ∧ i0 < cs.length) := ⟨hi0, hi1⟩
    have HO : Hid (okG xw xc = true) := ok5
    clear HB hi0 hi1 ok1 ok2 ok3 ok4 ok5 hx hb5 hB4 hC2 t0 t1 hb
    go_wp2
    go_loopw [10] (fun i wr => ∃ j : Nat, j ≤ cs.length ∧ i = .int .i64 j ∧ Below w5.heap.size w5 wr) (fun i _ => cs.length - (intOf i).toNat)
    case atStart => exact ⟨0, Nat.zero_le _, rfl, Below.refl _ _⟩
    case round =>
      obtain ⟨j, hj, rfl, hbr⟩ := hrel
      replace g0 := keepc hbr g0; replace g1 := keepc hbr g1; replace d0 := keepc hbr d0; replace d1 := keepc hbr d1; replace x0 := keepc hbr x0; replace x1 := keepc hbr x1
      replace hC3 := hC3.below hbr
      replace hC12 := hC12.below hbr
      have hz := hbr.size
      by_cases hlt : j < cs.length
      · obtain ⟨hql, hq⟩ := HC.out j hlt
        rcases hC3 with h0 | ⟨b3, o3, rfl, hbl3, hcell3⟩
        · rw [h0] at hql; simp at hql; omega
        rcases hC12 with h0 | ⟨b1, o1, rfl, hbl1, hcell1⟩
        · rw [h0] at hlt; simp at hlt
        obtain ⟨hy1, hy2⟩ := hcell3 j (by omega)
        obtain ⟨hy3, hy4⟩ := hcell1 j hlt
        rw [hq] at hy1 hy2
        have hg := stG
        have i3 : (j : Int) < (cs.length : Int) := by omega
        have i4 : (j : Int) < (xc.length : Int) := by omega
        clear hcell3 hcell1 hq hql
        by_cases he : (j : Int) = at_
        · rw [if_pos he] at hy1 hy2
          have b1' : ((j : Int) == at_) = true := by simp [he]
          have b2' : ((j : Int) != at_) = false := by simp [he]
          have hqq : ∀ w : World, Sem.run Try.prog (binOp .neq 27 (.agg #[.int .i64 k, .int .i64 l]) (.agg #[.int .i64 k, .int .i64 l])) w = .ok (.bool false) w := fun w => by rw [neqCell]; simp
          clear he hy3 hy4
          go_wp2
          go_quiet (fail)
          go_wp2
          go_roundw
          case rel => exact ⟨j + 1, by omega, by go_num, ⟨hbr.os, hbr.tape, hbr.output, hbr.size, hbr.block⟩⟩
          case measure => simp [intOf]; omega
        · rw [if_neg he] at hy1 hy2
          have b1' : ((j : Int) == at_) = false := by simp [he]
          have b2' : ((j : Int) != at_) = true := by simp [he]
          obtain ⟨kx, lx, hkl⟩ : ∃ kx lx : Int, cs.getD j (0, 0) = (kx, lx) := ⟨_, _, rfl⟩
          rw [hkl] at hy1 hy2 hy3 hy4
          have hqq : ∀ w : World, Sem.run Try.prog (binOp .neq 27 (.agg #[.int .i64 kx, .int .i64 lx]) (.agg #[.int .i64 kx, .int .i64 lx])) w = .ok (.bool false) w := fun w => by rw [neqCell]; simp
          clear he hkl
          go_wp2
          go_quiet (fail)
          go_wp2
          go_roundw
          case rel => exact ⟨j + 1, by omega, by go_num, ⟨hbr.os, hbr.tape, hbr.output, hbr.size, hbr.block⟩⟩
          case measure => simp [intOf]; omega
      · obtain ⟨hi0, hi1⟩ := HI.out
        have hBw : Below w.heap.size w wr := bcall hB5 (by omega) hbr
        have hC1b := hC12
        rcases hC12 with h0 | ⟨b1, o1, rfl, hbl1, hcell1⟩
        · rw [h0] at hi1; simp at hi1
        obtain ⟨hy3, hy4⟩ := hcell1 i0 hi1
        have hP := HP.out
        obtain ⟨kx, lx, hkl⟩ : ∃ kx lx : Int, cs.getD i0 (0, 0) = (kx, lx) := ⟨_, _, rfl⟩
        rw [hkl] at hy3 hy4 hP
        have i1 : (0 : Int) ≤ at_ := by omega
        have i2 : at_ < (cs.length : Int) := by omega
        have i3 : at_.toNat = i0 := by omega
        have HP2 : Hid (putG xw xc at_ kx lx = (wd, cs, true)) := hP
        have s1 : w1.heap.size < wr.heap.size := by omega
        have s3 : w3.heap.size < wr.heap.size := by omega
        clear hcell1 hkl hP HP HC hi0
        have hbU : Below wr.heap.size wr (wr.alloc (.cells #[.int .i64 0, .slice none 0 0] 25)) := (by repeat (first | exact Below.refl _ _ | refine Below.alloc ?_ (by first | exact Nat.le_refl _ | (simp; done) | (simp; omega)) _ | refine Below.drew ?_ | refine Below.setCell ?_ (by first | exact Nat.le_refl _ | (simp; done) | (simp; omega)) _))
        have nv1 : w1.heap.size ≠ wr.heap.size := by omega
        have nv2 : w3.heap.size ≠ wr.heap.size := by omega
        have nv3 : b1 ≠ wr.heap.size := by omega
        go_wp2
        go_region_held3 (fun w' => w'.cell? ⟨w1.heap.size, 0, none⟩ = some (.int .i64 wd) ∧ w'.cell? ⟨w1.heap.size, 1, none⟩ = some (.slice (some ⟨b1, o1, none⟩) cs.length c1) ∧ w'.cell? ⟨w3.heap.size, 0, none⟩ = some (.int .i64 xw) ∧ w'.cell? ⟨w3.heap.size, 1, none⟩ = some (.slice a3 xc.length c3) ∧ w'.cell? ⟨b1, o1 + i0 * 2, none⟩ = some (.int .i64 kx) ∧ w'.cell? ⟨b1, o1 + i0 * 2 + 1, none⟩ = some (.int .i64 lx))
          (first
            | with_reducible exact ⟨keepc hb6 g0, keepc hb6 g1, keepc hb6 x0, keepc hb6 x1, keepc hb6 hy3, keepc hb6 hy4⟩
            | with_reducible exact ⟨keepc hbU g0, keepc hbU g1, keepc hbU x0, keepc hbU x1, keepc hbU hy3, keepc hbU hy4⟩
            | with_reducible exact ⟨setc nv1 (setc nv1 (keepc hb6 g0)), setc nv1 (setc nv1 (keepc hb6 g1)), setc nv2 (setc nv2 (keepc hb6 x0)), setc nv2 (setc nv2 (keepc hb6 x1)), setc nv3 (setc nv3 (keepc hb6 hy3)), setc nv3 (setc nv3 (keepc hb6 hy4))⟩
            | with_reducible exact ⟨keepc hb6U g0, keepc hb6U g1, keepc hb6U x0, keepc hb6U x1, keepc hb6U hy3, keepc hb6U hy4⟩
            | with_reducible exact ⟨keepc hb6V g0, keepc hb6V g1, keepc hb6V x0, keepc hb6V x1, keepc hb6V hy3, keepc hb6V hy4⟩
            | go_keep)
          (first
            | (go_at_call 14; refine (put_impl HP2.out _ _ _ (by first | with_reducible exact hC3 | with_reducible exact hC3.below (Below.refl _ _).drew) hxl).mono ?_; rintro e w6 ⟨v6, rfl, hO6, hb6'⟩; obtain ⟨a6, c6, rfl, hC6⟩ := hO6.slice; have hb6 : Below wr.heap.size wr w6 := (by first | with_reducible exact hb6' | with_reducible exact bdrew hb6'); have ways : True := trivial; have hb6U : Below wr.heap.size wr (w6.alloc (.cells #[.int .i64 0, .slice none 0 0] 25)) := bcall hb6 hb6.size ((Below.refl _ _).alloc (Nat.le_refl _) _); have hb6V : Below wr.heap.size wr (w6.alloc (.cells #[.int .i64 wd, .slice a6 cs.length c6] 25)) := bcall hb6 hb6.size ((Below.refl _ _).alloc (Nat.le_refl _) _))
            | (go_at_call 14; refine (put_impl HP2.out _ _ _ (by first | with_reducible exact hC3.below hbU | with_reducible exact hC3.below hbU.drew) hxl).mono ?_; rintro e w6 ⟨v6, rfl, hO6, hb6'⟩; obtain ⟨a6, c6, rfl, hC6⟩ := hO6.slice; have hb6 : Below wr.heap.size wr w6 := (by first | with_reducible exact bcall hbU hbU.size hb6' | with_reducible exact bcall hbU hbU.size (bdrew hb6')); have zz : wr.heap.size < w6.heap.size := (by have := hb6'.size; simp at this; omega); have z0 : w6.cell? ⟨wr.heap.size, 0, none⟩ = some (.int .i64 0) := keepc hb6' (by simp [go_sem]); have z1 : w6.cell? ⟨wr.heap.size, 1, none⟩ = some (.slice none 0 0) := keepc hb6' (by simp [go_sem]); have zf0 : w6.frozen? ⟨wr.heap.size, 0, none⟩ = false := keepf hb6' (v := .int .i64 0) (by simp [go_sem]) (by simp [go_sem]); have zf1 : w6.frozen? ⟨wr.heap.size, 1, none⟩ = false := keepf hb6' (v := .slice none 0 0) (by simp [go_sem]) (by simp [go_sem])))
        · have hCb0 : CellsAt (w6.alloc (.cells #[.int .i64 wd, .slice a6 cs.length c6] 25)) a6 cs := hC6.below ((Below.refl _ _).alloc (Nat.le_refl _) _)
          have B00 : (w6.alloc (.cells #[.int .i64 wd, .slice a6 cs.length c6] 25)).cell? ⟨w6.heap.size, 0, none⟩ = some (.int .i64 wd) := by simp [go_sem]
          have B10 : (w6.alloc (.cells #[.int .i64 wd, .slice a6 cs.length c6] 25)).cell? ⟨w6.heap.size, 1, none⟩ = some (.slice a6 cs.length c6) := by simp [go_sem]
          obtain ⟨wf, hwf⟩ : ∃ wf, wf = w6.alloc (.cells #[.int .i64 wd, .slice a6 cs.length c6] 25) := ⟨_, rfl⟩
          rw [← hwf] at hb6V hCb0 B00 B10 ⊢
          have hbf : Below wr.heap.size wr wf := hb6V
          have hCb : CellsAt wf a6 cs := hCb0
          have B0 := B00
          have B1 := B10
          have G0 := keepc hbf g0
          have G1 := keepc hbf g1
          have X0 := keepc hbf x0
          have X1 := keepc hbf x1
          have hCg := hC1b.below hbf
          have hCx := hC3.below hbf
          clear hwf hb6V hb6U hCb0 B00 B10 hb6 hb6' hC6 hO6 hC3 hC1b g0 g1 x0 x1 d0 d1 hy3 hy4 hbU HP2
          have hBf : Below w.heap.size w wf := bcall hBw (by omega) hbf
          have heq2 : eqL wd wd cs cs = true := by simp [eqL]
          have hoo := HO.out
          have hzf := hbf.size
          clear hbf hbr hB5 hBw
          go_wp2_with fail
          refine (llGrid_any _ _ _ _ _ _ cs cs _ hCb hCg (by omega) (by omega)).mono ?_
          rintro e w7 ⟨rfl, hb7⟩
          replace X0 := keepc hb7 X0; replace X1 := keepc hb7 X1
          have hz7 := hb7.size
          replace hCx := hCx.below hb7
          go_wp2_with fail
          refine (implGridOk_any _ _ _ xc _ hCx (by omega)).mono ?_
          rintro e w8 ⟨rfl, hb8⟩
          go_wp2
          go_ret
          exact ⟨rfl, bcall (bcall hBf (by omega) hb7) (by omega) hb8⟩
        · have hbf0 : Below wr.heap.size wr ((w6.setCell ⟨wr.heap.size, 0, none⟩ (.int .i64 wd)).setCell ⟨wr.heap.size, 1, none⟩ (.slice a6 cs.length c6)) := (hb6.setCell (p := ⟨wr.heap.size, 0, none⟩) (Nat.le_refl _) _).setCell (p := ⟨wr.heap.size, 1, none⟩) (Nat.le_refl _) _
          have hna : ∀ b off, a6 = some ⟨b, off, none⟩ → b ≠ wr.heap.size := by
            obtain ⟨g6, cap6, e6, hg6, _⟩ := own_form' hO6 (by omega)
            simp only [Value.slice.injEq] at e6
            intro b off e
            rw [e] at e6
            simp only [Option.some.injEq, Addr.mk.injEq, and_true] at e6
            simp at hg6
            omega
          have hCb0 : CellsAt ((w6.setCell ⟨wr.heap.size, 0, none⟩ (.int .i64 wd)).setCell ⟨wr.heap.size, 1, none⟩ (.slice a6 cs.length c6)) a6 cs := (hC6.set hna _).set hna _
          have B00 : ((w6.setCell ⟨wr.heap.size, 0, none⟩ (.int .i64 wd)).setCell ⟨wr.heap.size, 1, none⟩ (.slice a6 cs.length c6)).cell? ⟨wr.heap.size, 0, none⟩ = some (.int .i64 wd) := by
            rw [World.cell?_setCell_other _ _ _ _ (by simp)]; exact World.cell?_setCell_same _ _ _ z0
          have B10 : ((w6.setCell ⟨wr.heap.size, 0, none⟩ (.int .i64 wd)).setCell ⟨wr.heap.size, 1, none⟩ (.slice a6 cs.length c6)).cell? ⟨wr.heap.size, 1, none⟩ = some (.slice a6 cs.length c6) :=
            World.cell?_setCell_same _ _ _ (by rw [World.cell?_setCell_other _ _ _ _ (by simp)]; exact z1)
          obtain ⟨wf, hwf⟩ : ∃ wf, wf = (w6.setCell ⟨wr.heap.size, 0, none⟩ (.int .i64 wd)).setCell ⟨wr.heap.size, 1, none⟩ (.slice a6 cs.length c6) := ⟨_, rfl⟩
          rw [← hwf] at hbf0 hCb0 B00 B10 ⊢
          have hbf : Below wr.heap.size wr wf := hbf0
          have hCb : CellsAt wf a6 cs := hCb0
          have B0 := B00
          have B1 := B10
          have G0 := keepc hbf g0
          have G1 := keepc hbf g1
          have X0 := keepc hbf x0
          have X1 := keepc hbf x1
          have hCg := hC1b.below hbf
          have hCx := hC3.below hbf
          clear hwf hbf0 hCb0 B00 B10 hb6 hb6' hC6 hO6 hC3 hC1b g0 g1 x0 x1 d0 d1 hy3 hy4 hbU HP2 z0 z1 zf0 zf1
          have hBf : Below w.heap.size w wf := bcall hBw (by omega) hbf
          have heq2 : eqL wd wd cs cs = true := by simp [eqL]
          have hoo := HO.out
          have hzf := hbf.size
          clear hbf hbr hB5 hBw
          go_wp2_with fail
          refine (llGrid_any _ _ _ _ _ _ cs cs _ hCb hCg (by omega) (by omega)).mono ?_
          rintro e w7 ⟨rfl, hb7⟩
          replace X0 := keepc hb7 X0; replace X1 := keepc hb7 X1
          have hz7 := hb7.size
          replace hCx := hCx.below hb7
          go_wp2_with fail
          refine (implGridOk_any _ _ _ xc _ hCx (by omega)).mono ?_
          rintro e w8 ⟨rfl, hb8⟩
          go_wp2
          go_ret
          exact ⟨rfl, bcall (bcall hBf (by omega) hb7) (by omega) hb8⟩

theorem walk (a : Option Addr) (n cap : Nat) (f : Nat → Int) (w : World) (h : BytesAt w a n f) (hm : n ≤ cap ∧ cap ≤ 9223372036854775807) :
    Calls Try.prog 3 #[.slice a n cap] w fun e w' => e = .returned (.bool true) ∧ Below w.heap.size w w' := by
  by_cases hs : n ≤ 1048576
  · exact small a n cap f w h hm hs
  · exact big a n cap f w h hm (by omega)

set_option maxRecDepth 100000 in
theorem lifted (os : Os) (started : os.Started) (H : Type) (enc : TypeId × Value → H) :
    ReturnsInHanded {} Try.checked os 3 .any (Rows.fnPutThereSpec.pre6 enc Try.prog Try.f3 Rows.fnPutThereRow.domain false) (Rows.fnPutThereSpec.post enc Try.prog Try.f3 false true false false) := by
  refine returnsInHanded_of_change (C := Try.checked) own started (by kernel_rfl) Try.func3
    (ChangeSpec.witness6 (enc := enc) (C := Try.checked) false ⟨#[], #[.slice none 0 0], []⟩ 8 (by kernel_rfl) (by kernel_rfl) (by kernel_rfl) (by kernel_rfl)) ?_
  intro W base args ds gs before hval0 hW hcnd _
  have hval : ∀ (j : Nat) t v, Try.f3.params[j]? = some t → args[j]? = some v → Value.okWide Try.prog W .any base t v := hval0
  have hW' := hW
  obtain ⟨p, q, hA0, hV, rfl, hfz, hnd⟩ := hW
  have hA : DataW.TrodAll enc Try.prog W 0 (fun _ => true) true Try.f3.params.toList args.toList ds p := hA0
  rw [Try.params3] at hA hval
  obtain ⟨v0, vs0, d0, ds0, p0, q0, hargs, rfl, rfl, h0, r0⟩ := trodAll_cons hA
  obtain ⟨rfl, rfl, rfl⟩ := trodAll_nil r0
  obtain rfl : args = #[v0] := by cases args; simp_all
  obtain ⟨rfl, rfl⟩ := trodVars_none hV
  have k0 := h0
  have lt0 : ∀ x ∈ p0, x.block < W.heap.size := by obtain ⟨m, hm⟩ := k0; exact DataW.trod_lt m _ _ _ hm
  obtain ⟨a0, n0, cap0, f0, rfl, hC0, hm0⟩ := open_bytes (hval 0 22 v0 rfl rfl) h0
  clear hA0 hval0
  refine (walk a0 n0 cap0 f0 W hC0 hm0).mono fun e W' ⟨he, bel⟩ => ?_
  subst he
  exact ⟨_, rfl, _, _, _, [], _, [], hW', trodAll_mk1 (shut_bool Try.underlying4 _), (trodAll_cons_mk (Below.trod laidOut (by kernel_rfl) (of_decide_eq_true (by kernel_rfl)) k0 bel lt0) trodAll_mk0), rfl, bel.frame _, fun h => by cases h⟩

theorem over : Rows.fnPutThereRow.holds Try.pinned (OpenSpec.ofChange Rows.fnPutThereSpec) :=
  OpenClaim.holds_of_wide 3 Try.f3 rfl rfl rfl rfl rfl rfl rfl ⟨rfl, rfl, rfl, rfl, rfl⟩ rfl rfl rfl rfl rfl (by kernel_rfl) Try.func3 (by kernel_rfl)
    (of_decide_eq_true (by kernel_rfl)) (by unfold Func.isWrapper; first | (rw [if_pos (by decide +kernel)]; kernel_rfl) | (rw [if_neg (by decide +kernel)]; exact ⟨rfl, rfl⟩))
    (fun os started H enc _ => lifted os started H enc)

end Go.Proofs.Ytmnninhifiajhaa.LwPutThere

namespace Go.Proofs.Ytmnninhifiajhaa
/-- The statement. -/
theorem lwPutThere : Rows.FnPutThereSaid := LwPutThere.over
#print axioms lwPutThere
end Go.Proofs.Ytmnninhifiajhaa
