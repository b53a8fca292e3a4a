/-
  'laws.FnTurnPut' returns true for every code: what is put turns with the grid, and stands in the mirror where it should. No condition.
-/
import Derived.Test.YtmnninhifiajhaaFb
import Derived.Test.YtmnninhifiajhaaDq
import Derived.Test.YtmnninhifiajhaaDl
import Derived.Test.YtmnninhifiajhaaMt
import Derived.Test.YtmnninhifiajhaaWy
import Derived.Deep.DeepCutAuto
import Derived.Test.YtmnninhifiajhaaTg
namespace Go.Proofs.Ytmnninhifiajhaa.LwTurnPut
open Go.ChangeShapes Go.WideShapes Go.ChangeAt Go.RowKit
set_option linter.unusedVariables false
attribute [local go_sem ↓] Go.wp_at_zero Go.wp_at_succ

theorem turn_call {wd tw : Int} {cs tc : List (Int × Int)} (h : turnG wd cs = (tw, tc)) (hm : cs.length ≤ 1048576) (a : Option Addr) (cap : Nat) (w : World) (hC : CellsAt w a cs) :
    Calls Try.prog 18 #[.agg #[.int .i64 wd, .slice a cs.length cap]] w fun e w' => ∃ v, e = .returned (.agg #[.int .i64 tw, v]) ∧ Own w' w.heap.size v tc ∧ Below w.heap.size w w' := by
  have := implGridTurn_any wd a cap cs w hC hm
  rw [h] at this
  exact this
theorem flip_call {wd tw : Int} {cs tc : List (Int × Int)} (h : flipG wd cs = (tw, tc)) (hm : cs.length ≤ 1048576) (a : Option Addr) (cap : Nat) (w : World) (hC : CellsAt w a cs) :
    Calls Try.prog 21 #[.agg #[.int .i64 wd, .slice a cs.length cap]] w fun e w' => ∃ v, e = .returned (.agg #[.int .i64 tw, v]) ∧ Own w' w.heap.size v tc ∧ Below w.heap.size w w' := by
  have := implGridFlip_any wd a cap cs w hC hm
  rw [h] at this
  exact this

/-- Too long a code. -/
theorem big (a : Option Addr) (n cap : Nat) (f : Nat → Int) (w : World) (h : BytesAt w a n f) (hm : n ≤ cap ∧ cap ≤ 9223372036854775807) (hbig : 1048576 < n) :
    Calls Try.prog 6 #[.slice a n cap] w fun e w' => e = .returned (.bool true) ∧ Below w.heap.size w w' := by
  have hb : (1048576 : Int) < (n : Int) := by omega
  go_enter Try.func6, Try.ntmps6
  go_wp2
  go_ret
  exact ⟨rfl, Below.refl _ _⟩

set_option maxRecDepth 100000 in
set_option maxHeartbeats 40000000 in
theorem small (a : Option Addr) (n cap : Nat) (f : Nat → Int) (w : World) (h : BytesAt w a n f) (hm : n ≤ cap ∧ cap ≤ 9223372036854775807) (hsm : n ≤ 1048576) :
    Calls Try.prog 6 #[.slice a n cap] w fun e w' => e = .returned (.bool true) ∧ Below w.heap.size w w' := by
  have hb : (n : Int) ≤ 1048576 := by omega
  go_enter Try.func6, Try.ntmps6
  go_wp2_with fail
  refine (drawGridPut_any a n cap f w h hsm hm.1 hm.2).mono ?_
  rintro e w1 ⟨wd, a1, c1, cs, at_, k, l, rfl, hC1, hl1, hat1, hat2, hb_w1⟩
  have hz_w1 := hb_w1.size
  try simp at hz_w1
  have hbS1 : Below w1.heap.size w1 ((w1.alloc (.cells #[.int .i64 wd, .slice a1 cs.length c1] 25)).alloc (.cells #[.int .i64 k, .int .i64 l] 27)) := (by repeat (first | exact Below.refl _ _ | refine Below.alloc ?_ (by first | exact Nat.le_refl _ | (simp; done) | (simp; omega)) _ | refine Below.drew ?_ | refine Below.setCell ?_ (by first | exact Nat.le_refl _ | (simp; done) | (simp; omega)) _))
  replace hC1 := hC1.below hbS1
  have g0 : ((w1.alloc (.cells #[.int .i64 wd, .slice a1 cs.length c1] 25)).alloc (.cells #[.int .i64 k, .int .i64 l] 27)).cell? ⟨w1.heap.size, 0, none⟩ = some (.int .i64 wd) := by simp [go_sem]
  have g1 : ((w1.alloc (.cells #[.int .i64 wd, .slice a1 cs.length c1] 25)).alloc (.cells #[.int .i64 k, .int .i64 l] 27)).cell? ⟨w1.heap.size, 1, none⟩ = some (.slice a1 cs.length c1) := by simp [go_sem]
  have d0 : ((w1.alloc (.cells #[.int .i64 wd, .slice a1 cs.length c1] 25)).alloc (.cells #[.int .i64 k, .int .i64 l] 27)).cell? ⟨w1.heap.size + 1, 0, none⟩ = some (.int .i64 k) := by simp [go_sem]
  have d1 : ((w1.alloc (.cells #[.int .i64 wd, .slice a1 cs.length c1] 25)).alloc (.cells #[.int .i64 k, .int .i64 l] 27)).cell? ⟨w1.heap.size + 1, 1, none⟩ = some (.int .i64 l) := by simp [go_sem]
  have hBs1 := bcall hb_w1 (by omega) hbS1
  clear hb_w1
  clear hbS1
  obtain ⟨xw, xc, ok, hx⟩ : ∃ xw xc ok, putG wd cs at_ k l = (xw, xc, ok) := ⟨_, _, _, rfl⟩
  have hxl : xc.length ≤ 1048576 := by have := putG_len3 hx; omega
  have heq : eqL xw xw xc xc = true := by simp [eqL]
  go_wp2_with fail
  refine (put_spec hx a1 c1 _ hC1 (by omega)).mono ?_
  rintro e w2 ⟨v_w2, rfl, hO_w2, hb_w2⟩
  obtain ⟨a2, c2, rfl, hC2⟩ := hO_w2.slice
  clear hO_w2
  have hz_w2 := hb_w2.size
  try simp at hz_w2
  replace g0 := keepc hb_w2 g0; replace g1 := keepc hb_w2 g1; replace d0 := keepc hb_w2 d0; replace d1 := keepc hb_w2 d1
  replace hC1 := hC1.below hb_w2
  have hB_w2 := bcall hBs1 (by first | omega | (simp; omega)) hb_w2
  clear hBs1 hb_w2
  have hbS2 : Below w2.heap.size w2 (w2.alloc (.cells #[.int .i64 xw, .slice a2 xc.length c2] 25)) := (by repeat (first | exact Below.refl _ _ | refine Below.alloc ?_ (by first | exact Nat.le_refl _ | (simp; done) | (simp; omega)) _ | refine Below.drew ?_ | refine Below.setCell ?_ (by first | exact Nat.le_refl _ | (simp; done) | (simp; omega)) _))
  replace g0 := keepc hbS2 g0; replace g1 := keepc hbS2 g1; replace d0 := keepc hbS2 d0; replace d1 := keepc hbS2 d1
  replace hC1 := hC1.below hbS2
  replace hC2 := hC2.below hbS2
  have t0 : (w2.alloc (.cells #[.int .i64 xw, .slice a2 xc.length c2] 25)).cell? ⟨w2.heap.size, 0, none⟩ = some (.int .i64 xw) := by simp [go_sem]
  have t1 : (w2.alloc (.cells #[.int .i64 xw, .slice a2 xc.length c2] 25)).cell? ⟨w2.heap.size, 1, none⟩ = some (.slice a2 xc.length c2) := by simp [go_sem]
  have hBs2 := bcall hB_w2 (by omega) hbS2
  clear hB_w2
  clear hbS2
  go_wp2_with fail
  refine (put_impl hx a1 c1 _ hC1 (by omega)).mono ?_
  rintro e w3 ⟨v_w3, rfl, hO_w3, hb_w3⟩
  obtain ⟨a3, c3, rfl, hC3⟩ := hO_w3.slice
  clear hO_w3
  have hz_w3 := hb_w3.size
  try simp at hz_w3
  replace g0 := keepc hb_w3 g0; replace g1 := keepc hb_w3 g1; replace d0 := keepc hb_w3 d0; replace d1 := keepc hb_w3 d1; replace t0 := keepc hb_w3 t0; replace t1 := keepc hb_w3 t1
  replace hC1 := hC1.below hb_w3
  replace hC2 := hC2.below hb_w3
  have hB_w3 := bcall hBs2 (by first | omega | (simp; omega)) hb_w3
  clear hBs2 hb_w3
  have hbS3 : Below w3.heap.size w3 (w3.alloc (.cells #[.int .i64 xw, .slice a3 xc.length c3] 25)) := (by repeat (first | exact Below.refl _ _ | refine Below.alloc ?_ (by first | exact Nat.le_refl _ | (simp; done) | (simp; omega)) _ | refine Below.drew ?_ | refine Below.setCell ?_ (by first | exact Nat.le_refl _ | (simp; done) | (simp; omega)) _))
  replace g0 := keepc hbS3 g0; replace g1 := keepc hbS3 g1; replace d0 := keepc hbS3 d0; replace d1 := keepc hbS3 d1; replace t0 := keepc hbS3 t0; replace t1 := keepc hbS3 t1
  replace hC1 := hC1.below hbS3
  replace hC2 := hC2.below hbS3
  replace hC3 := hC3.below hbS3
  have x0 : (w3.alloc (.cells #[.int .i64 xw, .slice a3 xc.length c3] 25)).cell? ⟨w3.heap.size, 0, none⟩ = some (.int .i64 xw) := by simp [go_sem]
  have x1 : (w3.alloc (.cells #[.int .i64 xw, .slice a3 xc.length c3] 25)).cell? ⟨w3.heap.size, 1, none⟩ = some (.slice a3 xc.length c3) := by simp [go_sem]
  have hBs3 := bcall hB_w3 (by omega) hbS3
  clear hB_w3
  clear hbS3
  cases ok with
  | false =>
    clear hx
    go_wp2_with fail
    refine (llGrid_any _ _ _ _ _ _ xc xc _ hC3 hC2 hxl hxl).mono ?_
    rintro e w4 ⟨rfl, hb_w4⟩
    have hz_w4 := hb_w4.size
    try simp at hz_w4
    replace g0 := keepc hb_w4 g0; replace g1 := keepc hb_w4 g1; replace d0 := keepc hb_w4 d0; replace d1 := keepc hb_w4 d1; replace t0 := keepc hb_w4 t0; replace t1 := keepc hb_w4 t1; replace x0 := keepc hb_w4 x0; replace x1 := keepc hb_w4 x1
    replace hC1 := hC1.below hb_w4
    replace hC2 := hC2.below hb_w4
    replace hC3 := hC3.below hb_w4
    have hB_w4 := bcall hBs3 (by first | omega | (simp; omega)) hb_w4
    clear hBs3 hb_w4
    go_wp2_with fail
    refine (llGrid_any _ _ _ _ _ _ xc xc _ hC3 hC2 hxl hxl).mono ?_
    rintro e w5 ⟨rfl, hb_w5⟩
    have hz_w5 := hb_w5.size
    try simp at hz_w5
    replace g0 := keepc hb_w5 g0; replace g1 := keepc hb_w5 g1; replace d0 := keepc hb_w5 d0; replace d1 := keepc hb_w5 d1; replace t0 := keepc hb_w5 t0; replace t1 := keepc hb_w5 t1; replace x0 := keepc hb_w5 x0; replace x1 := keepc hb_w5 x1
    replace hC1 := hC1.below hb_w5
    replace hC2 := hC2.below hb_w5
    replace hC3 := hC3.below hb_w5
    have hB_w5 := bcall hB_w4 (by first | omega | (simp; omega)) hb_w5
    clear hB_w4 hb_w5
    go_wp2
    go_ret
    exact ⟨rfl, hB_w5⟩
  | true =>
    by_cases hk : 2 ≤ k ∧ k ≤ 5
    · have hk0 : ((k : Int) != 0) = true := by simp; omega
      have hk1 : ((k : Int) != 1) = true := by simp; omega
      have hk2 : (k : Int) < 6 := by omega
      clear hx
      go_wp2_with fail
      refine (llGrid_any _ _ _ _ _ _ xc xc _ hC3 hC2 hxl hxl).mono ?_
      rintro e w4 ⟨rfl, hb_w4⟩
      have hz_w4 := hb_w4.size
      try simp at hz_w4
      replace g0 := keepc hb_w4 g0; replace g1 := keepc hb_w4 g1; replace d0 := keepc hb_w4 d0; replace d1 := keepc hb_w4 d1; replace t0 := keepc hb_w4 t0; replace t1 := keepc hb_w4 t1; replace x0 := keepc hb_w4 x0; replace x1 := keepc hb_w4 x1
      replace hC1 := hC1.below hb_w4
      replace hC2 := hC2.below hb_w4
      replace hC3 := hC3.below hb_w4
      have hB_w4 := bcall hBs3 (by first | omega | (simp; omega)) hb_w4
      clear hBs3 hb_w4
      go_wp2_with fail
      refine (llGrid_any _ _ _ _ _ _ xc xc _ hC3 hC2 hxl hxl).mono ?_
      rintro e w5 ⟨rfl, hb_w5⟩
      have hz_w5 := hb_w5.size
      try simp at hz_w5
      replace g0 := keepc hb_w5 g0; replace g1 := keepc hb_w5 g1; replace d0 := keepc hb_w5 d0; replace d1 := keepc hb_w5 d1; replace t0 := keepc hb_w5 t0; replace t1 := keepc hb_w5 t1; replace x0 := keepc hb_w5 x0; replace x1 := keepc hb_w5 x1
      replace hC1 := hC1.below hb_w5
      replace hC2 := hC2.below hb_w5
      replace hC3 := hC3.below hb_w5
      have hB_w5 := bcall hB_w4 (by first | omega | (simp; omega)) hb_w5
      clear hB_w4 hb_w5
      go_wp2
      go_ret
      exact ⟨rfl, hB_w5⟩
    · skip
      obtain ⟨hi, ro, co, ch, rr, tc, fc, uc, vc, q1, q2, q3, q4, q5, bhi, bro, bco, bch, brr, T1, T2, T3, F1, F2, F3, ltc, lfc⟩ := turn_put hx hk
      have HT1 : Hid (turnG wd cs = (hi, tc)) := T1
      obtain ⟨s1, e1⟩ : ∃ s, ch + hi = s := ⟨_, rfl⟩
      obtain ⟨s2, e2⟩ : ∃ s, s1 - 1 = s := ⟨_, rfl⟩
      obtain ⟨pt, e3⟩ : ∃ s, s2 - ro = s := ⟨_, rfl⟩
      obtain ⟨r1, e4⟩ : ∃ s, rr + wd = s := ⟨_, rfl⟩
      obtain ⟨r2, e5⟩ : ∃ s, r1 - 1 = s := ⟨_, rfl⟩
      obtain ⟨qt, e6⟩ : ∃ s, r2 - co = s := ⟨_, rfl⟩
      rw [show ch + hi - 1 - ro = pt by omega] at T2
      rw [show rr + wd - 1 - co = qt by omega] at F2
      have HT2 : Hid (putG hi tc pt k l = (hi, uc, true)) := T2
      have HT3 : Hid (turnG xw xc = (hi, uc)) := T3
      have HF1 : Hid (flipG wd cs = (wd, fc)) := F1
      have HF2 : Hid (putG wd fc qt k l = (wd, vc, true)) := F2
      have HF3 : Hid (flipG xw xc = (wd, vc)) := F3
      have luc : uc.length ≤ 25 := putG_len3 T2
      have lvc : vc.length ≤ 25 := putG_len3 F2
      have luc1 : 1 ≤ uc.length := by obtain ⟨_, _, _, _, _, _, _, o⟩ := putG_yes T2; have := okG_lenD _ _ o; omega
      have lvc1 : 1 ≤ vc.length := by obtain ⟨_, _, _, _, _, _, _, o⟩ := putG_yes F2; have := okG_lenD _ _ o; omega
      have luc1 : 1 ≤ uc.length := by obtain ⟨_, _, _, _, _, _, _, o⟩ := putG_yes T2; have := okG_lenD _ _ o; omega
      have lvc1 : 1 ≤ vc.length := by obtain ⟨_, _, _, _, _, _, _, o⟩ := putG_yes F2; have := okG_lenD _ _ o; omega
      have luc1 : 1 ≤ uc.length := by obtain ⟨_, _, _, _, _, _, _, o⟩ := putG_yes T2; have := okG_lenD _ _ o; omega
      have lvc1 : 1 ≤ vc.length := by obtain ⟨_, _, _, _, _, _, _, o⟩ := putG_yes F2; have := okG_lenD _ _ o; omega
      have luc1 : 1 ≤ uc.length := by obtain ⟨_, _, _, _, _, _, _, o⟩ := putG_yes T2; have := okG_lenD _ _ o; omega
      have lvc1 : 1 ≤ vc.length := by obtain ⟨_, _, _, _, _, _, _, o⟩ := putG_yes F2; have := okG_lenD _ _ o; omega
      have ok2 : 0 ≤ k ∧ k ≤ 7 := by obtain ⟨_, _, _, _, o2, _⟩ := putG_yes hx; simp only [okC] at o2; split at o2 <;> simp at o2 <;> omega
      have hwd : 1 ≤ wd ∧ wd ≤ 5 := by obtain ⟨_, _, _, o1, _⟩ := putG_yes hx; have := okG_lenD _ _ o1; omega
      have hat : 0 ≤ at_ := by obtain ⟨_, q, _⟩ := putG_yes hx; omega
      have hw0 : ((wd : Int) == 0) = false := by simp; omega
      have v1 : IntKind.i64.wrap (co * hi) = ch := by rw [q4]; exact IntWalk.i64_in _ (by omega)
      have v2 : IntKind.i64.wrap (ch + hi) = s1 := by rw [e1]; exact IntWalk.i64_in _ (by omega)
      have v3 : IntKind.i64.wrap (s1 - 1) = s2 := by rw [e2]; exact IntWalk.i64_in _ (by omega)
      have v4 : IntKind.i64.wrap (s2 - ro) = pt := by rw [e3]; exact IntWalk.i64_in _ (by omega)
      have v5 : IntKind.i64.wrap (ro * wd) = rr := by rw [q5]; exact IntWalk.i64_in _ (by omega)
      have v6 : IntKind.i64.wrap (rr + wd) = r1 := by rw [e4]; exact IntWalk.i64_in _ (by omega)
      have v7 : IntKind.i64.wrap (r1 - 1) = r2 := by rw [e5]; exact IntWalk.i64_in _ (by omega)
      have v8 : IntKind.i64.wrap (r2 - co) = qt := by rw [e6]; exact IntWalk.i64_in _ (by omega)
      clear hx T1 T2 T3 F1 F2 F3 q4 q5 e1 e2 e3 e4 e5 e6 bch brr
      have hk3 : ((k != 0) = false) ∨ ((k != 0) = true ∧ (k != 1) = false) ∨ ((k != 0) = true ∧ (k != 1) = true ∧ 6 ≤ k) := by simp; omega
      rcases hk3 with hk0 | ⟨hk0, hk1⟩ | ⟨hk0, hk1, hk2⟩
      all_goals
        go_wp2_with fail
        refine (llGrid_any _ _ _ _ _ _ xc xc _ hC3 hC2 hxl hxl).mono ?_
        rintro e w4 ⟨rfl, hb_w4⟩
        have hz_w4 := hb_w4.size
        try simp at hz_w4
        replace g0 := keepc hb_w4 g0; replace g1 := keepc hb_w4 g1; replace d0 := keepc hb_w4 d0; replace d1 := keepc hb_w4 d1; replace t0 := keepc hb_w4 t0; replace t1 := keepc hb_w4 t1; replace x0 := keepc hb_w4 x0; replace x1 := keepc hb_w4 x1
        replace hC1 := hC1.below hb_w4
        replace hC2 := hC2.below hb_w4
        replace hC3 := hC3.below hb_w4
        have hB_w4 := bcall hBs3 (by first | omega | (simp; omega)) hb_w4
        clear hBs3 hb_w4
        clear t0 t1 hC2
        have hbU : Below w4.heap.size w4 (w4.alloc (.cells #[.int .i64 0, .slice none 0 0] 25)) := (by repeat (first | exact Below.refl _ _ | refine Below.alloc ?_ (by first | exact Nat.le_refl _ | (simp; done) | (simp; omega)) _ | refine Below.drew ?_ | refine Below.setCell ?_ (by first | exact Nat.le_refl _ | (simp; done) | (simp; omega)) _))
        have nv1 : w1.heap.size ≠ w4.heap.size := by omega
        have nv2 : w1.heap.size + 1 ≠ w4.heap.size := by omega
        go_wp2
        simp only [q2, q3]
        clear q1 q2 q3
        go_cut [13, 14] (fun s13 s14 wc => ∃ blk : Nat, s13 = .pointer (some ⟨blk, 0, none⟩) ∧ s14 = .bool true ∧ BoxAt wc blk hi uc ∧ Below w4.heap.size w4 wc)
        case first =>
          go_region_held3 (fun w' => w'.cell? ⟨w1.heap.size, 0, none⟩ = some (.int .i64 wd) ∧ w'.cell? ⟨w1.heap.size, 1, none⟩ = some (.slice a1 cs.length c1) ∧ w'.cell? ⟨w1.heap.size + 1, 0, none⟩ = some (.int .i64 k) ∧ w'.cell? ⟨w1.heap.size + 1, 1, none⟩ = some (.int .i64 l))
            (first
              | with_reducible exact ⟨keepc hb6 g0, keepc hb6 g1, keepc hb6 d0, keepc hb6 d1⟩
              | with_reducible exact ⟨keepc hb5 g0, keepc hb5 g1, keepc hb5 d0, keepc hb5 d1⟩
              | with_reducible exact ⟨keepc hbU g0, keepc hbU g1, keepc hbU d0, keepc hbU d1⟩
              | with_reducible exact ⟨keepc hb5U g0, keepc hb5U g1, keepc hb5U d0, keepc hb5U d1⟩
              | with_reducible exact ⟨keepc hb6U g0, keepc hb6U g1, keepc hb6U d0, keepc hb6U d1⟩
              | with_reducible exact ⟨keepc hb6V g0, keepc hb6V g1, keepc hb6V d0, keepc hb6V d1⟩
              | with_reducible exact ⟨setc nv1 (setc nv1 (keepc hb6 g0)), setc nv1 (setc nv1 (keepc hb6 g1)), setc nv2 (setc nv2 (keepc hb6 d0)), setc nv2 (setc nv2 (keepc hb6 d1))⟩
              | with_reducible exact ⟨setc nw1 (setc nw1 (keepc hb6 g0)), setc nw1 (setc nw1 (keepc hb6 g1)), setc nw2 (setc nw2 (keepc hb6 d0)), setc nw2 (setc nw2 (keepc hb6 d1))⟩
              | go_keep)
            (first
              | (go_at_call 18; refine (turn_call HT1.out (by omega) _ _ _ (by first | with_reducible exact hC1 | with_reducible exact hC1.below (Below.refl _ _).drew)).mono ?_; rintro e wa ⟨v5, rfl, hO5, hb5'⟩; obtain ⟨a5, c5, rfl, hC5⟩ := hO5.slice; clear hO5; have hb5 : Below w4.heap.size w4 wa := (by first | with_reducible exact hb5' | with_reducible exact bdrew hb5'); have hz5 := hb5.size; have hb5U : Below w4.heap.size w4 (wa.alloc (.cells #[.int .i64 0, .slice none 0 0] 25)) := bcall hb5 hb5.size ((Below.refl _ _).alloc (Nat.le_refl _) _); have nw1 : w1.heap.size ≠ wa.heap.size := (by omega); have nw2 : w1.heap.size + 1 ≠ wa.heap.size := (by omega); have hbY : Below wa.heap.size wa (wa.alloc (.cells #[.int .i64 0, .slice none 0 0] 25)) := (Below.refl _ _).alloc (Nat.le_refl _) _)
              | (go_at_call 18; refine (turn_call HT1.out (by omega) _ _ _ (by first | with_reducible exact hC1.below hbU | with_reducible exact hC1.below hbU.drew)).mono ?_; rintro e wa ⟨v5, rfl, hO5, hb5'⟩; obtain ⟨a5, c5, rfl, hC5⟩ := hO5.slice; clear hO5; have hb5 : Below w4.heap.size w4 wa := (by first | with_reducible exact bcall hbU hbU.size hb5' | with_reducible exact bcall hbU hbU.size (bdrew hb5')); have zz : w4.heap.size < wa.heap.size := (by have := hb5'.size; simp at this; omega); have z0 : wa.cell? ⟨w4.heap.size, 0, none⟩ = some (.int .i64 0) := keepc hb5' (by simp [go_sem]); have z1 : wa.cell? ⟨w4.heap.size, 1, none⟩ = some (.slice none 0 0) := keepc hb5' (by simp [go_sem]); have zf0 : wa.frozen? ⟨w4.heap.size, 0, none⟩ = false := keepf hb5' (v := .int .i64 0) (by simp [go_sem]) (by simp [go_sem]); have zf1 : wa.frozen? ⟨w4.heap.size, 1, none⟩ = false := keepf hb5' (v := .slice none 0 0) (by simp [go_sem]) (by simp [go_sem]))
              | (go_at_call 14; refine (put_impl HT2.out _ _ _ (by first | with_reducible exact hC5 | with_reducible exact hC5.below (Below.refl _ _).drew) (by omega)).mono ?_; rintro e wb ⟨v6, rfl, hO6, hb6'⟩; obtain ⟨a6, c6, rfl, hC6⟩ := hO6.slice; have hb6x : Below wa.heap.size wa wb := (by first | with_reducible exact hb6' | with_reducible exact bdrew hb6'); have hb6 : Below w4.heap.size w4 wb := bcall hb5 hb5.size hb6x; (try replace zf0 := keepf hb6x z0 zf0); (try replace zf1 := keepf hb6x z1 zf1); (try replace z0 := keepc hb6x z0); (try replace z1 := keepc hb6x z1); have hb6U : Below w4.heap.size w4 (wb.alloc (.cells #[.int .i64 0, .slice none 0 0] 25)) := bcall hb6 hb6.size ((Below.refl _ _).alloc (Nat.le_refl _) _); have hb6V : Below w4.heap.size w4 (wb.alloc (.cells #[.int .i64 hi, .slice a6 uc.length c6] 25)) := bcall hb6 hb6.size ((Below.refl _ _).alloc (Nat.le_refl _) _))
              | (go_at_call 14; refine (put_impl HT2.out _ _ _ (by first | with_reducible exact hC5.below hbY | with_reducible exact hC5.below hbY.drew) (by omega)).mono ?_; rintro e wb ⟨v6, rfl, hO6, hb6'⟩; obtain ⟨a6, c6, rfl, hC6⟩ := hO6.slice; have hb6 : Below w4.heap.size w4 wb := (by first | with_reducible exact bcall hb5U hb5U.size hb6' | with_reducible exact bcall hb5U hb5U.size (bdrew hb6')); have zz : wa.heap.size < wb.heap.size := (by have := hb6'.size; simp at this; omega); have z0 : wb.cell? ⟨wa.heap.size, 0, none⟩ = some (.int .i64 0) := keepc hb6' (by simp [go_sem]); have z1 : wb.cell? ⟨wa.heap.size, 1, none⟩ = some (.slice none 0 0) := keepc hb6' (by simp [go_sem]); have zf0 : wb.frozen? ⟨wa.heap.size, 0, none⟩ = false := keepf hb6' (v := .int .i64 0) (by simp [go_sem]) (by simp [go_sem]); have zf1 : wb.frozen? ⟨wa.heap.size, 1, none⟩ = false := keepf hb6' (v := .slice none 0 0) (by simp [go_sem]) (by simp [go_sem])))
          · have hbox := box_new hb6 hC6 hi c6
            go_wp2_with fail
            go_meet
            case rel => exact ⟨_, rfl, rfl, hbox⟩
          · have hbox := box_set hb6 hb5.size hC6 hO6 (by simp) luc1 zz z0 z1 hi
            go_wp2_with fail
            go_meet
            case rel => exact ⟨_, rfl, rfl, hbox⟩
          · have hbox := box_set hb6 (Nat.le_refl _) hC6 hO6 zz luc1 (Nat.lt_of_lt_of_le zz hb6x.size) z0 z1 hi
            go_wp2_with fail
            go_meet
            case rel => exact ⟨_, rfl, rfl, hbox⟩
        case rest =>
          obtain ⟨ba, rfl, rfl, ⟨aa, ca, y3, y0, y1, hCa⟩, hb_w5⟩ := hcut
          have hz_w5 := hb_w5.size
          replace g0 := keepc hb_w5 g0; replace g1 := keepc hb_w5 g1; replace d0 := keepc hb_w5 d0; replace d1 := keepc hb_w5 d1; replace x0 := keepc hb_w5 x0; replace x1 := keepc hb_w5 x1
          replace hC1 := hC1.below hb_w5
          replace hC3 := hC3.below hb_w5
          have hB_w5 := bcall hB_w4 (by omega) hb_w5
          clear hB_w4 hb_w5 hbU nv1 nv2
          have hbU : Below wc.heap.size wc (wc.alloc (.cells #[.int .i64 0, .slice none 0 0] 25)) := (by repeat (first | exact Below.refl _ _ | refine Below.alloc ?_ (by first | exact Nat.le_refl _ | (simp; done) | (simp; omega)) _ | refine Below.drew ?_ | refine Below.setCell ?_ (by first | exact Nat.le_refl _ | (simp; done) | (simp; omega)) _))
          have nv1 : w1.heap.size ≠ wc.heap.size := by omega
          have nv2 : w1.heap.size + 1 ≠ wc.heap.size := by omega
          go_wp2
          go_cut [15, 16] (fun s15 s16 wd2 => ∃ blk : Nat, s15 = .pointer (some ⟨blk, 0, none⟩) ∧ s16 = .bool true ∧ BoxAt wd2 blk wd vc ∧ Below wc.heap.size wc wd2)
          case first =>
            go_region_held3 (fun w' => w'.cell? ⟨w1.heap.size, 0, none⟩ = some (.int .i64 wd) ∧ w'.cell? ⟨w1.heap.size, 1, none⟩ = some (.slice a1 cs.length c1) ∧ w'.cell? ⟨w1.heap.size + 1, 0, none⟩ = some (.int .i64 k) ∧ w'.cell? ⟨w1.heap.size + 1, 1, none⟩ = some (.int .i64 l))
              (first
                | with_reducible exact ⟨keepc hb6 g0, keepc hb6 g1, keepc hb6 d0, keepc hb6 d1⟩
                | with_reducible exact ⟨keepc hb5 g0, keepc hb5 g1, keepc hb5 d0, keepc hb5 d1⟩
                | with_reducible exact ⟨keepc hbU g0, keepc hbU g1, keepc hbU d0, keepc hbU d1⟩
                | with_reducible exact ⟨keepc hb5U g0, keepc hb5U g1, keepc hb5U d0, keepc hb5U d1⟩
                | with_reducible exact ⟨keepc hb6U g0, keepc hb6U g1, keepc hb6U d0, keepc hb6U d1⟩
                | with_reducible exact ⟨keepc hb6V g0, keepc hb6V g1, keepc hb6V d0, keepc hb6V d1⟩
                | with_reducible exact ⟨setc nv1 (setc nv1 (keepc hb6 g0)), setc nv1 (setc nv1 (keepc hb6 g1)), setc nv2 (setc nv2 (keepc hb6 d0)), setc nv2 (setc nv2 (keepc hb6 d1))⟩
                | with_reducible exact ⟨setc nw1 (setc nw1 (keepc hb6 g0)), setc nw1 (setc nw1 (keepc hb6 g1)), setc nw2 (setc nw2 (keepc hb6 d0)), setc nw2 (setc nw2 (keepc hb6 d1))⟩
                | go_keep)
              (first
                | (go_at_call 21; refine (flip_call HF1.out (by omega) _ _ _ (by first | with_reducible exact hC1 | with_reducible exact hC1.below (Below.refl _ _).drew)).mono ?_; rintro e wa ⟨v5, rfl, hO5, hb5'⟩; obtain ⟨a5, c5, rfl, hC5⟩ := hO5.slice; clear hO5; have hb5 : Below wc.heap.size wc wa := (by first | with_reducible exact hb5' | with_reducible exact bdrew hb5'); have hz5 := hb5.size; have hb5U : Below wc.heap.size wc (wa.alloc (.cells #[.int .i64 0, .slice none 0 0] 25)) := bcall hb5 hb5.size ((Below.refl _ _).alloc (Nat.le_refl _) _); have nw1 : w1.heap.size ≠ wa.heap.size := (by omega); have nw2 : w1.heap.size + 1 ≠ wa.heap.size := (by omega); have hbY : Below wa.heap.size wa (wa.alloc (.cells #[.int .i64 0, .slice none 0 0] 25)) := (Below.refl _ _).alloc (Nat.le_refl _) _)
                | (go_at_call 21; refine (flip_call HF1.out (by omega) _ _ _ (by first | with_reducible exact hC1.below hbU | with_reducible exact hC1.below hbU.drew)).mono ?_; rintro e wa ⟨v5, rfl, hO5, hb5'⟩; obtain ⟨a5, c5, rfl, hC5⟩ := hO5.slice; clear hO5; have hb5 : Below wc.heap.size wc wa := (by first | with_reducible exact bcall hbU hbU.size hb5' | with_reducible exact bcall hbU hbU.size (bdrew hb5')); have zz : wc.heap.size < wa.heap.size := (by have := hb5'.size; simp at this; omega); have z0 : wa.cell? ⟨wc.heap.size, 0, none⟩ = some (.int .i64 0) := keepc hb5' (by simp [go_sem]); have z1 : wa.cell? ⟨wc.heap.size, 1, none⟩ = some (.slice none 0 0) := keepc hb5' (by simp [go_sem]); have zf0 : wa.frozen? ⟨wc.heap.size, 0, none⟩ = false := keepf hb5' (v := .int .i64 0) (by simp [go_sem]) (by simp [go_sem]); have zf1 : wa.frozen? ⟨wc.heap.size, 1, none⟩ = false := keepf hb5' (v := .slice none 0 0) (by simp [go_sem]) (by simp [go_sem]))
                | (go_at_call 14; refine (put_impl HF2.out _ _ _ (by first | with_reducible exact hC5 | with_reducible exact hC5.below (Below.refl _ _).drew) (by omega)).mono ?_; rintro e wb ⟨v6, rfl, hO6, hb6'⟩; obtain ⟨a6, c6, rfl, hC6⟩ := hO6.slice; have hb6x : Below wa.heap.size wa wb := (by first | with_reducible exact hb6' | with_reducible exact bdrew hb6'); have hb6 : Below wc.heap.size wc wb := bcall hb5 hb5.size hb6x; (try replace zf0 := keepf hb6x z0 zf0); (try replace zf1 := keepf hb6x z1 zf1); (try replace z0 := keepc hb6x z0); (try replace z1 := keepc hb6x z1); have hb6U : Below wc.heap.size wc (wb.alloc (.cells #[.int .i64 0, .slice none 0 0] 25)) := bcall hb6 hb6.size ((Below.refl _ _).alloc (Nat.le_refl _) _); have hb6V : Below wc.heap.size wc (wb.alloc (.cells #[.int .i64 wd, .slice a6 vc.length c6] 25)) := bcall hb6 hb6.size ((Below.refl _ _).alloc (Nat.le_refl _) _))
                | (go_at_call 14; refine (put_impl HF2.out _ _ _ (by first | with_reducible exact hC5.below hbY | with_reducible exact hC5.below hbY.drew) (by omega)).mono ?_; rintro e wb ⟨v6, rfl, hO6, hb6'⟩; obtain ⟨a6, c6, rfl, hC6⟩ := hO6.slice; have hb6 : Below wc.heap.size wc wb := (by first | with_reducible exact bcall hb5U hb5U.size hb6' | with_reducible exact bcall hb5U hb5U.size (bdrew hb6')); have zz : wa.heap.size < wb.heap.size := (by have := hb6'.size; simp at this; omega); have z0 : wb.cell? ⟨wa.heap.size, 0, none⟩ = some (.int .i64 0) := keepc hb6' (by simp [go_sem]); have z1 : wb.cell? ⟨wa.heap.size, 1, none⟩ = some (.slice none 0 0) := keepc hb6' (by simp [go_sem]); have zf0 : wb.frozen? ⟨wa.heap.size, 0, none⟩ = false := keepf hb6' (v := .int .i64 0) (by simp [go_sem]) (by simp [go_sem]); have zf1 : wb.frozen? ⟨wa.heap.size, 1, none⟩ = false := keepf hb6' (v := .slice none 0 0) (by simp [go_sem]) (by simp [go_sem])))
            · have hbox := box_new hb6 hC6 wd c6
              go_wp2_with fail
              go_meet
              case rel => exact ⟨_, rfl, rfl, hbox⟩
            · have hbox := box_set hb6 hb5.size hC6 hO6 (by simp) lvc1 zz z0 z1 wd
              go_wp2_with fail
              go_meet
              case rel => exact ⟨_, rfl, rfl, hbox⟩
            · have hbox := box_set hb6 (Nat.le_refl _) hC6 hO6 zz lvc1 (Nat.lt_of_lt_of_le zz hb6x.size) z0 z1 wd
              go_wp2_with fail
              go_meet
              case rel => exact ⟨_, rfl, rfl, hbox⟩
          case rest =>
            obtain ⟨bb, rfl, rfl, ⟨ab, cb, t3, t0, t1, hCb⟩, hb_w6⟩ := hcut
            have hz_w6 := hb_w6.size
            replace x0 := keepc hb_w6 x0; replace x1 := keepc hb_w6 x1; replace y0 := keepc hb_w6 y0; replace y1 := keepc hb_w6 y1
            replace hC3 := hC3.below hb_w6
            replace hCa := hCa.below hb_w6
            have hB_w6 := bcall hB_w5 (by omega) hb_w6
            clear hB_w5 hb_w6 hbU nv1 nv2 g0 g1 d0 d1 hC1
            have hq1 : eqL hi hi uc uc = true := by simp [eqL]
            have hq2 : eqL wd wd vc vc = true := by simp [eqL]
            go_wp2
            clear v1 v2 v3 v4 v5 v6 v7 v8
            go_region_held3 (fun w' => w'.cell? ⟨w3.heap.size, 0, none⟩ = some (.int .i64 xw) ∧ w'.cell? ⟨w3.heap.size, 1, none⟩ = some (.slice a3 xc.length c3) ∧ w'.cell? ⟨ba, 0, none⟩ = some (.int .i64 hi) ∧ w'.cell? ⟨ba, 1, none⟩ = some (.slice aa uc.length ca) ∧ w'.cell? ⟨bb, 0, none⟩ = some (.int .i64 wd) ∧ w'.cell? ⟨bb, 1, none⟩ = some (.slice ab vc.length cb))
              (first
                | with_reducible exact ⟨keepc hbs x0, keepc hbs x1, keepc hbs y0, keepc hbs y1, keepc hbs t0, keepc hbs t1⟩
                | with_reducible exact ⟨keepc hbr x0, keepc hbr x1, keepc hbr y0, keepc hbr y1, keepc hbr t0, keepc hbr t1⟩
                | with_reducible exact ⟨keepc hbq x0, keepc hbq x1, keepc hbq y0, keepc hbq y1, keepc hbq t0, keepc hbq t1⟩
                | with_reducible exact ⟨keepc hbp x0, keepc hbp x1, keepc hbp y0, keepc hbp y1, keepc hbp t0, keepc hbp t1⟩
                | go_keep)
              (first
                | (go_at_call 18; refine (turn_call HT3.out hxl _ _ _ (by first | with_reducible exact hC3 | with_reducible exact hC3.below (Below.refl _ _).drew)).mono ?_; rintro e wp ⟨vp, rfl, hOp, hbp'⟩; obtain ⟨ap, cp, rfl, hCp⟩ := hOp.slice; clear hOp; have hbp : Below wc.heap.size wc wp := (by first | with_reducible exact hbp' | with_reducible exact bdrew hbp'))
                | (go_at_call 15; refine (llGrid_any _ _ _ _ _ _ vc vc _ hCr (hCb.below hbr) (by omega) (by omega)).mono ?_; rintro e ws ⟨rfl, hbs'⟩; have hbs : Below wc.heap.size wc ws := bcall hbr hbr.size hbs')
                | (go_at_call 15; refine (llGrid_any _ _ _ _ _ _ uc uc _ hCp (hCa.below hbp) (by omega) (by omega)).mono ?_; rintro e wq ⟨rfl, hbq'⟩; have hbq : Below wc.heap.size wc wq := bcall hbp hbp.size hbq')
                | (go_at_call 21; refine (flip_call HF3.out hxl _ _ _ (hC3.below hbq)).mono ?_; rintro e wr ⟨vr, rfl, hOr, hbr'⟩; obtain ⟨ar, cr, rfl, hCr⟩ := hOr.slice; clear hOr; have hbr : Below wc.heap.size wc wr := bcall hbq hbq.size hbr'))
            have hBf := bcall hB_w6 (by omega) hbs
            go_wp2
            go_ret
            exact ⟨rfl, hBf⟩

theorem walk (a : Option Addr) (n cap : Nat) (f : Nat → Int) (w : World) (h : BytesAt w a n f) (hm : n ≤ cap ∧ cap ≤ 9223372036854775807) :
    Calls Try.prog 6 #[.slice a n cap] w fun e w' => e = .returned (.bool true) ∧ Below w.heap.size w w' := by
  by_cases hs : n ≤ 1048576
  · exact small a n cap f w h hm hs
  · exact big a n cap f w h hm (by omega)

set_option maxRecDepth 100000 in
theorem lifted (os : Os) (started : os.Started) (H : Type) (enc : TypeId × Value → H) :
    ReturnsInHanded {} Try.checked os 6 .any (Rows.fnTurnPutSpec.pre6 enc Try.prog Try.f6 Rows.fnTurnPutRow.domain false) (Rows.fnTurnPutSpec.post enc Try.prog Try.f6 false true false false) := by
  refine returnsInHanded_of_change (C := Try.checked) own started (by kernel_rfl) Try.func6
    (ChangeSpec.witness6 (enc := enc) (C := Try.checked) false ⟨#[], #[.slice none 0 0], []⟩ 8 (by kernel_rfl) (by kernel_rfl) (by kernel_rfl) (by kernel_rfl)) ?_
  intro W base args ds gs before hval0 hW hcnd _
  have hval : ∀ (j : Nat) t v, Try.f6.params[j]? = some t → args[j]? = some v → Value.okWide Try.prog W .any base t v := hval0
  have hW' := hW
  obtain ⟨p, q, hA0, hV, rfl, hfz, hnd⟩ := hW
  have hA : DataW.TrodAll enc Try.prog W 0 (fun _ => true) true Try.f6.params.toList args.toList ds p := hA0
  rw [Try.params6] at hA hval
  obtain ⟨v0, vs0, d0, ds0, p0, q0, hargs, rfl, rfl, h0, r0⟩ := trodAll_cons hA
  obtain ⟨rfl, rfl, rfl⟩ := trodAll_nil r0
  obtain rfl : args = #[v0] := by cases args; simp_all
  obtain ⟨rfl, rfl⟩ := trodVars_none hV
  have k0 := h0
  have lt0 : ∀ x ∈ p0, x.block < W.heap.size := by obtain ⟨m, hm⟩ := k0; exact DataW.trod_lt m _ _ _ hm
  obtain ⟨a0, n0, cap0, f0, rfl, hC0, hm0⟩ := open_bytes (hval 0 22 v0 rfl rfl) h0
  clear hA0 hval0
  refine (walk a0 n0 cap0 f0 W hC0 hm0).mono fun e W' ⟨he, bel⟩ => ?_
  subst he
  exact ⟨_, rfl, _, _, _, [], _, [], hW', trodAll_mk1 (shut_bool Try.underlying4 _), (trodAll_cons_mk (Below.trod laidOut (by kernel_rfl) (of_decide_eq_true (by kernel_rfl)) k0 bel lt0) trodAll_mk0), rfl, bel.frame _, fun h => by cases h⟩

theorem over : Rows.fnTurnPutRow.holds Try.pinned (OpenSpec.ofChange Rows.fnTurnPutSpec) :=
  OpenClaim.holds_of_wide 6 Try.f6 rfl rfl rfl rfl rfl rfl rfl ⟨rfl, rfl, rfl, rfl, rfl⟩ rfl rfl rfl rfl rfl (by kernel_rfl) Try.func6 (by kernel_rfl)
    (of_decide_eq_true (by kernel_rfl)) (by unfold Func.isWrapper; first | (rw [if_pos (by decide +kernel)]; kernel_rfl) | (rw [if_neg (by decide +kernel)]; exact ⟨rfl, rfl⟩))
    (fun os started H enc _ => lifted os started H enc)

end Go.Proofs.Ytmnninhifiajhaa.LwTurnPut

namespace Go.Proofs.Ytmnninhifiajhaa
/-- The statement. -/
theorem lwTurnPut : Rows.FnTurnPutSaid := LwTurnPut.over
#print axioms lwTurnPut
end Go.Proofs.Ytmnninhifiajhaa
