/-
  'laws.FnExactGridTurn' returns true for every grid: impl.GridTurn answers as spec.GridTurn, writes into no argument, keeps nothing of one, and its answer owns its memory, behind another call too. No condition.
-/
import Derived.Test.YthcgeibkgnggdaaTg
import Derived.Test.YthcgeibkgnggdaaLc
import Derived.Test.YthcgeibkgnggdaaFa
namespace Go.Proofs.Ythcgeibkgnggdaa.ExGridTurn
open Go.ChangeShapes Go.WideShapes Go.ChangeAt Go.RowKit Go.Joins Go.Deep
set_option linter.unusedVariables false

theorem turnG_len (wd : Int) (cs : List (Int × Int)) : (turnG wd cs).2.length ≤ 25 := by
  unfold turnG
  by_cases h : okG wd cs = true
  · rw [if_pos h]
    have := okG_len wd cs h
    simp [turnC]
    omega
  · rw [if_neg h]
    simp

set_option maxHeartbeats 2000000 in
theorem walk (wd : Int) (a : Option Addr) (cap : Nat) (cs : List (Int × Int)) (w : World) (hC : CellsAt w a cs) (hm : cs.length ≤ 9223372036854775807) :
    Calls Try.prog 8 #[.agg #[.int .i64 wd, .slice a cs.length cap]] w fun e w' => e = .returned (.bool true) ∧ Below w.heap.size w w' := by
  by_cases hbig : (1048576 : Int) - cs.length < 0
  · go_enter Try.func8, Try.ntmps8
    go_wp2_with fail
    refine (szGrid_any _ _ _ _ _ _ hm (by omega)).mono ?_
    rintro e w1 ⟨rfl, hb1⟩
    go_wp2
    go_ret
    exact ⟨rfl, bcall (by repeat (first | exact Below.refl _ _ | refine Below.alloc ?_ (by first | exact Nat.le_refl _ | (simp; done) | (simp; omega)) _ | refine Below.drew ?_ | refine Below.setCell ?_ (by first | exact Nat.le_refl _ | (simp; done) | (simp; omega)) _)) (by simp) hb1⟩
  have hm2 : cs.length ≤ 1048576 := by omega
  have hlen := turnG_len wd cs
  obtain ⟨tw, tc, ht⟩ : ∃ tw tc, turnG wd cs = (tw, tc) := ⟨_, _, rfl⟩
  rw [ht] at hlen
  have htl : tc.length ≤ 1048576 := by simp only at hlen; omega
  have CS : Hid (∀ (a : Option Addr) (cap : Nat) (w : World), CellsAt w a cs → Calls Try.prog 26 #[.agg #[.int .i64 wd, .slice a cs.length cap]] w fun e w' => ∃ v, e = .returned (.agg #[.int .i64 tw, v]) ∧ Own w' w.heap.size v tc ∧ Below w.heap.size w w') := by
    intro a cap w h
    have := specGridTurn_any wd a cap cs w h hm2
    rw [ht] at this
    exact this
  have CI : Hid (∀ (a : Option Addr) (cap : Nat) (w : World), CellsAt w a cs → Calls Try.prog 27 #[.agg #[.int .i64 wd, .slice a cs.length cap]] w fun e w' => ∃ v, e = .returned (.agg #[.int .i64 tw, v]) ∧ Own w' w.heap.size v tc ∧ Below w.heap.size w w') := by
    intro a cap w h
    have := implGridTurn_any wd a cap cs w h hm2
    rw [ht] at this
    exact this
  have heq : eqG tw tw tc tc = true := by simp [eqG]
  have heq2 : eqG wd wd cs cs = true := by simp [eqG]
  clear ht hlen
  go_enter Try.func8, Try.ntmps8
  go_wp2_with fail
  refine (szGrid_any _ _ _ _ _ _ hm (by omega)).mono ?_
  rintro e w1 ⟨rfl, hb1⟩
  have hz1 := hb1.size
  simp at hz1
  have hB1 : Below w.heap.size w w1 := bcall (by repeat (first | exact Below.refl _ _ | refine Below.alloc ?_ (by first | exact Nat.le_refl _ | (simp; done) | (simp; omega)) _ | refine Below.drew ?_ | refine Below.setCell ?_ (by first | exact Nat.le_refl _ | (simp; done) | (simp; omega)) _)) (by simp) hb1
  have p0 : w1.cell? ⟨w.heap.size, 0, none⟩ = some (.int .i64 wd) := keepc hb1 (by simp [go_sem])
  have p1 : w1.cell? ⟨w.heap.size, 1, none⟩ = some (.slice a cs.length cap) := keepc hb1 (by simp [go_sem])
  clear hb1
  -- what is wanted
  go_wp2_with fail
  refine (toGrid_any _ _ _ cs _ (hC.below hB1) hm2).mono ?_
  rintro e w2 ⟨g2, rfl, hO2, hb2⟩
  have hz2 := hb2.size
  have hB2 : Below w.heap.size w w2 := bcall hB1 (by omega) hb2
  replace p0 := keepc hb2 p0; replace p1 := keepc hb2 p1
  obtain ⟨a2, c2, e2, hC2⟩ := hO2.slice
  simp only [Value.slice.injEq] at e2
  obtain ⟨rfl, _, rfl⟩ := e2
  clear hb2 hO2
  go_wp2_with fail
  refine (CS.out _ _ _ hC2).mono ?_
  rintro e w3 ⟨v3, rfl, hO3, hb3⟩
  obtain ⟨a3, c3, rfl, -⟩ := hO3.slice
  have hz3 := hb3.size
  have hB3 : Below w.heap.size w w3 := bcall hB2 (by omega) hb3
  have R3 := hO3.range
  replace p0 := keepc hb3 p0; replace p1 := keepc hb3 p1
  clear hb3 hC2
  -- its box
  have hbX : Below w3.heap.size w3 (w3.alloc (.cells #[.int .i64 tw, .slice a3 tc.length c3] 35)) := (by repeat (first | exact Below.refl _ _ | refine Below.alloc ?_ (by first | exact Nat.le_refl _ | (simp; done) | (simp; omega)) _ | refine Below.drew ?_ | refine Below.setCell ?_ (by first | exact Nat.le_refl _ | (simp; done) | (simp; omega)) _))
  replace hO3 := hO3.below hbX
  have q0 : (w3.alloc (.cells #[.int .i64 tw, .slice a3 tc.length c3] 35)).cell? ⟨w3.heap.size, 0, none⟩ = some (.int .i64 tw) := by simp [go_sem]
  have q1 : (w3.alloc (.cells #[.int .i64 tw, .slice a3 tc.length c3] 35)).cell? ⟨w3.heap.size, 1, none⟩ = some (.slice a3 tc.length c3) := by simp [go_sem]
  have hBX := bcall hB3 (by omega) hbX
  have s3 : w.heap.size < w3.heap.size := by omega
  have hp0 := keepc hbX p0
  have hp1 := keepc hbX p1
  go_wp2_with fail
  refine (toGrid_any _ _ _ cs _ (hC.below hBX) hm2).mono ?_
  rintro e w4 ⟨gx, rfl, hOx, hb4⟩
  have hz4 := hb4.size
  simp at hz4
  have hB4 : Below w.heap.size w w4 := bcall hBX (by simp; omega) hb4
  replace hO3 := hO3.below hb4
  have Rx := hOx.lt
  simp at Rx
  replace p0 := keepc hb4 hp0
  replace p1 := keepc hb4 hp1
  replace q0 := keepc hb4 q0; replace q1 := keepc hb4 q1
  clear hb4 hbX hBX hp0 hp1
  -- the argument's box
  have hbY : Below w4.heap.size w4 (w4.alloc (.cells #[.int .i64 wd, .slice (some ⟨gx, 0, none⟩) cs.length cs.length] 35)) := (by repeat (first | exact Below.refl _ _ | refine Below.alloc ?_ (by first | exact Nat.le_refl _ | (simp; done) | (simp; omega)) _ | refine Below.drew ?_ | refine Below.setCell ?_ (by first | exact Nat.le_refl _ | (simp; done) | (simp; omega)) _))
  have hOxY := hOx.below hbY
  obtain ⟨ax, cx, ex, hCx⟩ := hOxY.slice
  simp only [Value.slice.injEq] at ex
  obtain ⟨rfl, _, rfl⟩ := ex
  have s4 : w.heap.size < w4.heap.size := by omega
  have s4' : w3.heap.size < w4.heap.size := by omega
  go_wp2_with fail
  refine (CI.out _ _ _ hCx).mono ?_
  rintro e w5 ⟨v5, rfl, hO5, hb5⟩
  obtain ⟨a5, c5, rfl, -⟩ := hO5.slice
  have hz5 := hb5.size
  simp at hz5
  have R5 := hO5.range
  simp only [World.size_alloc] at R5
  have r0 : w5.cell? ⟨w4.heap.size, 0, none⟩ = some (.int .i64 wd) := keepc hb5 (by simp [go_sem])
  have r1 : w5.cell? ⟨w4.heap.size, 1, none⟩ = some (.slice (some ⟨gx, 0, none⟩) cs.length cs.length) := keepc hb5 (by simp [go_sem])
  have hb45 : Below w4.heap.size w4 w5 := bcall hbY (by simp) hb5
  have hB5 : Below w.heap.size w w5 := bcall hB4 (by omega) hb45
  replace hO3 := hO3.below hb45
  replace hOx := hOx.below hb45
  replace p0 := keepc hb45 p0; replace p1 := keepc hb45 p1; replace q0 := keepc hb45 q0; replace q1 := keepc hb45 q1
  clear hb5 hbY hb45 hOxY hCx
  -- the answer's box
  have hbZ : Below w5.heap.size w5 (w5.alloc (.cells #[.int .i64 tw, .slice a5 tc.length c5] 35)) := (by repeat (first | exact Below.refl _ _ | refine Below.alloc ?_ (by first | exact Nat.le_refl _ | (simp; done) | (simp; omega)) _ | refine Below.drew ?_ | refine Below.setCell ?_ (by first | exact Nat.le_refl _ | (simp; done) | (simp; omega)) _))
  have s5 : w.heap.size < w5.heap.size := by omega
  have s5' : w3.heap.size < w5.heap.size := by omega
  have s5'' : w4.heap.size < w5.heap.size := by omega
  go_wp2_with fail
  refine (eqGrid_own _ _ _ _ _ _ tc tc _ (hO5.below hbZ) (hO3.below hbZ) htl htl).mono ?_
  rintro e w6 ⟨rfl, hb6⟩
  have hz6 := hb6.size
  simp at hz6
  have u0 : w6.cell? ⟨w5.heap.size, 0, none⟩ = some (.int .i64 tw) := keepc hb6 (by simp [go_sem])
  have u1 : w6.cell? ⟨w5.heap.size, 1, none⟩ = some (.slice a5 tc.length c5) := keepc hb6 (by simp [go_sem])
  have hb56 : Below w5.heap.size w5 w6 := bcall hbZ (by simp) hb6
  have hB6 : Below w.heap.size w w6 := bcall hB5 (by omega) hb56
  replace hO3 := hO3.below hb56
  replace hO5 := hO5.below hb56
  replace hOx := hOx.below hb56
  replace p0 := keepc hb56 p0; replace p1 := keepc hb56 p1; replace q0 := keepc hb56 q0; replace q1 := keepc hb56 q1; replace r0 := keepc hb56 r0; replace r1 := keepc hb56 r1
  clear hb6 hbZ hb56
  go_wp2
  go_region_held3 (fun w' => w'.cell? ⟨w4.heap.size, 0, none⟩ = some (.int .i64 wd) ∧ w'.cell? ⟨w4.heap.size, 1, none⟩ = some (.slice (some ⟨gx, 0, none⟩) cs.length cs.length) ∧ w'.cell? ⟨w.heap.size, 0, none⟩ = some (.int .i64 wd) ∧ w'.cell? ⟨w.heap.size, 1, none⟩ = some (.slice a cs.length cap))
    (first
      | exact ⟨keepc hb8 (keepc hb7 r0), keepc hb8 (keepc hb7 r1), keepc hb8 (keepc hb7 p0), keepc hb8 (keepc hb7 p1)⟩
      | exact ⟨keepc hb7 r0, keepc hb7 r1, keepc hb7 p0, keepc hb7 p1⟩
      | go_keep)
    (first
      | (go_at_call 15; refine (toGrid_any _ _ _ cs _ (hC.below (by first | exact hB6 | exact hB6.drew)) hm2).mono ?_; rintro e w7 ⟨g7, rfl, hO7, hb7'⟩; have hb7 : Below w6.heap.size w6 w7 := (by first | exact hb7' | exact bdrew hb7'))
      | (go_at_call 17; refine (eqGrid_own _ _ _ _ _ _ cs cs _ (hOx.below hb7) hO7 hm2 hm2).mono ?_; rintro e w8 ⟨rfl, hb8'⟩; have hb8 : Below w7.heap.size w7 w8 := (by first | exact hb8' | exact bdrew hb8')))
  have hb68 : Below w6.heap.size w6 w8 := bcall hb7 hb7.size hb8
  have hz8 := hb68.size
  have hB8 : Below w.heap.size w w8 := bcall hB6 (by omega) hb68
  replace hO3 := hO3.below hb68
  replace hO5 := hO5.below hb68
  replace hOx := hOx.below hb68
  replace p0 := keepc hb68 p0; replace p1 := keepc hb68 p1; replace q0 := keepc hb68 q0; replace q1 := keepc hb68 q1; replace r0 := keepc hb68 r0; replace r1 := keepc hb68 r1; replace u0 := keepc hb68 u0; replace u1 := keepc hb68 u1
  clear hb7 hb7' hb8 hb8' hO7 hb68
  -- the argument is marked
  go_wp2_with fail
  refine (markGrid_own _ _ _ _ cs _ hOx hm2 (by omega)).mono ?_
  rintro e w9 ⟨rfl, _, hg9⟩
  have hz9 := hg9.size
  have n1 : some w.heap.size ≠ (Value.slice (some ⟨gx, 0, none⟩) cs.length cs.length).ownBlock := by simp [Value.ownBlock]; omega
  have n2 : some w3.heap.size ≠ (Value.slice (some ⟨gx, 0, none⟩) cs.length cs.length).ownBlock := by simp [Value.ownBlock]; omega
  have n3 : some w5.heap.size ≠ (Value.slice (some ⟨gx, 0, none⟩) cs.length cs.length).ownBlock := by simp [Value.ownBlock]; omega
  have hB9 : Below w.heap.size w w9 := hB8.grown hg9 (by omega) (fun k hk => by simp [Value.ownBlock] at hk; omega)
  replace hO3 := hO3.keptg hg9 (fun k hk e => by have := R3 k hk; simp [Value.ownBlock] at e; omega)
  replace hO5 := hO5.keptg hg9 (fun k hk e => by have := R5 k hk; simp [Value.ownBlock] at e; omega)
  replace p0 := keepg hg9 n1 p0
  replace p1 := keepg hg9 n1 p1
  replace q0 := keepg hg9 n2 q0
  replace q1 := keepg hg9 n2 q1
  replace u0 := keepg hg9 n3 u0
  replace u1 := keepg hg9 n3 u1
  clear hg9 n1 n2 n3 hOx r0 r1
  go_wp2_with fail
  refine (eqGrid_own _ _ _ _ _ _ tc tc _ hO5 hO3 htl htl).mono ?_
  rintro e w10 ⟨rfl, hb10⟩
  have hz10 := hb10.size
  have hB10 : Below w.heap.size w w10 := bcall hB9 (by omega) hb10
  replace hO3 := hO3.below hb10
  replace hO5 := hO5.below hb10
  replace p0 := keepc hb10 p0; replace p1 := keepc hb10 p1; replace q0 := keepc hb10 q0; replace q1 := keepc hb10 q1; replace u0 := keepc hb10 u0; replace u1 := keepc hb10 u1
  clear hb10
  -- the answer is marked
  go_wp2_with fail
  refine (markGrid_own _ _ _ _ tc _ hO5 htl (by omega)).mono ?_
  rintro e w11 ⟨rfl, hM, hg11⟩
  have hz11 := hg11.size
  have hB11 : Below w.heap.size w w11 := hB10.grown hg11 (by omega) (fun k hk => by have := R5 k hk; omega)
  have n1 : some w.heap.size ≠ (Value.slice a5 tc.length c5).ownBlock := ne_of_range R5 (by omega)
  have n2 : some w3.heap.size ≠ (Value.slice a5 tc.length c5).ownBlock := ne_of_range R5 (by omega)
  have n3 : some w5.heap.size ≠ (Value.slice a5 tc.length c5).ownBlock := ne_of_range R5 (by omega)
  replace hO3 := hO3.keptg hg11 (fun k hk e => by have := R3 k hk; have := R5 k e; omega)
  replace p0 := keepg hg11 n1 p0
  replace p1 := keepg hg11 n1 p1
  replace q0 := keepg hg11 n2 q0
  replace q1 := keepg hg11 n2 q1
  replace u0 := keepg hg11 n3 u0
  replace u1 := keepg hg11 n3 u1
  clear hg11 n1 n2 n3 hO5
  go_wp2_with fail
  refine (heldGrid_own _ _ _ _ tc.length _ hM htl (by omega)).mono ?_
  rintro e w12 ⟨rfl, hb12⟩
  have hz12 := hb12.size
  have hB12 : Below w.heap.size w w12 := bcall hB11 (by omega) hb12
  replace hO3 := hO3.below hb12
  replace hM := hM.below hb12
  replace p0 := keepc hb12 p0; replace p1 := keepc hb12 p1; replace q0 := keepc hb12 q0; replace q1 := keepc hb12 q1; replace u0 := keepc hb12 u0; replace u1 := keepc hb12 u1
  clear hb12
  -- another call
  go_wp2_with fail
  refine (toGrid_any _ _ _ cs _ (hC.below hB12) hm2).mono ?_
  rintro e w13 ⟨g13, rfl, hO13, hb13⟩
  have hz13 := hb13.size
  have hB13 : Below w.heap.size w w13 := bcall hB12 (by omega) hb13
  obtain ⟨a13, c13, e13, hC13⟩ := hO13.slice
  simp only [Value.slice.injEq] at e13
  obtain ⟨rfl, _, rfl⟩ := e13
  replace hO3 := hO3.below hb13
  replace hM := hM.below hb13
  replace p0 := keepc hb13 p0; replace p1 := keepc hb13 p1; replace q0 := keepc hb13 q0; replace q1 := keepc hb13 q1; replace u0 := keepc hb13 u0; replace u1 := keepc hb13 u1
  clear hb13 hO13
  go_wp2_with fail
  refine (CI.out _ _ _ hC13).mono ?_
  rintro e w14 ⟨v14, rfl, hO14, hb14⟩
  obtain ⟨a14, c14, rfl, -⟩ := hO14.slice
  have hz14 := hb14.size
  have hB14 : Below w.heap.size w w14 := bcall hB13 (by omega) hb14
  replace hO3 := hO3.below hb14
  replace hM := hM.below hb14
  replace p0 := keepc hb14 p0; replace p1 := keepc hb14 p1; replace q0 := keepc hb14 q0; replace q1 := keepc hb14 q1; replace u0 := keepc hb14 u0; replace u1 := keepc hb14 u1
  clear hb14 hC13
  have hbV : Below w14.heap.size w14 (w14.alloc (.cells #[.int .i64 tw, .slice a14 tc.length c14] 35)) := (by repeat (first | exact Below.refl _ _ | refine Below.alloc ?_ (by first | exact Nat.le_refl _ | (simp; done) | (simp; omega)) _ | refine Below.drew ?_ | refine Below.setCell ?_ (by first | exact Nat.le_refl _ | (simp; done) | (simp; omega)) _))
  have s1 : w.heap.size < w14.heap.size := by omega
  have s2 : w3.heap.size < w14.heap.size := by omega
  have s3x : w5.heap.size < w14.heap.size := by omega
  go_wp2_with fail
  refine (eqGrid_own _ _ _ _ _ _ tc tc _ (hO14.below hbV) (hO3.below hbV) htl htl).mono ?_
  rintro e w15 ⟨rfl, hb15⟩
  have hb1415 : Below w14.heap.size w14 w15 := bcall hbV (by simp) hb15
  have hz15 := hb1415.size
  have hB15 : Below w.heap.size w w15 := bcall hB14 (by omega) hb1415
  replace hM := hM.below hb1415
  replace u0 := keepc hb1415 u0; replace u1 := keepc hb1415 u1
  clear hb15 hbV hb1415 hO14 hO3 p0 p1 q0 q1
  go_wp2_with fail
  refine (heldGrid_own _ _ _ _ tc.length _ hM htl (by omega)).mono ?_
  rintro e w16 ⟨rfl, hb16⟩
  have hB16 : Below w.heap.size w w16 := bcall hB15 (by omega) hb16
  go_wp2
  go_ret
  exact ⟨rfl, hB16⟩

set_option maxRecDepth 100000 in
theorem lifted (os : Os) (started : os.Started) (H : Type) (enc : TypeId × Value → H) :
    ReturnsInHanded {} Try.checked os 8 .any (Rows.fnExactGridTurnSpec.pre6 enc Try.prog Try.f8 Rows.fnExactGridTurnRow.domain false) (Rows.fnExactGridTurnSpec.post enc Try.prog Try.f8 false true false false) := by
  refine returnsInHanded_of_change (C := Try.checked) own started (by kernel_rfl) Try.func8
    (ChangeSpec.witness6 (enc := enc) (C := Try.checked) false ⟨#[], #[.agg #[.int .i64 0, .slice none 0 0]], []⟩ 8 (by kernel_rfl) (by kernel_rfl) (by kernel_rfl) (by kernel_rfl)) ?_
  intro W base args ds gs before hval0 hW hcnd _
  have hval : ∀ (j : Nat) t v, Try.f8.params[j]? = some t → args[j]? = some v → Value.okWide Try.prog W .any base t v := hval0
  have hW' := hW
  obtain ⟨p, q, hA0, hV, rfl, hfz, hnd⟩ := hW
  have hA : DataW.TrodAll enc Try.prog W 0 (fun _ => true) true Try.f8.params.toList args.toList ds p := hA0
  rw [Try.params8] at hA hval
  obtain ⟨v0, vs0, d0, ds0, p0, q0, hargs, rfl, rfl, h0, r0⟩ := trodAll_cons hA
  obtain ⟨rfl, rfl, rfl⟩ := trodAll_nil r0
  obtain rfl : args = #[v0] := by cases args; simp_all
  obtain ⟨rfl, rfl⟩ := trodVars_none hV
  have k0 := h0
  have lt0 : ∀ x ∈ p0, x.block < W.heap.size := by obtain ⟨m, hm⟩ := k0; exact DataW.trod_lt m _ _ _ hm
  obtain ⟨wd0, a0, cap0, cs0, rfl, hC0, hm0⟩ := open_grid (hval 0 30 v0 rfl rfl) h0
  clear hA0 hval0
  refine (walk wd0 a0 cap0 cs0 W hC0 hm0).mono fun e W' ⟨he, bel⟩ => ?_
  subst he
  exact ⟨_, rfl, _, _, _, [], _, [], hW', trodAll_mk1 (shut_bool Try.underlying4 _), (trodAll_cons_mk (Below.trod laidOut (by kernel_rfl) (of_decide_eq_true (by kernel_rfl)) k0 bel lt0) trodAll_mk0), rfl, bel.frame _, fun h => by cases h⟩

theorem over : Rows.fnExactGridTurnRow.holds Try.pinned (OpenSpec.ofChange Rows.fnExactGridTurnSpec) :=
  OpenClaim.holds_of_wide 8 Try.f8 rfl rfl rfl rfl rfl rfl rfl ⟨rfl, rfl, rfl, rfl, rfl⟩ rfl rfl rfl rfl rfl (by kernel_rfl) Try.func8 (by kernel_rfl)
    (of_decide_eq_true (by kernel_rfl)) (by unfold Func.isWrapper; first | (rw [if_pos (by decide +kernel)]; kernel_rfl) | (rw [if_neg (by decide +kernel)]; exact ⟨rfl, rfl⟩))
    (fun os started H enc _ => lifted os started H enc)

end Go.Proofs.Ythcgeibkgnggdaa.ExGridTurn

namespace Go.Proofs.Ythcgeibkgnggdaa
/-- The statement. -/
theorem exGridTurn : Rows.FnExactGridTurnSaid := ExGridTurn.over
#print axioms exGridTurn
end Go.Proofs.Ythcgeibkgnggdaa
