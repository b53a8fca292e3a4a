/-
  'laws.FnExactPaintOwn' returns true for every grid, number of a painter and number of painters: impl.PaintOwn answers as spec.PaintOwn, writes into no argument, keeps nothing of one, and its answer owns its memory, behind another call too. No condition.
-/
import Derived.Test.YtjlnfcnmlloblaaFa
import Derived.Test.YtjlnfcnmlloblaaJq
import Derived.Test.YtjlnfcnmlloblaaWb
import Derived.Deep.RegionHeld3
namespace Go.Proofs.Ytjlnfcnmlloblaa.ExPaintOwn
open Go.ChangeShapes Go.WideShapes Go.ChangeAt Go.RowKit Go.Joins Go.Deep
set_option linter.unusedVariables false

theorem ownNN (wd : Int) (cs : List (Int × Int)) (id m : Int) (hm : cs.length ≤ 1048576) : ∃ (n : Nat) (f : Nat → Int), n ≤ 1048576 ∧
    (∀ (a : Option Addr) (cap : Nat) (w : World), CellsAt w a cs → Calls Try.prog 6 #[.agg #[.int .i64 wd, .slice a cs.length cap], .int .i64 id, .int .i64 m] w (AnsI w n 1 f)) ∧
    (∀ (a : Option Addr) (cap : Nat) (w : World), CellsAt w a cs → Calls Try.prog 8 #[.agg #[.int .i64 wd, .slice a cs.length cap], .int .i64 id, .int .i64 m] w (AnsI w n 1 f)) := by
  refine ⟨(ownN wd cs id m).length, fun j => intOf ((intsV (ownN wd cs id m)).getD j (.int .i64 0)), Nat.le_trans (ownN_le _ _ _ _) (by omega), ?_, ?_⟩
  · intro a cap w h
    refine (implOwn_any wd a cap cs w h hm id m).mono ?_
    rintro r w' ⟨v, rfl, ho, hb⟩
    obtain ⟨a3, c3, e, hR, hn, ho2⟩ := own_RI ho (ints_int _)
    exact ⟨a3, c3, by rw [e], hR, hn, ho2, hb⟩
  · intro a cap w h
    refine (specOwn_any wd a cap cs w h hm id m).mono ?_
    rintro r w' ⟨v, rfl, ho, hb⟩
    obtain ⟨a3, c3, e, hR, hn, ho2⟩ := own_RI ho (ints_int _)
    exact ⟨a3, c3, by rw [e], hR, hn, ho2, hb⟩

set_option maxHeartbeats 4000000 in
theorem walk (wd : Int) (a : Option Addr) (cap : Nat) (cs : List (Int × Int)) (id m : Int) (w : World) (hC : CellsAt w a cs) (hm : cs.length ≤ 9223372036854775807) (wfk : (Lit.int .i64 id).wf = true) (wfm : (Lit.int .i64 m).wf = true) :
    Calls Try.prog 4 #[.agg #[.int .i64 wd, .slice a cs.length cap], .int .i64 id, .int .i64 m] w fun e w' => e = .returned (.bool true) ∧ Below w.heap.size w w' := by
  clear wfk wfm
  by_cases hbig : (1048576 : Int) - cs.length < 0
  · go_enter Try.func4, Try.ntmps4
    go_wp2_with fail
    refine (szGrid_any _ _ _ _ _ _ hm (by omega)).mono ?_
    rintro e w1 ⟨rfl, hb1⟩
    go_wp2
    go_ret
    exact ⟨rfl, bcall (by repeat (first | exact Below.refl _ _ | refine Below.alloc ?_ (by first | exact Nat.le_refl _ | (simp; done) | (simp; omega)) _ | refine Below.drew ?_ | refine Below.setCell ?_ (by first | exact Nat.le_refl _ | (simp; done) | (simp; omega)) _)) (by simp) hb1⟩
  have hm2 : cs.length ≤ 1048576 := by omega
  obtain ⟨n, f, hn, ci, cp⟩ := ownNN wd cs id m hm2
  have hn2 : n ≤ 1048576 := by omega
  have CI : Hid (∀ (a : Option Addr) (cap : Nat) (w : World), CellsAt w a cs → Calls Try.prog 6 #[.agg #[.int .i64 wd, .slice a cs.length cap], .int .i64 id, .int .i64 m] w (AnsI w n 1 f)) := ci
  have CS : Hid (∀ (a : Option Addr) (cap : Nat) (w : World), CellsAt w a cs → Calls Try.prog 8 #[.agg #[.int .i64 wd, .slice a cs.length cap], .int .i64 id, .int .i64 m] w (AnsI w n 1 f)) := cp
  have heq2 : eqG wd wd cs cs = true := by simp [eqG]
  clear ci cp
  go_enter Try.func4, Try.ntmps4
  go_wp2_with fail
  refine (szGrid_any _ _ _ _ _ _ hm (by omega)).mono ?_
  rintro e w1 ⟨rfl, hb1⟩
  have hz1 := hb1.size
  simp at hz1
  have hB1 : Below w.heap.size w w1 := bcall (by repeat (first | exact Below.refl _ _ | refine Below.alloc ?_ (by first | exact Nat.le_refl _ | (simp; done) | (simp; omega)) _ | refine Below.drew ?_ | refine Below.setCell ?_ (by first | exact Nat.le_refl _ | (simp; done) | (simp; omega)) _)) (by simp) hb1
  have p0 : w1.cell? ⟨w.heap.size, 0, none⟩ = some (.int .i64 wd) := keepc hb1 (by simp [go_sem])
  have p1 : w1.cell? ⟨w.heap.size, 1, none⟩ = some (.slice a cs.length cap) := keepc hb1 (by simp [go_sem])
  clear hb1
  -- what is wanted
  go_wp2_with fail
  refine (toGrid_any _ _ _ cs _ (hC.below hB1) hm2).mono ?_
  rintro e w2 ⟨g2, rfl, hO2, hb2⟩
  have hz2 := hb2.size
  have hB2 : Below w.heap.size w w2 := bcall hB1 (by omega) hb2
  replace p0 := keepc hb2 p0; replace p1 := keepc hb2 p1
  obtain ⟨a2, c2, e2, hC2⟩ := hO2.slice
  simp only [Value.slice.injEq] at e2
  obtain ⟨rfl, _, rfl⟩ := e2
  clear hb2 hO2
  go_wp2_with fail
  refine (CS.out _ _ _ hC2).mono ?_
  rintro e w3 ⟨a3, c3, rfl, hR3, hN3, _, hb3⟩
  have hz3 := hb3.size
  have hB3 : Below w.heap.size w w3 := bcall hB2 (by omega) hb3
  replace p0 := keepc hb3 p0; replace p1 := keepc hb3 p1
  clear hb3 hC2
  go_wp2_with fail
  refine (toGrid_any _ _ _ cs _ (hC.below hB3) hm2).mono ?_
  rintro e w4 ⟨gx, rfl, hOx, hb4⟩
  have hz4 := hb4.size
  have hB4 : Below w.heap.size w w4 := bcall hB3 (by omega) hb4
  replace hR3 := hR3.below hb4
  have Rx := hOx.lt
  replace p0 := keepc hb4 p0; replace p1 := keepc hb4 p1
  clear hb4
  -- the argument's box
  have hbY : Below w4.heap.size w4 (w4.alloc (.cells #[.int .i64 wd, .slice (some ⟨gx, 0, none⟩) cs.length cs.length] 25)) := (by repeat (first | exact Below.refl _ _ | refine Below.alloc ?_ (by first | exact Nat.le_refl _ | (simp; done) | (simp; omega)) _ | refine Below.drew ?_ | refine Below.setCell ?_ (by first | exact Nat.le_refl _ | (simp; done) | (simp; omega)) _))
  have hOxY := hOx.below hbY
  obtain ⟨ax, cx, ex, hCx⟩ := hOxY.slice
  simp only [Value.slice.injEq] at ex
  obtain ⟨rfl, _, rfl⟩ := ex
  go_wp2_with fail
  refine (CI.out _ _ _ hCx).mono ?_
  rintro e w5 ⟨a5, c5, rfl, hR5, hN5, hW5, hb5⟩
  have hz5 := hb5.size
  simp at hz5
  have hN5' : ∀ b off, a5 = some ⟨b, off, none⟩ → w4.heap.size + 1 ≤ b ∧ b < w5.heap.size := fun b off e => by have := hN5 b off e; simp at this; omega
  have r0 : w5.cell? ⟨w4.heap.size, 0, none⟩ = some (.int .i64 wd) := keepc hb5 (by simp [go_sem])
  have r1 : w5.cell? ⟨w4.heap.size, 1, none⟩ = some (.slice (some ⟨gx, 0, none⟩) cs.length cs.length) := keepc hb5 (by simp [go_sem])
  have hb45 : Below w4.heap.size w4 w5 := bcall hbY (by simp) hb5
  have hB5 : Below w.heap.size w w5 := bcall hB4 (by omega) hb45
  replace hR3 := hR3.below hb45
  replace hOx := hOx.below hb45
  replace p0 := keepc hb45 p0; replace p1 := keepc hb45 p1
  clear hb5 hbY hb45 hOxY hCx hN5
  go_wp2_with fail
  refine (eqIntS_same _ _ _ _ n f _ hR5 hR3 hn2).mono ?_
  rintro e w6 ⟨rfl, hb6⟩
  have hz6 := hb6.size
  have hB6 : Below w.heap.size w w6 := bcall hB5 (by omega) hb6
  replace hR3 := hR3.below hb6
  replace hR5 := hR5.below hb6
  replace hOx := hOx.below hb6
  replace p0 := keepc hb6 p0; replace p1 := keepc hb6 p1; replace r0 := keepc hb6 r0; replace r1 := keepc hb6 r1
  clear hb6
  go_wp2
  go_region_held3 (fun w' => w'.cell? ⟨w4.heap.size, 0, none⟩ = some (.int .i64 wd) ∧ w'.cell? ⟨w4.heap.size, 1, none⟩ = some (.slice (some ⟨gx, 0, none⟩) cs.length cs.length) ∧ w'.cell? ⟨w.heap.size, 0, none⟩ = some (.int .i64 wd) ∧ w'.cell? ⟨w.heap.size, 1, none⟩ = some (.slice a cs.length cap))
    (first
      | exact ⟨keepc hb8 (keepc hb7 r0), keepc hb8 (keepc hb7 r1), keepc hb8 (keepc hb7 p0), keepc hb8 (keepc hb7 p1)⟩
      | exact ⟨keepc hb7 r0, keepc hb7 r1, keepc hb7 p0, keepc hb7 p1⟩
      | go_keep)
    (first
      | (go_at_call 13; refine (toGrid_any _ _ _ cs _ (hC.below (by first | exact hB6 | exact hB6.drew)) hm2).mono ?_; rintro e w7 ⟨g7, rfl, hO7, hb7'⟩; have hb7 : Below w6.heap.size w6 w7 := (by first | exact hb7' | exact bdrew hb7'))
      | (go_at_call 15; refine (eqGrid_own _ _ _ _ _ _ cs cs _ (hOx.below hb7) hO7 hm2 hm2).mono ?_; rintro e w8 ⟨rfl, hb8'⟩; have hb8 : Below w7.heap.size w7 w8 := (by first | exact hb8' | exact bdrew hb8'))
      | fail)
  have hb68 : Below w6.heap.size w6 w8 := bcall hb7 hb7.size hb8
  have hz8 := hb68.size
  have hB8 : Below w.heap.size w w8 := bcall hB6 (by omega) hb68
  replace hR3 := hR3.below hb68
  replace hR5 := hR5.below hb68
  replace hOx := hOx.below hb68
  replace p0 := keepc hb68 p0; replace p1 := keepc hb68 p1; replace r0 := keepc hb68 r0; replace r1 := keepc hb68 r1
  clear hb7 hb7' hb8 hb8' hO7 hb68
  -- the argument is marked
  go_wp2_with fail
  refine (markGrid_own _ _ _ _ cs _ hOx hm2 (by omega)).mono ?_
  rintro e w9 ⟨rfl, _, hg9⟩
  have hz9 := hg9.size
  have n1 : some w.heap.size ≠ (Value.slice (some ⟨gx, 0, none⟩) cs.length cs.length).ownBlock := by simp [Value.ownBlock]; omega
  have hB9 : Below w.heap.size w w9 := hB8.grown hg9 (by omega) (fun k hk => by simp [Value.ownBlock] at hk; omega)
  replace hR3 := hR3.grown hg9 (fun b off e => by have := hN3 b off e; simp [Value.ownBlock]; omega)
  replace hR5 := hR5.grown hg9 (fun b off e => by have := hN5' b off e; simp [Value.ownBlock]; omega)
  replace p0 := keepg hg9 n1 p0
  replace p1 := keepg hg9 n1 p1
  clear hg9 hOx r0 r1 n1
  have bk : decide ((1 : Int) + 2 * (cs.length : Int) < 0) = false := decide_eq_false (by omega)
  go_wp2_with fail
  refine (eqIntS_same _ _ _ _ n f _ hR5 hR3 hn2).mono ?_
  rintro e wa ⟨rfl, hba⟩
  have hza := hba.size
  have hBa : Below w.heap.size w wa := bcall hB9 (by omega) hba
  replace hR3 := hR3.below hba
  replace hR5 := hR5.below hba
  replace p0 := keepc hba p0; replace p1 := keepc hba p1
  clear hba
  -- the answer is marked
  go_wp2_with fail
  refine (markIntS_any 1 a5 n c5 f _ hR5 hn2 (by omega)).mono ?_
  rintro e wb ⟨rfl, hRm, hgb⟩
  have hzb := hgb.size
  have nob : ∀ b, (Value.slice a5 n c5).ownBlock = some b → w4.heap.size + 1 ≤ b := fun b hb => by have := hW5 b hb; simp at this; omega
  have hBb : Below w.heap.size w wb := hBa.grown hgb (by omega) (fun k hk => by have := nob k hk; omega)
  replace hR3 := hR3.grown hgb (fun b off e q => by have := hN3 b off e; have := nob b q.symm; omega)
  have n1 : some w.heap.size ≠ (Value.slice a5 n c5).ownBlock := fun q => by have := nob _ q.symm; omega
  replace p0 := keepg hgb n1 p0
  replace p1 := keepg hgb n1 p1
  clear hgb n1 nob hR5
  go_wp2_with fail
  refine (heldIntS_any 1 a5 n c5 _ hRm hn2 (by omega)).mono ?_
  rintro e w' ⟨rfl, rfl⟩
  have bq : decide ((1 : Int) + 1 * (n : Int) < 0) = false := decide_eq_false (by omega)
  have bm : ((1 : Int) + 1 * (n : Int) != 1 + 1 * (n : Int)) = false := by simp
  go_wp2_with fail
  refine (toGrid_any _ _ _ cs _ (hC.below hBb) hm2).mono ?_
  rintro e wc ⟨gc, rfl, hOc, hbc⟩
  have hzc := hbc.size
  have hBc : Below w.heap.size w wc := bcall hBb (by omega) hbc
  replace hR3 := hR3.below hbc
  replace hRm := hRm.below hbc
  obtain ⟨ac, cc, ec, hCc⟩ := hOc.slice
  simp only [Value.slice.injEq] at ec
  obtain ⟨rfl, _, rfl⟩ := ec
  clear hbc hOc p0 p1
  go_wp2_with fail
  refine (CI.out _ _ _ hCc).mono ?_
  rintro e wd' ⟨ad, cd, rfl, hRd, hNd, _, hbd⟩
  have hzd := hbd.size
  have hBd : Below w.heap.size w wd' := bcall hBc (by omega) hbd
  replace hR3 := hR3.below hbd
  replace hRm := hRm.below hbd
  clear hbd hCc
  go_wp2_with fail
  refine (eqIntS_same _ _ _ _ n f _ hRd hR3 hn2).mono ?_
  rintro e we ⟨rfl, hbe⟩
  have hBe : Below w.heap.size w we := bcall hBd (by omega) hbe
  replace hRm := hRm.below hbe
  clear hbe hR3 hRd
  go_wp2_with fail
  refine (heldIntS_any 1 a5 n c5 _ hRm hn2 (by omega)).mono ?_
  rintro e w' ⟨rfl, rfl⟩
  go_wp2
  go_ret
  exact ⟨rfl, hBe⟩

set_option maxRecDepth 100000 in
theorem lifted (os : Os) (started : os.Started) (H : Type) (enc : TypeId × Value → H) :
    ReturnsInHanded {} Try.checked os 4 .any (Rows.fnExactPaintOwnSpec.pre6 enc Try.prog Try.f4 Rows.fnExactPaintOwnRow.domain false) (Rows.fnExactPaintOwnSpec.post enc Try.prog Try.f4 false true false false) := by
  refine returnsInHanded_of_change (C := Try.checked) own started (by kernel_rfl) Try.func4
    (ChangeSpec.witness6 (enc := enc) (C := Try.checked) false ⟨#[], #[.agg #[.int .i64 0, .slice none 0 0], .int .i64 0, .int .i64 0], []⟩ 8 (by kernel_rfl) (by kernel_rfl) (by kernel_rfl) (by kernel_rfl)) ?_
  intro W base args ds gs before hval0 hW hcnd _
  have hval : ∀ (j : Nat) t v, Try.f4.params[j]? = some t → args[j]? = some v → Value.okWide Try.prog W .any base t v := hval0
  have hW' := hW
  obtain ⟨p, q, hA0, hV, rfl, hfz, hnd⟩ := hW
  have hA : DataW.TrodAll enc Try.prog W 0 (fun _ => true) true Try.f4.params.toList args.toList ds p := hA0
  rw [Try.params4] at hA hval
  obtain ⟨v0, vs0, d0, ds0, p0, q0, hargs, rfl, rfl, h0, r0⟩ := trodAll_cons hA
  obtain ⟨v1, vs1, d1, ds1, p1, q1, rfl, rfl, rfl, h1, r1⟩ := trodAll_cons r0
  obtain ⟨v2, vs2, d2, ds2, p2, q2, rfl, rfl, rfl, h2, r2⟩ := trodAll_cons r1
  obtain ⟨rfl, rfl, rfl⟩ := trodAll_nil r2
  obtain rfl : args = #[v0, v1, v2] := by cases args; simp_all
  obtain ⟨rfl, rfl⟩ := trodVars_none hV
  have k0 := h0
  have lt0 : ∀ x ∈ p0, x.block < W.heap.size := by obtain ⟨m, hm⟩ := k0; exact DataW.trod_lt m _ _ _ hm
  obtain ⟨wd0, a0, cap0, cs0, rfl, hC0, hm0⟩ := open_grid (hval 0 37 v0 rfl rfl) h0
  have k1 := h1
  have lt1 : ∀ x ∈ p1, x.block < W.heap.size := by obtain ⟨m, hm⟩ := k1; exact DataW.trod_lt m _ _ _ hm
  obtain ⟨x1, rfl, _, _, wx1⟩ := open_int Try.underlying3 (hval 1 3 v1 rfl rfl) h1
  have k2 := h2
  have lt2 : ∀ x ∈ p2, x.block < W.heap.size := by obtain ⟨m, hm⟩ := k2; exact DataW.trod_lt m _ _ _ hm
  obtain ⟨x2, rfl, _, _, wx2⟩ := open_int Try.underlying3 (hval 2 3 v2 rfl rfl) h2
  clear hA0 hval0
  refine (walk wd0 a0 cap0 cs0 x1 x2 W hC0 hm0 wx1 wx2).mono fun e W' ⟨he, bel⟩ => ?_
  subst he
  exact ⟨_, rfl, _, _, _, [], _, [], hW', trodAll_mk1 (shut_bool Try.underlying4 _), (trodAll_cons_mk (Below.trod laidOut (by kernel_rfl) (of_decide_eq_true (by kernel_rfl)) k0 bel lt0) (trodAll_cons_mk (Below.trod laidOut (by kernel_rfl) (of_decide_eq_true (by kernel_rfl)) k1 bel lt1) (trodAll_cons_mk (Below.trod laidOut (by kernel_rfl) (of_decide_eq_true (by kernel_rfl)) k2 bel lt2) trodAll_mk0))), rfl, bel.frame _, fun h => by cases h⟩

theorem over : Rows.fnExactPaintOwnRow.holds Try.pinned (OpenSpec.ofChange Rows.fnExactPaintOwnSpec) :=
  OpenClaim.holds_of_wide 4 Try.f4 rfl rfl rfl rfl rfl rfl rfl ⟨rfl, rfl, rfl, rfl, rfl⟩ rfl rfl rfl rfl rfl (by kernel_rfl) Try.func4 (by kernel_rfl)
    (of_decide_eq_true (by kernel_rfl)) (by unfold Func.isWrapper; first | (rw [if_pos (by decide +kernel)]; kernel_rfl) | (rw [if_neg (by decide +kernel)]; exact ⟨rfl, rfl⟩))
    (fun os started H enc _ => lifted os started H enc)

end Go.Proofs.Ytjlnfcnmlloblaa.ExPaintOwn

namespace Go.Proofs.Ytjlnfcnmlloblaa
/-- The statement. -/
theorem exPaintOwn : Rows.FnExactPaintOwnSaid := ExPaintOwn.over
#print axioms exPaintOwn
end Go.Proofs.Ytjlnfcnmlloblaa
