/-
  'laws.FnExactTrailLight' returns true for every grid and sight: impl.TrailLight answers as spec.TrailLight, and writes into no argument. No condition.
-/
import Derived.Test.YtffjogoamobfoaaFa
import Derived.Test.YtffjogoamobfoaaJt
import Derived.Deep.RegionHeld3
namespace Go.Proofs.Ytffjogoamobfoaa.ExTrailLight
open Go.ChangeShapes Go.WideShapes Go.ChangeAt Go.RowKit Go.Joins Go.Deep
set_option linter.unusedVariables false

set_option maxHeartbeats 2000000 in
theorem walk (wd : Int) (a : Option Addr) (cap : Nat) (cs : List (Int × Int)) (k : Int) (w : World) (hC : CellsAt w a cs) (hm : cs.length ≤ 9223372036854775807) (wfk : (Lit.int .i64 k).wf = true) :
    Calls Try.prog 13 #[.agg #[.int .i64 wd, .slice a cs.length cap], .int .i64 k] w fun e w' => e = .returned (.bool true) ∧ Below w.heap.size w w' := by
  clear wfk
  by_cases hbig : (1048576 : Int) - cs.length < 0
  · go_enter Try.func13, Try.ntmps13
    go_wp2_with fail
    refine (szGrid_any _ _ _ _ _ _ hm (by omega)).mono ?_
    rintro e w1 ⟨rfl, hb1⟩
    go_wp2
    go_ret
    exact ⟨rfl, bcall (by repeat (first | exact Below.refl _ _ | refine Below.alloc ?_ (by first | exact Nat.le_refl _ | (simp; done) | (simp; omega)) _ | refine Below.drew ?_ | refine Below.setCell ?_ (by first | exact Nat.le_refl _ | (simp; done) | (simp; omega)) _)) (by simp) hb1⟩
  · have hm2 : cs.length ≤ 1048576 := by omega
    obtain ⟨v, ev⟩ : ∃ v, lightN wd cs k = v := ⟨_, rfl⟩
    have EV : Hid (lightN wd cs k = v) := ev
    clear ev
    go_enter Try.func13, Try.ntmps13
    go_wp2_with fail
    refine (szGrid_any _ _ _ _ _ _ hm (by omega)).mono ?_
    rintro e w1 ⟨rfl, hb1⟩
    have hz1 := hb1.size
    simp at hz1
    have hB1 : Below w.heap.size w w1 := bcall (by repeat (first | exact Below.refl _ _ | refine Below.alloc ?_ (by first | exact Nat.le_refl _ | (simp; done) | (simp; omega)) _ | refine Below.drew ?_ | refine Below.setCell ?_ (by first | exact Nat.le_refl _ | (simp; done) | (simp; omega)) _)) (by simp) hb1
    have p0 : w1.cell? ⟨w.heap.size, 0, none⟩ = some (.int .i64 wd) := keepc hb1 (by simp [go_sem])
    have p1 : w1.cell? ⟨w.heap.size, 1, none⟩ = some (.slice a cs.length cap) := keepc hb1 (by simp [go_sem])
    clear hb1
    go_wp2_with fail
    refine (toGrid_any _ _ _ cs _ (hC.below hB1) hm2).mono ?_
    rintro e w2 ⟨g2, rfl, hO2, hb2⟩
    have hz2 := hb2.size
    have hB2 : Below w.heap.size w w2 := bcall hB1 (by omega) hb2
    replace p0 := keepc hb2 p0; replace p1 := keepc hb2 p1
    obtain ⟨a2, cap2, e2, hC2⟩ := hO2.slice
    simp only [Value.slice.injEq] at e2
    obtain ⟨rfl, _, rfl⟩ := e2
    clear hb2 hO2
    go_wp2_with fail
    refine (specLight_any _ _ _ cs _ hC2 hm2 k).mono ?_
    rintro e w3 ⟨rfl, hb3⟩
    rw [EV.out]
    have hz3 := hb3.size
    have hB3 : Below w.heap.size w w3 := bcall hB2 (by omega) hb3
    replace p0 := keepc hb3 p0; replace p1 := keepc hb3 p1
    clear hb3 hC2
    go_wp2_with fail
    refine (toGrid_any _ _ _ cs _ (hC.below hB3) hm2).mono ?_
    rintro e w4 ⟨g4, rfl, hO4, hb4⟩
    have hz4 := hb4.size
    have hB4 : Below w.heap.size w w4 := bcall hB3 (by omega) hb4
    replace p0 := keepc hb4 p0; replace p1 := keepc hb4 p1
    clear hb4 hB3
    have hbT : Below w4.heap.size w4 (w4.alloc (.cells #[.int .i64 wd, .slice (some ⟨g4, 0, none⟩) cs.length cs.length] 25)) := (by repeat (first | exact Below.refl _ _ | refine Below.alloc ?_ (by first | exact Nat.le_refl _ | (simp; done) | (simp; omega)) _ | refine Below.drew ?_ | refine Below.setCell ?_ (by first | exact Nat.le_refl _ | (simp; done) | (simp; omega)) _))
    have q0 : (w4.alloc (.cells #[.int .i64 wd, .slice (some ⟨g4, 0, none⟩) cs.length cs.length] 25)).cell? ⟨w4.heap.size, 0, none⟩ = some (.int .i64 wd) := by simp [go_sem]
    have q1 : (w4.alloc (.cells #[.int .i64 wd, .slice (some ⟨g4, 0, none⟩) cs.length cs.length] 25)).cell? ⟨w4.heap.size, 1, none⟩ = some (.slice (some ⟨g4, 0, none⟩) cs.length cs.length) := by simp [go_sem]
    replace p0 := keepc hbT p0; replace p1 := keepc hbT p1
    obtain ⟨a4, cap4, e4, hC4⟩ := hO4.slice
    simp only [Value.slice.injEq] at e4
    obtain ⟨rfl, _, rfl⟩ := e4
    replace hC4 := hC4.below hbT
    have hBT := bcall hB4 (by omega) hbT
    clear hO4 hB4 hbT
    go_wp2_with fail
    refine (implLight_any _ _ _ cs _ hC4 hm2 k).mono ?_
    rintro e w6 ⟨rfl, hb6⟩
    rw [EV.out]
    have hz6 := hb6.size
    simp at hz6
    have hB6 : Below w.heap.size w w6 := bcall hBT (by simp; omega) hb6
    replace p0 := keepc hb6 p0; replace p1 := keepc hb6 p1; replace q0 := keepc hb6 q0; replace q1 := keepc hb6 q1
    replace hC4 := hC4.below hb6
    clear hb6 hBT
    have hbb : (v != v) = false := by simp
    have heq : eqG wd wd cs cs = true := by simp [eqG]
    have hCw := hC.below hB6
    go_wp2
    go_region_held3 (fun w' => w'.cell? ⟨w.heap.size, 0, none⟩ = some (.int .i64 wd) ∧ w'.cell? ⟨w.heap.size, 1, none⟩ = some (.slice a cs.length cap) ∧ w'.cell? ⟨w4.heap.size, 0, none⟩ = some (.int .i64 wd) ∧ w'.cell? ⟨w4.heap.size, 1, none⟩ = some (.slice (some ⟨g4, 0, none⟩) cs.length cs.length))
      (first
        | with_reducible exact ⟨keepc hb8 p0, keepc hb8 p1, keepc hb8 q0, keepc hb8 q1⟩
        | with_reducible exact ⟨keepc hb7 p0, keepc hb7 p1, keepc hb7 q0, keepc hb7 q1⟩
        | go_keep)
      (first
        | (go_at_call 41; refine (toGrid_any _ _ _ cs _ (by first | with_reducible exact hCw | with_reducible exact hCw.below (Below.refl _ _).drew) hm2).mono ?_; rintro e w7 ⟨g7, rfl, hO7, hb7'⟩; have hb7 : Below w6.heap.size w6 w7 := (by first | with_reducible exact hb7' | with_reducible exact bdrew hb7'); obtain ⟨a7, cap7, e7, hC7⟩ := hO7.slice; simp only [Value.slice.injEq] at e7; obtain ⟨rfl, _, rfl⟩ := e7)
        | (go_at_call 43; refine (eqGrid_any _ _ _ _ _ _ cs cs _ (hC4.below hb7) hC7 hm2 hm2).mono ?_; rintro e w8 ⟨rfl, hb8'⟩; have hb8 : Below w6.heap.size w6 w8 := bcall hb7 hb7.size hb8')
        | fail)
    have hB8 := bcall hB6 (by omega) hb8
    go_wp2
    go_ret
    exact ⟨rfl, hB8⟩

set_option maxRecDepth 100000 in
theorem lifted (os : Os) (started : os.Started) (H : Type) (enc : TypeId × Value → H) :
    ReturnsInHanded {} Try.checked os 13 .any (Rows.fnExactTrailLightSpec.pre6 enc Try.prog Try.f13 Rows.fnExactTrailLightRow.domain false) (Rows.fnExactTrailLightSpec.post enc Try.prog Try.f13 false true false false) := by
  refine returnsInHanded_of_change (C := Try.checked) own started (by kernel_rfl) Try.func13
    (ChangeSpec.witness6 (enc := enc) (C := Try.checked) false ⟨#[], #[.agg #[.int .i64 0, .slice none 0 0], .int .i64 0], []⟩ 8 (by kernel_rfl) (by kernel_rfl) (by kernel_rfl) (by kernel_rfl)) ?_
  intro W base args ds gs before hval0 hW hcnd _
  have hval : ∀ (j : Nat) t v, Try.f13.params[j]? = some t → args[j]? = some v → Value.okWide Try.prog W .any base t v := hval0
  have hW' := hW
  obtain ⟨p, q, hA0, hV, rfl, hfz, hnd⟩ := hW
  have hA : DataW.TrodAll enc Try.prog W 0 (fun _ => true) true Try.f13.params.toList args.toList ds p := hA0
  rw [Try.params13] at hA hval
  obtain ⟨v0, vs0, d0, ds0, p0, q0, hargs, rfl, rfl, h0, r0⟩ := trodAll_cons hA
  obtain ⟨v1, vs1, d1, ds1, p1, q1, rfl, rfl, rfl, h1, r1⟩ := trodAll_cons r0
  obtain ⟨rfl, rfl, rfl⟩ := trodAll_nil r1
  obtain rfl : args = #[v0, v1] := by cases args; simp_all
  obtain ⟨rfl, rfl⟩ := trodVars_none hV
  have k0 := h0
  have lt0 : ∀ x ∈ p0, x.block < W.heap.size := by obtain ⟨m, hm⟩ := k0; exact DataW.trod_lt m _ _ _ hm
  obtain ⟨wd0, a0, cap0, cs0, rfl, hC0, hm0⟩ := open_grid (hval 0 62 v0 rfl rfl) h0
  have k1 := h1
  have lt1 : ∀ x ∈ p1, x.block < W.heap.size := by obtain ⟨m, hm⟩ := k1; exact DataW.trod_lt m _ _ _ hm
  obtain ⟨x1, rfl, _, _, wx1⟩ := open_int Try.underlying3 (hval 1 3 v1 rfl rfl) h1
  clear hA0 hval0
  refine (walk wd0 a0 cap0 cs0 x1 W hC0 hm0 wx1).mono fun e W' ⟨he, bel⟩ => ?_
  subst he
  exact ⟨_, rfl, _, _, _, [], _, [], hW', trodAll_mk1 (shut_bool Try.underlying4 _), (trodAll_cons_mk (Below.trod laidOut (by kernel_rfl) (of_decide_eq_true (by kernel_rfl)) k0 bel lt0) (trodAll_cons_mk (Below.trod laidOut (by kernel_rfl) (of_decide_eq_true (by kernel_rfl)) k1 bel lt1) trodAll_mk0)), rfl, bel.frame _, fun h => by cases h⟩

theorem over : Rows.fnExactTrailLightRow.holds Try.pinned (OpenSpec.ofChange Rows.fnExactTrailLightSpec) :=
  OpenClaim.holds_of_wide 13 Try.f13 rfl rfl rfl rfl rfl rfl rfl ⟨rfl, rfl, rfl, rfl, rfl⟩ rfl rfl rfl rfl rfl (by kernel_rfl) Try.func13 (by kernel_rfl)
    (of_decide_eq_true (by kernel_rfl)) (by unfold Func.isWrapper; first | (rw [if_pos (by decide +kernel)]; kernel_rfl) | (rw [if_neg (by decide +kernel)]; exact ⟨rfl, rfl⟩))
    (fun os started H enc _ => lifted os started H enc)

end Go.Proofs.Ytffjogoamobfoaa.ExTrailLight

namespace Go.Proofs.Ytffjogoamobfoaa
/-- The statement. -/
theorem exTrailLight : Rows.FnExactTrailLightSaid := ExTrailLight.over
#print axioms exTrailLight
end Go.Proofs.Ytffjogoamobfoaa
