/-
  'laws.FnExactGridText' returns true for every grid: impl.GridText answers as spec.GridText at every width and every list of cells, and writes into no argument. No condition.
-/
import Derived.Test.YtgichlfkhmomhaaFa
import Derived.Test.YtgichlfkhmomhaaSf
namespace Go.Proofs.Ytgichlfkhmomhaa.ExGridText
open Go.ChangeShapes Go.WideShapes Go.ChangeAt Go.RowKit Go.Joins Go.Deep
set_option linter.unusedVariables false

set_option maxHeartbeats 800000 in
theorem walk (wd : Int) (a : Option Addr) (cap : Nat) (cs : List (Int × Int)) (w : World) (hC : CellsAt w a cs) (hm : cs.length ≤ 9223372036854775807) :
    Calls Try.prog 8 #[.agg #[.int .i64 wd, .slice a cs.length cap]] w fun e w' => e = .returned (.bool true) ∧ Below w.heap.size w w' := by
  by_cases hbig : (1048576 : Int) - cs.length < 0
  · go_enter Try.func8, Try.ntmps8
    go_wp2_with fail
    refine (szGrid_any _ _ _ _ _ _ hm (by omega)).mono ?_
    rintro e w1 ⟨rfl, hb1⟩
    go_wp2
    go_ret
    exact ⟨rfl, bcall (by repeat (first | exact Below.refl _ _ | refine Below.alloc ?_ (by first | exact Nat.le_refl _ | (simp; done) | (simp; omega)) _ | refine Below.drew ?_ | refine Below.setCell ?_ (by first | exact Nat.le_refl _ | (simp; done) | (simp; omega)) _)) (by simp) hb1⟩
  · have hm2 : cs.length ≤ 1048576 := by omega
    obtain ⟨tx, hx⟩ : ∃ tx, textG wd cs = tx := ⟨_, rfl⟩
    have HX : Hid (textG wd cs = tx) := hx
    have n1 : ((str tx).toList == (str tx).toList) = true := by simp
    clear hx
    go_enter Try.func8, Try.ntmps8
    go_wp2_with fail
    refine (szGrid_any _ _ _ _ _ _ hm (by omega)).mono ?_
    rintro e w1 ⟨rfl, hb1⟩
    have hz1 := hb1.size
    simp at hz1
    obtain ⟨hc1, hf1⟩ := bcell hb1
    have hB1 : Below w.heap.size w w1 := bcall (by repeat (first | exact Below.refl _ _ | refine Below.alloc ?_ (by first | exact Nat.le_refl _ | (simp; done) | (simp; omega)) _ | refine Below.drew ?_ | refine Below.setCell ?_ (by first | exact Nat.le_refl _ | (simp; done) | (simp; omega)) _)) (by simp) hb1
    have p0 : w1.cell? ⟨w.heap.size, 0, none⟩ = some (.int .i64 wd) := by rw [hc1 w.heap.size 0 (by simp)]; simp [go_sem]
    have p1 : w1.cell? ⟨w.heap.size, 1, none⟩ = some (.slice a cs.length cap) := by rw [hc1 w.heap.size 1 (by simp)]; simp [go_sem]
    clear hc1 hf1 hb1
    go_wp2_with fail
    refine (toGrid_any _ _ _ cs _ (hC.below hB1) hm2).mono ?_
    rintro e w2 ⟨g2, rfl, hO2, hb2⟩
    have hz2 := hb2.size
    have hB2 : Below w.heap.size w w2 := bcall hB1 (by omega) hb2
    rw [← hb2.cell (p := ⟨w.heap.size, _, none⟩) (by simp; omega)] at p0 p1
    obtain ⟨a2, cap2, e2, hC2⟩ := hO2.slice
    simp only [Value.slice.injEq] at e2
    obtain ⟨rfl, _, rfl⟩ := e2
    clear hb2
    go_wp2_with fail
    refine (text_spec HX.out _ _ _ hC2 hm2).mono ?_
    rintro e w3 ⟨rfl, hb3⟩
    have hz3 := hb3.size
    have hB3 : Below w.heap.size w w3 := bcall hB2 (by omega) hb3
    rw [← hb3.cell (p := ⟨w.heap.size, _, none⟩) (by simp; omega)] at p0 p1
    clear hb3 hO2 hC2
    go_wp2_with fail
    refine (toGrid_any _ _ _ cs _ (hC.below hB3) hm2).mono ?_
    rintro e w4 ⟨g4, rfl, hO4, hb4⟩
    have hz4 := hb4.size
    have hB4 : Below w.heap.size w w4 := bcall hB3 (by omega) hb4
    rw [← hb4.cell (p := ⟨w.heap.size, _, none⟩) (by simp; omega)] at p0 p1
    clear hb4
    have hO4' := hO4.alloc (.cells #[.int .i64 wd, .slice (some ⟨g4, 0, none⟩) cs.length cs.length] 25)
    obtain ⟨a4, cap4, e4, hC4⟩ := hO4'.slice
    simp only [Value.slice.injEq] at e4
    obtain ⟨rfl, _, rfl⟩ := e4
    clear hO4
    go_wp2_with fail
    refine (text_impl HX.out _ _ _ hC4 hm2).mono ?_
    rintro e w5 ⟨rfl, hb5⟩
    have hz5 := hb5.size
    simp at hz5
    have hB5 : Below w.heap.size w w5 := bcall (hB4.alloc (by omega) _) (by simp; omega) hb5
    have hC5 := hC4.below hb5
    obtain ⟨hc5, hf5⟩ := bcell hb5
    have q0 : w5.cell? ⟨w.heap.size, 0, none⟩ = some (.int .i64 wd) := by rw [hc5 w.heap.size 0 (by simp; omega), World.cell?_alloc_past _ _ _ (by omega)]; exact p0
    have q1 : w5.cell? ⟨w.heap.size, 1, none⟩ = some (.slice a cs.length cap) := by rw [hc5 w.heap.size 1 (by simp; omega), World.cell?_alloc_past _ _ _ (by omega)]; exact p1
    have q2 : w5.cell? ⟨w4.heap.size, 0, none⟩ = some (.int .i64 wd) := by rw [hc5 w4.heap.size 0 (by simp)]; simp [go_sem]
    have q3 : w5.cell? ⟨w4.heap.size, 1, none⟩ = some (.slice (some ⟨g4, 0, none⟩) cs.length cs.length) := by rw [hc5 w4.heap.size 1 (by simp)]; simp [go_sem]
    clear hc5 hf5 hb5 p0 p1 hC4 hO4'
    have heq : eqG wd wd cs cs = true := by simp [eqG]
    go_wp2_with fail
    go_region_with (first | (go_at_call 23; refine (toGrid_any _ _ _ cs _ (hC.below (by first | exact hB5 | exact hB5.drew)) hm2).mono ?_; rintro e w6 ⟨g6, rfl, hO6, hb6'⟩; have hb6 : Below w5.heap.size w5 w6 := (by first | exact hb6' | exact bdrew hb6'); obtain ⟨a6, cap6, e6, hC6⟩ := hO6.slice; simp only [Value.slice.injEq] at e6; obtain ⟨rfl, _, rfl⟩ := e6; have hD6 := hC5.below hb6; have r2 := q2; have r3 := q3; rw [← hb6.cell (p := ⟨w4.heap.size, _, none⟩) (by simp; omega)] at r2 r3) | (go_at_call 24; refine (eqGrid_any _ _ _ _ _ _ cs cs _ (by first | exact hD6 | exact hD6) (by first | exact hC6 | exact hC6) hm2 hm2).mono ?_; rintro e w7 ⟨rfl, hb7⟩))
    all_goals
      go_wp2
      go_ret
      exact ⟨rfl, bcall (bcall hB5 (by omega) hb6) (by have := hb6.size; omega) (by first | exact hb7 | exact bdrew hb7)⟩

set_option maxRecDepth 100000 in
theorem lifted (os : Os) (started : os.Started) (H : Type) (enc : TypeId × Value → H) :
    ReturnsInHanded {} Try.checked os 8 .any (Rows.fnExactGridTextSpec.pre6 enc Try.prog Try.f8 Rows.fnExactGridTextRow.domain false) (Rows.fnExactGridTextSpec.post enc Try.prog Try.f8 false true false false) := by
  refine returnsInHanded_of_change (C := Try.checked) own started (by kernel_rfl) Try.func8
    (ChangeSpec.witness6 (enc := enc) (C := Try.checked) false ⟨#[], #[.agg #[.int .i64 0, .slice none 0 0]], []⟩ 8 (by kernel_rfl) (by kernel_rfl) (by kernel_rfl) (by kernel_rfl)) ?_
  intro W base args ds gs before hval0 hW hcnd _
  have hval : ∀ (j : Nat) t v, Try.f8.params[j]? = some t → args[j]? = some v → Value.okWide Try.prog W .any base t v := hval0
  have hW' := hW
  obtain ⟨p, q, hA0, hV, rfl, hfz, hnd⟩ := hW
  have hA : DataW.TrodAll enc Try.prog W 0 (fun _ => true) true Try.f8.params.toList args.toList ds p := hA0
  rw [Try.params8] at hA hval
  obtain ⟨v0, vs0, d0, ds0, p0, q0, hargs, rfl, rfl, h0, r0⟩ := trodAll_cons hA
  obtain ⟨rfl, rfl, rfl⟩ := trodAll_nil r0
  obtain rfl : args = #[v0] := by cases args; simp_all
  obtain ⟨rfl, rfl⟩ := trodVars_none hV
  have k0 := h0
  have lt0 : ∀ x ∈ p0, x.block < W.heap.size := by obtain ⟨m, hm⟩ := k0; exact DataW.trod_lt m _ _ _ hm
  obtain ⟨wd0, a0, cap0, cs0, rfl, hC0, hm0⟩ := open_grid (hval 0 41 v0 rfl rfl) h0
  clear hA0 hval0
  refine (walk wd0 a0 cap0 cs0 W hC0 hm0).mono fun e W' ⟨he, bel⟩ => ?_
  subst he
  exact ⟨_, rfl, _, _, _, [], _, [], hW', trodAll_mk1 (shut_bool Try.underlying4 _), (trodAll_cons_mk (Below.trod laidOut (by kernel_rfl) (of_decide_eq_true (by kernel_rfl)) k0 bel lt0) trodAll_mk0), rfl, bel.frame _, fun h => by cases h⟩

theorem over : Rows.fnExactGridTextRow.holds Try.pinned (OpenSpec.ofChange Rows.fnExactGridTextSpec) :=
  OpenClaim.holds_of_wide 8 Try.f8 rfl rfl rfl rfl rfl rfl rfl ⟨rfl, rfl, rfl, rfl, rfl⟩ rfl rfl rfl rfl rfl (by kernel_rfl) Try.func8 (by kernel_rfl)
    (of_decide_eq_true (by kernel_rfl)) (by unfold Func.isWrapper; first | (rw [if_pos (by decide +kernel)]; kernel_rfl) | (rw [if_neg (by decide +kernel)]; exact ⟨rfl, rfl⟩))
    (fun os started H enc _ => lifted os started H enc)

end Go.Proofs.Ytgichlfkhmomhaa.ExGridText

namespace Go.Proofs.Ytgichlfkhmomhaa
/-- The statement. -/
theorem exGridText : Rows.FnExactGridTextSaid := ExGridText.over
#print axioms exGridText
end Go.Proofs.Ytgichlfkhmomhaa
