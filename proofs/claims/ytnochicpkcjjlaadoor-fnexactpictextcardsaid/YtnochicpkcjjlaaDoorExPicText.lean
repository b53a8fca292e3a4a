/-
  'laws.FnExactPicText' returns true for every grid and every list of numbers: impl.PicText answers as spec.PicText, and writes into no argument. The tables of the library that its row lists are as its text lays them (the tied card).
-/
import Derived.Test.YtnochicpkcjjlaaDoorFa
import Derived.Test.YtnochicpkcjjlaaDoorHm
import Derived.Test.YtnochicpkcjjlaaDoorHg
import Derived.Test.YtnochicpkcjjlaaDoorJq
import Derived.Test.YtnochicpkcjjlaaDoorCards
import Derived.Test.YtnochicpkcjjlaaDoorTie
import Derived.ProofKit
import Derived.LaidMore
import Derived.Stop.Joined
import Derived.Stop.LaidErr
import Derived.SevenTiedAt
import Derived.Lib.LaidTab
namespace Go.Proofs.YtnochicpkcjjlaaDoor.ExPicText
open Go.ChangeShapes Go.WideShapes Go.ChangeAt Go.RowKit Go.Joins Go.Deep
set_option linter.unusedVariables false
attribute [local go_sem ↓] Go.wp_at_zero Go.wp_at_succ

set_option maxRecDepth 100000 in
set_option maxHeartbeats 2000000 in
theorem walk (wd : Int) (a : Option Addr) (cap : Nat) (cs : List (Int × Int)) (pa : Option Addr) (pc : Nat) (xs : List Int) (w : World) (hC : CellsAt w a cs) (hm : cs.length ≤ 9223372036854775807) (hR : R1At w pa xs) (hx : xs.length ≤ pc ∧ pc ≤ 9223372036854775807 ∧ ∀ x ∈ xs, -9223372036854775808 ≤ x ∧ x ≤ 9223372036854775807) (ht : Tab w) :
    Calls Tryd.prog 4 #[.agg #[.int .i64 wd, .slice a cs.length cap], .slice pa xs.length pc] w fun e w' => e = .returned (.bool true) ∧ Below w.heap.size w w' := by
  have hbX : Below w.heap.size w (w.alloc (.cells #[.int .i64 wd, .slice a cs.length cap] 35)) := (by repeat (first | exact Below.refl _ _ | refine Below.alloc ?_ (by first | exact Nat.le_refl _ | (simp; done) | (simp; omega)) _ | refine Below.drew ?_ | refine Below.setCell ?_ (by first | exact Nat.le_refl _ | (simp; done) | (simp; omega)) _))
  have p0 : (w.alloc (.cells #[.int .i64 wd, .slice a cs.length cap] 35)).cell? ⟨w.heap.size, 0, none⟩ = some (.int .i64 wd) := by simp [go_sem]
  have p1 : (w.alloc (.cells #[.int .i64 wd, .slice a cs.length cap] 35)).cell? ⟨w.heap.size, 1, none⟩ = some (.slice a cs.length cap) := by simp [go_sem]
  have HX : Hid (∀ x ∈ xs, -9223372036854775808 ≤ x ∧ x ≤ 9223372036854775807) := hx.2.2
  have HTB : Hid (Tab w) := ht
  have hxc := hx.1
  have hxc2 := hx.2.1
  clear hx ht
  by_cases hbx : (1048576 : Int) < (xs.length : Int)
  · go_enter Tryd.func4, Tryd.ntmps4
    go_wp2
    go_ret
    exact ⟨rfl, hbX⟩
  · have hxm : xs.length ≤ 1048576 := by omega
    have bx : decide ((1048576 : Int) < (xs.length : Int)) = false := decide_eq_false hbx
    by_cases hbig : (1048576 : Int) - cs.length < 0
    · go_enter Tryd.func4, Tryd.ntmps4
      go_wp2_with fail
      refine (szGrid_any _ _ _ _ _ _ hm (by omega)).mono ?_
      rintro e w1 ⟨rfl, hb1⟩
      go_wp2
      go_ret
      exact ⟨rfl, bcall hbX hbX.size hb1⟩
    · have hm2 : cs.length ≤ 1048576 := by omega
      obtain ⟨T, eT⟩ : ∃ T, picT wd cs xs = T := ⟨_, rfl⟩
      have ET : Hid (picT wd cs xs = T) := eT
      clear eT
      go_enter Tryd.func4, Tryd.ntmps4
      go_wp2_with fail
      refine (szGrid_any _ _ _ _ _ _ hm (by omega)).mono ?_
      rintro e w1 ⟨rfl, hb1⟩
      have hB1 := bcall hbX hbX.size hb1
      replace p0 := keepc hb1 p0; replace p1 := keepc hb1 p1
      clear hb1 hbX
      go_wp2_with fail
      refine (toGrid_any _ _ _ cs _ (hC.below hB1) hm2).mono ?_
      rintro e w2 ⟨g2, rfl, hO2, hb2⟩
      have hB2 := bcall hB1 hB1.size hb2
      replace p0 := keepc hb2 p0; replace p1 := keepc hb2 p1
      obtain ⟨a2, cap2, e2, hC2⟩ := hO2.slice
      simp only [Value.slice.injEq] at e2
      obtain ⟨rfl, _, rfl⟩ := e2
      clear hb2 hB1 hO2
      go_wp2_with fail
      refine (toIntS_any pa pc xs _ (hR.below hB2) hxm).mono ?_
      rintro e w3 ⟨g3, rfl, hO3, hb3⟩
      have hB3 := bcall hB2 hB2.size hb3
      replace p0 := keepc hb3 p0; replace p1 := keepc hb3 p1
      replace hC2 := hC2.below hb3
      obtain ⟨pa3, pc3, e3, hR3, _, _⟩ := own_capI hO3
      simp only [Value.slice.injEq] at e3
      obtain ⟨rfl, _, rfl⟩ := e3
      clear hb3 hB2 hO3
      have hS := specPicText_any wd _ cs.length cs _ hC2 hm2 _ xs.length xs hR3 hxm HX.out
      rw [ET.out] at hS
      go_wp2_with fail
      refine hS.mono ?_
      rintro e w35 ⟨rfl, hb35⟩
      have hB35 := bcall hB3 hB3.size hb35
      replace p0 := keepc hb35 p0; replace p1 := keepc hb35 p1
      clear hS hb35 hB3 hC2 hR3
      go_wp2_with fail
      refine (toGrid_any _ _ _ cs _ (hC.below hB35) hm2).mono ?_
      rintro e w4 ⟨g4, rfl, hO4, hb4⟩
      have hB4 := bcall hB35 hB35.size hb4
      replace p0 := keepc hb4 p0; replace p1 := keepc hb4 p1
      obtain ⟨a4, cap4, e4, hC4⟩ := hO4.slice
      simp only [Value.slice.injEq] at e4
      obtain ⟨rfl, _, rfl⟩ := e4
      have hbY : Below w4.heap.size w4 (w4.alloc (.cells #[.int .i64 wd, .slice (some ⟨g4, 0, none⟩) cs.length cs.length] 25)) := (by repeat (first | exact Below.refl _ _ | refine Below.alloc ?_ (by first | exact Nat.le_refl _ | (simp; done) | (simp; omega)) _ | refine Below.drew ?_ | refine Below.setCell ?_ (by first | exact Nat.le_refl _ | (simp; done) | (simp; omega)) _))
      have q0 : (w4.alloc (.cells #[.int .i64 wd, .slice (some ⟨g4, 0, none⟩) cs.length cs.length] 25)).cell? ⟨w4.heap.size, 0, none⟩ = some (.int .i64 wd) := by simp [go_sem]
      have q1 : (w4.alloc (.cells #[.int .i64 wd, .slice (some ⟨g4, 0, none⟩) cs.length cs.length] 25)).cell? ⟨w4.heap.size, 1, none⟩ = some (.slice (some ⟨g4, 0, none⟩) cs.length cs.length) := by simp [go_sem]
      have hB5 := bcall hB4 hB4.size hbY
      replace p0 := keepc hbY p0
      replace p1 := keepc hbY p1
      replace hC4 := hC4.below hbY
      clear hb4 hbY hO4 hB4 hB35
      go_wp2_with fail
      refine (toIntS_any pa pc xs _ (hR.below hB5) hxm).mono ?_
      rintro e w6 ⟨g6, rfl, hO6, hb6⟩
      have hB6 := bcall hB5 hB5.size hb6
      replace p0 := keepc hb6 p0; replace p1 := keepc hb6 p1; replace q0 := keepc hb6 q0; replace q1 := keepc hb6 q1
      replace hC4 := hC4.below hb6
      obtain ⟨pa6, pc6, e6, hR6, _, _⟩ := own_capI hO6
      simp only [Value.slice.injEq] at e6
      obtain ⟨rfl, _, rfl⟩ := e6
      clear hb6 hB5 hO6
      have hI := implPicText_any wd _ cs.length cs _ hC4 hm2 _ xs.length xs hR6 hxm (Nat.le_refl _) HX.out (HTB.out.below hB6)
      rw [ET.out] at hI
      go_wp2_with fail
      refine hI.mono ?_
      rintro e w7 ⟨rfl, hb7⟩
      have hB7 := bcall hB6 hB6.size hb7
      replace p0 := keepc hb7 p0; replace p1 := keepc hb7 p1; replace q0 := keepc hb7 q0; replace q1 := keepc hb7 q1
      have hC7 := hC4.below hb7
      replace hR6 := hR6.below hb7
      have heq : eqG wd wd cs cs = true := by simp [eqG]
      clear hI hb7 hB6 hC4
      go_wp2_with fail
      go_wp2
      refine wp_region_held_drew (S := (fun w' => w'.cell? ⟨w.heap.size, 0, none⟩ = some (.int .i64 wd) ∧ w'.cell? ⟨w.heap.size, 1, none⟩ = some (.slice a cs.length cap) ∧ w'.cell? ⟨w4.heap.size, 0, none⟩ = some (.int .i64 wd) ∧ w'.cell? ⟨w4.heap.size, 1, none⟩ = some (.slice (some ⟨g4, 0, none⟩) cs.length cs.length))) (by kernel_rfl) ?_ (fun hHeld => ?_)
      · exact ⟨p0, p1, q0, q1⟩
      refine wpAnyH_take (i := 0) (oi := { dst := some 33, op := Go.Op.load 25 (Go.Operand.tmp 7), type := 25, pos := "exact.go:1675", after := #[], guard := none }) (v := ?vx0) rfl (by kernel_rfl) (by kernel_rfl) (by kernel_rfl) (fun _ _ _ h => h) (Or.inl ⟨by rfl, ?hyx0⟩) (by assumption) ?restx0
      case hyx0 => (intro w hSw; (try dsimp only at hSw); go_simp; try (with_reducible rfl))
      (try simp only [Act.put, List.setIfInBounds_toArray, List.set_cons_zero, List.set_cons_succ])
      refine wpAnyH_take (i := 1) (oi := { dst := some 34, op := Go.Op.load 35 (Go.Operand.tmp 2), type := 35, pos := "exact.go:1675", after := #[], guard := none }) (v := ?vx1) rfl (by kernel_rfl) (by kernel_rfl) (by kernel_rfl) (fun _ _ _ h => h) (Or.inl ⟨by rfl, ?hyx1⟩) (by assumption) ?restx1
      case hyx1 => (intro w hSw; (try dsimp only at hSw); go_simp; try (with_reducible rfl))
      (try simp only [Act.put, List.setIfInBounds_toArray, List.set_cons_zero, List.set_cons_succ])
      refine wpAnyH_ready (rs := [2]) (by kernel_rfl) (by simp) ?_
      refine AllReadyH.cons (o := { dst := some 35, op := Go.Op.call { callee := Go.Callee.value (Go.Operand.func 11), args := #[Go.Operand.tmp 34], argTypes := #[35] }, type := 25, pos := "exact.go:1675", after := #[{ on := 1, ground := Go.Ground.data }], guard := none }) rfl (fun K hK => ?_) AllReadyH.nil
      go_simp
      (go_at_call 11; refine (toGrid_any _ _ _ cs _ (hC.below hB7.drew) hm2).mono ?_; rintro e w8 ⟨g8, rfl, hO8, hb8'⟩; have hb8 : Below w7.heap.size w7 w8 := bdrew hb8'; obtain ⟨a8, c8, e8, hC8⟩ := hO8.slice; simp only [Value.slice.injEq] at e8; obtain ⟨rfl, _, rfl⟩ := e8; have hC9 := hC7.below hb8; have P0 := keepc hb8 p0; have P1 := keepc hb8 p1; have Q0 := keepc hb8 q0; have Q1 := keepc hb8 q1)
      (try go_wp2_with fail)
      refine hK.out _ _ ?_ (fun hHeld => ?_)
      · exact ⟨P0, P1, Q0, Q1⟩
      clear hK K
      (try simp only [Act.put, List.setIfInBounds_toArray, List.set_cons_zero, List.set_cons_succ])
      refine wpAnyH_ready (rs := [3]) (by kernel_rfl) (by simp) ?_
      refine AllReadyH.cons (o := { dst := some 36, op := Go.Op.call { callee := Go.Callee.value (Go.Operand.func 13), args := #[Go.Operand.tmp 33, Go.Operand.tmp 35], argTypes := #[25, 25] }, type := 4, pos := "exact.go:1675", after := #[{ on := 0, ground := Go.Ground.data }, { on := 2, ground := Go.Ground.data }, { on := 2, ground := Go.Ground.chain }], guard := none }) rfl (fun K hK => ?_) AllReadyH.nil
      go_simp
      (go_at_call 13; refine (eqGrid_any _ _ _ _ _ _ cs cs _ hC9 hC8 hm2 hm2).mono ?_; rintro e w9 ⟨rfl, hb9⟩; rw [heq]; have P0' := keepc hb9 P0; have P1' := keepc hb9 P1; have Q0' := keepc hb9 Q0; have Q1' := keepc hb9 Q1)
      (try go_wp2_with fail)
      refine hK.out _ _ ?_ (fun hHeld => ?_)
      · exact ⟨P0', P1', Q0', Q1'⟩
      clear hK K
      (try simp only [Act.put, List.setIfInBounds_toArray, List.set_cons_zero, List.set_cons_succ])
      refine wpAnyH_take (i := 4) (oi := { dst := some 37, op := Go.Op.unOp Go.UnOp.not 4 (Go.Operand.tmp 36), type := 4, pos := "exact.go:1675", after := #[{ on := 3, ground := Go.Ground.data }], guard := none }) (v := ?vx4) rfl (by kernel_rfl) (by kernel_rfl) (by kernel_rfl) (fun _ _ _ h => h) (Or.inl ⟨by rfl, ?hyx4⟩) (by assumption) ?restx4
      case hyx4 => (intro w hSw; (try dsimp only at hSw); go_simp; try (with_reducible rfl))
      (try simp only [Act.put, List.setIfInBounds_toArray, List.set_cons_zero, List.set_cons_succ])
      refine wpAnyH_done (by kernel_rfl) ?_ _
      have hB9 := bcall hB7 hB7.size (bcall hb8 hb8.size hb9)
      have hR9 := (hR6.below hb8).below hb9
      go_wp2_with fail
      refine (toIntS_any pa pc xs _ (hR.below hB9) hxm).mono ?_
      rintro e w10 ⟨g10, rfl, hO10, hb10⟩
      have hB10 := bcall hB9 hB9.size hb10
      replace hR9 := hR9.below hb10
      obtain ⟨pa10, pc10, e10, hR10, _, _⟩ := own_capI hO10
      simp only [Value.slice.injEq] at e10
      obtain ⟨rfl, _, rfl⟩ := e10
      clear hb10 hO10
      go_wp2_with fail
      refine (eqIntS_st _ _ _ _ xs _ hR9 hR10 hxm).mono ?_
      rintro e w11 ⟨rfl, hb11⟩
      go_wp2
      go_ret
      exact ⟨rfl, bcall hB10 hB10.size hb11⟩

theorem tab_of_laid {W : World} (h : laidMetH Tryd.prog Rows.fnExactPicTextRow.laid W) : Tab W := by
  rw [MakeChecks.laidMetH_plain _ _ _ (by kernel_rfl)] at h
  exact Lib.tabIs_of_head (g := 0) (t := 128) (e := 116) (n := 20) (by kernel_rfl) (by kernel_rfl) Tryd.underlying128 Tryd.underlying116 (by kernel_rfl) (by kernel_rfl) (show laidMet Tryd.prog [("internal/strconv.uint64pow10", Lib.tabData .u64 Lib.pow10Tab)] W from laidMet.tail (laidMet.tail (show laidMet Tryd.prog [("math/bits.deBruijn32tab", Rows.laid_math_bits_deBruijn32tab), ("math/bits.deBruijn64tab", Rows.laid_math_bits_deBruijn64tab), ("internal/strconv.uint64pow10", Rows.laid_internal_strconv_uint64pow10)] W from h)))
theorem door_met (os : Os) (args : Array Value) : laidMetH Tryd.prog Rows.fnExactPicTextRow.laid ((World.doorLaid Tryd.prog 24 os).forCall (fun _ _ => 0) ⟨#[], args, []⟩).memory :=
  laidMetH_of_parts3 (fuel := 8) (laidMet_of_run' 8 (by kernel_rfl) (by kernel_rfl)) (by kernel_rfl) (by kernel_rfl)
set_option maxRecDepth 100000 in
theorem lifted (os : Os) (started : os.Started) (H : Type) (enc : TypeId × Value → H) :
    ReturnsInHanded {} Tryd.checked os 4 .any (fun w args => (Rows.fnExactPicTextSpec.pre enc Tryd.prog Tryd.f4 [] false w args ∧ laidMetH Tryd.prog Rows.fnExactPicTextRow.laid w) ∧ sizedMet enc Tryd.prog Tryd.f4 (OpenSpec.ofChange Rows.fnExactPicTextSpec) false w args) (Rows.fnExactPicTextSpec.post enc Tryd.prog Tryd.f4 false true false false) := by
  refine returnsInHanded_of_change_and (C := Tryd.checked) (X := fun w _ => laidMetH Tryd.prog Rows.fnExactPicTextRow.laid w) (fun _ _ _ hh h => h.of_heap hh) own started (by kernel_rfl) Tryd.func4
    (ChangeSpec.witness_shaped (enc := enc) (C := Tryd.checked) (os := os) (X := fun w _ => laidMetH Tryd.prog Rows.fnExactPicTextRow.laid w) false (World.doorLaid Tryd.prog 24 os) #[.agg #[.int .i64 0, .slice none 0 0], .slice none 0 0] 8 rfl (World.shaped_of_RefB (by kernel_rfl) (by kernel_rfl)) (by kernel_rfl) (by kernel_rfl) (by kernel_rfl) (door_met os _)) ?_
  intro W base args ds gs before hval0 hW _ _ hL _
  have hval : ∀ (j : Nat) t v, Tryd.f4.params[j]? = some t → args[j]? = some v → Value.okWide Tryd.prog W .any base t v := hval0
  have hW' := hW
  obtain ⟨p, q, hA0, hV, rfl, hfz, hnd⟩ := hW
  have hA : DataW.TrodAll enc Tryd.prog W 0 (fun _ => true) true Tryd.f4.params.toList args.toList ds p := hA0
  rw [Tryd.params4] at hA hval
  obtain ⟨v0, vs0, d0, ds0, p0, q0, hargs, rfl, rfl, h0, r0⟩ := trodAll_cons hA
  obtain ⟨v1, vs1, d1, ds1, p1, q1, rfl, rfl, rfl, h1, r1⟩ := trodAll_cons r0
  obtain ⟨rfl, rfl, rfl⟩ := trodAll_nil r1
  obtain rfl : args = #[v0, v1] := by cases args; simp_all
  obtain ⟨rfl, rfl⟩ := trodVars_none hV
  have k0 := h0
  have lt0 : ∀ x ∈ p0, x.block < W.heap.size := by obtain ⟨m, hm⟩ := k0; exact DataW.trod_lt m _ _ _ hm
  obtain ⟨wd0, a0, cap0, cs0, rfl, hC0, hm0⟩ := open_grid (hval 0 35 v0 rfl rfl) h0
  have k1 := h1
  have lt1 : ∀ x ∈ p1, x.block < W.heap.size := by obtain ⟨m, hm⟩ := k1; exact DataW.trod_lt m _ _ _ hm
  obtain ⟨a1, cap1, xs1, rfl, hC1, hm1⟩ := open_intsP (hval 1 26 v1 rfl rfl) h1
  clear hA0 hval0
  refine (walk wd0 a0 cap0 cs0 a1 cap1 xs1 W hC0 hm0 hC1 hm1 (tab_of_laid hL)).mono fun e W' ⟨he, bel⟩ => ?_
  subst he
  exact ⟨_, rfl, _, _, _, [], _, [], hW', trodAll_mk1 (shut_bool Tryd.underlying4 _), (trodAll_cons_mk (Below.trod laidOut (by kernel_rfl) (of_decide_eq_true (by kernel_rfl)) k0 bel lt0) (trodAll_cons_mk (Below.trod laidOut (by kernel_rfl) (of_decide_eq_true (by kernel_rfl)) k1 bel lt1) trodAll_mk0)), rfl, bel.frame _, fun h => by cases h⟩

theorem row : Rows.fnExactPicTextRow.holds Tryd.pinned (OpenSpec.ofChange Rows.fnExactPicTextSpec) :=
  OpenClaim.holds_of_wide 4 Tryd.f4 rfl rfl rfl rfl rfl rfl rfl ⟨rfl, rfl, rfl, rfl, rfl⟩ rfl rfl rfl rfl rfl (by kernel_rfl) Tryd.func4 (by kernel_rfl)
    (of_decide_eq_true (by kernel_rfl)) (by unfold Func.isWrapper; first | (rw [if_pos (by decide +kernel)]; kernel_rfl) | (rw [if_neg (by decide +kernel)]; exact ⟨rfl, rfl⟩))
    (fun os started H enc _ => lifted os started H enc)
theorem over : Claim7.holds Tryd.pinned (.plain (OpenSpec.ofChange Rows.fnExactPicTextSpec)) Rows.fnExactPicTextCard :=
  Claim7.holds_tied_plain_at .later [] [.data, .data, .data] true _ false
    row (fun _ h => by cases h) (by kernel_rfl) (fun _ h => by cases h) fnExactPicText_row_tie rfl ⟨rfl, rfl⟩ (by kernel_rfl) rfl
    (fun f fn hf hfn => by
      obtain rfl : f = 4 := Option.some.inj ((show Tryd.prog.funcNamed "loop.example/lucarne/laws.FnExactPicText" = some 4 by kernel_rfl).symm.trans hf) |>.symm
      obtain rfl : fn = Tryd.f4 := (Option.some.inj (Tryd.func4.symm.trans hfn)).symm
      exact ⟨by kernel_rfl, fun j t ht => by
        rw [Tryd.params4] at ht
        have hm : t ∈ [35, 26] := by simpa using Array.mem_of_getElem? ht
        have hall : ([35, 26].all fun u => !Tryd.prog.wantsStandIn u) = true := by kernel_rfl
        exact (show Tryd.prog.wantsStandIn t = false by simpa using List.all_eq_true.1 hall t hm)⟩)
    (by kernel_rfl)

end Go.Proofs.YtnochicpkcjjlaaDoor.ExPicText

namespace Go.Proofs.YtnochicpkcjjlaaDoor
/-- The statement. -/
theorem exPicText : Rows.FnExactPicTextCardSaid := ExPicText.over
#print axioms exPicText
end Go.Proofs.YtnochicpkcjjlaaDoor
