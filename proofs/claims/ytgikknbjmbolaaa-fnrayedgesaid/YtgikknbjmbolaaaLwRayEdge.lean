/-
  'laws.FnRayEdge' returns true for all codes: at each edge there are as many cells as in a row, or column. No condition.
-/
import Derived.Test.YtgikknbjmbolaaaFb
import Derived.Test.YtgikknbjmbolaaaYz
import Derived.Test.YtgikknbjmbolaaaYx
namespace Go.Proofs.Ytgikknbjmbolaaa.LwRayEdge
open Go.ChangeShapes Go.WideShapes Go.ChangeAt Go.RowKit
set_option linter.unusedVariables false
attribute [local go_sem ↓] Go.wp_at_zero Go.wp_at_succ

/-- Too long a code. -/
theorem big (a : Option Addr) (n cap : Nat) (f : Nat → Int) (w : World) (h : BytesAt w a n f) (hm : n ≤ cap ∧ cap ≤ 9223372036854775807) (hbig : 1048576 < n) :
    Calls Try.prog 7 #[.slice a n cap] w fun e w' => e = .returned (.bool true) ∧ Below w.heap.size w w' := by
  have hb : (1048576 : Int) < (n : Int) := by omega
  go_enter Try.func7, Try.ntmps7
  go_wp2
  go_ret
  exact ⟨rfl, Below.refl _ _⟩

set_option maxRecDepth 100000 in
set_option maxHeartbeats 4000000 in
theorem small (a : Option Addr) (n cap : Nat) (f : Nat → Int) (w : World) (h : BytesAt w a n f) (hm : n ≤ cap ∧ cap ≤ 9223372036854775807) (hsm : n ≤ 1048576) :
    Calls Try.prog 7 #[.slice a n cap] w fun e w' => e = .returned (.bool true) ∧ Below w.heap.size w w' := by
  have hb : (n : Int) ≤ 1048576 := by omega
  go_enter Try.func7, Try.ntmps7
  go_wp2_with fail
  refine (drawRayNext_any a n cap f w h hsm hm.1 hm.2).mono ?_
  rintro e w1 ⟨wd, a1, c1, cs, x, d, rfl, hC1, hl1, hx1, hd1, hb_w1⟩
  have hz_w1 := hb_w1.size
  try simp at hz_w1
  have hbS1 : Below w1.heap.size w1 (w1.alloc (.cells #[.int .i64 wd, .slice a1 cs.length c1] 29)) := (by repeat (first | exact Below.refl _ _ | refine Below.alloc ?_ (by first | exact Nat.le_refl _ | (simp; done) | (simp; omega)) _ | refine Below.drew ?_ | refine Below.setCell ?_ (by first | exact Nat.le_refl _ | (simp; done) | (simp; omega)) _))
  replace hC1 := hC1.below hbS1
  have g0 : (w1.alloc (.cells #[.int .i64 wd, .slice a1 cs.length c1] 29)).cell? ⟨w1.heap.size, 0, none⟩ = some (.int .i64 wd) := by simp [go_sem]
  have g1 : (w1.alloc (.cells #[.int .i64 wd, .slice a1 cs.length c1] 29)).cell? ⟨w1.heap.size, 1, none⟩ = some (.slice a1 cs.length c1) := by simp [go_sem]
  have hBs1 := bcall hb_w1 (by omega) hbS1
  clear hb_w1
  clear hbS1
  obtain ⟨x2, d2, b2, ev⟩ : ∃ x2 d2 b2, rayN wd cs x d = (x2, d2, b2) := ⟨_, _, _, rfl⟩
  have EV : Hid (rayN wd cs x d = (x2, d2, b2)) := ev
  clear ev
  go_wp2_with fail
  refine (ray_spec EV.out a1 c1 _ hC1 (by omega)).mono ?_
  rintro e w2 ⟨rfl, hb_w2⟩
  have hz_w2 := hb_w2.size
  try simp at hz_w2
  replace g0 := keepc hb_w2 g0; replace g1 := keepc hb_w2 g1
  replace hC1 := hC1.below hb_w2
  have hB_w2 := bcall hBs1 (by first | omega | (simp; omega)) hb_w2
  clear hBs1 hb_w2
  have hbS2 : Below w2.heap.size w2 (w2.alloc (.cells #[.int .i64 x2, .int .i64 d2] 33)) := (by repeat (first | exact Below.refl _ _ | refine Below.alloc ?_ (by first | exact Nat.le_refl _ | (simp; done) | (simp; omega)) _ | refine Below.drew ?_ | refine Below.setCell ?_ (by first | exact Nat.le_refl _ | (simp; done) | (simp; omega)) _))
  replace g0 := keepc hbS2 g0; replace g1 := keepc hbS2 g1
  replace hC1 := hC1.below hbS2
  have y0 : (w2.alloc (.cells #[.int .i64 x2, .int .i64 d2] 33)).cell? ⟨w2.heap.size, 0, none⟩ = some (.int .i64 x2) := by simp [go_sem]
  have y1 : (w2.alloc (.cells #[.int .i64 x2, .int .i64 d2] 33)).cell? ⟨w2.heap.size, 1, none⟩ = some (.int .i64 d2) := by simp [go_sem]
  have hBs2 := bcall hB_w2 (by omega) hbS2
  clear hB_w2
  clear hbS2
  go_wp2_with fail
  refine (ray_impl EV.out a1 c1 _ hC1 (by omega)).mono ?_
  rintro e w3 ⟨rfl, hb_w3⟩
  have hz_w3 := hb_w3.size
  try simp at hz_w3
  replace g0 := keepc hb_w3 g0; replace g1 := keepc hb_w3 g1; replace y0 := keepc hb_w3 y0; replace y1 := keepc hb_w3 y1
  replace hC1 := hC1.below hb_w3
  have hB_w3 := bcall hBs2 (by first | omega | (simp; omega)) hb_w3
  clear hBs2 hb_w3
  have hbS3 : Below w3.heap.size w3 (w3.alloc (.cells #[.int .i64 x2, .int .i64 d2] 33)) := (by repeat (first | exact Below.refl _ _ | refine Below.alloc ?_ (by first | exact Nat.le_refl _ | (simp; done) | (simp; omega)) _ | refine Below.drew ?_ | refine Below.setCell ?_ (by first | exact Nat.le_refl _ | (simp; done) | (simp; omega)) _))
  replace g0 := keepc hbS3 g0; replace g1 := keepc hbS3 g1; replace y0 := keepc hbS3 y0; replace y1 := keepc hbS3 y1
  replace hC1 := hC1.below hbS3
  have z0 : (w3.alloc (.cells #[.int .i64 x2, .int .i64 d2] 33)).cell? ⟨w3.heap.size, 0, none⟩ = some (.int .i64 x2) := by simp [go_sem]
  have z1 : (w3.alloc (.cells #[.int .i64 x2, .int .i64 d2] 33)).cell? ⟨w3.heap.size, 1, none⟩ = some (.int .i64 d2) := by simp [go_sem]
  have hBs3 := bcall hB_w3 (by omega) hbS3
  clear hB_w3
  clear hbS3
  have q1 := eqlRay x2 d2
  have q2 := neqRay x2 d2
  have hbb : (b2 != b2) = false := by cases b2 <;> rfl
  have hbb2 : (b2 == b2) = true := by cases b2 <;> rfl
  clear EV
  go_wp2_with fail
  refine (specGridOk_any _ _ _ cs _ hC1 (by omega)).mono ?_
  rintro e w4 ⟨rfl, hb_w4⟩
  have hz_w4 := hb_w4.size
  try simp at hz_w4
  replace g0 := keepc hb_w4 g0; replace g1 := keepc hb_w4 g1; replace y0 := keepc hb_w4 y0; replace y1 := keepc hb_w4 y1; replace z0 := keepc hb_w4 z0; replace z1 := keepc hb_w4 z1
  replace hC1 := hC1.below hb_w4
  have hB_w4 := bcall hBs3 (by first | omega | (simp; omega)) hb_w4
  clear hBs3 hb_w4
  by_cases hok : okG wd cs = true
  · obtain ⟨W, H, SH⟩ := shape_of hok
    have hW := SH.hW
    have hH := SH.hH
    obtain rfl := SH.ew
    have ed := SH.ed
    have hz0 : (wd == 0) = false := by simp; omega
    have hne : ¬ wd = 0 := by omega
    have e6 : (cs.length : Int).tdiv wd = H := by rw [← ed]; exact Int.tdiv_eq_ediv_of_nonneg (by omega)
    have wH : IntKind.i64.wrap H = H := IntWalk.i64_in _ (by omega)
    have hE : Hid (∀ d : Nat, d < 4 → (cntE wd cs d cs.length : Int) = if d % 2 = 0 then wd else H) := fun d hd => by rw [← ed]; exact cntE_all hok d hd
    have ED : Hid ((cs.length : Int) / wd = H) := ed
    clear SH ed z0 z1 y0 y1 q1 q2 hbb hbb2
    go_wp2
    go_loopw [10, 11, 12, 13, 14] (fun dd l1 l2 l3 l4 wr => ∃ k : Nat, k ≤ 4 ∧ dd = .int .i64 k ∧ Below w4.heap.size w4 wr) (fun dd _ _ _ _ _ => 4 - (intOf dd).toNat)
    case atStart => exact ⟨0, Nat.zero_le _, rfl, by first | exact Below.refl _ _ | exact (Below.refl _ _).drew⟩
    case round =>
      obtain ⟨k, hk, rfl, hb⟩ := hrel
      replace g0 := keepc hb g0; replace g1 := keepc hb g1
      have hC2 := hC1.below hb
      have hz := hb.size
      by_cases hlt : k < 4
      · rename World => wo
        have hdk : decide ((k : Int) ≤ 3) = true := by simp; omega
        go_wp2
        try simp only [hdk]
        go_loopw [11, 12, 13, 14] (fun nn i l3 l4 wq => ∃ j : Nat, j ≤ cs.length ∧ i = .int .i64 j ∧ nn = .int .i64 (cntE wd cs k j : Nat) ∧ Below wo.heap.size wo wq) (fun _ i _ _ _ => cs.length - (intOf i).toNat)
        case atStart => exact ⟨0, Nat.zero_le _, rfl, rfl, Below.refl _ _⟩
        case round =>
          obtain ⟨j, hj, rfl, rfl, hbq⟩ := hrel
          replace g0 := keepc hbq g0; replace g1 := keepc hbq g1
          replace hC2 := hC2.below hbq
          have hzq := hbq.size
          have hce := cntE_le wd cs k j
          by_cases hjl : j < cs.length
          · obtain ⟨x3, d3, b3, ev⟩ : ∃ x3 d3 b3, rayN wd cs (j : Int) (k : Int) = (x3, d3, b3) := ⟨_, _, _, rfl⟩
            have EV : Hid (rayN wd cs (j : Int) (k : Int) = (x3, d3, b3)) := ev
            have HS : Hid (cntE wd cs k (j + 1) = cntE wd cs k j + (if b3 then 0 else 1)) := cntE_step wd cs k j x3 d3 b3 ev
            clear ev
            obtain ⟨m, hmm⟩ : ∃ m, m = cntE wd cs k j := ⟨_, rfl⟩
            rw [← hmm] at hce HS ⊢
            clear hmm
            go_wp2_with fail
            refine (ray_impl EV.out a1 c1 _ hC2 (by omega)).mono ?_
            rintro e w5 ⟨rfl, hb5⟩
            have hb5a : Below wo.heap.size wo (w5.alloc (.cells #[.int .i64 x3, .int .i64 d3] 33)) := bcall (bcall hbq hzq hb5) (by have := hb5.size; omega) (by repeat (first | exact Below.refl _ _ | refine Below.alloc ?_ (by first | exact Nat.le_refl _ | (simp; done) | (simp; omega)) _ | refine Below.drew ?_ | refine Below.setCell ?_ (by first | exact Nat.le_refl _ | (simp; done) | (simp; omega)) _))
            cases b3
            all_goals
              go_wp2
              go_roundw
              case rel => exact ⟨j + 1, by omega, by go_num, by rw [HS.out]; simp, hb5a⟩
              case measure => simp [intOf]; omega
          · have hjn : j = cs.length := by omega
            subst hjn
            have hv := hE.out k hlt
            obtain ⟨m, hmm⟩ : ∃ m, m = cntE wd cs k cs.length := ⟨_, rfl⟩
            rw [← hmm] at hce hv ⊢
            clear hmm
            have hbn : Below w4.heap.size w4 wr := bcall hb (by omega) hbq
            rcases (show k = 0 ∨ k = 1 ∨ k = 2 ∨ k = 3 by omega) with rfl | rfl | rfl | rfl
            · simp at hv
              rw [hv]
              go_wp2
              go_roundw
              case rel => exact ⟨1, by omega, by go_num, hbn⟩
              case measure => simp [intOf]
            · simp at hv
              rw [hv]
              go_wp2
              go_roundw
              case rel => exact ⟨2, by omega, by go_num, hbn⟩
              case measure => simp [intOf]
            · simp at hv
              rw [hv]
              go_wp2
              go_roundw
              case rel => exact ⟨3, by omega, by go_num, hbn⟩
              case measure => simp [intOf]
            · simp at hv
              rw [hv]
              go_wp2
              go_roundw
              case rel => exact ⟨4, by omega, by go_num, hbn⟩
              case measure => simp [intOf]
      · have hBw : Below w.heap.size w wr := bcall hB_w4 (by omega) hb
        go_wp2
        go_ret
        exact ⟨rfl, hBw⟩
  · have hno : okG wd cs = false := by simpa using hok
    clear hok
    cases b2
    all_goals
      go_wp2
      go_ret
      exact ⟨rfl, hB_w4⟩

theorem walk (a : Option Addr) (n cap : Nat) (f : Nat → Int) (w : World) (h : BytesAt w a n f) (hm : n ≤ cap ∧ cap ≤ 9223372036854775807) :
    Calls Try.prog 7 #[.slice a n cap] w fun e w' => e = .returned (.bool true) ∧ Below w.heap.size w w' := by
  by_cases hs : n ≤ 1048576
  · exact small a n cap f w h hm hs
  · exact big a n cap f w h hm (by omega)

set_option maxRecDepth 100000 in
theorem lifted (os : Os) (started : os.Started) (H : Type) (enc : TypeId × Value → H) :
    ReturnsInHanded {} Try.checked os 7 .any (Rows.fnRayEdgeSpec.pre6 enc Try.prog Try.f7 Rows.fnRayEdgeRow.domain false) (Rows.fnRayEdgeSpec.post enc Try.prog Try.f7 false true false false) := by
  refine returnsInHanded_of_change (C := Try.checked) own started (by kernel_rfl) Try.func7
    (ChangeSpec.witness6 (enc := enc) (C := Try.checked) false ⟨#[], #[.slice none 0 0], []⟩ 8 (by kernel_rfl) (by kernel_rfl) (by kernel_rfl) (by kernel_rfl)) ?_
  intro W base args ds gs before hval0 hW hcnd _
  have hval : ∀ (j : Nat) t v, Try.f7.params[j]? = some t → args[j]? = some v → Value.okWide Try.prog W .any base t v := hval0
  have hW' := hW
  obtain ⟨p, q, hA0, hV, rfl, hfz, hnd⟩ := hW
  have hA : DataW.TrodAll enc Try.prog W 0 (fun _ => true) true Try.f7.params.toList args.toList ds p := hA0
  rw [Try.params7] at hA hval
  obtain ⟨v0, vs0, d0, ds0, p0, q0, hargs, rfl, rfl, h0, r0⟩ := trodAll_cons hA
  obtain ⟨rfl, rfl, rfl⟩ := trodAll_nil r0
  obtain rfl : args = #[v0] := by cases args; simp_all
  obtain ⟨rfl, rfl⟩ := trodVars_none hV
  have k0 := h0
  have lt0 : ∀ x ∈ p0, x.block < W.heap.size := by obtain ⟨m, hm⟩ := k0; exact DataW.trod_lt m _ _ _ hm
  obtain ⟨a0, n0, cap0, f0, rfl, hC0, hm0⟩ := open_bytes (hval 0 22 v0 rfl rfl) h0
  clear hA0 hval0
  refine (walk a0 n0 cap0 f0 W hC0 hm0).mono fun e W' ⟨he, bel⟩ => ?_
  subst he
  exact ⟨_, rfl, _, _, _, [], _, [], hW', trodAll_mk1 (shut_bool Try.underlying4 _), (trodAll_cons_mk (Below.trod laidOut (by kernel_rfl) (of_decide_eq_true (by kernel_rfl)) k0 bel lt0) trodAll_mk0), rfl, bel.frame _, fun h => by cases h⟩

theorem over : Rows.fnRayEdgeRow.holds Try.pinned (OpenSpec.ofChange Rows.fnRayEdgeSpec) :=
  OpenClaim.holds_of_wide 7 Try.f7 rfl rfl rfl rfl rfl rfl rfl ⟨rfl, rfl, rfl, rfl, rfl⟩ rfl rfl rfl rfl rfl (by kernel_rfl) Try.func7 (by kernel_rfl)
    (of_decide_eq_true (by kernel_rfl)) (by unfold Func.isWrapper; first | (rw [if_pos (by decide +kernel)]; kernel_rfl) | (rw [if_neg (by decide +kernel)]; exact ⟨rfl, rfl⟩))
    (fun os started H enc _ => lifted os started H enc)

end Go.Proofs.Ytgikknbjmbolaaa.LwRayEdge

namespace Go.Proofs.Ytgikknbjmbolaaa
/-- The statement. -/
theorem lwRayEdge : Rows.FnRayEdgeSaid := LwRayEdge.over
#print axioms lwRayEdge
end Go.Proofs.Ytgikknbjmbolaaa
