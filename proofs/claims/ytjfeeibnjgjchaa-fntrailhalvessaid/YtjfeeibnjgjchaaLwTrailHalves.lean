/-
  'laws.FnTrailHalves' returns true for all codes: light is halved, and halved again. No condition.
-/
import Derived.Test.YtjfeeibnjgjchaaFb
import Derived.Test.YtjfeeibnjgjchaaUm
import Derived.Test.YtjfeeibnjgjchaaJp
import Derived.Test.YtjfeeibnjgjchaaUl
namespace Go.Proofs.Ytjfeeibnjgjchaa.LwTrailHalves
open Go.ChangeShapes Go.WideShapes Go.ChangeAt Go.RowKit
set_option linter.unusedVariables false
attribute [local go_sem ↓] Go.wp_at_zero Go.wp_at_succ

/-- Too long a code. -/
theorem big (a : Option Addr) (n cap : Nat) (f : Nat → Int) (w : World) (h : BytesAt w a n f) (hm : n ≤ cap ∧ cap ≤ 9223372036854775807) (hbig : 1048576 < n) :
    Calls Try.prog 12 #[.slice a n cap] w fun e w' => e = .returned (.bool true) ∧ Below w.heap.size w w' := by
  have hb : (1048576 : Int) < (n : Int) := by omega
  go_enter Try.func12, Try.ntmps12
  go_wp2
  go_ret
  exact ⟨rfl, Below.refl _ _⟩

set_option maxRecDepth 100000 in
set_option maxHeartbeats 8000000 in
theorem small (a : Option Addr) (n cap : Nat) (f : Nat → Int) (w : World) (h : BytesAt w a n f) (hm : n ≤ cap ∧ cap ≤ 9223372036854775807) (hsm : n ≤ 1048576) :
    Calls Try.prog 12 #[.slice a n cap] w fun e w' => e = .returned (.bool true) ∧ Below w.heap.size w w' := by
  have hb : (n : Int) ≤ 1048576 := by omega
  go_enter Try.func12, Try.ntmps12
  go_wp2_with fail
  refine (drawTrailVisits_any a n cap f w h hsm hm.1 hm.2).mono ?_
  rintro e w1 ⟨wd, a1, c1, cs, k, rfl, hC1, hl1, hk1, hb_w1⟩
  have hz_w1 := hb_w1.size
  try simp at hz_w1
  have hbS1 : Below w1.heap.size w1 (w1.alloc (.cells #[.int .i64 wd, .slice a1 cs.length c1] 25)) := (by repeat (first | exact Below.refl _ _ | refine Below.alloc ?_ (by first | exact Nat.le_refl _ | (simp; done) | (simp; omega)) _ | refine Below.drew ?_ | refine Below.setCell ?_ (by first | exact Nat.le_refl _ | (simp; done) | (simp; omega)) _))
  replace hC1 := hC1.below hbS1
  have g0 : (w1.alloc (.cells #[.int .i64 wd, .slice a1 cs.length c1] 25)).cell? ⟨w1.heap.size, 0, none⟩ = some (.int .i64 wd) := by simp [go_sem]
  have g1 : (w1.alloc (.cells #[.int .i64 wd, .slice a1 cs.length c1] 25)).cell? ⟨w1.heap.size, 1, none⟩ = some (.slice a1 cs.length c1) := by simp [go_sem]
  have hBs1 := bcall hb_w1 (by omega) hbS1
  clear hb_w1
  clear hbS1
  obtain ⟨L, hL⟩ : ∃ L, trailT wd cs k = L := ⟨_, rfl⟩
  obtain ⟨kv1, kv2, kv3, kv4⟩ := visits_known hL
  obtain ⟨ke1, ke2, ke3, ke4, ke5⟩ := ends_known hL
  have hH : HalfT L := by
    rw [← hL]
    unfold trailT
    split
    · exact halfT_come wd cs 707 _ _ 64 (Or.inr (Or.inl rfl))
    · exact ⟨by simp, by simp⟩
  obtain ⟨VS, hVS⟩ : ∃ VS, L.1 = VS := ⟨_, rfl⟩
  obtain ⟨ES, hES⟩ : ∃ ES, L.2 = ES := ⟨_, rfl⟩
  have EV : Hid ((trailT wd cs k).1 = VS) := by show _ = _; rw [hL]; exact hVS
  have EE : Hid ((trailT wd cs k).2 = ES) := by show _ = _; rw [hL]; exact hES
  have HV : Hid (∀ u ∈ VS, IsHalf u.2.2) := fun u hu => hH.1 u (by rw [hVS]; exact hu)
  have HE : Hid (∀ u ∈ ES, u.1 ≠ 3 → IsHalf u.2.2) := fun u hu => hH.2 u (by rw [hES]; exact hu)
  rw [hVS] at kv2
  rw [hES] at ke4
  have hlen : VS.length ≤ 1000000 := by omega
  have hle2 : (ES.length : Int) ≤ 64 := by omega
  clear kv1 kv3 kv4 ke1 ke2 ke3 ke5 hH hVS hES hL
  go_wp2_with fail
  refine (implVisitsR EV.out a1 c1 _ hC1 (by omega)).mono ?_
  rintro e w2 ⟨a2, c2, rfl, hR2, hb_w2⟩
  have hz_w2 := hb_w2.size
  try simp at hz_w2
  replace g0 := keepc hb_w2 g0; replace g1 := keepc hb_w2 g1
  replace hC1 := hC1.below hb_w2
  have hB_w2 := bcall hBs1 (by first | omega | (simp; omega)) hb_w2
  clear hBs1 hb_w2
  go_wp2_with fail
  refine (specVisitsR EV.out a1 c1 _ hC1 (by omega)).mono ?_
  rintro e w3 ⟨a3, c3, rfl, hR3, hb_w3⟩
  have hz_w3 := hb_w3.size
  try simp at hz_w3
  replace g0 := keepc hb_w3 g0; replace g1 := keepc hb_w3 g1
  replace hC1 := hC1.below hb_w3
  replace hR2 := hR2.below hb_w3
  have hB_w3 := bcall hB_w2 (by first | omega | (simp; omega)) hb_w3
  clear hB_w2 hb_w3
  go_wp2_with fail
  refine (llVisits_same a2 a3 c2 c3 VS _ hR2 hR3 hlen).mono ?_
  rintro e w4 ⟨rfl, hb_w4⟩
  have hz_w4 := hb_w4.size
  try simp at hz_w4
  replace g0 := keepc hb_w4 g0; replace g1 := keepc hb_w4 g1
  replace hC1 := hC1.below hb_w4
  replace hR2 := hR2.below hb_w4
  replace hR3 := hR3.below hb_w4
  have hB_w4 := bcall hB_w3 (by first | omega | (simp; omega)) hb_w4
  clear hB_w3 hb_w4
  clear hR3
  have hR7 : R1At (w4.alloc (.cells #[.int .i64 64, .int .i64 32, .int .i64 16, .int .i64 8, .int .i64 4, .int .i64 2, .int .i64 1] 3)) (some ⟨w4.heap.size, 0, none⟩) [64, 32, 16, 8, 4, 2, 1] := by
    refine Or.inr ⟨w4.heap.size, 0, rfl, by simp, fun i hi => ?_⟩
    rw [World.cell?_alloc_at _ _ _ _ (by simp)]
    simp only [List.length_cons, List.length_nil] at hi
    rcases (show i = 0 ∨ i = 1 ∨ i = 2 ∨ i = 3 ∨ i = 4 ∨ i = 5 ∨ i = 6 by omega) with rfl | rfl | rfl | rfl | rfl | rfl | rfl <;> rfl
  have hbX : Below w4.heap.size w4 (w4.alloc (.cells #[.int .i64 64, .int .i64 32, .int .i64 16, .int .i64 8, .int .i64 4, .int .i64 2, .int .i64 1] 3)) := (by repeat (first | exact Below.refl _ _ | refine Below.alloc ?_ (by first | exact Nat.le_refl _ | (simp; done) | (simp; omega)) _ | refine Below.drew ?_ | refine Below.setCell ?_ (by first | exact Nat.le_refl _ | (simp; done) | (simp; omega)) _))
  have hBX := bcall hB_w4 (by omega) hbX
  replace g0 := keepc hbX g0; replace g1 := keepc hbX g1
  replace hC1 := hC1.below hbX
  replace hR2 := hR2.below hbX
  clear hbX hB_w4
  go_wp2_with fail
  obtain ⟨w5, hw5⟩ : ∃ w5, w5 = w4.alloc (.cells #[.int .i64 64, .int .i64 32, .int .i64 16, .int .i64 8, .int .i64 4, .int .i64 2, .int .i64 1] 3) := ⟨_, rfl⟩
  rw [← hw5] at g0 g1 hC1 hR2 hR7 hBX ⊢
  clear hw5
  go_loopw [7] (fun ii wr => ∃ i : Nat, i ≤ VS.length ∧ ii = .int .i64 i ∧ wr = w5) (fun ii _ => VS.length - (intOf ii).toNat)
  case atStart => exact ⟨0, Nat.zero_le _, rfl, rfl⟩
  case round =>
    obtain ⟨i, hi, rfl, rfl⟩ := hrel
    by_cases hlt : i < VS.length
    · obtain ⟨b, off, ea, x0, x1, x2⟩ := hR2.at hlt
      subst ea
      obtain ⟨t, et⟩ : ∃ t, VS.getD i (0, 0, 0) = t := ⟨_, rfl⟩
      have hmem : t ∈ VS := by rw [← et]; simp [List.getElem?_eq_getElem hlt]
      rw [et] at x0 x1 x2
      have hh := HV.out t hmem
      obtain ⟨t0, t1, t2⟩ := t
      simp only at x0 x1 x2 hh
      have HM : Hid (decide (t2 ∈ [(64 : Int), 32, 16, 8, 4, 2, 1]) = true) := by
        show _ = _
        refine decide_eq_true ?_
        rcases hh with q | q | q | q | q | q | q <;> rw [q] <;> simp
      clear hmem et hh
      go_wp2_with fail
      refine (llHas_any _ _ [64, 32, 16, 8, 4, 2, 1] t2 _ hR7 (by simp)).mono ?_
      rintro e w' ⟨rfl, rfl⟩
      rw [HM.out]
      go_wp2_with fail
      go_roundw
      case rel => exact ⟨i + 1, by omega, by go_num, by first | trivial | rfl⟩
      case measure => simp [intOf]; omega
    · clear hR2
      go_wp2_with fail
      refine (implEndsR EE.out a1 c1 _ hC1 (by omega)).mono ?_
      rintro e w8 ⟨a8, c8, rfl, hR8, hb8⟩
      have hB8 := bcall hBX hBX.size hb8
      replace hR7 := hR7.below hb8
      clear hb8 hBX hC1 g0 g1
      go_wp2_with fail
      go_loopw [9] (fun ii wr => ∃ i : Nat, i ≤ ES.length ∧ ii = .int .i64 i ∧ Below w8.heap.size w8 wr) (fun ii _ => ES.length - (intOf ii).toNat)
      case atStart => exact ⟨0, Nat.zero_le _, rfl, Below.refl _ _⟩
      case round =>
        rename World => wo
        obtain ⟨j, hj, rfl, hbo⟩ := hrel
        replace hR8 := hR8.below hbo
        replace hR7 := hR7.below hbo
        by_cases hlt : j < ES.length
        · obtain ⟨b, off, ea, x0, x1, x2⟩ := hR8.at hlt
          subst ea
          obtain ⟨t, et⟩ : ∃ t, ES.getD j (0, 0, 0) = t := ⟨_, rfl⟩
          have hmem : t ∈ ES := by rw [← et]; simp [List.getElem?_eq_getElem hlt]
          rw [et] at x0 x1 x2
          have hh := HE.out t hmem
          obtain ⟨t0, t1, t2⟩ := t
          simp only at x0 x1 x2 hh
          by_cases e3 : t0 = 3
          · have b3 : (t0 != 3) = false := by simp [e3]
            clear hmem et hh e3
            go_wp2_with fail
            go_roundw
            case rel => exact ⟨j + 1, by omega, by go_num, hbo⟩
            case measure => simp [intOf]; omega
          · have b3 : (t0 != 3) = true := by simp [e3]
            have HM : Hid (decide (t2 ∈ [(64 : Int), 32, 16, 8, 4, 2, 1]) = true) := by
              show _ = _
              refine decide_eq_true ?_
              rcases hh e3 with q | q | q | q | q | q | q <;> rw [q] <;> simp
            clear hmem et hh e3
            go_wp2_with fail
            refine (llHas_any _ _ [64, 32, 16, 8, 4, 2, 1] t2 _ hR7 (by simp)).mono ?_
            rintro e w' ⟨rfl, rfl⟩
            rw [HM.out]
            go_wp2_with fail
            go_roundw
            case rel => exact ⟨j + 1, by omega, by go_num, hbo⟩
            case measure => simp [intOf]; omega
        · have b1 : decide ((ES.length : Int) ≤ 64) = true := by simp; omega
          go_wp2_with fail
          go_ret
          exact ⟨rfl, bcall hB8 hB8.size hbo⟩

theorem walk (a : Option Addr) (n cap : Nat) (f : Nat → Int) (w : World) (h : BytesAt w a n f) (hm : n ≤ cap ∧ cap ≤ 9223372036854775807) :
    Calls Try.prog 12 #[.slice a n cap] w fun e w' => e = .returned (.bool true) ∧ Below w.heap.size w w' := by
  by_cases hs : n ≤ 1048576
  · exact small a n cap f w h hm hs
  · exact big a n cap f w h hm (by omega)

set_option maxRecDepth 100000 in
theorem lifted (os : Os) (started : os.Started) (H : Type) (enc : TypeId × Value → H) :
    ReturnsInHanded {} Try.checked os 12 .any (Rows.fnTrailHalvesSpec.pre6 enc Try.prog Try.f12 Rows.fnTrailHalvesRow.domain false) (Rows.fnTrailHalvesSpec.post enc Try.prog Try.f12 false true false false) := by
  refine returnsInHanded_of_change (C := Try.checked) own started (by kernel_rfl) Try.func12
    (ChangeSpec.witness6 (enc := enc) (C := Try.checked) false ⟨#[], #[.slice none 0 0], []⟩ 8 (by kernel_rfl) (by kernel_rfl) (by kernel_rfl) (by kernel_rfl)) ?_
  intro W base args ds gs before hval0 hW hcnd _
  have hval : ∀ (j : Nat) t v, Try.f12.params[j]? = some t → args[j]? = some v → Value.okWide Try.prog W .any base t v := hval0
  have hW' := hW
  obtain ⟨p, q, hA0, hV, rfl, hfz, hnd⟩ := hW
  have hA : DataW.TrodAll enc Try.prog W 0 (fun _ => true) true Try.f12.params.toList args.toList ds p := hA0
  rw [Try.params12] at hA hval
  obtain ⟨v0, vs0, d0, ds0, p0, q0, hargs, rfl, rfl, h0, r0⟩ := trodAll_cons hA
  obtain ⟨rfl, rfl, rfl⟩ := trodAll_nil r0
  obtain rfl : args = #[v0] := by cases args; simp_all
  obtain ⟨rfl, rfl⟩ := trodVars_none hV
  have k0 := h0
  have lt0 : ∀ x ∈ p0, x.block < W.heap.size := by obtain ⟨m, hm⟩ := k0; exact DataW.trod_lt m _ _ _ hm
  obtain ⟨a0, n0, cap0, f0, rfl, hC0, hm0⟩ := open_bytes (hval 0 22 v0 rfl rfl) h0
  clear hA0 hval0
  refine (walk a0 n0 cap0 f0 W hC0 hm0).mono fun e W' ⟨he, bel⟩ => ?_
  subst he
  exact ⟨_, rfl, _, _, _, [], _, [], hW', trodAll_mk1 (shut_bool Try.underlying4 _), (trodAll_cons_mk (Below.trod laidOut (by kernel_rfl) (of_decide_eq_true (by kernel_rfl)) k0 bel lt0) trodAll_mk0), rfl, bel.frame _, fun h => by cases h⟩

theorem over : Rows.fnTrailHalvesRow.holds Try.pinned (OpenSpec.ofChange Rows.fnTrailHalvesSpec) :=
  OpenClaim.holds_of_wide 12 Try.f12 rfl rfl rfl rfl rfl rfl rfl ⟨rfl, rfl, rfl, rfl, rfl⟩ rfl rfl rfl rfl rfl (by kernel_rfl) Try.func12 (by kernel_rfl)
    (of_decide_eq_true (by kernel_rfl)) (by unfold Func.isWrapper; first | (rw [if_pos (by decide +kernel)]; kernel_rfl) | (rw [if_neg (by decide +kernel)]; exact ⟨rfl, rfl⟩))
    (fun os started H enc _ => lifted os started H enc)

end Go.Proofs.Ytjfeeibnjgjchaa.LwTrailHalves

namespace Go.Proofs.Ytjfeeibnjgjchaa
/-- The statement. -/
theorem lwTrailHalves : Rows.FnTrailHalvesSaid := LwTrailHalves.over
#print axioms lwTrailHalves
end Go.Proofs.Ytjfeeibnjgjchaa
