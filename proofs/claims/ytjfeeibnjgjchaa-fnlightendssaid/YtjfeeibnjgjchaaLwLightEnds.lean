/-
  'laws.FnLightEnds' returns true for all codes: it is as bright as lamps are, by what ends there. No condition.
-/
import Derived.Test.YtjfeeibnjgjchaaFb
import Derived.Test.YtjfeeibnjgjchaaUm
import Derived.Test.YtjfeeibnjgjchaaDz
import Derived.BigQuiet
namespace Go.Proofs.Ytjfeeibnjgjchaa.LwLightEnds
open Go.ChangeShapes Go.WideShapes Go.ChangeAt Go.RowKit
set_option linter.unusedVariables false
attribute [local go_sem ↓] Go.wp_at_zero Go.wp_at_succ

/-- Too long a code. -/
theorem big (a : Option Addr) (n cap : Nat) (f : Nat → Int) (w : World) (h : BytesAt w a n f) (hm : n ≤ cap ∧ cap ≤ 9223372036854775807) (hbig : 1048576 < n) :
    Calls Try.prog 11 #[.slice a n cap] w fun e w' => e = .returned (.bool true) ∧ Below w.heap.size w w' := by
  have hb : (1048576 : Int) < (n : Int) := by omega
  go_enter Try.func11, Try.ntmps11
  go_wp2
  go_ret
  exact ⟨rfl, Below.refl _ _⟩

set_option maxRecDepth 100000 in
set_option maxHeartbeats 8000000 in
theorem small (a : Option Addr) (n cap : Nat) (f : Nat → Int) (w : World) (h : BytesAt w a n f) (hm : n ≤ cap ∧ cap ≤ 9223372036854775807) (hsm : n ≤ 1048576) :
    Calls Try.prog 11 #[.slice a n cap] w fun e w' => e = .returned (.bool true) ∧ Below w.heap.size w w' := by
  have hb : (n : Int) ≤ 1048576 := by omega
  go_enter Try.func11, Try.ntmps11
  go_wp2_with fail
  refine (drawTrailLight_any a n cap f w h hsm hm.1 hm.2).mono ?_
  rintro e w1 ⟨wd, a1, c1, cs, k, rfl, hC1, hl1, hk1, hb_w1⟩
  have hz_w1 := hb_w1.size
  try simp at hz_w1
  have hbS1 : Below w1.heap.size w1 (w1.alloc (.cells #[.int .i64 wd, .slice a1 cs.length c1] 25)) := (by repeat (first | exact Below.refl _ _ | refine Below.alloc ?_ (by first | exact Nat.le_refl _ | (simp; done) | (simp; omega)) _ | refine Below.drew ?_ | refine Below.setCell ?_ (by first | exact Nat.le_refl _ | (simp; done) | (simp; omega)) _))
  replace hC1 := hC1.below hbS1
  have g0 : (w1.alloc (.cells #[.int .i64 wd, .slice a1 cs.length c1] 25)).cell? ⟨w1.heap.size, 0, none⟩ = some (.int .i64 wd) := by simp [go_sem]
  have g1 : (w1.alloc (.cells #[.int .i64 wd, .slice a1 cs.length c1] 25)).cell? ⟨w1.heap.size, 1, none⟩ = some (.slice a1 cs.length c1) := by simp [go_sem]
  have hBs1 := bcall hb_w1 (by omega) hbS1
  clear hb_w1
  clear hbS1
  obtain ⟨N, hN⟩ : ∃ N, lightN wd cs k = N := ⟨_, rfl⟩
  have EN : Hid (lightN wd cs k = N) := hN
  have bn : (N != N) = false := by simp
  have be : (N == N) = true := by simp
  clear hN
  go_wp2_with fail
  refine (implLightR EN.out a1 c1 _ hC1 (by omega)).mono ?_
  rintro e w2 ⟨rfl, hb_w2⟩
  have hz_w2 := hb_w2.size
  try simp at hz_w2
  replace g0 := keepc hb_w2 g0; replace g1 := keepc hb_w2 g1
  replace hC1 := hC1.below hb_w2
  have hB_w2 := bcall hBs1 (by first | omega | (simp; omega)) hb_w2
  clear hBs1 hb_w2
  go_wp2_with fail
  refine (specLightR EN.out a1 c1 _ hC1 (by omega)).mono ?_
  rintro e w3 ⟨rfl, hb_w3⟩
  have hz_w3 := hb_w3.size
  try simp at hz_w3
  replace g0 := keepc hb_w3 g0; replace g1 := keepc hb_w3 g1
  replace hC1 := hC1.below hb_w3
  have hB_w3 := bcall hB_w2 (by first | omega | (simp; omega)) hb_w3
  clear hB_w2 hb_w3
  go_wp2_with fail
  refine (llSight_any wd a1 c1 cs _ hC1 (by omega) k).mono ?_
  rintro e w5 ⟨rfl, hb_w5⟩
  have hz_w5 := hb_w5.size
  try simp at hz_w5
  replace g0 := keepc hb_w5 g0; replace g1 := keepc hb_w5 g1
  replace hC1 := hC1.below hb_w5
  have hB_w5 := bcall hB_w3 (by first | omega | (simp; omega)) hb_w5
  clear hB_w3 hb_w5
  rcases hs : inS wd cs k with _ | _
  · go_wp2_with fail
    refine (specLightR EN.out a1 c1 _ hC1 (by omega)).mono ?_
    rintro e w6 ⟨rfl, hb_w6⟩
    have hz_w6 := hb_w6.size
    try simp at hz_w6
    replace g0 := keepc hb_w6 g0; replace g1 := keepc hb_w6 g1
    replace hC1 := hC1.below hb_w6
    have hB_w6 := bcall hB_w5 (by first | omega | (simp; omega)) hb_w6
    clear hB_w5 hb_w6
    go_wp2
    go_ret
    exact ⟨rfl, hB_w6⟩
  · obtain ⟨ES, hES⟩ : ∃ ES, (trailT wd cs k).2 = ES := ⟨_, rfl⟩
    have EE : Hid ((trailT wd cs k).2 = ES) := hES
    have hok := inS_ok hs
    obtain ⟨ke1, ke2, ke3, ke4, ke5⟩ := ends_known (rfl : trailT wd cs k = trailT wd cs k)
    rw [hES] at ke1 ke2 ke3 ke4
    have hpos : ∀ u ∈ ES, 1 ≤ u.2.2 := fun u hu => (ke1 u hu).1
    have HLO : Hid (∀ u ∈ ES, LampOk cs u) := fun u hu => lamp_of hok (ke1 u hu)
    have HQ : Hid (∀ u ∈ ES, u.2.2 ≤ 64) := ke2
    have HB : Hid (∀ i, 0 ≤ sumL cs (ES.take i) ∧ sumL cs (ES.take i) ≤ 576) := by
      intro i
      have q1 := sumL_in cs (ES.take i) (fun u hu => lamp_of hok (ke1 u (List.mem_of_mem_take hu)))
      have q2 := sum_take hpos i
      omega
    have HN : Hid (sumL cs ES = N) := by show _ = _; rw [← EN.out, ← hES]; rfl
    have hN576 : N ≤ 576 := by
      have := (HB.out ES.length).2
      rw [List.take_of_length_le (Nat.le_refl _), HN.out] at this
      exact this
    clear ke1 ke2 ke5 hpos hES hok hs
    go_wp2_with fail
    refine (implEndsR EE.out a1 c1 _ hC1 (by omega)).mono ?_
    rintro e w6 ⟨a6, c6, rfl, hR6, hb_w6⟩
    have hz_w6 := hb_w6.size
    try simp at hz_w6
    replace g0 := keepc hb_w6 g0; replace g1 := keepc hb_w6 g1
    replace hC1 := hC1.below hb_w6
    have hB_w6 := bcall hB_w5 (by first | omega | (simp; omega)) hb_w6
    clear hB_w5 hb_w6
    go_wp2_with fail
    go_loopw [7, 8] (fun nn ii wr => ∃ i : Nat, i ≤ ES.length ∧ ii = .int .i64 i ∧ nn = .int .i64 (sumL cs (ES.take i)) ∧ Below w6.heap.size w6 wr) (fun _ ii _ => ES.length - (intOf ii).toNat)
    case atStart => exact ⟨0, Nat.zero_le _, rfl, rfl, Below.refl _ _⟩
    case round =>
      rename World => wo
      obtain ⟨i, hi, rfl, rfl, hb⟩ := hrel
      replace g0 := keepc hb g0; replace g1 := keepc hb g1
      have hC0 := hC1.below hb
      have hR0 := hR6.below hb
      obtain ⟨s, es0⟩ : ∃ s, sumL cs (ES.take i) = s := ⟨_, rfl⟩
      have hsb := HB.out i
      rw [es0] at hsb ⊢
      by_cases hlt : i < ES.length
      · obtain ⟨b, off, ea, z0, z1, z2⟩ := hR0.at hlt
        subst ea
        obtain ⟨t, et⟩ : ∃ t, ES.getD i (0, 0, 0) = t := ⟨_, rfl⟩
        have hmem : t ∈ ES := by rw [← et]; simp [List.getElem?_eq_getElem hlt]
        rw [et] at z0 z1 z2
        obtain ⟨hw1, hlm⟩ := HLO.out t hmem
        have hw2 := HQ.out t hmem
        have hst : sumL cs (ES.take (i + 1)) = s + (if t.1 = 2 then t.2.2 * ltC cs t.2.1 else 0) := by
          rw [take_one ES i (0, 0, 0) hlt, sumL_append, es0, et]
          simp [sumL]
        obtain ⟨t0, t1, t2⟩ := t
        simp only at z0 z1 z2 hw1 hw2 hst hlm
        clear hmem et
        by_cases e0 : t0 = 2
        · rw [if_pos e0] at hst
          obtain ⟨hx, hl1', hl2'⟩ := hlm e0
          obtain ⟨Y, rfl⟩ := Int.eq_ofNat_of_zero_le hx.1
          have hY : Y < cs.length := by omega
          obtain ⟨lt', elt⟩ : ∃ l, ltC cs (Y : Int) = l := ⟨_, rfl⟩
          rw [elt] at hst hl1' hl2'
          rcases hC0 with q | ⟨bc, oc, rfl, hbc, hcc⟩
          · rw [q] at hY; simp at hY
          have zc := (hcc Y hY).2
          have zc' : wo.cell? ⟨bc, oc + Y * 2 + 1, none⟩ = some (.int .i64 lt') := by
            rw [zc, ← elt]; simp [ltC]
          obtain ⟨p, ep⟩ : ∃ p, t2 * lt' = p := ⟨_, rfl⟩
          rw [ep] at hst
          have hp0 : 0 ≤ p := by rw [← ep]; exact Int.mul_nonneg (by omega) (by omega)
          have hp1 : p ≤ 576 := by
            rw [← ep]
            exact Int.le_trans (Int.mul_le_mul hw2 hl2' (by omega) (by omega)) (by omega)
          have wp : IntKind.i64.wrap (t2 * lt') = p := by rw [ep]; exact IntWalk.i64_in _ (by omega)
          have ws : IntKind.i64.wrap (s + p) = s + p := IntWalk.i64_in _ (by omega)
          have HST : Hid (sumL cs (ES.take (i + 1)) = s + p) := hst
          have b0 : (t0 == 2) = true := by simp [e0]
          have hYl : (Y : Int) < (cs.length : Int) := by omega
          have hil : (i : Int) < (ES.length : Int) := by omega
          clear hst e0 es0 zc ep elt hcc hlm
          go_wp2_with fail
          go_quiet (fail)
          have hbq : Below w6.heap.size w6 (wo.drewN nq) := ⟨hb.os, hb.tape, hb.output, hb.size, hb.block⟩
          go_wp2_with fail
          go_roundw
          case rel => exact ⟨i + 1, by omega, by go_num, by rw [HST.out], hbq⟩
          case measure => simp [intOf]; omega
        · rw [if_neg e0] at hst
          have HST : Hid (sumL cs (ES.take (i + 1)) = s) := by show _ = _; rw [hst]; omega
          have b0 : (t0 == 2) = false := by simp [e0]
          clear hst e0 es0 hlm
          go_wp2_with fail
          go_roundw
          case rel => exact ⟨i + 1, by omega, by go_num, by rw [HST.out], hb⟩
          case measure => simp [intOf]; omega
      · have hfin : s = N := by rw [← es0, ← HN.out, List.take_of_length_le (by omega)]
        subst hfin
        have b9 : decide (s ≤ 576) = true := decide_eq_true hN576
        clear es0
        go_wp2_with fail
        go_ret
        exact ⟨rfl, bcall hB_w6 (by omega) hb⟩

theorem walk (a : Option Addr) (n cap : Nat) (f : Nat → Int) (w : World) (h : BytesAt w a n f) (hm : n ≤ cap ∧ cap ≤ 9223372036854775807) :
    Calls Try.prog 11 #[.slice a n cap] w fun e w' => e = .returned (.bool true) ∧ Below w.heap.size w w' := by
  by_cases hs : n ≤ 1048576
  · exact small a n cap f w h hm hs
  · exact big a n cap f w h hm (by omega)

set_option maxRecDepth 100000 in
theorem lifted (os : Os) (started : os.Started) (H : Type) (enc : TypeId × Value → H) :
    ReturnsInHanded {} Try.checked os 11 .any (Rows.fnLightEndsSpec.pre6 enc Try.prog Try.f11 Rows.fnLightEndsRow.domain false) (Rows.fnLightEndsSpec.post enc Try.prog Try.f11 false true false false) := by
  refine returnsInHanded_of_change (C := Try.checked) own started (by kernel_rfl) Try.func11
    (ChangeSpec.witness6 (enc := enc) (C := Try.checked) false ⟨#[], #[.slice none 0 0], []⟩ 8 (by kernel_rfl) (by kernel_rfl) (by kernel_rfl) (by kernel_rfl)) ?_
  intro W base args ds gs before hval0 hW hcnd _
  have hval : ∀ (j : Nat) t v, Try.f11.params[j]? = some t → args[j]? = some v → Value.okWide Try.prog W .any base t v := hval0
  have hW' := hW
  obtain ⟨p, q, hA0, hV, rfl, hfz, hnd⟩ := hW
  have hA : DataW.TrodAll enc Try.prog W 0 (fun _ => true) true Try.f11.params.toList args.toList ds p := hA0
  rw [Try.params11] at hA hval
  obtain ⟨v0, vs0, d0, ds0, p0, q0, hargs, rfl, rfl, h0, r0⟩ := trodAll_cons hA
  obtain ⟨rfl, rfl, rfl⟩ := trodAll_nil r0
  obtain rfl : args = #[v0] := by cases args; simp_all
  obtain ⟨rfl, rfl⟩ := trodVars_none hV
  have k0 := h0
  have lt0 : ∀ x ∈ p0, x.block < W.heap.size := by obtain ⟨m, hm⟩ := k0; exact DataW.trod_lt m _ _ _ hm
  obtain ⟨a0, n0, cap0, f0, rfl, hC0, hm0⟩ := open_bytes (hval 0 22 v0 rfl rfl) h0
  clear hA0 hval0
  refine (walk a0 n0 cap0 f0 W hC0 hm0).mono fun e W' ⟨he, bel⟩ => ?_
  subst he
  exact ⟨_, rfl, _, _, _, [], _, [], hW', trodAll_mk1 (shut_bool Try.underlying4 _), (trodAll_cons_mk (Below.trod laidOut (by kernel_rfl) (of_decide_eq_true (by kernel_rfl)) k0 bel lt0) trodAll_mk0), rfl, bel.frame _, fun h => by cases h⟩

theorem over : Rows.fnLightEndsRow.holds Try.pinned (OpenSpec.ofChange Rows.fnLightEndsSpec) :=
  OpenClaim.holds_of_wide 11 Try.f11 rfl rfl rfl rfl rfl rfl rfl ⟨rfl, rfl, rfl, rfl, rfl⟩ rfl rfl rfl rfl rfl (by kernel_rfl) Try.func11 (by kernel_rfl)
    (of_decide_eq_true (by kernel_rfl)) (by unfold Func.isWrapper; first | (rw [if_pos (by decide +kernel)]; kernel_rfl) | (rw [if_neg (by decide +kernel)]; exact ⟨rfl, rfl⟩))
    (fun os started H enc _ => lifted os started H enc)

end Go.Proofs.Ytjfeeibnjgjchaa.LwLightEnds

namespace Go.Proofs.Ytjfeeibnjgjchaa
/-- The statement. -/
theorem lwLightEnds : Rows.FnLightEndsSaid := LwLightEnds.over
#print axioms lwLightEnds
end Go.Proofs.Ytjfeeibnjgjchaa
