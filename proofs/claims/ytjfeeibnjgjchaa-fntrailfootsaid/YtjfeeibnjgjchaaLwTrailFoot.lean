/-
  'laws.FnTrailFoot' returns true for all codes: into a cell light comes just if it visits it. No condition.
-/
import Derived.Test.YtjfeeibnjgjchaaFb
import Derived.Test.YtjfeeibnjgjchaaUm
import Derived.Test.YtjfeeibnjgjchaaUl
import Derived.BigQuiet
namespace Go.Proofs.Ytjfeeibnjgjchaa.LwTrailFoot
open Go.ChangeShapes Go.WideShapes Go.ChangeAt Go.RowKit
set_option linter.unusedVariables false
attribute [local go_sem ↓] Go.wp_at_zero Go.wp_at_succ

/-- Too long a code. -/
theorem big (a : Option Addr) (n cap : Nat) (f : Nat → Int) (w : World) (h : BytesAt w a n f) (hm : n ≤ cap ∧ cap ≤ 9223372036854775807) (hbig : 1048576 < n) :
    Calls Try.prog 7 #[.slice a n cap] w fun e w' => e = .returned (.bool true) ∧ Below w.heap.size w w' := by
  have hb : (1048576 : Int) < (n : Int) := by omega
  go_enter Try.func7, Try.ntmps7
  go_wp2
  go_ret
  exact ⟨rfl, Below.refl _ _⟩

set_option maxRecDepth 100000 in
set_option maxHeartbeats 8000000 in
theorem small (a : Option Addr) (n cap : Nat) (f : Nat → Int) (w : World) (h : BytesAt w a n f) (hm : n ≤ cap ∧ cap ≤ 9223372036854775807) (hsm : n ≤ 1048576) :
    Calls Try.prog 7 #[.slice a n cap] w fun e w' => e = .returned (.bool true) ∧ Below w.heap.size w w' := by
  have hb : (n : Int) ≤ 1048576 := by omega
  go_enter Try.func7, Try.ntmps7
  go_wp2_with fail
  refine (drawTrailFoot_any a n cap f w h hsm hm.1 hm.2).mono ?_
  rintro e w1 ⟨wd, a1, c1, cs, k, rfl, hC1, hl1, hk1, hb_w1⟩
  have hz_w1 := hb_w1.size
  try simp at hz_w1
  have hbS1 : Below w1.heap.size w1 (w1.alloc (.cells #[.int .i64 wd, .slice a1 cs.length c1] 25)) := (by repeat (first | exact Below.refl _ _ | refine Below.alloc ?_ (by first | exact Nat.le_refl _ | (simp; done) | (simp; omega)) _ | refine Below.drew ?_ | refine Below.setCell ?_ (by first | exact Nat.le_refl _ | (simp; done) | (simp; omega)) _))
  replace hC1 := hC1.below hbS1
  have g0 : (w1.alloc (.cells #[.int .i64 wd, .slice a1 cs.length c1] 25)).cell? ⟨w1.heap.size, 0, none⟩ = some (.int .i64 wd) := by simp [go_sem]
  have g1 : (w1.alloc (.cells #[.int .i64 wd, .slice a1 cs.length c1] 25)).cell? ⟨w1.heap.size, 1, none⟩ = some (.slice a1 cs.length c1) := by simp [go_sem]
  have hBs1 := bcall hb_w1 (by omega) hbS1
  clear hb_w1
  clear hbS1
  obtain ⟨FT, hFT⟩ : ∃ FT, footN wd cs k = FT := ⟨_, rfl⟩
  have EF : Hid (footN wd cs k = FT) := hFT
  have hfl := foot_len wd cs k hl1
  rw [hFT] at hfl
  have HASC : Hid (∀ i, i + 1 < FT.length → FT.getD i 0 < FT.getD (i + 1) 0) := fun i hi => pair_at (by rw [← hFT]; exact foot_asc wd cs k) hi
  obtain ⟨VS, hVS⟩ : ∃ VS, (trailT wd cs k).1 = VS := ⟨_, rfl⟩
  have EV : Hid ((trailT wd cs k).1 = VS) := hVS
  have kv2 := (visits_known (rfl : trailT wd cs k = trailT wd cs k)).2.1
  rw [hVS] at kv2
  have HVF : Hid (∀ u ∈ VS, decide (u.1 ∈ FT) = true) := fun u hu => by
    rw [← hFT]
    exact decide_eq_true (mem_foot (by rw [hVS]; exact hu))
  have HFV : Hid (∀ x ∈ FT, VS.any (fun u => u.1 == x) = true) := fun x hx => by
    rw [← hFT] at hx
    obtain ⟨u, hu, e⟩ := foot_mem hx
    rw [hVS] at hu
    rw [List.any_eq_true]
    exact ⟨u, hu, by simp [e]⟩
  have hlen : VS.length ≤ 1000000 := by omega
  clear hFT hVS
  go_wp2_with fail
  refine (implFootR EF.out a1 c1 _ hC1 (by omega)).mono ?_
  rintro e w2 ⟨a2, c2, rfl, hF2, hb_w2⟩
  have hz_w2 := hb_w2.size
  try simp at hz_w2
  replace g0 := keepc hb_w2 g0; replace g1 := keepc hb_w2 g1
  replace hC1 := hC1.below hb_w2
  have hB_w2 := bcall hBs1 (by first | omega | (simp; omega)) hb_w2
  clear hBs1 hb_w2
  go_wp2_with fail
  refine (specFootR EF.out a1 c1 _ hC1 (by omega)).mono ?_
  rintro e w3 ⟨a3, c3, rfl, hF3, hb_w3⟩
  have hz_w3 := hb_w3.size
  try simp at hz_w3
  replace g0 := keepc hb_w3 g0; replace g1 := keepc hb_w3 g1
  replace hC1 := hC1.below hb_w3
  replace hF2 := hF2.below hb_w3
  have hB_w3 := bcall hB_w2 (by first | omega | (simp; omega)) hb_w3
  clear hB_w2 hb_w3
  go_wp2_with fail
  refine (llInts_same a2 a3 c2 c3 FT _ hF2 hF3 (by omega)).mono ?_
  rintro e w4 ⟨rfl, hb_w4⟩
  have hz_w4 := hb_w4.size
  try simp at hz_w4
  replace g0 := keepc hb_w4 g0; replace g1 := keepc hb_w4 g1
  replace hC1 := hC1.below hb_w4
  replace hF2 := hF2.below hb_w4
  replace hF3 := hF3.below hb_w4
  have hB_w4 := bcall hB_w3 (by first | omega | (simp; omega)) hb_w4
  clear hB_w3 hb_w4
  clear hF3
  go_wp2_with fail
  refine (implVisitsR EV.out a1 c1 _ hC1 (by omega)).mono ?_
  rintro e w5 ⟨a5, c5, rfl, hR5, hb_w5⟩
  have hz_w5 := hb_w5.size
  try simp at hz_w5
  replace g0 := keepc hb_w5 g0; replace g1 := keepc hb_w5 g1
  replace hC1 := hC1.below hb_w5
  replace hF2 := hF2.below hb_w5
  have hB_w5 := bcall hB_w4 (by first | omega | (simp; omega)) hb_w5
  clear hB_w4 hb_w5
  go_wp2_with fail
  go_loopw [7] (fun ii wr => ∃ i : Nat, i ≤ VS.length ∧ ii = .int .i64 i ∧ wr = w5) (fun ii _ => VS.length - (intOf ii).toNat)
  case atStart => exact ⟨0, Nat.zero_le _, rfl, rfl⟩
  case round =>
    obtain ⟨i, hi, rfl, rfl⟩ := hrel
    by_cases hlt : i < VS.length
    · obtain ⟨b, off, ea, x0, x1, x2⟩ := hR5.at hlt
      subst ea
      obtain ⟨t, et⟩ : ∃ t, VS.getD i (0, 0, 0) = t := ⟨_, rfl⟩
      have hmem : t ∈ VS := by rw [← et]; simp [List.getElem?_eq_getElem hlt]
      rw [et] at x0 x1 x2
      have hh := HVF.out t hmem
      obtain ⟨t0, t1, t2⟩ := t
      simp only at x0 x1 x2 hh
      have HM : Hid (decide (t0 ∈ FT) = true) := hh
      clear hmem et hh
      go_wp2_with fail
      refine (llHas_any _ _ FT t0 _ hF2 (by omega)).mono ?_
      rintro e w' ⟨rfl, rfl⟩
      rw [HM.out]
      go_wp2_with fail
      go_roundw
      case rel => exact ⟨i + 1, by omega, by go_num, by first | trivial | rfl⟩
      case measure => simp [intOf]; omega
    · go_wp2_with fail
      clear hi hlt
      go_loopw [8] (fun ii wr2 => ∃ i : Nat, i ≤ FT.length ∧ ii = .int .i64 i ∧ Below wr.heap.size wr wr2) (fun ii _ => FT.length - (intOf ii).toNat)
      case atStart => exact ⟨0, Nat.zero_le _, rfl, Below.refl _ _⟩
      case round =>
        rename World => wo
        obtain ⟨i2, hi2, rfl, hbo⟩ := hrel
        have hR6 := hR5.below hbo
        have hF6 := hF2.below hbo
        by_cases hlt : i2 < FT.length
        · obtain ⟨y, ey⟩ : ∃ y, FT.getD i2 0 = y := ⟨_, rfl⟩
          have hym : y ∈ FT := by rw [← ey]; simp [List.getElem?_eq_getElem hlt]
          have hfin := HFV.out y hym
          have HFIN : Hid (VS.any (fun u => u.1 == y) = true) := hfin
          rcases hF6 with q | ⟨bf, of, eaf, hbf, hcf⟩
          · rw [q] at hlt; simp at hlt
          subst eaf
          have yc := hcf i2 hlt
          rw [ey] at yc
          have HCF : Hid (∀ i, i < FT.length → wo.cell? ⟨bf, of + i, none⟩ = some (.int .i64 (FT.getD i 0))) := hcf
          have HEY : Hid (FT.getD i2 0 = y) := ey
          clear hcf ey hym hfin
          go_wp2_with fail
          go_loopw [9, 10] (fun ff ii wr3 => ∃ n : Nat, n ≤ VS.length ∧ ii = .int .i64 n ∧ ff = .bool ((VS.take n).any (fun u => u.1 == y)) ∧ Below wo.heap.size wo wr3) (fun _ ii _ => VS.length - (intOf ii).toNat)
          case atStart => exact ⟨0, Nat.zero_le _, rfl, rfl, Below.refl _ _⟩
          case round =>
            rename World => wq
            obtain ⟨n2, hn2, rfl, rfl, hbq⟩ := hrel
            have hR7 := hR6.below hbq
            have yc7 := keepc hbq yc
            have hzq := hbq.size
            by_cases hl3 : n2 < VS.length
            · obtain ⟨b, off, ea, x0, x1, x2⟩ := hR7.at hl3
              subst ea
              obtain ⟨t, et⟩ : ∃ t, VS.getD n2 (0, 0, 0) = t := ⟨_, rfl⟩
              rw [et] at x0 x1 x2
              have hst : (VS.take (n2 + 1)).any (fun u => u.1 == y) = ((VS.take n2).any (fun u => u.1 == y) || (t.1 == y)) := by
                rw [take_one VS n2 (0, 0, 0) hl3, List.any_append, et]
                simp
              obtain ⟨t0, t1, t2⟩ := t
              simp only at x0 x1 x2 hst
              rcases hf0 : (VS.take n2).any (fun u => u.1 == y) with _ | _
              · rw [hf0] at hst
                simp only [Bool.false_or] at hst
                have HST : Hid ((VS.take (n2 + 1)).any (fun u => u.1 == y) = (t0 == y)) := hst
                clear hst hf0 et
                go_wp2_with fail
                go_quiet (fail)
                have hbz : Below wo.heap.size wo (wq.drewN nq) := ⟨hbq.os, hbq.tape, hbq.output, hbq.size, hbq.block⟩
                go_wp2_with fail
                go_roundw
                case rel => exact ⟨n2 + 1, by omega, by go_num, by rw [HST.out], hbz⟩
                case measure => simp [intOf]; omega
              · rw [hf0] at hst
                simp only [Bool.true_or] at hst
                have HST : Hid ((VS.take (n2 + 1)).any (fun u => u.1 == y) = true) := hst
                clear hst hf0 et
                go_wp2_with fail
                go_quiet (fail)
                have hbz : Below wo.heap.size wo (wq.drewN nq) := ⟨hbq.os, hbq.tape, hbq.output, hbq.size, hbq.block⟩
                go_wp2_with fail
                go_roundw
                case rel => exact ⟨n2 + 1, by omega, by go_num, by rw [HST.out], hbz⟩
                case measure => simp [intOf]; omega
            · have hff : (VS.take n2).any (fun u => u.1 == y) = true := by rw [List.take_of_length_le (by omega)]; exact HFIN.out
              rw [hff]
              have hbt := bcall hbo hbo.size hbq
              clear hff
              rcases Nat.eq_zero_or_pos i2 with e0 | e0
              · subst e0
                have b0 : decide ((0 : Int) < ((0 : Nat) : Int)) = false := decide_eq_false (by omega)
                go_wp2_with fail
                go_quiet (fail)
                have hbz : Below wr.heap.size wr (wq.drewN nq) := ⟨hbt.os, hbt.tape, hbt.output, hbt.size, hbt.block⟩
                go_wp2_with fail
                go_roundw
                case rel => exact ⟨0 + 1, by omega, by go_num, hbz⟩
                case measure => simp [intOf]; omega
              · obtain ⟨j, rfl⟩ : ∃ j, i2 = j + 1 := ⟨i2 - 1, by omega⟩
                have hasc := HASC.out j hlt
                rw [HEY.out] at hasc
                have yp := keepc hbq (HCF.out j (by omega))
                obtain ⟨z, ez⟩ : ∃ z, FT.getD j 0 = z := ⟨_, rfl⟩
                rw [ez] at yp hasc
                have b0 : decide ((0 : Int) < ((j + 1 : Nat) : Int)) = true := decide_eq_true (by omega)
                have b1 : decide (y ≤ z) = false := by simp; omega
                have hj31 : j ≤ 31 := by omega
                have hjl : (j : Int) < (FT.length : Int) := by omega
                have hjl1 : (j : Int) + 1 < (FT.length : Int) := by omega
                clear ez hasc e0
                go_wp2_with fail
                go_quiet (fail)
                have hbz : Below wr.heap.size wr (wq.drewN nq) := ⟨hbt.os, hbt.tape, hbt.output, hbt.size, hbt.block⟩
                go_wp2_with fail
                go_roundw
                case rel => exact ⟨j + 1 + 1, by omega, by go_num, hbz⟩
                case measure => simp [intOf]; omega
        · go_wp2_with fail
          go_ret
          exact ⟨rfl, bcall hB_w5 (by omega) hbo⟩

theorem walk (a : Option Addr) (n cap : Nat) (f : Nat → Int) (w : World) (h : BytesAt w a n f) (hm : n ≤ cap ∧ cap ≤ 9223372036854775807) :
    Calls Try.prog 7 #[.slice a n cap] w fun e w' => e = .returned (.bool true) ∧ Below w.heap.size w w' := by
  by_cases hs : n ≤ 1048576
  · exact small a n cap f w h hm hs
  · exact big a n cap f w h hm (by omega)

set_option maxRecDepth 100000 in
theorem lifted (os : Os) (started : os.Started) (H : Type) (enc : TypeId × Value → H) :
    ReturnsInHanded {} Try.checked os 7 .any (Rows.fnTrailFootSpec.pre6 enc Try.prog Try.f7 Rows.fnTrailFootRow.domain false) (Rows.fnTrailFootSpec.post enc Try.prog Try.f7 false true false false) := by
  refine returnsInHanded_of_change (C := Try.checked) own started (by kernel_rfl) Try.func7
    (ChangeSpec.witness6 (enc := enc) (C := Try.checked) false ⟨#[], #[.slice none 0 0], []⟩ 8 (by kernel_rfl) (by kernel_rfl) (by kernel_rfl) (by kernel_rfl)) ?_
  intro W base args ds gs before hval0 hW hcnd _
  have hval : ∀ (j : Nat) t v, Try.f7.params[j]? = some t → args[j]? = some v → Value.okWide Try.prog W .any base t v := hval0
  have hW' := hW
  obtain ⟨p, q, hA0, hV, rfl, hfz, hnd⟩ := hW
  have hA : DataW.TrodAll enc Try.prog W 0 (fun _ => true) true Try.f7.params.toList args.toList ds p := hA0
  rw [Try.params7] at hA hval
  obtain ⟨v0, vs0, d0, ds0, p0, q0, hargs, rfl, rfl, h0, r0⟩ := trodAll_cons hA
  obtain ⟨rfl, rfl, rfl⟩ := trodAll_nil r0
  obtain rfl : args = #[v0] := by cases args; simp_all
  obtain ⟨rfl, rfl⟩ := trodVars_none hV
  have k0 := h0
  have lt0 : ∀ x ∈ p0, x.block < W.heap.size := by obtain ⟨m, hm⟩ := k0; exact DataW.trod_lt m _ _ _ hm
  obtain ⟨a0, n0, cap0, f0, rfl, hC0, hm0⟩ := open_bytes (hval 0 22 v0 rfl rfl) h0
  clear hA0 hval0
  refine (walk a0 n0 cap0 f0 W hC0 hm0).mono fun e W' ⟨he, bel⟩ => ?_
  subst he
  exact ⟨_, rfl, _, _, _, [], _, [], hW', trodAll_mk1 (shut_bool Try.underlying4 _), (trodAll_cons_mk (Below.trod laidOut (by kernel_rfl) (of_decide_eq_true (by kernel_rfl)) k0 bel lt0) trodAll_mk0), rfl, bel.frame _, fun h => by cases h⟩

theorem over : Rows.fnTrailFootRow.holds Try.pinned (OpenSpec.ofChange Rows.fnTrailFootSpec) :=
  OpenClaim.holds_of_wide 7 Try.f7 rfl rfl rfl rfl rfl rfl rfl ⟨rfl, rfl, rfl, rfl, rfl⟩ rfl rfl rfl rfl rfl (by kernel_rfl) Try.func7 (by kernel_rfl)
    (of_decide_eq_true (by kernel_rfl)) (by unfold Func.isWrapper; first | (rw [if_pos (by decide +kernel)]; kernel_rfl) | (rw [if_neg (by decide +kernel)]; exact ⟨rfl, rfl⟩))
    (fun os started H enc _ => lifted os started H enc)

end Go.Proofs.Ytjfeeibnjgjchaa.LwTrailFoot

namespace Go.Proofs.Ytjfeeibnjgjchaa
/-- The statement. -/
theorem lwTrailFoot : Rows.FnTrailFootSaid := LwTrailFoot.over
#print axioms lwTrailFoot
end Go.Proofs.Ytjfeeibnjgjchaa
