/-
  'laws.FnTrailClear' returns true for all codes: without glass light ends once. No condition.
-/
import Derived.Test.YtjfeeibnjgjchaaFb
import Derived.Test.YtjfeeibnjgjchaaUm
import Derived.Test.YtjfeeibnjgjchaaUl
import Derived.BigQuiet
namespace Go.Proofs.Ytjfeeibnjgjchaa.LwTrailClear
open Go.ChangeShapes Go.WideShapes Go.ChangeAt Go.RowKit
set_option linter.unusedVariables false
attribute [local go_sem ↓] Go.wp_at_zero Go.wp_at_succ

/-- Too long a code. -/
theorem big (a : Option Addr) (n cap : Nat) (f : Nat → Int) (w : World) (h : BytesAt w a n f) (hm : n ≤ cap ∧ cap ≤ 9223372036854775807) (hbig : 1048576 < n) :
    Calls Try.prog 9 #[.slice a n cap] w fun e w' => e = .returned (.bool true) ∧ Below w.heap.size w w' := by
  have hb : (1048576 : Int) < (n : Int) := by omega
  go_enter Try.func9, Try.ntmps9
  go_wp2
  go_ret
  exact ⟨rfl, Below.refl _ _⟩

set_option maxRecDepth 100000 in
set_option maxHeartbeats 8000000 in
theorem small (a : Option Addr) (n cap : Nat) (f : Nat → Int) (w : World) (h : BytesAt w a n f) (hm : n ≤ cap ∧ cap ≤ 9223372036854775807) (hsm : n ≤ 1048576) :
    Calls Try.prog 9 #[.slice a n cap] w fun e w' => e = .returned (.bool true) ∧ Below w.heap.size w w' := by
  have hb : (n : Int) ≤ 1048576 := by omega
  go_enter Try.func9, Try.ntmps9
  go_wp2_with fail
  refine (drawTrailVisits_any a n cap f w h hsm hm.1 hm.2).mono ?_
  rintro e w1 ⟨wd, a1, c1, cs, k, rfl, hC1, hl1, hk1, hb_w1⟩
  have hz_w1 := hb_w1.size
  try simp at hz_w1
  have hbS1 : Below w1.heap.size w1 (w1.alloc (.cells #[.int .i64 wd, .slice a1 cs.length c1] 25)) := (by repeat (first | exact Below.refl _ _ | refine Below.alloc ?_ (by first | exact Nat.le_refl _ | (simp; done) | (simp; omega)) _ | refine Below.drew ?_ | refine Below.setCell ?_ (by first | exact Nat.le_refl _ | (simp; done) | (simp; omega)) _))
  replace hC1 := hC1.below hbS1
  have g0 : (w1.alloc (.cells #[.int .i64 wd, .slice a1 cs.length c1] 25)).cell? ⟨w1.heap.size, 0, none⟩ = some (.int .i64 wd) := by simp [go_sem]
  have g1 : (w1.alloc (.cells #[.int .i64 wd, .slice a1 cs.length c1] 25)).cell? ⟨w1.heap.size, 1, none⟩ = some (.slice a1 cs.length c1) := by simp [go_sem]
  have hBs1 := bcall hb_w1 (by omega) hbS1
  clear hb_w1
  clear hbS1
  obtain ⟨L, hL⟩ : ∃ L, trailT wd cs k = L := ⟨_, rfl⟩
  have HL : Hid (trailT wd cs k = L) := hL
  obtain ⟨kv1, kv2, kv3, kv4⟩ := visits_known hL
  obtain ⟨VS, hVS⟩ : ∃ VS, L.1 = VS := ⟨_, rfl⟩
  have EX : Hid ((trailT wd cs k).1 = VS) := by show _ = _; rw [hL]; exact hVS
  have HX : Hid (L.1 = VS) := hVS
  rw [hVS] at kv1 kv2 kv3 kv4
  have KV1 : Hid (∀ u ∈ VS, 0 ≤ u.1 ∧ u.1 < (cs.length : Int)) := kv1
  have KV4 : Hid (∀ u ∈ VS, (0 ≤ u.2.1 ∧ u.2.1 ≤ 3) ∧ 1 ≤ u.2.2 ∧ u.2.2 ≤ 64) := kv4
  have hlen : VS.length ≤ 1000000 := by omega
  clear kv1 kv3 kv4 hVS hL
  go_wp2_with fail
  refine (implVisitsR EX.out a1 c1 _ hC1 (by omega)).mono ?_
  rintro e w2 ⟨a2, c2, rfl, hR2, hb_w2⟩
  have hz_w2 := hb_w2.size
  try simp at hz_w2
  replace g0 := keepc hb_w2 g0; replace g1 := keepc hb_w2 g1
  replace hC1 := hC1.below hb_w2
  have hB_w2 := bcall hBs1 (by first | omega | (simp; omega)) hb_w2
  clear hBs1 hb_w2
  go_wp2_with fail
  refine (specVisitsR EX.out a1 c1 _ hC1 (by omega)).mono ?_
  rintro e w3 ⟨a3, c3, rfl, hR3, hb_w3⟩
  have hz_w3 := hb_w3.size
  try simp at hz_w3
  replace g0 := keepc hb_w3 g0; replace g1 := keepc hb_w3 g1
  replace hC1 := hC1.below hb_w3
  replace hR2 := hR2.below hb_w3
  have hB_w3 := bcall hB_w2 (by first | omega | (simp; omega)) hb_w3
  clear hB_w2 hb_w3
  go_wp2_with fail
  refine (llVisits_same a2 a3 c2 c3 VS _ hR2 hR3 hlen).mono ?_
  rintro e w4 ⟨rfl, hb_w4⟩
  have hz_w4 := hb_w4.size
  try simp at hz_w4
  replace g0 := keepc hb_w4 g0; replace g1 := keepc hb_w4 g1
  replace hC1 := hC1.below hb_w4
  replace hR2 := hR2.below hb_w4
  replace hR3 := hR3.below hb_w4
  have hB_w4 := bcall hB_w3 (by first | omega | (simp; omega)) hb_w4
  clear hB_w3 hb_w4
  go_wp2_with fail
  refine (llSight_any wd a1 c1 cs _ hC1 (by omega) k).mono ?_
  rintro e w5 ⟨rfl, hb_w5⟩
  have hz_w5 := hb_w5.size
  try simp at hz_w5
  replace g0 := keepc hb_w5 g0; replace g1 := keepc hb_w5 g1
  replace hC1 := hC1.below hb_w5
  replace hR2 := hR2.below hb_w5
  replace hR3 := hR3.below hb_w5
  have hB_w5 := bcall hB_w4 (by first | omega | (simp; omega)) hb_w5
  clear hB_w4 hb_w5
  clear hR3
  rcases hs : inS wd cs k with _ | _
  · go_wp2_with fail
    refine (specVisitsR EX.out a1 c1 _ hC1 (by omega)).mono ?_
    rintro e w6 ⟨a6, c6, rfl, hR6, hb_w6⟩
    have hz_w6 := hb_w6.size
    try simp at hz_w6
    replace g0 := keepc hb_w6 g0; replace g1 := keepc hb_w6 g1
    replace hC1 := hC1.below hb_w6
    replace hR2 := hR2.below hb_w6
    have hB_w6 := bcall hB_w5 (by first | omega | (simp; omega)) hb_w6
    clear hB_w5 hb_w6
    go_wp2_with fail
    refine (llVisits_same a2 a6 c2 c6 VS _ hR2 hR6 hlen).mono ?_
    rintro e w7 ⟨rfl, hb_w7⟩
    have hz_w7 := hb_w7.size
    try simp at hz_w7
    replace g0 := keepc hb_w7 g0; replace g1 := keepc hb_w7 g1
    replace hC1 := hC1.below hb_w7
    replace hR2 := hR2.below hb_w7
    replace hR6 := hR6.below hb_w7
    have hB_w7 := bcall hB_w6 (by first | omega | (simp; omega)) hb_w7
    clear hB_w6 hb_w7
    go_wp2
    go_ret
    exact ⟨rfl, hB_w7⟩
  · go_wp2_with fail
    refine (llClear_any wd a1 c1 cs _ hC1 (by omega)).mono ?_
    rintro e w6 ⟨rfl, hb_w6⟩
    have hz_w6 := hb_w6.size
    try simp at hz_w6
    replace g0 := keepc hb_w6 g0; replace g1 := keepc hb_w6 g1
    replace hC1 := hC1.below hb_w6
    replace hR2 := hR2.below hb_w6
    have hB_w6 := bcall hB_w5 (by first | omega | (simp; omega)) hb_w6
    clear hB_w5 hb_w6
    rcases hcl : clearB cs with _ | _
    · go_wp2_with fail
      refine (specVisitsR EX.out a1 c1 _ hC1 (by omega)).mono ?_
      rintro e w7 ⟨a7, c7, rfl, hR7, hb_w7⟩
      have hz_w7 := hb_w7.size
      try simp at hz_w7
      replace g0 := keepc hb_w7 g0; replace g1 := keepc hb_w7 g1
      replace hC1 := hC1.below hb_w7
      replace hR2 := hR2.below hb_w7
      have hB_w7 := bcall hB_w6 (by first | omega | (simp; omega)) hb_w7
      clear hB_w6 hb_w7
      go_wp2_with fail
      refine (llVisits_same a2 a7 c2 c7 VS _ hR2 hR7 hlen).mono ?_
      rintro e w8 ⟨rfl, hb_w8⟩
      have hz_w8 := hb_w8.size
      try simp at hz_w8
      replace g0 := keepc hb_w8 g0; replace g1 := keepc hb_w8 g1
      replace hC1 := hC1.below hb_w8
      replace hR2 := hR2.below hb_w8
      replace hR7 := hR7.below hb_w8
      have hB_w8 := bcall hB_w7 (by first | omega | (simp; omega)) hb_w8
      clear hB_w7 hb_w8
      go_wp2
      go_ret
      exact ⟨rfl, hB_w8⟩
    · obtain ⟨⟨t, te, tw, tk⟩, hap⟩ := trail_clear hs (clearB_is hcl)
      obtain ⟨t0, t1, t2⟩ := t
      simp only at tw tk
      subst tw
      have EE : Hid ((trailT wd cs k).2 = [(t0, t1, 64)]) := te
      have b3 : (t0 != 3) = true := by simp [tk]
      rw [EX.out] at hap
      have HAP : Hid (∀ i j, i < j → j < VS.length → ¬ ((VS.getD i (0, 0, 0)).1 = (VS.getD j (0, 0, 0)).1 ∧ (VS.getD i (0, 0, 0)).2.1 = (VS.getD j (0, 0, 0)).2.1)) := hap
      clear hap te tk hs hcl
      go_wp2_with fail
      go_loopw [6] (fun ii wr => ∃ i : Nat, i ≤ VS.length ∧ ii = .int .i64 i ∧ Below w6.heap.size w6 wr) (fun ii _ => VS.length - (intOf ii).toNat)
      case atStart => exact ⟨0, Nat.zero_le _, rfl, Below.refl _ _⟩
      case round =>
        rename World => wo
        obtain ⟨i, hi, rfl, hbo⟩ := hrel
        have hR3 := hR2.below hbo
        by_cases hlt : i < VS.length
        · obtain ⟨b, off, ea, x0, x1, x2⟩ := hR3.at hlt
          obtain ⟨s, es⟩ : ∃ s, VS.getD i (0, 0, 0) = s := ⟨_, rfl⟩
          rw [es] at x0 x1 x2
          have HES : Hid (VS.getD i (0, 0, 0) = s) := es
          obtain ⟨s0, s1, s2⟩ := s
          simp only at x0 x1 x2
          clear es x2
          go_wp2_with fail
          go_loopw [7] (fun ii wr2 => ∃ n : Nat, n ≤ i ∧ ii = .int .i64 n ∧ Below wo.heap.size wo wr2) (fun ii _ => i - (intOf ii).toNat)
          case atStart => exact ⟨0, Nat.zero_le _, rfl, Below.refl _ _⟩
          case round =>
            rename World => wq
            obtain ⟨n2, hn2, rfl, hbq⟩ := hrel
            by_cases hl2 : n2 < i
            · obtain ⟨b', off', ea', y0, y1, y2⟩ := (hR3.below hbq).at (show n2 < VS.length by omega)
              have z0 := keepc hbq x0
              have z1 := keepc hbq x1
              rw [ea] at ea'
              simp only [Option.some.injEq, Addr.mk.injEq, and_true] at ea'
              obtain ⟨rfl, rfl⟩ := ea'
              subst ea
              obtain ⟨t, et⟩ : ∃ t, VS.getD n2 (0, 0, 0) = t := ⟨_, rfl⟩
              rw [et] at y0 y1 y2
              have hno := HAP.out n2 i hl2 hlt
              rw [et, HES.out] at hno
              obtain ⟨q0, q1, q2⟩ := t
              simp only at y0 y1 y2 hno
              have hnl : (n2 : Int) < (VS.length : Int) := by omega
              have hil : (i : Int) < (VS.length : Int) := by omega
              by_cases e0 : q0 = s0
              · have b0 : (q0 == s0) = true := by simp [e0]
                have b1 : (q1 == s1) = false := by simp; exact fun q => hno ⟨e0, q⟩
                clear hno e0 et
                go_wp2_with fail
                go_quiet (fail)
                have hbz : Below wo.heap.size wo (wq.drewN nq) := ⟨hbq.os, hbq.tape, hbq.output, hbq.size, hbq.block⟩
                go_wp2_with fail
                go_roundw
                case rel => exact ⟨n2 + 1, by omega, by go_num, hbz⟩
                case measure => simp [intOf]; omega
              · have b0 : (q0 == s0) = false := by simp [e0]
                clear hno e0 et
                go_wp2_with fail
                go_quiet (fail)
                have hbz : Below wo.heap.size wo (wq.drewN nq) := ⟨hbq.os, hbq.tape, hbq.output, hbq.size, hbq.block⟩
                go_wp2_with fail
                go_roundw
                case rel => exact ⟨n2 + 1, by omega, by go_num, hbz⟩
                case measure => simp [intOf]; omega
            · have hbt := bcall hbo hbo.size hbq
              go_wp2_with fail
              go_roundw
              case rel => exact ⟨i + 1, by omega, by go_num, hbt⟩
              case measure => simp [intOf]; omega
        · have hC2 := hC1.below hbo
          have h0 := keepc hbo g0
          have h1 := keepc hbo g1
          clear hR3
          go_wp2_with fail
          refine (implEndsR EE.out a1 c1 _ hC2 (by omega)).mono ?_
          rintro e w9 ⟨a9, c9, rfl, hR9, hb9⟩
          have hB9 := bcall (bcall hB_w6 (by omega) hbo) (by have := hbo.size; omega) hb9
          obtain ⟨b, off, ea, x0, x1, x2⟩ := hR9.at (i := 0) (by simp)
          subst ea
          simp only [Nat.zero_mul, Nat.add_zero, List.getD_cons_zero] at x0 x1 x2
          simp only [List.length_singleton]
          clear hb9 hbo hC2 h0 h1
          go_wp2_with fail
          go_ret
          exact ⟨rfl, hB9⟩

theorem walk (a : Option Addr) (n cap : Nat) (f : Nat → Int) (w : World) (h : BytesAt w a n f) (hm : n ≤ cap ∧ cap ≤ 9223372036854775807) :
    Calls Try.prog 9 #[.slice a n cap] w fun e w' => e = .returned (.bool true) ∧ Below w.heap.size w w' := by
  by_cases hs : n ≤ 1048576
  · exact small a n cap f w h hm hs
  · exact big a n cap f w h hm (by omega)

set_option maxRecDepth 100000 in
theorem lifted (os : Os) (started : os.Started) (H : Type) (enc : TypeId × Value → H) :
    ReturnsInHanded {} Try.checked os 9 .any (Rows.fnTrailClearSpec.pre6 enc Try.prog Try.f9 Rows.fnTrailClearRow.domain false) (Rows.fnTrailClearSpec.post enc Try.prog Try.f9 false true false false) := by
  refine returnsInHanded_of_change (C := Try.checked) own started (by kernel_rfl) Try.func9
    (ChangeSpec.witness6 (enc := enc) (C := Try.checked) false ⟨#[], #[.slice none 0 0], []⟩ 8 (by kernel_rfl) (by kernel_rfl) (by kernel_rfl) (by kernel_rfl)) ?_
  intro W base args ds gs before hval0 hW hcnd _
  have hval : ∀ (j : Nat) t v, Try.f9.params[j]? = some t → args[j]? = some v → Value.okWide Try.prog W .any base t v := hval0
  have hW' := hW
  obtain ⟨p, q, hA0, hV, rfl, hfz, hnd⟩ := hW
  have hA : DataW.TrodAll enc Try.prog W 0 (fun _ => true) true Try.f9.params.toList args.toList ds p := hA0
  rw [Try.params9] at hA hval
  obtain ⟨v0, vs0, d0, ds0, p0, q0, hargs, rfl, rfl, h0, r0⟩ := trodAll_cons hA
  obtain ⟨rfl, rfl, rfl⟩ := trodAll_nil r0
  obtain rfl : args = #[v0] := by cases args; simp_all
  obtain ⟨rfl, rfl⟩ := trodVars_none hV
  have k0 := h0
  have lt0 : ∀ x ∈ p0, x.block < W.heap.size := by obtain ⟨m, hm⟩ := k0; exact DataW.trod_lt m _ _ _ hm
  obtain ⟨a0, n0, cap0, f0, rfl, hC0, hm0⟩ := open_bytes (hval 0 22 v0 rfl rfl) h0
  clear hA0 hval0
  refine (walk a0 n0 cap0 f0 W hC0 hm0).mono fun e W' ⟨he, bel⟩ => ?_
  subst he
  exact ⟨_, rfl, _, _, _, [], _, [], hW', trodAll_mk1 (shut_bool Try.underlying4 _), (trodAll_cons_mk (Below.trod laidOut (by kernel_rfl) (of_decide_eq_true (by kernel_rfl)) k0 bel lt0) trodAll_mk0), rfl, bel.frame _, fun h => by cases h⟩

theorem over : Rows.fnTrailClearRow.holds Try.pinned (OpenSpec.ofChange Rows.fnTrailClearSpec) :=
  OpenClaim.holds_of_wide 9 Try.f9 rfl rfl rfl rfl rfl rfl rfl ⟨rfl, rfl, rfl, rfl, rfl⟩ rfl rfl rfl rfl rfl (by kernel_rfl) Try.func9 (by kernel_rfl)
    (of_decide_eq_true (by kernel_rfl)) (by unfold Func.isWrapper; first | (rw [if_pos (by decide +kernel)]; kernel_rfl) | (rw [if_neg (by decide +kernel)]; exact ⟨rfl, rfl⟩))
    (fun os started H enc _ => lifted os started H enc)

end Go.Proofs.Ytjfeeibnjgjchaa.LwTrailClear

namespace Go.Proofs.Ytjfeeibnjgjchaa
/-- The statement. -/
theorem lwTrailClear : Rows.FnTrailClearSaid := LwTrailClear.over
#print axioms lwTrailClear
end Go.Proofs.Ytjfeeibnjgjchaa
