/-
  'laws.FnLightMore' returns true for all codes: a lamp that is brighter adds what comes from it. No condition.
-/
import Derived.Test.YtmnninhifiajhaaFb
import Derived.Test.YtmnninhifiajhaaUp
import Derived.Test.YtmnninhifiajhaaDz
import Derived.BigQuiet
namespace Go.Proofs.Ytmnninhifiajhaa.LwLightMore
open Go.ChangeShapes Go.WideShapes Go.ChangeAt Go.RowKit
set_option linter.unusedVariables false
attribute [local go_sem ↓] Go.wp_at_zero Go.wp_at_succ

/-- Too long a code. -/
theorem big (a : Option Addr) (n cap : Nat) (f : Nat → Int) (w : World) (h : BytesAt w a n f) (hm : n ≤ cap ∧ cap ≤ 9223372036854775807) (hbig : 1048576 < n) :
    Calls Try.prog 10 #[.slice a n cap] w fun e w' => e = .returned (.bool true) ∧ Below w.heap.size w w' := by
  have hb : (1048576 : Int) < (n : Int) := by omega
  go_enter Try.func10, Try.ntmps10
  go_wp2
  go_ret
  exact ⟨rfl, Below.refl _ _⟩

set_option maxRecDepth 100000 in
set_option maxHeartbeats 8000000 in
theorem small (a : Option Addr) (n cap : Nat) (f : Nat → Int) (w : World) (h : BytesAt w a n f) (hm : n ≤ cap ∧ cap ≤ 9223372036854775807) (hsm : n ≤ 1048576) :
    Calls Try.prog 10 #[.slice a n cap] w fun e w' => e = .returned (.bool true) ∧ Below w.heap.size w w' := by
  have hb : (n : Int) ≤ 1048576 := by omega
  go_enter Try.func10, Try.ntmps10
  go_wp2_with fail
  refine (drawTrailLight_any a n cap f w h hsm hm.1 hm.2).mono ?_
  rintro e w1 ⟨wd, a1, c1, cs, k, rfl, hC1, hl1, hk1, hb_w1⟩
  have hz_w1 := hb_w1.size
  try simp at hz_w1
  have hbS1 : Below w1.heap.size w1 (w1.alloc (.cells #[.int .i64 wd, .slice a1 cs.length c1] 25)) := (by repeat (first | exact Below.refl _ _ | refine Below.alloc ?_ (by first | exact Nat.le_refl _ | (simp; done) | (simp; omega)) _ | refine Below.drew ?_ | refine Below.setCell ?_ (by first | exact Nat.le_refl _ | (simp; done) | (simp; omega)) _))
  replace hC1 := hC1.below hbS1
  have g0 : (w1.alloc (.cells #[.int .i64 wd, .slice a1 cs.length c1] 25)).cell? ⟨w1.heap.size, 0, none⟩ = some (.int .i64 wd) := by simp [go_sem]
  have g1 : (w1.alloc (.cells #[.int .i64 wd, .slice a1 cs.length c1] 25)).cell? ⟨w1.heap.size, 1, none⟩ = some (.slice a1 cs.length c1) := by simp [go_sem]
  have hBs1 := bcall hb_w1 (by omega) hbS1
  clear hb_w1
  clear hbS1
  obtain ⟨N, hN⟩ : ∃ N, lightN wd cs k = N := ⟨_, rfl⟩
  have EN : Hid (lightN wd cs k = N) := hN
  have bn : (N != N) = false := by simp
  have be : (N == N) = true := by simp
  clear hN
  go_wp2_with fail
  refine (implLightR EN.out a1 c1 _ hC1 (by omega)).mono ?_
  rintro e w2 ⟨rfl, hb_w2⟩
  have hz_w2 := hb_w2.size
  try simp at hz_w2
  replace g0 := keepc hb_w2 g0; replace g1 := keepc hb_w2 g1
  replace hC1 := hC1.below hb_w2
  have hB_w2 := bcall hBs1 (by first | omega | (simp; omega)) hb_w2
  clear hBs1 hb_w2
  go_wp2_with fail
  refine (specLightR EN.out a1 c1 _ hC1 (by omega)).mono ?_
  rintro e w3 ⟨rfl, hb_w3⟩
  have hz_w3 := hb_w3.size
  try simp at hz_w3
  replace g0 := keepc hb_w3 g0; replace g1 := keepc hb_w3 g1
  replace hC1 := hC1.below hb_w3
  have hB_w3 := bcall hB_w2 (by first | omega | (simp; omega)) hb_w3
  clear hB_w2 hb_w3
  go_wp2_with fail
  refine (llSight_any wd a1 c1 cs _ hC1 (by omega) k).mono ?_
  rintro e w5 ⟨rfl, hb_w5⟩
  have hz_w5 := hb_w5.size
  try simp at hz_w5
  replace g0 := keepc hb_w5 g0; replace g1 := keepc hb_w5 g1
  replace hC1 := hC1.below hb_w5
  have hB_w5 := bcall hB_w3 (by first | omega | (simp; omega)) hb_w5
  clear hB_w3 hb_w5
  rcases hs : inS wd cs k with _ | _
  · go_wp2_with fail
    refine (specLightR EN.out a1 c1 _ hC1 (by omega)).mono ?_
    rintro e w6 ⟨rfl, hb_w6⟩
    have hz_w6 := hb_w6.size
    try simp at hz_w6
    replace g0 := keepc hb_w6 g0; replace g1 := keepc hb_w6 g1
    replace hC1 := hC1.below hb_w6
    have hB_w6 := bcall hB_w5 (by first | omega | (simp; omega)) hb_w6
    clear hB_w5 hb_w6
    go_wp2
    go_ret
    exact ⟨rfl, hB_w6⟩
  · obtain ⟨ES, hES⟩ : ∃ ES, (trailT wd cs k).2 = ES := ⟨_, rfl⟩
    have EE : Hid ((trailT wd cs k).2 = ES) := hES
    have hok := inS_ok hs
    obtain ⟨ke1, ke2, ke3, ke4, ke5⟩ := ends_known (rfl : trailT wd cs k = trailT wd cs k)
    rw [hES] at ke1 ke2 ke3 ke4
    have hpos : ∀ u ∈ ES, 1 ≤ u.2.2 := fun u hu => (ke1 u hu).1
    have HW : Hid (∀ u ∈ ES, 1 ≤ u.2.2 ∧ u.2.2 ≤ 64) := fun u hu => ⟨hpos u hu, ke2 u hu⟩
    have HB : Hid (∀ (X : Int) i, 0 ≤ sumAt X (ES.take i) ∧ sumAt X (ES.take i) ≤ 64) := by
      intro X i
      have q2 := sum_take hpos i
      have q3 : ∀ l : List (Int × Int × Int), (∀ u ∈ l, 1 ≤ u.2.2) → 0 ≤ sumAt X l ∧ sumAt X l ≤ sumW l := by
        intro l
        induction l with
        | nil => intro _; simp [sumAt, sumW]
        | cons t r ih =>
          intro hh
          have h1 := hh t (by simp)
          have h2 := ih (fun u hu => hh u (by simp [hu]))
          simp only [sumAt, sumW]
          split <;> omega
      have q4 := q3 (ES.take i) (fun u hu => hpos u (List.mem_of_mem_take hu))
      omega
    have hN0 : 0 ≤ N ∧ N ≤ 576 := by
      have q1 := sumL_in cs ES (fun u hu => lamp_of hok (ke1 u hu))
      have e : sumL cs ES = N := by rw [← EN.out, ← hES]; rfl
      omega
    have HM : Hid (∀ (X : Nat) (l : Int), X < cs.length → cs.getD X (0, 0) = (7, l) → l < 9 → 1 ≤ l ∧ putG wd cs (X : Int) 7 (l + 1) = (wd, cs.set X (7, l + 1), true) ∧ lightN wd (cs.set X (7, l + 1)) k = N + sumAt (X : Int) ES) := by
      intro X l hX hg hl
      obtain ⟨q0, q1, q2⟩ := light_more (k := k) hX hok hg hl
      refine ⟨q0, putG_at wd cs X 7 (l + 1) hX hok q1, ?_⟩
      rw [q2, EN.out, hES]
    clear ke1 ke2 ke5 hpos hES hs hok
    go_wp2_with fail
    refine (implEndsR EE.out a1 c1 _ hC1 (by omega)).mono ?_
    rintro e w6 ⟨a6, c6, rfl, hR6, hb_w6⟩
    have hz_w6 := hb_w6.size
    try simp at hz_w6
    replace g0 := keepc hb_w6 g0; replace g1 := keepc hb_w6 g1
    replace hC1 := hC1.below hb_w6
    have hB_w6 := bcall hB_w5 (by first | omega | (simp; omega)) hb_w6
    clear hB_w5 hb_w6
    go_wp2_with fail
    go_loopw [7] (fun ii wr => ∃ i : Nat, i ≤ cs.length ∧ ii = .int .i64 i ∧ Below w6.heap.size w6 wr) (fun ii _ => cs.length - (intOf ii).toNat)
    case atStart => exact ⟨0, Nat.zero_le _, rfl, Below.refl _ _⟩
    case round =>
      rename World => wo
      obtain ⟨i, hi, rfl, hbo⟩ := hrel
      replace g0 := keepc hbo g0; replace g1 := keepc hbo g1
      have hC0 := hC1.below hbo
      have hR0 := hR6.below hbo
      by_cases hlt : i < cs.length
      · obtain ⟨ck, eck⟩ : ∃ c, cs.getD i (0, 0) = c := ⟨_, rfl⟩
        obtain ⟨b, off, ea, z0, z1⟩ : ∃ b off, a1 = some ⟨b, off, none⟩ ∧ wo.cell? ⟨b, off + i * 2, none⟩ = some (.int .i64 ck.1) ∧ wo.cell? ⟨b, off + i * 2 + 1, none⟩ = some (.int .i64 ck.2) := by
          rcases hC0 with q | ⟨b, off, e, _, hc⟩
          · rw [q] at hlt; simp at hlt
          · have := hc i hlt
            rw [eck] at this
            exact ⟨b, off, e, this⟩
        have HMi := HM.out i
        obtain ⟨kx, lx⟩ := ck
        simp only at z0 z1
        have hbE : Below wo.heap.size wo (wo.alloc (.cells #[.int .i64 kx, .int .i64 lx] 27)) := (by repeat (first | exact Below.refl _ _ | refine Below.alloc ?_ (by first | exact Nat.le_refl _ | (simp; done) | (simp; omega)) _ | refine Below.drew ?_ | refine Below.setCell ?_ (by first | exact Nat.le_refl _ | (simp; done) | (simp; omega)) _))
        have hbF := bcall hbo hbo.size hbE
        have hil : (i : Int) < (cs.length : Int) := by omega
        by_cases k7 : kx = 7
        · subst k7
          by_cases l9 : lx < 9
          · obtain ⟨hl1', hput, hlight⟩ := HMi lx hlt eck l9
            have b9 : decide (lx < 9) = true := decide_eq_true l9
            obtain ⟨xs, exs⟩ : ∃ xs, cs.set i (7, lx + 1) = xs := ⟨_, rfl⟩
            rw [exs] at hput hlight
            have hxl : xs.length ≤ 31 := by rw [← exs]; simpa using hl1
            have HP : Hid (putG wd cs (i : Int) 7 (lx + 1) = (wd, xs, true)) := hput
            have HLI : Hid (lightN wd xs k = N + sumAt (i : Int) ES) := hlight
            have hC2 := hC0.below hbE
            have hR2 := hR0.below hbE
            have g0' := keepc hbE g0
            have g1' := keepc hbE g1
            have y1 : (wo.alloc (.cells #[.int .i64 7, .int .i64 lx] 27)).cell? ⟨wo.heap.size, 1, none⟩ = some (.int .i64 lx) := by simp [go_sem]
            have y0 : (wo.alloc (.cells #[.int .i64 7, .int .i64 lx] 27)).cell? ⟨wo.heap.size, 0, none⟩ = some (.int .i64 7) := by simp [go_sem]
            subst ea
            clear eck exs hput hlight HMi
            go_wp2_with fail
            refine (implGridPut_any wd _ c1 cs (i : Int) 7 (lx + 1) _ hC2 (by omega)).mono ?_
            rintro e w7 ⟨v7, rfl, hO7, hb7⟩
            rw [HP.out] at hO7 ⊢
            simp only at hO7
            obtain ⟨a7, c7, rfl, hC7⟩ := hO7.slice
            have hbX : Below w7.heap.size w7 (w7.alloc (.cells #[.int .i64 wd, .slice a7 xs.length c7] 25)) := (by repeat (first | exact Below.refl _ _ | refine Below.alloc ?_ (by first | exact Nat.le_refl _ | (simp; done) | (simp; omega)) _ | refine Below.drew ?_ | refine Below.setCell ?_ (by first | exact Nat.le_refl _ | (simp; done) | (simp; omega)) _))
            have hz7 := hb7.size
            simp at hz7
            have x0 : (w7.alloc (.cells #[.int .i64 wd, .slice a7 xs.length c7] 25)).cell? ⟨w7.heap.size, 0, none⟩ = some (.int .i64 wd) := by simp [go_sem]
            have x1 : (w7.alloc (.cells #[.int .i64 wd, .slice a7 xs.length c7] 25)).cell? ⟨w7.heap.size, 1, none⟩ = some (.slice a7 xs.length c7) := by simp [go_sem]
            have hR7 := (hR2.below hb7).below hbX
            have hC8 := hC7.below hbX
            have hbG := bcall (bcall hbF hbF.size hb7) (by have := hbo.size; omega) hbX
            clear hO7 hC7 hb7 hbX
            go_wp2_with fail
            obtain ⟨w8, hw8⟩ : ∃ w8, w8 = w7.alloc (.cells #[.int .i64 wd, .slice a7 xs.length c7] 25) := ⟨_, rfl⟩
            rw [← hw8] at x0 x1 hR7 hC8 hbG ⊢
            clear hw8
            go_loopw [11, 12] (fun nn jj wr => ∃ j : Nat, j ≤ ES.length ∧ jj = .int .i64 j ∧ nn = .int .i64 (sumAt (i : Int) (ES.take j)) ∧ wr = w8) (fun _ jj _ => ES.length - (intOf jj).toNat)
            case atStart => exact ⟨0, Nat.zero_le _, rfl, rfl, rfl⟩
            case round =>
              obtain ⟨j, hj, rfl, rfl, rfl⟩ := hrel
              obtain ⟨s, es0⟩ : ∃ s, sumAt (i : Int) (ES.take j) = s := ⟨_, rfl⟩
              have hsb := HB.out (i : Int) j
              rw [es0] at hsb ⊢
              by_cases hjl : j < ES.length
              · obtain ⟨b', off', ea', t0c, t1c, t2c⟩ := hR7.at hjl
                subst ea'
                obtain ⟨t, et⟩ : ∃ t, ES.getD j (0, 0, 0) = t := ⟨_, rfl⟩
                have hmem : t ∈ ES := by rw [← et]; simp [List.getElem?_eq_getElem hjl]
                rw [et] at t0c t1c t2c
                obtain ⟨hw1, hw2⟩ := HW.out t hmem
                have hst : sumAt (i : Int) (ES.take (j + 1)) = s + (if t.1 = 2 ∧ t.2.1 = (i : Int) then t.2.2 else 0) := by
                  rw [take_one ES j (0, 0, 0) hjl, sumAt_append, es0, et]
                  simp [sumAt]
                obtain ⟨t0, t1, t2⟩ := t
                simp only at t0c t1c t2c hw1 hw2 hst
                clear hmem et
                by_cases e0 : t0 = 2
                · by_cases e1 : t1 = (i : Int)
                  · rw [if_pos ⟨e0, e1⟩] at hst
                    have HST : Hid (sumAt (i : Int) (ES.take (j + 1)) = s + t2) := hst
                    have b0 : (t0 == 2) = true := by simp [e0]
                    have b1 : (t1 == (i : Int)) = true := by simp [e1]
                    clear hst e0 e1 es0
                    go_wp2_with fail
                    go_roundw
                    case rel => exact ⟨j + 1, by omega, by go_num, by rw [HST.out], by first | trivial | rfl⟩
                    case measure => simp [intOf]; omega
                  · rw [if_neg (fun q => e1 q.2)] at hst
                    have HST : Hid (sumAt (i : Int) (ES.take (j + 1)) = s) := by show _ = _; rw [hst]; omega
                    have b0 : (t0 == 2) = true := by simp [e0]
                    have b1 : (t1 == (i : Int)) = false := by simp [e1]
                    clear hst e0 e1 es0
                    go_wp2_with fail
                    go_roundw
                    case rel => exact ⟨j + 1, by omega, by go_num, by rw [HST.out], by first | trivial | rfl⟩
                    case measure => simp [intOf]; omega
                · rw [if_neg (fun q => e0 q.1)] at hst
                  have HST : Hid (sumAt (i : Int) (ES.take (j + 1)) = s) := by show _ = _; rw [hst]; omega
                  have b0 : (t0 == 2) = false := by simp [e0]
                  clear hst e0 es0
                  go_wp2_with fail
                  go_roundw
                  case rel => exact ⟨j + 1, by omega, by go_num, by rw [HST.out], by first | trivial | rfl⟩
                  case measure => simp [intOf]; omega
              · have hfin : sumAt (i : Int) ES = s := by rw [← es0, List.take_of_length_le (by omega)]
                have HL2 : Hid (lightN wd xs k = N + s) := by show _ = _; rw [HLI.out, hfin]
                have bb : ((N + s) != (N + s)) = false := by simp
                clear es0 hfin
                go_wp2_with fail
                refine (implLightR HL2.out a7 c7 _ hC8 (by omega)).mono ?_
                rintro e w9 ⟨rfl, hb9⟩
                have hbz := bcall hbG hbG.size hb9
                go_wp2_with fail
                go_roundw
                case rel => exact ⟨i + 1, by omega, by go_num, hbz⟩
                case measure => simp [intOf]; omega
          · have b9 : decide (lx < 9) = false := decide_eq_false l9
            subst ea
            clear eck HMi
            go_wp2_with fail
            go_roundw
            case rel => exact ⟨i + 1, by omega, by go_num, hbF⟩
            case measure => simp [intOf]; omega
        · have b7 : (kx == 7) = false := by simp [k7]
          subst ea
          clear eck HMi
          go_wp2_with fail
          go_roundw
          case rel => exact ⟨i + 1, by omega, by go_num, hbF⟩
          case measure => simp [intOf]; omega
      · go_wp2_with fail
        go_ret
        exact ⟨rfl, bcall hB_w6 (by omega) hbo⟩

theorem walk (a : Option Addr) (n cap : Nat) (f : Nat → Int) (w : World) (h : BytesAt w a n f) (hm : n ≤ cap ∧ cap ≤ 9223372036854775807) :
    Calls Try.prog 10 #[.slice a n cap] w fun e w' => e = .returned (.bool true) ∧ Below w.heap.size w w' := by
  by_cases hs : n ≤ 1048576
  · exact small a n cap f w h hm hs
  · exact big a n cap f w h hm (by omega)

set_option maxRecDepth 100000 in
theorem lifted (os : Os) (started : os.Started) (H : Type) (enc : TypeId × Value → H) :
    ReturnsInHanded {} Try.checked os 10 .any (Rows.fnLightMoreSpec.pre6 enc Try.prog Try.f10 Rows.fnLightMoreRow.domain false) (Rows.fnLightMoreSpec.post enc Try.prog Try.f10 false true false false) := by
  refine returnsInHanded_of_change (C := Try.checked) own started (by kernel_rfl) Try.func10
    (ChangeSpec.witness6 (enc := enc) (C := Try.checked) false ⟨#[], #[.slice none 0 0], []⟩ 8 (by kernel_rfl) (by kernel_rfl) (by kernel_rfl) (by kernel_rfl)) ?_
  intro W base args ds gs before hval0 hW hcnd _
  have hval : ∀ (j : Nat) t v, Try.f10.params[j]? = some t → args[j]? = some v → Value.okWide Try.prog W .any base t v := hval0
  have hW' := hW
  obtain ⟨p, q, hA0, hV, rfl, hfz, hnd⟩ := hW
  have hA : DataW.TrodAll enc Try.prog W 0 (fun _ => true) true Try.f10.params.toList args.toList ds p := hA0
  rw [Try.params10] at hA hval
  obtain ⟨v0, vs0, d0, ds0, p0, q0, hargs, rfl, rfl, h0, r0⟩ := trodAll_cons hA
  obtain ⟨rfl, rfl, rfl⟩ := trodAll_nil r0
  obtain rfl : args = #[v0] := by cases args; simp_all
  obtain ⟨rfl, rfl⟩ := trodVars_none hV
  have k0 := h0
  have lt0 : ∀ x ∈ p0, x.block < W.heap.size := by obtain ⟨m, hm⟩ := k0; exact DataW.trod_lt m _ _ _ hm
  obtain ⟨a0, n0, cap0, f0, rfl, hC0, hm0⟩ := open_bytes (hval 0 22 v0 rfl rfl) h0
  clear hA0 hval0
  refine (walk a0 n0 cap0 f0 W hC0 hm0).mono fun e W' ⟨he, bel⟩ => ?_
  subst he
  exact ⟨_, rfl, _, _, _, [], _, [], hW', trodAll_mk1 (shut_bool Try.underlying4 _), (trodAll_cons_mk (Below.trod laidOut (by kernel_rfl) (of_decide_eq_true (by kernel_rfl)) k0 bel lt0) trodAll_mk0), rfl, bel.frame _, fun h => by cases h⟩

theorem over : Rows.fnLightMoreRow.holds Try.pinned (OpenSpec.ofChange Rows.fnLightMoreSpec) :=
  OpenClaim.holds_of_wide 10 Try.f10 rfl rfl rfl rfl rfl rfl rfl ⟨rfl, rfl, rfl, rfl, rfl⟩ rfl rfl rfl rfl rfl (by kernel_rfl) Try.func10 (by kernel_rfl)
    (of_decide_eq_true (by kernel_rfl)) (by unfold Func.isWrapper; first | (rw [if_pos (by decide +kernel)]; kernel_rfl) | (rw [if_neg (by decide +kernel)]; exact ⟨rfl, rfl⟩))
    (fun os started H enc _ => lifted os started H enc)

end Go.Proofs.Ytmnninhifiajhaa.LwLightMore

namespace Go.Proofs.Ytmnninhifiajhaa
/-- The statement. -/
theorem lwLightMore : Rows.FnLightMoreSaid := LwLightMore.over
#print axioms lwLightMore
end Go.Proofs.Ytmnninhifiajhaa
