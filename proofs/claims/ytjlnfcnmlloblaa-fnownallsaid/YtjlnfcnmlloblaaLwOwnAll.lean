/-
  'laws.FnOwnAll' returns true for all codes: each sight is one painter's. No condition.
-/
import Derived.Test.YtjlnfcnmlloblaaFb
import Derived.Test.YtjlnfcnmlloblaaWb
import Derived.Test.YtjlnfcnmlloblaaWc
import Derived.Deep.RegionHeld3
namespace Go.Proofs.Ytjlnfcnmlloblaa.LwOwnAll
open Go.ChangeShapes Go.WideShapes Go.ChangeAt Go.RowKit
set_option linter.unusedVariables false
attribute [local go_sem ↓] Go.wp_at_zero Go.wp_at_succ

/-- How many of the first so many painters have a sight. -/
def cnO (m M k : Int) : Nat → Int
  | 0 => 0
  | j + 1 => cnO m M k j + (if k ∈ ownF 20 ((j + 1 : Nat) - 1 : Int) m M then 1 else 0)
set_option maxRecDepth 100000 in
theorem one_all : ∀ (M : Fin 21) (m : Fin 4) (k : Fin 20), 1 ≤ m.val → k.val < M.val → cnO (m.val : Int) (M.val : Int) (k.val : Int) m.val = 1 := by decide +kernel
set_option maxRecDepth 100000 in
theorem len_all : ∀ M : Fin 21, (ownF 20 0 1 (M.val : Int)).length = M.val := by decide +kernel
theorem cnO_le (m M k : Int) (j : Nat) : 0 ≤ cnO m M k j ∧ cnO m M k j ≤ j := by
  induction j with
  | zero => simp [cnO]
  | succ j ih => unfold cnO; split <;> omega
theorem own_at {wd : Int} {cs : List (Int × Int)} {i m : Int} (h1 : m ≤ 3) (h2 : 1 ≤ i) (h3 : i ≤ m) : ownN wd cs i m = ownF 20 (i - 1) m (manyG wd cs) := by
  unfold ownN
  rw [if_pos (by simp [isP, h1, h2, h3])]

/-- Too long a code. -/
theorem big (a : Option Addr) (n cap : Nat) (f : Nat → Int) (w : World) (h : BytesAt w a n f) (hm : n ≤ cap ∧ cap ≤ 9223372036854775807) (hbig : 1048576 < n) :
    Calls Try.prog 3 #[.slice a n cap] w fun e w' => e = .returned (.bool true) ∧ Below w.heap.size w w' := by
  have hb : (1048576 : Int) < (n : Int) := by omega
  go_enter Try.func3, Try.ntmps3
  go_wp2
  go_ret
  exact ⟨rfl, Below.refl _ _⟩

set_option maxRecDepth 100000 in
set_option maxHeartbeats 8000000 in
theorem small (a : Option Addr) (n cap : Nat) (f : Nat → Int) (w : World) (h : BytesAt w a n f) (hm : n ≤ cap ∧ cap ≤ 9223372036854775807) (hsm : n ≤ 1048576) :
    Calls Try.prog 3 #[.slice a n cap] w fun e w' => e = .returned (.bool true) ∧ Below w.heap.size w w' := by
  have hb : (n : Int) ≤ 1048576 := by omega
  go_enter Try.func3, Try.ntmps3
  go_wp2_with fail
  refine (drawPaintOwn_any a n cap f w h hsm hm.1 hm.2).mono ?_
  rintro e w1 ⟨wd, a1, c1, cs, i, m, rfl, hC1, hl1, hb_w1⟩
  have hz_w1 := hb_w1.size
  have hbS1 : Below w1.heap.size w1 (w1.alloc (.cells #[.int .i64 wd, .slice a1 cs.length c1] 25)) := (by repeat (first | exact Below.refl _ _ | refine Below.alloc ?_ (by first | exact Nat.le_refl _ | (simp; done) | (simp; omega)) _ | refine Below.drew ?_ | refine Below.setCell ?_ (by first | exact Nat.le_refl _ | (simp; done) | (simp; omega)) _))
  replace hC1 := hC1.below hbS1
  have g0 : (w1.alloc (.cells #[.int .i64 wd, .slice a1 cs.length c1] 25)).cell? ⟨w1.heap.size, 0, none⟩ = some (.int .i64 wd) := by simp [go_sem]
  have g1 : (w1.alloc (.cells #[.int .i64 wd, .slice a1 cs.length c1] 25)).cell? ⟨w1.heap.size, 1, none⟩ = some (.slice a1 cs.length c1) := by simp [go_sem]
  have hBs1 := bcall hb_w1 (by omega) hbS1
  clear hb_w1 hbS1
  obtain ⟨T, hT⟩ : ∃ T, ownN wd cs i m = T := ⟨_, rfl⟩
  have hTl : T.length ≤ 20 := by rw [← hT]; exact ownN_le _ _ _ _
  have ET : Hid (ownN wd cs i m = T) := hT
  clear hT
  go_wp2_with fail
  refine (implOwn_any wd a1 c1 cs _ hC1 (by omega) i m).mono ?_
  rintro e w2 ⟨v2, rfl, hO2, hb_w2⟩
  rw [ET.out] at hO2
  obtain ⟨a2, c2, rfl, hR2⟩ := row1_at hO2
  have hz_w2 := hb_w2.size
  simp at hz_w2
  replace g0 := keepc hb_w2 g0; replace g1 := keepc hb_w2 g1
  replace hC1 := hC1.below hb_w2
  have hB_w2 := bcall hBs1 (by first | omega | (simp; omega)) hb_w2
  clear hBs1 hb_w2 hO2
  go_wp2_with fail
  refine (specOwn_any wd a1 c1 cs _ hC1 (by omega) i m).mono ?_
  rintro e w3 ⟨v3, rfl, hO3, hb_w3⟩
  rw [ET.out] at hO3
  obtain ⟨a3, c3, rfl, hR3⟩ := row1_at hO3
  have hz_w3 := hb_w3.size
  replace g0 := keepc hb_w3 g0; replace g1 := keepc hb_w3 g1
  replace hC1 := hC1.below hb_w3
  replace hR2 := hR2.below hb_w3
  have hB_w3 := bcall hB_w2 (by omega) hb_w3
  clear hB_w2 hb_w3 hO3
  go_wp2_with fail
  refine (llInts_same a2 a3 c2 c3 T _ hR2 hR3 (by omega)).mono ?_
  rintro e w4 ⟨rfl, hb_w4⟩
  have hz_w4 := hb_w4.size
  replace g0 := keepc hb_w4 g0; replace g1 := keepc hb_w4 g1
  replace hC1 := hC1.below hb_w4
  replace hR2 := hR2.below hb_w4
  have hB_w4 := bcall hB_w3 (by omega) hb_w4
  clear hB_w3 hb_w4 hR3
  go_wp2_with fail
  refine (specGridOk_any wd a1 c1 cs _ hC1 (by omega)).mono ?_
  rintro e w5 ⟨rfl, hb_w5⟩
  have hz_w5 := hb_w5.size
  replace g0 := keepc hb_w5 g0; replace g1 := keepc hb_w5 g1
  replace hC1 := hC1.below hb_w5
  replace hR2 := hR2.below hb_w5
  have hB_w5 := bcall hB_w4 (by omega) hb_w5
  clear hB_w4 hb_w5
  by_cases hgo : okG wd cs = true ∧ 1 ≤ m ∧ m ≤ 3
  · obtain ⟨hok, hm1, hm3⟩ := hgo
    rw [hok]
    have b1 : decide (m < 1) = false := decide_eq_false (by omega)
    have b2 : decide (m > 3) = false := decide_eq_false (by omega)
    obtain ⟨Mn, hMn⟩ := Int.eq_ofNat_of_zero_le (manyG_le wd cs).1
    have hM20 := (manyG_le wd cs).2
    rw [hMn] at hM20
    obtain ⟨mn, rfl⟩ := Int.eq_ofNat_of_zero_le (show 0 ≤ m by omega)
    have EM : Hid (manyG wd cs = (Mn : Int)) := hMn
    have HOK : Hid (okG wd cs = true) := hok
    clear hMn hok ET hR2
    have hMn20 : Mn ≤ 20 := by omega
    go_wp2_with fail
    go_loopw [7, 8, 9] (fun kk nn ii wr => ∃ k : Nat, k ≤ Mn ∧ kk = .int .i64 k ∧ Below w5.heap.size w5 wr) (fun kk _ _ _ => Mn - (intOf kk).toNat)
    case atStart => exact ⟨0, Nat.zero_le _, rfl, Below.refl _ _⟩
    case round =>
      rename World => wo
      obtain ⟨k, hk, rfl, hbo⟩ := hrel
      have hzo := hbo.size
      have g0o := keepc hbo g0
      have g1o := keepc hbo g1
      have hCo := hC1.below hbo
      go_wp2_with fail
      refine (implMany_any wd a1 c1 cs _ hCo (by omega)).mono ?_
      rintro e w6 ⟨rfl, hb6⟩
      rw [EM.out]
      have hz6 := hb6.size
      replace g0o := keepc hb6 g0o; replace g1o := keepc hb6 g1o
      replace hCo := hCo.below hb6
      replace hbo := bcall hbo hzo hb6
      clear hb6
      by_cases hlt : k < Mn
      · have bl : decide ((k : Int) < (Mn : Int)) = true := decide_eq_true (by omega)
        have wk : IntKind.i64.wrap ((k : Int) + 1) = (k : Int) + 1 := IntWalk.i64_in _ (by omega)
        have hone : cnO (mn : Int) (Mn : Int) (k : Int) mn = 1 := one_all ⟨Mn, by omega⟩ ⟨mn, by omega⟩ ⟨k, by omega⟩ (by show 1 ≤ mn; omega) hlt
        have HONE : Hid (cnO (mn : Int) (Mn : Int) (k : Int) mn = 1) := hone
        clear hone
        go_wp2_with fail
        go_loopw [8, 9] (fun nn ii wr => ∃ j : Nat, j ≤ mn ∧ nn = .int .i64 (cnO (mn : Int) (Mn : Int) (k : Int) j) ∧ ii = .int .i64 ((j : Int) + 1) ∧ Below w6.heap.size w6 wr) (fun _ ii _ => mn + 1 - (intOf ii).toNat)
        case atStart => exact ⟨0, Nat.zero_le _, rfl, rfl, Below.refl _ _⟩
        case round =>
          rename World => wp
          obtain ⟨j, hj, rfl, rfl, hbp⟩ := hrel
          have hzp := hbp.size
          by_cases hlj : j < mn
          · have bj : decide ((j : Int) + 1 ≤ (mn : Int)) = true := decide_eq_true (by omega)
            have g0p := keepc hbp g0o
            have g1p := keepc hbp g1o
            have hCp := hCo.below hbp
            have EO : Hid (ownN wd cs ((j : Int) + 1) (mn : Int) = ownF 20 ((j + 1 : Nat) - 1 : Int) (mn : Int) (Mn : Int)) := by
              show _ = _
              rw [own_at hm3 (by omega) (by omega), EM.out]
              congr 1
            obtain ⟨c0, hc0⟩ : ∃ c0, cnO (mn : Int) (Mn : Int) (k : Int) j = c0 := ⟨_, rfl⟩
            have hcl := cnO_le (mn : Int) (Mn : Int) (k : Int) j
            rw [hc0] at hcl
            have HC : Hid (cnO (mn : Int) (Mn : Int) (k : Int) (j + 1) = c0 + (if (k : Int) ∈ ownF 20 ((j + 1 : Nat) - 1 : Int) (mn : Int) (Mn : Int) then 1 else 0)) := by
              show _ = _
              rw [← hc0]; rfl
            have hFl := ownF_le 20 ((j + 1 : Nat) - 1 : Int) (mn : Int) (Mn : Int)
            rw [hc0]
            obtain ⟨U, hU⟩ : ∃ U, ownF 20 ((j + 1 : Nat) - 1 : Int) (mn : Int) (Mn : Int) = U := ⟨_, rfl⟩
            have EO2 : Hid (ownN wd cs ((j : Int) + 1) (mn : Int) = U) := by show _ = _; rw [EO.out, hU]
            have HC2 : Hid (cnO (mn : Int) (Mn : Int) (k : Int) (j + 1) = c0 + (if (k : Int) ∈ U then 1 else 0)) := by show _ = _; rw [HC.out, hU]
            rw [hU] at hFl
            clear hc0 hU EO HC
            have wj : IntKind.i64.wrap ((j : Int) + 1 + 1) = (j : Int) + 1 + 1 := IntWalk.i64_in _ (by omega)
            have wc : IntKind.i64.wrap (c0 + 1) = c0 + 1 := IntWalk.i64_in _ (by omega)
            go_wp2_with fail
            refine (implOwn_any wd a1 c1 cs _ hCp (by omega) _ _).mono ?_
            rintro e w7 ⟨v7, rfl, hO7, hb7⟩
            rw [EO2.out] at hO7
            obtain ⟨a7, c7, rfl, hR7⟩ := row1_at hO7
            have hz7 := hb7.size
            have hb7' := bcall hbp hzp hb7
            clear hb7 hO7
            go_wp2_with fail
            refine (llHas_any a7 c7 U (k : Int) _ hR7 (by omega)).mono ?_
            rintro e w' ⟨rfl, rfl⟩
            by_cases hin : (k : Int) ∈ U
            · have bi : decide ((k : Int) ∈ U) = true := decide_eq_true hin
              rw [bi]
              have HC3 : Hid (cnO (mn : Int) (Mn : Int) (k : Int) (j + 1) = c0 + 1) := by show _ = _; rw [HC2.out, if_pos hin]
              clear bi hin
              go_wp2_with fail
              go_roundw
              case rel => exact ⟨j + 1, by omega, by rw [HC3.out], by go_num, hb7'⟩
              case measure => simp [intOf]; omega
            · have bi : decide ((k : Int) ∈ U) = false := decide_eq_false hin
              rw [bi]
              have HC3 : Hid (cnO (mn : Int) (Mn : Int) (k : Int) (j + 1) = c0) := by show _ = _; rw [HC2.out, if_neg hin]; omega
              clear bi hin
              go_wp2_with fail
              go_roundw
              case rel => exact ⟨j + 1, by omega, by rw [HC3.out], by go_num, hb7'⟩
              case measure => simp [intOf]; omega
          · have bj : decide ((j : Int) + 1 ≤ (mn : Int)) = false := decide_eq_false (by omega)
            obtain rfl : j = mn := by omega
            rw [HONE.out]
            have hb8 := bcall hbo (by have := hbo.size; omega) hbp
            go_wp2_with fail
            go_roundw
            case rel => exact ⟨k + 1, by omega, by go_num, hb8⟩
            case measure => simp [intOf]; omega
      · have bl : decide ((k : Int) < (Mn : Int)) = false := decide_eq_false (by omega)
        have hl1' := len_all ⟨Mn, by omega⟩
        have hlen : (ownN wd cs 1 1).length = Mn := by
          rw [own_at (by omega) (by omega) (by omega), EM.out]
          exact hl1'
        obtain ⟨U, hU⟩ : ∃ U, ownN wd cs 1 1 = U := ⟨_, rfl⟩
        have EU : Hid (ownN wd cs 1 1 = U) := hU
        rw [hU] at hlen
        have HL : Hid (U.length = Mn) := hlen
        clear hU hl1' hlen
        have bq : ((Mn : Int) == (Mn : Int)) = true := by simp
        have hBo := bcall hB_w5 (by omega) hbo
        have hz6' := hbo.size
        go_wp2
        go_region_held3 (fun w' => w'.cell? ⟨w1.heap.size, 0, none⟩ = some (.int .i64 wd) ∧ w'.cell? ⟨w1.heap.size, 1, none⟩ = some (.slice a1 cs.length c1))
          (first
            | exact ⟨keepc hb8 (keepc hb7 g0o), keepc hb8 (keepc hb7 g1o)⟩
            | exact ⟨keepc hb7 g0o, keepc hb7 g1o⟩
            | go_keep)
          (first
            | (go_at_call 6; refine (implOwn_any wd a1 c1 cs _ (hCo.below (by first | exact Below.refl _ _ | exact (Below.refl _ _).drew)) (by omega) 1 1).mono ?_; rintro e w7 ⟨v7, rfl, hO7, hb7'⟩; have hb7 : Below w6.heap.size w6 w7 := (by first | exact hb7' | exact bdrew hb7'); rw [EU.out] at hO7; obtain ⟨a7, c7, rfl, hR7⟩ := row1_at hO7; rw [HL.out])
            | (go_at_call 10; refine (implMany_any wd a1 c1 cs _ ((hCo.below hb7).below (by first | exact Below.refl _ _ | exact (Below.refl _ _).drew)) (by omega)).mono ?_; rintro e w8 ⟨rfl, hb8'⟩; have hb8 : Below w7.heap.size w7 w8 := (by first | exact hb8' | exact bdrew hb8'); rw [EM.out])
            | fail)
        all_goals
          have hB8 := bcall (bcall hBo (by omega) hb7) (by have := hb7.size; omega) hb8
          go_wp2
          go_ret
          exact ⟨rfl, by first | exact hB8 | exact hB8.drew⟩
  · rcases hok : okG wd cs with _ | _
    · go_wp2_with fail
      refine (specOwn_any wd a1 c1 cs _ hC1 (by omega) i m).mono ?_
      rintro e w6 ⟨v3, rfl, hO3, hb_w3⟩
      rw [ET.out] at hO3
      obtain ⟨a3, c3, rfl, hR3⟩ := row1_at hO3
      replace hR2 := hR2.below hb_w3
      have hz6 := hb_w3.size
      have hB_w6 := bcall hB_w5 (by omega) hb_w3
      go_wp2_with fail
      refine (llInts_same a2 a3 c2 c3 T _ hR2 hR3 (by omega)).mono ?_
      rintro e w7 ⟨rfl, hb_w7⟩
      have hB_w7 := bcall hB_w6 (by omega) hb_w7
      go_wp2_with fail
      go_ret
      exact ⟨rfl, hB_w7⟩
    · have hmm : m < 1 ∨ 3 < m := by
        rcases Int.lt_or_le m 1 with q | q
        · exact .inl q
        · rcases Int.lt_or_le 3 m with q2 | q2
          · exact .inr q2
          · exact absurd ⟨hok, q, q2⟩ hgo
      clear hgo hok
      rcases hmm with q | q
      · have b1 : decide (m < 1) = true := decide_eq_true q
        go_wp2_with fail
        refine (specOwn_any wd a1 c1 cs _ hC1 (by omega) i m).mono ?_
        rintro e w6 ⟨v3, rfl, hO3, hb_w3⟩
        rw [ET.out] at hO3
        obtain ⟨a3, c3, rfl, hR3⟩ := row1_at hO3
        replace hR2 := hR2.below hb_w3
        have hz6 := hb_w3.size
        have hB_w6 := bcall hB_w5 (by omega) hb_w3
        go_wp2_with fail
        refine (llInts_same a2 a3 c2 c3 T _ hR2 hR3 (by omega)).mono ?_
        rintro e w7 ⟨rfl, hb_w7⟩
        have hB_w7 := bcall hB_w6 (by omega) hb_w7
        go_wp2_with fail
        go_ret
        exact ⟨rfl, hB_w7⟩
      · have b1 : decide (m < 1) = false := decide_eq_false (by omega)
        have b2 : decide (m > 3) = true := decide_eq_true (by omega)
        go_wp2_with fail
        refine (specOwn_any wd a1 c1 cs _ hC1 (by omega) i m).mono ?_
        rintro e w6 ⟨v3, rfl, hO3, hb_w3⟩
        rw [ET.out] at hO3
        obtain ⟨a3, c3, rfl, hR3⟩ := row1_at hO3
        replace hR2 := hR2.below hb_w3
        have hz6 := hb_w3.size
        have hB_w6 := bcall hB_w5 (by omega) hb_w3
        go_wp2_with fail
        refine (llInts_same a2 a3 c2 c3 T _ hR2 hR3 (by omega)).mono ?_
        rintro e w7 ⟨rfl, hb_w7⟩
        have hB_w7 := bcall hB_w6 (by omega) hb_w7
        go_wp2_with fail
        go_ret
        exact ⟨rfl, hB_w7⟩

theorem walk (a : Option Addr) (n cap : Nat) (f : Nat → Int) (w : World) (h : BytesAt w a n f) (hm : n ≤ cap ∧ cap ≤ 9223372036854775807) :
    Calls Try.prog 3 #[.slice a n cap] w fun e w' => e = .returned (.bool true) ∧ Below w.heap.size w w' := by
  by_cases hs : n ≤ 1048576
  · exact small a n cap f w h hm hs
  · exact big a n cap f w h hm (by omega)

set_option maxRecDepth 100000 in
theorem lifted (os : Os) (started : os.Started) (H : Type) (enc : TypeId × Value → H) :
    ReturnsInHanded {} Try.checked os 3 .any (Rows.fnOwnAllSpec.pre6 enc Try.prog Try.f3 Rows.fnOwnAllRow.domain false) (Rows.fnOwnAllSpec.post enc Try.prog Try.f3 false true false false) := by
  refine returnsInHanded_of_change (C := Try.checked) own started (by kernel_rfl) Try.func3
    (ChangeSpec.witness6 (enc := enc) (C := Try.checked) false ⟨#[], #[.slice none 0 0], []⟩ 8 (by kernel_rfl) (by kernel_rfl) (by kernel_rfl) (by kernel_rfl)) ?_
  intro W base args ds gs before hval0 hW hcnd _
  have hval : ∀ (j : Nat) t v, Try.f3.params[j]? = some t → args[j]? = some v → Value.okWide Try.prog W .any base t v := hval0
  have hW' := hW
  obtain ⟨p, q, hA0, hV, rfl, hfz, hnd⟩ := hW
  have hA : DataW.TrodAll enc Try.prog W 0 (fun _ => true) true Try.f3.params.toList args.toList ds p := hA0
  rw [Try.params3] at hA hval
  obtain ⟨v0, vs0, d0, ds0, p0, q0, hargs, rfl, rfl, h0, r0⟩ := trodAll_cons hA
  obtain ⟨rfl, rfl, rfl⟩ := trodAll_nil r0
  obtain rfl : args = #[v0] := by cases args; simp_all
  obtain ⟨rfl, rfl⟩ := trodVars_none hV
  have k0 := h0
  have lt0 : ∀ x ∈ p0, x.block < W.heap.size := by obtain ⟨m, hm⟩ := k0; exact DataW.trod_lt m _ _ _ hm
  obtain ⟨a0, n0, cap0, f0, rfl, hC0, hm0⟩ := open_bytes (hval 0 22 v0 rfl rfl) h0
  clear hA0 hval0
  refine (walk a0 n0 cap0 f0 W hC0 hm0).mono fun e W' ⟨he, bel⟩ => ?_
  subst he
  exact ⟨_, rfl, _, _, _, [], _, [], hW', trodAll_mk1 (shut_bool Try.underlying4 _), (trodAll_cons_mk (Below.trod laidOut (by kernel_rfl) (of_decide_eq_true (by kernel_rfl)) k0 bel lt0) trodAll_mk0), rfl, bel.frame _, fun h => by cases h⟩

theorem over : Rows.fnOwnAllRow.holds Try.pinned (OpenSpec.ofChange Rows.fnOwnAllSpec) :=
  OpenClaim.holds_of_wide 3 Try.f3 rfl rfl rfl rfl rfl rfl rfl ⟨rfl, rfl, rfl, rfl, rfl⟩ rfl rfl rfl rfl rfl (by kernel_rfl) Try.func3 (by kernel_rfl)
    (of_decide_eq_true (by kernel_rfl)) (by unfold Func.isWrapper; first | (rw [if_pos (by decide +kernel)]; kernel_rfl) | (rw [if_neg (by decide +kernel)]; exact ⟨rfl, rfl⟩))
    (fun os started H enc _ => lifted os started H enc)

end Go.Proofs.Ytjlnfcnmlloblaa.LwOwnAll

namespace Go.Proofs.Ytjlnfcnmlloblaa
/-- The statement. -/
theorem lwOwnAll : Rows.FnOwnAllSaid := LwOwnAll.over
#print axioms lwOwnAll
end Go.Proofs.Ytjlnfcnmlloblaa
