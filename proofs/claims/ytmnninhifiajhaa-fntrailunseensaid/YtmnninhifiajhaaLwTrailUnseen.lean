/-
  'laws.FnTrailUnseen' returns true for all codes: what is not seen changes nothing. No condition.
-/
import Derived.Test.YtmnninhifiajhaaFb
import Derived.Test.YtmnninhifiajhaaUp
import Derived.Test.YtmnninhifiajhaaUl
import Derived.Test.YtmnninhifiajhaaDk
import Derived.Deep.RegionHeld3
import Derived.Deep.DrawnRows
import Derived.BigQuiet
namespace Go.Proofs.Ytmnninhifiajhaa.LwTrailUnseen
open Go.ChangeShapes Go.WideShapes Go.ChangeAt Go.RowKit
set_option linter.unusedVariables false
attribute [local go_sem ↓] Go.wp_at_zero Go.wp_at_succ

/-- Too long a code. -/
theorem big (a : Option Addr) (n cap : Nat) (f : Nat → Int) (a' : Option Addr) (n' cap' : Nat) (f' : Nat → Int) (w : World) (h : BytesAt w a n f) (hm : n ≤ cap ∧ cap ≤ 9223372036854775807) (h' : BytesAt w a' n' f') (hm' : n' ≤ cap' ∧ cap' ≤ 9223372036854775807) (hbig : 1048576 < n) :
    Calls Try.prog 8 #[.slice a n cap, .slice a' n' cap'] w fun e w' => e = .returned (.bool true) ∧ Below w.heap.size w w' := by
  have hb : (1048576 : Int) < (n : Int) := by omega
  go_enter Try.func8, Try.ntmps8
  go_wp2
  go_ret
  exact ⟨rfl, Below.refl _ _⟩
theorem big' (a : Option Addr) (n cap : Nat) (f : Nat → Int) (a' : Option Addr) (n' cap' : Nat) (f' : Nat → Int) (w : World) (h : BytesAt w a n f) (hm : n ≤ cap ∧ cap ≤ 9223372036854775807) (h' : BytesAt w a' n' f') (hm' : n' ≤ cap' ∧ cap' ≤ 9223372036854775807) (hsm : n ≤ 1048576) (hbig : 1048576 < n') :
    Calls Try.prog 8 #[.slice a n cap, .slice a' n' cap'] w fun e w' => e = .returned (.bool true) ∧ Below w.heap.size w w' := by
  have hb : (n : Int) ≤ 1048576 := by omega
  have hb' : (1048576 : Int) < (n' : Int) := by omega
  go_enter Try.func8, Try.ntmps8
  go_wp2
  go_ret
  exact ⟨rfl, Below.refl _ _⟩

set_option maxRecDepth 100000 in
set_option maxHeartbeats 8000000 in
theorem small (a : Option Addr) (n cap : Nat) (f : Nat → Int) (a' : Option Addr) (n' cap' : Nat) (f' : Nat → Int) (w : World) (h : BytesAt w a n f) (hm : n ≤ cap ∧ cap ≤ 9223372036854775807) (h' : BytesAt w a' n' f') (hm' : n' ≤ cap' ∧ cap' ≤ 9223372036854775807) (hsm : n ≤ 1048576) (hsm' : n' ≤ 1048576) :
    Calls Try.prog 8 #[.slice a n cap, .slice a' n' cap'] w fun e w' => e = .returned (.bool true) ∧ Below w.heap.size w w' := by
  have hb : (n : Int) ≤ 1048576 := by omega
  have hb' : (n' : Int) ≤ 1048576 := by omega
  go_enter Try.func8, Try.ntmps8
  go_wp2_with fail
  refine (drawTrailVisits_any a n cap f w h hsm hm.1 hm.2).mono ?_
  rintro e w1 ⟨wd, a1, c1, cs, k, rfl, hC1, hl1, hk1, hb_w1⟩
  have hz_w1 := hb_w1.size
  try simp at hz_w1
  have hbS1 : Below w1.heap.size w1 (w1.alloc (.cells #[.int .i64 wd, .slice a1 cs.length c1] 25)) := (by repeat (first | exact Below.refl _ _ | refine Below.alloc ?_ (by first | exact Nat.le_refl _ | (simp; done) | (simp; omega)) _ | refine Below.drew ?_ | refine Below.setCell ?_ (by first | exact Nat.le_refl _ | (simp; done) | (simp; omega)) _))
  replace hC1 := hC1.below hbS1
  have g0 : (w1.alloc (.cells #[.int .i64 wd, .slice a1 cs.length c1] 25)).cell? ⟨w1.heap.size, 0, none⟩ = some (.int .i64 wd) := by simp [go_sem]
  have g1 : (w1.alloc (.cells #[.int .i64 wd, .slice a1 cs.length c1] 25)).cell? ⟨w1.heap.size, 1, none⟩ = some (.slice a1 cs.length c1) := by simp [go_sem]
  have hBs1 := bcall hb_w1 (by omega) hbS1
  clear hb_w1
  clear hbS1
  have hq2 := h'.below hBs1
  go_wp2_with fail
  refine (drawCellOk_any a' n' cap' f' _ hq2 hsm' hm'.1 hm'.2).mono ?_
  rintro e w1b ⟨kc, lc, rfl, hb_w1b⟩
  have hz_w1b := hb_w1b.size
  try simp at hz_w1b
  replace g0 := keepc hb_w1b g0; replace g1 := keepc hb_w1b g1
  replace hC1 := hC1.below hb_w1b
  have hB_w1b := bcall hBs1 (by first | omega | (simp; omega)) hb_w1b
  clear hBs1 hb_w1b
  have hbS2 : Below w1b.heap.size w1b (w1b.alloc (.cells #[.int .i64 kc, .int .i64 lc] 27)) := (by repeat (first | exact Below.refl _ _ | refine Below.alloc ?_ (by first | exact Nat.le_refl _ | (simp; done) | (simp; omega)) _ | refine Below.drew ?_ | refine Below.setCell ?_ (by first | exact Nat.le_refl _ | (simp; done) | (simp; omega)) _))
  replace g0 := keepc hbS2 g0; replace g1 := keepc hbS2 g1
  replace hC1 := hC1.below hbS2
  have q0 : (w1b.alloc (.cells #[.int .i64 kc, .int .i64 lc] 27)).cell? ⟨w1b.heap.size, 0, none⟩ = some (.int .i64 kc) := by simp [go_sem]
  have q1 : (w1b.alloc (.cells #[.int .i64 kc, .int .i64 lc] 27)).cell? ⟨w1b.heap.size, 1, none⟩ = some (.int .i64 lc) := by simp [go_sem]
  have hBs2 := bcall hB_w1b (by omega) hbS2
  clear hB_w1b
  clear hbS2
  clear hq2
  obtain ⟨VS, hVS⟩ : ∃ VS, (trailT wd cs k).1 = VS := ⟨_, rfl⟩
  have EX : Hid ((trailT wd cs k).1 = VS) := hVS
  obtain ⟨ES, hES⟩ : ∃ ES, (trailT wd cs k).2 = ES := ⟨_, rfl⟩
  have EE : Hid ((trailT wd cs k).2 = ES) := hES
  obtain ⟨FT, hFT⟩ : ∃ FT, footN wd cs k = FT := ⟨_, rfl⟩
  have EF : Hid (footN wd cs k = FT) := hFT
  have hfl := foot_len wd cs k hl1
  rw [hFT] at hfl
  have kv2 := (visits_known (rfl : trailT wd cs k = trailT wd cs k)).2.1
  have ke4 := (ends_known (rfl : trailT wd cs k = trailT wd cs k)).2.2.2.1
  rw [hVS] at kv2
  rw [hES] at ke4
  have hlen : VS.length ≤ 1000000 := by omega
  clear hVS hES hFT
  go_wp2_with fail
  refine (implVisitsR EX.out a1 c1 _ hC1 (by omega)).mono ?_
  rintro e w2 ⟨a2, c2, rfl, hR2, hb_w2⟩
  have hz_w2 := hb_w2.size
  try simp at hz_w2
  replace g0 := keepc hb_w2 g0; replace g1 := keepc hb_w2 g1; replace q0 := keepc hb_w2 q0; replace q1 := keepc hb_w2 q1
  replace hC1 := hC1.below hb_w2
  have hB_w2 := bcall hBs2 (by first | omega | (simp; omega)) hb_w2
  clear hBs2 hb_w2
  go_wp2_with fail
  refine (specVisitsR EX.out a1 c1 _ hC1 (by omega)).mono ?_
  rintro e w3 ⟨a3, c3, rfl, hR3, hb_w3⟩
  have hz_w3 := hb_w3.size
  try simp at hz_w3
  replace g0 := keepc hb_w3 g0; replace g1 := keepc hb_w3 g1; replace q0 := keepc hb_w3 q0; replace q1 := keepc hb_w3 q1
  replace hC1 := hC1.below hb_w3
  replace hR2 := hR2.below hb_w3
  have hB_w3 := bcall hB_w2 (by first | omega | (simp; omega)) hb_w3
  clear hB_w2 hb_w3
  go_wp2_with fail
  refine (llVisits_same a2 a3 c2 c3 VS _ hR2 hR3 hlen).mono ?_
  rintro e w4 ⟨rfl, hb_w4⟩
  have hz_w4 := hb_w4.size
  try simp at hz_w4
  replace g0 := keepc hb_w4 g0; replace g1 := keepc hb_w4 g1; replace q0 := keepc hb_w4 q0; replace q1 := keepc hb_w4 q1
  replace hC1 := hC1.below hb_w4
  replace hR2 := hR2.below hb_w4
  replace hR3 := hR3.below hb_w4
  have hB_w4 := bcall hB_w3 (by first | omega | (simp; omega)) hb_w4
  clear hB_w3 hb_w4
  go_wp2_with fail
  refine (llSight_any wd a1 c1 cs _ hC1 (by omega) k).mono ?_
  rintro e w5 ⟨rfl, hb_w5⟩
  have hz_w5 := hb_w5.size
  try simp at hz_w5
  replace g0 := keepc hb_w5 g0; replace g1 := keepc hb_w5 g1; replace q0 := keepc hb_w5 q0; replace q1 := keepc hb_w5 q1
  replace hC1 := hC1.below hb_w5
  replace hR2 := hR2.below hb_w5
  replace hR3 := hR3.below hb_w5
  have hB_w5 := bcall hB_w4 (by first | omega | (simp; omega)) hb_w5
  clear hB_w4 hb_w5
  clear hR3
  rcases hs : inS wd cs k with _ | _
  · go_wp2_with fail
    refine (specVisitsR EX.out a1 c1 _ hC1 (by omega)).mono ?_
    rintro e w6 ⟨a6, c6, rfl, hR6, hb_w6⟩
    have hz_w6 := hb_w6.size
    try simp at hz_w6
    replace g0 := keepc hb_w6 g0; replace g1 := keepc hb_w6 g1; replace q0 := keepc hb_w6 q0; replace q1 := keepc hb_w6 q1
    replace hC1 := hC1.below hb_w6
    replace hR2 := hR2.below hb_w6
    have hB_w6 := bcall hB_w5 (by first | omega | (simp; omega)) hb_w6
    clear hB_w5 hb_w6
    go_wp2_with fail
    refine (llVisits_same a2 a6 c2 c6 VS _ hR2 hR6 hlen).mono ?_
    rintro e w7 ⟨rfl, hb_w7⟩
    have hz_w7 := hb_w7.size
    try simp at hz_w7
    replace g0 := keepc hb_w7 g0; replace g1 := keepc hb_w7 g1; replace q0 := keepc hb_w7 q0; replace q1 := keepc hb_w7 q1
    replace hC1 := hC1.below hb_w7
    replace hR2 := hR2.below hb_w7
    replace hR6 := hR6.below hb_w7
    have hB_w7 := bcall hB_w6 (by first | omega | (simp; omega)) hb_w7
    clear hB_w6 hb_w7
    go_wp2
    go_ret
    exact ⟨rfl, hB_w7⟩
  · go_wp2_with fail
    refine (specCellOk_any kc lc _).mono ?_
    rintro e w5b ⟨rfl, hb_w5b⟩
    have hz_w5b := hb_w5b.size
    try simp at hz_w5b
    replace g0 := keepc hb_w5b g0; replace g1 := keepc hb_w5b g1; replace q0 := keepc hb_w5b q0; replace q1 := keepc hb_w5b q1
    replace hC1 := hC1.below hb_w5b
    replace hR2 := hR2.below hb_w5b
    have hB_w5b := bcall hB_w5 (by first | omega | (simp; omega)) hb_w5b
    clear hB_w5 hb_w5b
    rcases hcc : okC kc lc with _ | _
    · go_wp2_with fail
      refine (specVisitsR EX.out a1 c1 _ hC1 (by omega)).mono ?_
      rintro e w6 ⟨a6, c6, rfl, hR6, hb_w6⟩
      have hz_w6 := hb_w6.size
      try simp at hz_w6
      replace g0 := keepc hb_w6 g0; replace g1 := keepc hb_w6 g1; replace q0 := keepc hb_w6 q0; replace q1 := keepc hb_w6 q1
      replace hC1 := hC1.below hb_w6
      replace hR2 := hR2.below hb_w6
      have hB_w6 := bcall hB_w5b (by first | omega | (simp; omega)) hb_w6
      clear hB_w5b hb_w6
      go_wp2_with fail
      refine (llVisits_same a2 a6 c2 c6 VS _ hR2 hR6 hlen).mono ?_
      rintro e w7 ⟨rfl, hb_w7⟩
      have hz_w7 := hb_w7.size
      try simp at hz_w7
      replace g0 := keepc hb_w7 g0; replace g1 := keepc hb_w7 g1; replace q0 := keepc hb_w7 q0; replace q1 := keepc hb_w7 q1
      replace hC1 := hC1.below hb_w7
      replace hR2 := hR2.below hb_w7
      replace hR6 := hR6.below hb_w7
      have hB_w7 := bcall hB_w6 (by first | omega | (simp; omega)) hb_w7
      clear hB_w6 hb_w7
      go_wp2
      go_ret
      exact ⟨rfl, hB_w7⟩
    · have hok := inS_ok hs
      have HP : Hid (∀ X : Nat, X < cs.length → putG wd cs (X : Int) kc lc = (wd, cs.set X (kc, lc), true)) := fun X hX => putG_at wd cs X kc lc hX hok hcc
      have HU : Hid (∀ X : Nat, X < cs.length → ¬ (X : Int) ∈ FT → (trailT wd (cs.set X (kc, lc)) k).1 = VS ∧ (trailT wd (cs.set X (kc, lc)) k).2 = ES) := fun X hX hn => by
        have q := put_unseen (k := k) hX hok (c := (kc, lc)) hcc (by rw [EF.out]; exact hn)
        rw [q]
        exact ⟨EX.out, EE.out⟩
      clear hok hcc hs
      go_wp2_with fail
      refine (implFootR EF.out a1 c1 _ hC1 (by omega)).mono ?_
      rintro e w6 ⟨a6, c6, rfl, hF6, hb_w6⟩
      have hz_w6 := hb_w6.size
      try simp at hz_w6
      replace g0 := keepc hb_w6 g0; replace g1 := keepc hb_w6 g1; replace q0 := keepc hb_w6 q0; replace q1 := keepc hb_w6 q1
      replace hC1 := hC1.below hb_w6
      replace hR2 := hR2.below hb_w6
      have hB_w6 := bcall hB_w5b (by first | omega | (simp; omega)) hb_w6
      clear hB_w5b hb_w6
      go_wp2_with fail
      go_loopw [10] (fun ii wr => ∃ i : Nat, i ≤ cs.length ∧ ii = .int .i64 i ∧ Below w6.heap.size w6 wr) (fun ii _ => cs.length - (intOf ii).toNat)
      case atStart => exact ⟨0, Nat.zero_le _, rfl, Below.refl _ _⟩
      case round =>
        rename World => wo
        obtain ⟨i, hi, rfl, hbo⟩ := hrel
        replace g0 := keepc hbo g0; replace g1 := keepc hbo g1; replace q0 := keepc hbo q0; replace q1 := keepc hbo q1
        have hC0 := hC1.below hbo
        have hR0 := hR2.below hbo
        have hF0 := hF6.below hbo
        by_cases hlt : i < cs.length
        · have hput := HP.out i hlt
          have hun := HU.out i hlt
          obtain ⟨xs, exs⟩ : ∃ xs, cs.set i (kc, lc) = xs := ⟨_, rfl⟩
          rw [exs] at hput hun
          have hxl : xs.length ≤ 31 := by rw [← exs]; simpa using hl1
          have HPi : Hid (putG wd cs (i : Int) kc lc = (wd, xs, true)) := hput
          have HUi : Hid (¬ (i : Int) ∈ FT → (trailT wd xs k).1 = VS ∧ (trailT wd xs k).2 = ES) := hun
          clear exs hput hun
          go_wp2_with fail
          refine (implGridPut_any wd a1 c1 cs (i : Int) kc lc _ hC0 (by omega)).mono ?_
          rintro e w7 ⟨v7, rfl, hO7, hb7⟩
          rw [HPi.out] at hO7 ⊢
          simp only at hO7
          obtain ⟨a7, c7, rfl, hC7⟩ := hO7.slice
          have hbX : Below w7.heap.size w7 (w7.alloc (.cells #[.int .i64 wd, .slice a7 xs.length c7] 25)) := (by repeat (first | exact Below.refl _ _ | refine Below.alloc ?_ (by first | exact Nat.le_refl _ | (simp; done) | (simp; omega)) _ | refine Below.drew ?_ | refine Below.setCell ?_ (by first | exact Nat.le_refl _ | (simp; done) | (simp; omega)) _))
          have x0 : (w7.alloc (.cells #[.int .i64 wd, .slice a7 xs.length c7] 25)).cell? ⟨w7.heap.size, 0, none⟩ = some (.int .i64 wd) := by simp [go_sem]
          have x1 : (w7.alloc (.cells #[.int .i64 wd, .slice a7 xs.length c7] 25)).cell? ⟨w7.heap.size, 1, none⟩ = some (.slice a7 xs.length c7) := by simp [go_sem]
          have hz7 := hb7.size
          replace hC0 := (hC0.below hb7).below hbX
          replace hR0 := (hR0.below hb7).below hbX
          replace hF0 := (hF0.below hb7).below hbX
          have hC8 := hC7.below hbX
          replace g0 := keepc hb7 g0; replace g1 := keepc hb7 g1
          replace g0 := keepc hbX g0; replace g1 := keepc hbX g1
          have hbG := bcall (bcall hbo hbo.size hb7) (by have := hbo.size; omega) hbX
          clear hO7 hC7 hb7 hbX q0 q1
          go_wp2
          obtain ⟨wz, hwz⟩ : ∃ wz, wz = w7.alloc (.cells #[.int .i64 wd, .slice a7 xs.length c7] 25) := ⟨_, rfl⟩
          rw [← hwz] at x0 x1 hC0 hR0 hF0 hC8 g0 g1 hbG ⊢
          clear hwz
          by_cases hin : (i : Int) ∈ FT
          · have HH : Hid (decide ((i : Int) ∈ FT) = true) := decide_eq_true hin
            clear hin
            have hHas : ∀ m, Calls Try.prog 36 #[.slice a6 FT.length c6, .int .i64 i] (wz.drewN m) fun e w' => e = .returned (.bool true) ∧ w' = wz.drewN m := fun m => by
              have hb0 := Below.refl wz.heap.size wz
              have q := llHas_any a6 c6 FT (i : Int) (wz.drewN m) (hF0.below ⟨hb0.os, hb0.tape, hb0.output, hb0.size, hb0.block⟩) (by omega)
              rw [HH.out] at q
              exact q
            go_quiet ((go_at_call 36; exact Calls.quiet_of_same (hHas _)))
            have hbq : Below w6.heap.size w6 (wz.drewN nq) := ⟨hbG.os, hbG.tape, hbG.output, hbG.size, hbG.block⟩
            go_wp2_with fail
            go_roundw
            case rel => exact ⟨i + 1, by omega, by go_num, hbq⟩
            case measure => simp [intOf]; omega
          · have HH : Hid (decide ((i : Int) ∈ FT) = false) := decide_eq_false hin
            obtain ⟨hv, he⟩ := HUi.out hin
            have HV : Hid ((trailT wd xs k).1 = VS) := hv
            have HE : Hid ((trailT wd xs k).2 = ES) := he
            clear hin hv he
            go_region_held3 (fun w' => w'.cell? ⟨w1.heap.size, 0, none⟩ = some (.int .i64 wd) ∧ w'.cell? ⟨w1.heap.size, 1, none⟩ = some (.slice a1 cs.length c1) ∧ w'.cell? ⟨w7.heap.size, 0, none⟩ = some (.int .i64 wd) ∧ w'.cell? ⟨w7.heap.size, 1, none⟩ = some (.slice a7 xs.length c7))
              (first
                | exact ⟨g0, g1, x0, x1⟩
                | exact ⟨keepc hbe g0, keepc hbe g1, keepc hbe x0, keepc hbe x1⟩
                | exact ⟨keepc hbd g0, keepc hbd g1, keepc hbd x0, keepc hbd x1⟩
                | exact ⟨keepc hbc g0, keepc hbc g1, keepc hbc x0, keepc hbc x1⟩
                | exact ⟨keepc hbb g0, keepc hbb g1, keepc hbb x0, keepc hbb x1⟩
                | exact ⟨keepc hba g0, keepc hba g1, keepc hba x0, keepc hba x1⟩
                | go_keep)
              (first
                | (go_at_call 36; refine (llHas_any _ _ FT _ _ (by first | exact hF0 | exact hF0.below (Below.refl _ _).drew) (by omega)).mono ?_; rintro e w' ⟨rfl, rfl⟩; rw [HH.out])
                | (go_at_call 30; refine (implVisitsR HV.out a7 c7 _ (by first | exact hC8 | exact hC8.below (Below.refl _ _).drew) (by omega)).mono ?_; rintro e wa ⟨aa, ca, rfl, hRa, hba'⟩; have hba : Below wz.heap.size wz wa := (by first | exact hba' | exact bdrew hba'))
                | (go_at_call 31; refine (llVisits_same aa a2 ca c2 VS _ hRa (hR0.below hba) hlen).mono ?_; rintro e wb ⟨rfl, hbb'⟩; have hbb : Below wz.heap.size wz wb := bcall hba hba.size hbb')
                | (have hguard := hRc; go_at_call 38; refine (implEndsR EE.out a1 c1 _ (hC0.below hbc) (by omega)).mono ?_; rintro e wd' ⟨ad, cd, rfl, hRd, hbd'⟩; have hbd : Below wz.heap.size wz wd' := bcall hbc hbc.size hbd')
                | (go_at_call 38; refine (implEndsR HE.out a7 c7 _ (hC8.below hbb) (by omega)).mono ?_; rintro e wc ⟨ac, cc, rfl, hRc, hbc'⟩; have hbc : Below wz.heap.size wz wc := bcall hbb hbb.size hbc')
                | (go_at_call 37; refine (llEnds_same ac ad cc cd ES _ (hRc.below hbd') hRd (by omega)).mono ?_; rintro e we ⟨rfl, hbe'⟩; have hbe : Below wz.heap.size wz we := bcall hbd hbd.size hbe')
                | fail)
            all_goals
              have hbf := bcall hbG hbG.size hbe
              go_wp2_with fail
              go_roundw
              case rel => exact ⟨i + 1, by omega, by go_num, by first | exact hbf | exact hbf.drew⟩
              case measure => simp [intOf]; omega
        · go_wp2_with fail
          go_ret
          exact ⟨rfl, bcall hB_w6 (by omega) hbo⟩

theorem walk (a : Option Addr) (n cap : Nat) (f : Nat → Int) (a' : Option Addr) (n' cap' : Nat) (f' : Nat → Int) (w : World) (h : BytesAt w a n f) (hm : n ≤ cap ∧ cap ≤ 9223372036854775807) (h' : BytesAt w a' n' f') (hm' : n' ≤ cap' ∧ cap' ≤ 9223372036854775807) :
    Calls Try.prog 8 #[.slice a n cap, .slice a' n' cap'] w fun e w' => e = .returned (.bool true) ∧ Below w.heap.size w w' := by
  by_cases hs : n ≤ 1048576
  · by_cases hs' : n' ≤ 1048576
    · exact small a n cap f a' n' cap' f' w h hm h' hm' hs hs'
    · exact big' a n cap f a' n' cap' f' w h hm h' hm' hs (by omega)
  · exact big a n cap f a' n' cap' f' w h hm h' hm' (by omega)

set_option maxRecDepth 100000 in
theorem lifted (os : Os) (started : os.Started) (H : Type) (enc : TypeId × Value → H) :
    ReturnsInHanded {} Try.checked os 8 .any (Rows.fnTrailUnseenSpec.pre6 enc Try.prog Try.f8 Rows.fnTrailUnseenRow.domain false) (Rows.fnTrailUnseenSpec.post enc Try.prog Try.f8 false true false false) := by
  refine returnsInHanded_of_change (C := Try.checked) own started (by kernel_rfl) Try.func8
    (ChangeSpec.witness6 (enc := enc) (C := Try.checked) false ⟨#[], #[.slice none 0 0, .slice none 0 0], []⟩ 8 (by kernel_rfl) (by kernel_rfl) (by kernel_rfl) (by kernel_rfl)) ?_
  intro W base args ds gs before hval0 hW hcnd _
  have hval : ∀ (j : Nat) t v, Try.f8.params[j]? = some t → args[j]? = some v → Value.okWide Try.prog W .any base t v := hval0
  have hW' := hW
  obtain ⟨p, q, hA0, hV, rfl, hfz, hnd⟩ := hW
  have hA : DataW.TrodAll enc Try.prog W 0 (fun _ => true) true Try.f8.params.toList args.toList ds p := hA0
  rw [Try.params8] at hA hval
  obtain ⟨v0, vs0, d0, ds0, p0, q0, hargs, rfl, rfl, h0, r0⟩ := trodAll_cons hA
  obtain ⟨v1, vs1, d1, ds1, p1, q1, rfl, rfl, rfl, h1, r1⟩ := trodAll_cons r0
  obtain ⟨rfl, rfl, rfl⟩ := trodAll_nil r1
  obtain rfl : args = #[v0, v1] := by cases args; simp_all
  obtain ⟨rfl, rfl⟩ := trodVars_none hV
  have k0 := h0
  have lt0 : ∀ x ∈ p0, x.block < W.heap.size := by obtain ⟨m, hm⟩ := k0; exact DataW.trod_lt m _ _ _ hm
  obtain ⟨a0, n0, cap0, f0, rfl, hC0, hm0⟩ := open_bytes (hval 0 22 v0 rfl rfl) h0
  have k1 := h1
  have lt1 : ∀ x ∈ p1, x.block < W.heap.size := by obtain ⟨m, hm⟩ := k1; exact DataW.trod_lt m _ _ _ hm
  obtain ⟨a1, n1, cap1, f1, rfl, hC1, hm1⟩ := open_bytes (hval 1 22 v1 rfl rfl) h1
  clear hA0 hval0
  refine (walk a0 n0 cap0 f0 a1 n1 cap1 f1 W hC0 hm0 hC1 hm1).mono fun e W' ⟨he, bel⟩ => ?_
  subst he
  exact ⟨_, rfl, _, _, _, [], _, [], hW', trodAll_mk1 (shut_bool Try.underlying4 _), (trodAll_cons_mk (Below.trod laidOut (by kernel_rfl) (of_decide_eq_true (by kernel_rfl)) k0 bel lt0) (trodAll_cons_mk (Below.trod laidOut (by kernel_rfl) (of_decide_eq_true (by kernel_rfl)) k1 bel lt1) trodAll_mk0)), rfl, bel.frame _, fun h => by cases h⟩

theorem over : Rows.fnTrailUnseenRow.holds Try.pinned (OpenSpec.ofChange Rows.fnTrailUnseenSpec) :=
  OpenClaim.holds_of_wide 8 Try.f8 rfl rfl rfl rfl rfl rfl rfl ⟨rfl, rfl, rfl, rfl, rfl⟩ rfl rfl rfl rfl rfl (by kernel_rfl) Try.func8 (by kernel_rfl)
    (of_decide_eq_true (by kernel_rfl)) (by unfold Func.isWrapper; first | (rw [if_pos (by decide +kernel)]; kernel_rfl) | (rw [if_neg (by decide +kernel)]; exact ⟨rfl, rfl⟩))
    (fun os started H enc _ => lifted os started H enc)

end Go.Proofs.Ytmnninhifiajhaa.LwTrailUnseen

namespace Go.Proofs.Ytmnninhifiajhaa
/-- The statement. -/
theorem lwTrailUnseen : Rows.FnTrailUnseenSaid := LwTrailUnseen.over
#print axioms lwTrailUnseen
end Go.Proofs.Ytmnninhifiajhaa
