/-
  'laws.FnTrailDim' returns true for all codes: what dims, dims all behind it. No condition.
-/
import Derived.Test.YtmnninhifiajhaaFb
import Derived.Test.YtmnninhifiajhaaUp
import Derived.Test.YtmnninhifiajhaaUl
import Derived.Deep.RegionWith
import Derived.Deep.RegionHeld3
import Derived.Deep.DrawnRows
namespace Go.Proofs.Ytmnninhifiajhaa.LwTrailDim
open Go.ChangeShapes Go.WideShapes Go.ChangeAt Go.RowKit
set_option linter.unusedVariables false
attribute [local go_sem ↓] Go.wp_at_zero Go.wp_at_succ

/-- Too long a code. -/
theorem big (a : Option Addr) (n cap : Nat) (f : Nat → Int) (w : World) (h : BytesAt w a n f) (hm : n ≤ cap ∧ cap ≤ 9223372036854775807) (hbig : 1048576 < n) :
    Calls Try.prog 11 #[.slice a n cap] w fun e w' => e = .returned (.bool true) ∧ Below w.heap.size w w' := by
  have hb : (1048576 : Int) < (n : Int) := by omega
  go_enter Try.func11, Try.ntmps11
  go_wp2
  go_ret
  exact ⟨rfl, Below.refl _ _⟩

set_option maxRecDepth 100000 in
set_option maxHeartbeats 8000000 in
theorem small (a : Option Addr) (n cap : Nat) (f : Nat → Int) (w : World) (h : BytesAt w a n f) (hm : n ≤ cap ∧ cap ≤ 9223372036854775807) (hsm : n ≤ 1048576) :
    Calls Try.prog 11 #[.slice a n cap] w fun e w' => e = .returned (.bool true) ∧ Below w.heap.size w w' := by
  have hb : (n : Int) ≤ 1048576 := by omega
  go_enter Try.func11, Try.ntmps11
  go_wp2_with fail
  refine (drawTrailVisits_any a n cap f w h hsm hm.1 hm.2).mono ?_
  rintro e w1 ⟨wd, a1, c1, cs, k, rfl, hC1, hl1, hk1, hb_w1⟩
  have hz_w1 := hb_w1.size
  try simp at hz_w1
  have hbS1 : Below w1.heap.size w1 (w1.alloc (.cells #[.int .i64 wd, .slice a1 cs.length c1] 25)) := (by repeat (first | exact Below.refl _ _ | refine Below.alloc ?_ (by first | exact Nat.le_refl _ | (simp; done) | (simp; omega)) _ | refine Below.drew ?_ | refine Below.setCell ?_ (by first | exact Nat.le_refl _ | (simp; done) | (simp; omega)) _))
  replace hC1 := hC1.below hbS1
  have g0 : (w1.alloc (.cells #[.int .i64 wd, .slice a1 cs.length c1] 25)).cell? ⟨w1.heap.size, 0, none⟩ = some (.int .i64 wd) := by simp [go_sem]
  have g1 : (w1.alloc (.cells #[.int .i64 wd, .slice a1 cs.length c1] 25)).cell? ⟨w1.heap.size, 1, none⟩ = some (.slice a1 cs.length c1) := by simp [go_sem]
  have hBs1 := bcall hb_w1 (by omega) hbS1
  clear hb_w1
  clear hbS1
  obtain ⟨VS, hVS⟩ : ∃ VS, (trailT wd cs k).1 = VS := ⟨_, rfl⟩
  have EX : Hid ((trailT wd cs k).1 = VS) := hVS
  obtain ⟨ES, hES⟩ : ∃ ES, (trailT wd cs k).2 = ES := ⟨_, rfl⟩
  have EE : Hid ((trailT wd cs k).2 = ES) := hES
  have kv2 := (visits_known (rfl : trailT wd cs k = trailT wd cs k)).2.1
  obtain ⟨ke1, ke2, ke3, ke4, ke5⟩ := ends_known (rfl : trailT wd cs k = trailT wd cs k)
  rw [hVS] at kv2
  rw [hES] at ke1 ke2 ke3 ke4
  have hpos : ∀ u ∈ ES, 1 ≤ u.2.2 := fun u hu => (ke1 u hu).1
  have HW : Hid (∀ u ∈ ES, 1 ≤ u.2.2 ∧ u.2.2 ≤ 64) := fun u hu => ⟨hpos u hu, ke2 u hu⟩
  have HB : Hid (∀ (X : Int) i, 0 ≤ sumToH X (ES.take i) ∧ sumToH X (ES.take i) ≤ 64) := by
    intro X i
    have q2 := sum_take hpos i
    have q3 : ∀ l : List (Int × Int × Int), (∀ u ∈ l, 1 ≤ u.2.2) → 0 ≤ sumToH X l ∧ sumToH X l ≤ sumW l := by
      intro l
      induction l with
      | nil => intro _; simp [sumToH, sumW]
      | cons t r ih =>
        intro hh
        have h1 := hh t (by simp)
        have h2 := ih (fun u hu => hh u (by simp [hu]))
        simp only [sumToH, sumW]
        split <;> omega
    have q4 := q3 (ES.take i) (fun u hu => hpos u (List.mem_of_mem_take hu))
    omega
  have hlen : VS.length ≤ 1000000 := by omega
  clear ke1 ke2 ke5 hpos
  go_wp2_with fail
  refine (implVisitsR EX.out a1 c1 _ hC1 (by omega)).mono ?_
  rintro e w2 ⟨a2, c2, rfl, hR2, hb_w2⟩
  have hz_w2 := hb_w2.size
  try simp at hz_w2
  replace g0 := keepc hb_w2 g0; replace g1 := keepc hb_w2 g1
  replace hC1 := hC1.below hb_w2
  have hB_w2 := bcall hBs1 (by first | omega | (simp; omega)) hb_w2
  clear hBs1 hb_w2
  rcases hs : inS wd cs k with _ | _
  · go_wp2_with fail
    first
      | (go_region_with (first
          | (go_at_call 32; refine (specVisitsR EX.out a1 c1 _ (by first | exact hC1 | exact hC1.below (Below.refl _ _).drew | exact hC1.below (Below.refl _ _).drew.drew) (by omega)).mono ?_; rintro e w3 ⟨a3, c3, rfl, hR3, hb3'⟩; have hb3 : Below w2.heap.size w2 w3 := (by first | exact hb3' | exact bdrew hb3' | exact bdrew (bdrew hb3')); have g03 := keepc hb3 g0; have g13 := keepc hb3 g1)
          | (go_at_call 31; refine (llVisits_same a2 a3 c2 c3 VS _ (by first | exact (hR2.below hb3) | exact (hR2.below hb3).below (Below.refl _ _).drew | exact (hR2.below hb3).below (Below.refl _ _).drew.drew) (by first | exact hR3 | exact hR3.below (Below.refl _ _).drew | exact hR3.below (Below.refl _ _).drew.drew) hlen).mono ?_; rintro e w4 ⟨rfl, hb4'⟩; have hb4 : Below w2.heap.size w2 w4 := (by first | exact bcall hb3 hb3.size hb4' | exact bcall hb3 hb3.size (bdrew hb4')); have g04 := keepc hb4 g0; have g14 := keepc hb4 g1)
          | (go_at_call 33; refine (llSight_any wd a1 c1 cs _ (by first | exact (hC1.below hb4) | exact (hC1.below hb4).below (Below.refl _ _).drew | exact (hC1.below hb4).below (Below.refl _ _).drew.drew) (by omega) k).mono ?_; rw [hs]; rintro e w5 ⟨rfl, hb5'⟩; have hb5 : Below w2.heap.size w2 w5 := (by first | exact bcall hb4 hb4.size hb5' | exact bcall hb4 hb4.size (bdrew hb5')); have g05 := keepc hb5 g0; have g15 := keepc hb5 g1)
          | fail))
      | fail
    all_goals
      have hC5 := hC1.below hb5
      have hR5 := hR2.below hb5
      have g05 := keepc hb5 g0
      have g15 := keepc hb5 g1
      have hB5 := bcall hB_w2 hB_w2.size hb5
      go_wp2_with fail
      refine (specVisitsR EX.out a1 c1 _ (by first | exact hC5 | exact hC5.below (Below.refl _ _).drew | exact hC5.below (Below.refl _ _).drew.drew) (by omega)).mono ?_
      rintro e w6 ⟨a6, c6, rfl, hR6, hb6'⟩
      have hb6 : Below w5.heap.size w5 w6 := (by first | exact hb6' | exact bdrew hb6')
      go_wp2_with fail
      refine (llVisits_same a2 a6 c2 c6 VS _ (hR5.below hb6) hR6 hlen).mono ?_
      rintro e w7 ⟨rfl, hb7⟩
      have hB7 := bcall (bcall hB5 hB5.size hb6) (bcall hB5 hB5.size hb6).size hb7
      go_wp2
      go_ret
      exact ⟨rfl, hB7⟩
  · obtain ⟨x, d, hr⟩ := inS_ray' hs
    obtain ⟨rest, hrest⟩ := trail_first hs hr
    have hok := inS_ok hs
    obtain ⟨⟨hx, _⟩, _⟩ := enough_sight hr
    obtain ⟨X, hX⟩ := Int.eq_ofNat_of_zero_le hx.1
    subst hX
    have hXl : X < cs.length := by omega
    rw [hVS] at hrest
    obtain ⟨xs, exs⟩ : ∃ xs, cs.set X (6, 0) = xs := ⟨_, rfl⟩
    have hxl : xs.length ≤ 31 := by rw [← exs]; simpa using hl1
    have HP : Hid (putG wd cs (X : Int) 6 0 = (wd, xs, true)) := by show _ = _; rw [putG_at wd cs X 6 0 hXl hok (by decide), exs]
    have HD : Hid ((cs.getD X (0, 0)).1 = 0 → (∀ j, 1 ≤ j → j < VS.length → (VS.getD j (0, 0, 0)).1 ≠ (X : Int)) → ∀ q, toN wd xs k q = sumToH q ES) := by
      intro h0 hone q
      rw [← exs, ← hES]
      refine put_dim hs hr rfl hXl h0 ?_ q
      rw [hVS]
      intro u hu
      obtain ⟨j, hj, rfl⟩ := List.getElem_of_mem hu
      have hj' : j + 1 < VS.length := by simp at hj; omega
      have q1 := hone (j + 1) (by omega) hj'
      rw [List.getElem_tail]
      rw [List.getD_eq_getElem?_getD, List.getElem?_eq_getElem hj', Option.getD_some] at q1
      exact q1
    have hpos : 0 < VS.length := by rw [hrest]; simp
    have hposI : (0 : Int) < (VS.length : Int) := by omega
    have hXi : (X : Int) < (cs.length : Int) := by omega
    have hX0 : (0 : Int) ≤ (X : Int) := by omega
    have HZ : Hid (VS.getD 0 (0, 0, 0) = ((X : Int), d, 64)) := by show _ = _; rw [hrest]; rfl
    have HS : Hid (inS wd cs k = true) := hs
    obtain ⟨M, hM⟩ : ∃ M, manyG wd cs = M := ⟨_, rfl⟩
    have EM : Hid (manyG wd cs = M) := hM
    have hMM := manyG_to wd cs
    rw [hM] at hMM
    have hM1 := hMM.1
    have hM2 := hMM.2
    obtain ⟨b2, o2, ea2, l0, _, _⟩ := hR2.at hpos
    rw [HZ.out] at l0
    simp only [Nat.zero_mul, Nat.add_zero] at l0
    obtain ⟨kv, ekv⟩ : ∃ c, (cs.getD X (0, 0)).1 = c := ⟨_, rfl⟩
    obtain ⟨b1, o1, ea1, k0⟩ : ∃ b off, a1 = some ⟨b, off, none⟩ ∧ w2.cell? ⟨b, off + X * 2, none⟩ = some (.int .i64 kv) := by
      rcases hC1 with q | ⟨b, off, e, _, hc⟩
      · rw [q] at hXl; simp at hXl
      · have := (hc X hXl).1
        rw [ekv] at this
        exact ⟨b, off, e, this⟩
    rw [ekv] at HD
    clear hs hr hrest hok hx exs hM hMM hES hVS ekv
    subst ea1
    subst ea2
    by_cases kz : kv = 0
    · subst kz
      go_wp2_with fail
      go_region_held3 (fun w' => w'.cell? ⟨w1.heap.size, 0, none⟩ = some (.int .i64 wd) ∧ w'.cell? ⟨w1.heap.size, 1, none⟩ = some (.slice (some ⟨b1, o1, none⟩) cs.length c1) ∧ w'.cell? ⟨b2, o2, none⟩ = some (.int .i64 (X : Int)) ∧ w'.cell? ⟨b1, o1 + X * 2, none⟩ = some (.int .i64 0))
        (first
          | exact ⟨g0, g1, l0, k0⟩
          | exact ⟨keepc hb5 g0, keepc hb5 g1, keepc hb5 l0, keepc hb5 k0⟩
          | exact ⟨keepc hb4 g0, keepc hb4 g1, keepc hb4 l0, keepc hb4 k0⟩
          | exact ⟨keepc hb3 g0, keepc hb3 g1, keepc hb3 l0, keepc hb3 k0⟩
          | go_keep)
        (first
          | (go_at_call 32; refine (specVisitsR EX.out _ c1 _ (by first | exact hC1 | exact hC1.below (Below.refl _ _).drew | exact hC1.below (Below.refl _ _).drew.drew) (by omega)).mono ?_; rintro e w3 ⟨a3, c3, rfl, hR3, hb3'⟩; have hb3 : Below w2.heap.size w2 w3 := (by first | exact hb3' | exact bdrew hb3' | exact bdrew (bdrew hb3')))
          | (go_at_call 31; refine (llVisits_same _ a3 c2 c3 VS _ (by first | exact (hR2.below hb3) | exact (hR2.below hb3).below (Below.refl _ _).drew | exact (hR2.below hb3).below (Below.refl _ _).drew.drew) (by first | exact hR3 | exact hR3.below (Below.refl _ _).drew | exact hR3.below (Below.refl _ _).drew.drew) hlen).mono ?_; rintro e w4 ⟨rfl, hb4'⟩; have hb4 : Below w2.heap.size w2 w4 := (by first | exact bcall hb3 hb3.size hb4' | exact bcall hb3 hb3.size (bdrew hb4')))
          | (go_at_call 33; refine (llSight_any wd _ c1 cs _ (by first | exact (hC1.below hb4) | exact (hC1.below hb4).below (Below.refl _ _).drew | exact (hC1.below hb4).below (Below.refl _ _).drew.drew) (by omega) k).mono ?_; rw [HS.out]; rintro e w5 ⟨rfl, hb5'⟩; have hb5 : Below w2.heap.size w2 w5 := (by first | exact bcall hb4 hb4.size hb5' | exact bcall hb4 hb4.size (bdrew hb5')))
          | fail)
      all_goals
        go_wp2_with fail
        go_loopw [7] (fun ii wr => ∃ i : Nat, 1 ≤ i ∧ i ≤ VS.length ∧ ii = .int .i64 i ∧ (∀ j, 1 ≤ j → j < i → (VS.getD j (0, 0, 0)).1 ≠ (X : Int)) ∧ Below w2.heap.size w2 wr) (fun ii _ => VS.length - (intOf ii).toNat)
        case atStart => exact ⟨1, by omega, by omega, rfl, fun j h1 h2 => by omega, by first | exact hb5 | exact hb5.drew⟩
        case round =>
          rename World => wo
          obtain ⟨i, hi1, hi, rfl, hne, hbo⟩ := hrel
          have HNE : Hid (∀ j, 1 ≤ j → j < i → (VS.getD j (0, 0, 0)).1 ≠ (X : Int)) := hne
          clear hne
          have hC0 := hC1.below hbo
          have hR0 := hR2.below hbo
          have go0 := keepc hbo g0
          have go1 := keepc hbo g1
          by_cases hlt : i < VS.length
          · obtain ⟨b, off, ea, x0, x1, x2⟩ := hR0.at hlt
            simp only [Option.some.injEq, Addr.mk.injEq, and_true] at ea
            obtain ⟨rfl, rfl⟩ := ea
            obtain ⟨t, et⟩ : ∃ t, (VS.getD i (0, 0, 0)).1 = t := ⟨_, rfl⟩
            rw [et] at x0
            have hiI : (i : Int) < (VS.length : Int) := by omega
            by_cases ex : t = (X : Int)
            · have bx : (t == (X : Int)) = true := by simp [ex]
              clear ex et
              go_wp2_with fail
              go_ret
              exact ⟨rfl, bcall hB_w2 hB_w2.size hbo⟩
            · have bx : (t == (X : Int)) = false := by simp [ex]
              have HN2 : Hid (∀ j, 1 ≤ j → j < i + 1 → (VS.getD j (0, 0, 0)).1 ≠ (X : Int)) := fun j h1 h2 => by
                by_cases e : j < i
                · exact HNE.out j h1 e
                · have : j = i := by omega
                  rw [this, et]
                  exact ex
              clear ex et
              go_wp2_with fail
              go_roundw
              case rel => exact ⟨i + 1, by omega, by omega, by go_num, HN2.out, hbo⟩
              case measure => simp [intOf]; omega
          · have HT : Hid (∀ q, toN wd xs k q = sumToH q ES) := HD.out (by first | trivial | rfl) (fun j h1 h2 => HNE.out j h1 (by omega))
            have hBo := bcall hB_w2 hB_w2.size hbo
            have hzo := hbo.size
            go_wp2_with fail
            refine (implGridPut_any wd _ c1 cs (X : Int) 6 0 _ hC0 (by omega)).mono ?_
            rintro e w7 ⟨v7, rfl, hO7, hb7⟩
            rw [HP.out] at hO7 ⊢
            simp only at hO7
            obtain ⟨a7, c7, rfl, hC7⟩ := hO7.slice
            clear hO7
            have hbX : Below w7.heap.size w7 (w7.alloc (.cells #[.int .i64 wd, .slice a7 xs.length c7] 25)) := (by repeat (first | exact Below.refl _ _ | refine Below.alloc ?_ (by first | exact Nat.le_refl _ | (simp; done) | (simp; omega)) _ | refine Below.drew ?_ | refine Below.setCell ?_ (by first | exact Nat.le_refl _ | (simp; done) | (simp; omega)) _))
            have x0 : (w7.alloc (.cells #[.int .i64 wd, .slice a7 xs.length c7] 25)).cell? ⟨w7.heap.size, 0, none⟩ = some (.int .i64 wd) := by simp [go_sem]
            have x1 : (w7.alloc (.cells #[.int .i64 wd, .slice a7 xs.length c7] 25)).cell? ⟨w7.heap.size, 1, none⟩ = some (.slice a7 xs.length c7) := by simp [go_sem]
            have hC8 := hC7.below hbX
            have hCg := (hC0.below hb7).below hbX
            replace go0 := keepc hbX (keepc hb7 go0)
            replace go1 := keepc hbX (keepc hb7 go1)
            have hB7 := bcall (bcall hBo hBo.size hb7) (bcall hBo hBo.size hb7).size hbX
            clear hb7 hbX
            go_wp2_with fail
            refine (implEndsR EE.out _ c1 _ hCg (by omega)).mono ?_
            rintro e w8 ⟨a8, c8, rfl, hR8, hb8⟩
            replace hC8 := hC8.below hb8
            replace hCg := hCg.below hb8
            replace go0 := keepc hb8 go0; replace go1 := keepc hb8 go1; replace x0 := keepc hb8 x0; replace x1 := keepc hb8 x1
            have hB8 := bcall hB7 hB7.size hb8
            clear hb8 hB7 hC7
            go_wp2_with fail
            go_loopw [11] (fun ii wr => ∃ i : Nat, (i : Int) ≤ M ∧ ii = .int .i64 i ∧ Below w8.heap.size w8 wr) (fun ii _ => (M - intOf ii).toNat)
            case atStart => exact ⟨0, by omega, rfl, Below.refl _ _⟩
            case round =>
              rename World => wp
              obtain ⟨tq, hto, rfl, hbp⟩ := hrel
              have hC9 := hC8.below hbp
              have hG9 := hCg.below hbp
              replace go0 := keepc hbp go0; replace go1 := keepc hbp go1; replace x0 := keepc hbp x0; replace x1 := keepc hbp x1
              have hzp := hbp.size
              go_wp2_with fail
              refine (implMany_any wd _ c1 cs _ hG9 (by omega)).mono ?_
              rintro e wm ⟨rfl, hbm⟩
              rw [EM.out]
              have hCm := hC9.below hbm
              replace go0 := keepc hbm go0; replace go1 := keepc hbm go1; replace x0 := keepc hbm x0; replace x1 := keepc hbm x1
              have hbw := bcall hbp hbp.size hbm
              have hRm := hR8.below hbw
              clear hbm hG9 hC9
              by_cases hlt2 : (tq : Int) < M
              · have HZ2 : Hid (toN wd xs k (tq : Int) = sumToH (tq : Int) ES) := HT.out _
                have HBt : Hid (∀ i, 0 ≤ sumToH (tq : Int) (ES.take i) ∧ sumToH (tq : Int) (ES.take i) ≤ 64) := HB.out (tq : Int)
                go_wp2_with fail
                go_loopw [12, 13] (fun nn ii wr => ∃ i : Nat, i ≤ ES.length ∧ ii = .int .i64 i ∧ nn = .int .i64 (sumToH (tq : Int) (ES.take i)) ∧ wr = wm) (fun _ ii _ => ES.length - (intOf ii).toNat)
                case atStart => exact ⟨0, Nat.zero_le _, rfl, rfl, rfl⟩
                case round =>
                  rename World => wq
                  obtain ⟨i, hi2, rfl, rfl, rfl⟩ := hrel
                  obtain ⟨s, es0⟩ : ∃ s, sumToH (tq : Int) (ES.take i) = s := ⟨_, rfl⟩
                  have hsb := HBt.out i
                  rw [es0] at hsb ⊢
                  by_cases hl3 : i < ES.length
                  · obtain ⟨b, off, ea, z0, z1, z2⟩ := hRm.at hl3
                    subst ea
                    obtain ⟨t, et⟩ : ∃ t, ES.getD i (0, 0, 0) = t := ⟨_, rfl⟩
                    have hmem : t ∈ ES := by rw [← et]; simp [List.getElem?_eq_getElem hl3]
                    rw [et] at z0 z1 z2
                    obtain ⟨hw1, hw2⟩ := HW.out t hmem
                    have hst : sumToH (tq : Int) (ES.take (i + 1)) = s + (if t.1 = 0 ∧ t.2.1 = (tq : Int) then t.2.2 / 2 else 0) := by
                      rw [take_one ES i (0, 0, 0) hl3, sumToH_append, es0, et]
                      simp [sumToH]
                    obtain ⟨t0, t1, t2⟩ := t
                    simp only at z0 z1 z2 hw1 hw2 hst
                    have e1 : t2.tdiv 2 = t2 / 2 := Int.tdiv_eq_ediv_of_nonneg (by omega)
                    have e2 : IntKind.i64.wrap (t2.tdiv 2) = t2 / 2 := by rw [e1]; exact IntWalk.i64_in _ (by omega)
                    have e3 : IntKind.i64.wrap (s + IntKind.i64.wrap (t2.tdiv 2)) = s + t2 / 2 := by rw [e2]; exact IntWalk.i64_in _ (by omega)
                    clear hmem et
                    by_cases q0 : t0 = 0
                    · by_cases q1 : t1 = (tq : Int)
                      · rw [if_pos ⟨q0, q1⟩] at hst
                        have HST : Hid (sumToH (tq : Int) (ES.take (i + 1)) = s + t2 / 2) := hst
                        have b0 : (t0 == 0) = true := by simp [q0]
                        have b1 : (t1 == (tq : Int)) = true := by simp [q1]
                        clear hst q0 q1 es0
                        go_wp2_with fail
                        go_roundw
                        case rel => exact ⟨i + 1, by omega, by go_num, by rw [HST.out], by first | trivial | rfl⟩
                        case measure => simp [intOf]; omega
                      · rw [if_neg (fun q => q1 q.2)] at hst
                        have HST : Hid (sumToH (tq : Int) (ES.take (i + 1)) = s) := by show _ = _; rw [hst]; omega
                        have b0 : (t0 == 0) = true := by simp [q0]
                        have b1 : (t1 == (tq : Int)) = false := by simp [q1]
                        clear hst q0 q1 es0
                        go_wp2_with fail
                        go_roundw
                        case rel => exact ⟨i + 1, by omega, by go_num, by rw [HST.out], by first | trivial | rfl⟩
                        case measure => simp [intOf]; omega
                    · rw [if_neg (fun q => q0 q.1)] at hst
                      have HST : Hid (sumToH (tq : Int) (ES.take (i + 1)) = s) := by show _ = _; rw [hst]; omega
                      have b0 : (t0 == 0) = false := by simp [q0]
                      clear hst q0 es0
                      go_wp2_with fail
                      go_roundw
                      case rel => exact ⟨i + 1, by omega, by go_num, by rw [HST.out], by first | trivial | rfl⟩
                      case measure => simp [intOf]; omega
                  · have hfin : toN wd xs k (tq : Int) = s := by rw [HZ2.out, ← es0, List.take_of_length_le (by omega)]
                    have HF : Hid (toN wd xs k (tq : Int) = s) := hfin
                    have bs : (s != s) = false := by simp
                    clear es0 hfin
                    go_wp2_with fail
                    refine (implToR HF.out a7 c7 _ hCm (by omega)).mono ?_
                    rintro e wt ⟨rfl, hbt⟩
                    have hbz := bcall hbw hbw.size hbt
                    go_wp2_with fail
                    go_roundw
                    case rel => exact ⟨tq + 1, by omega, by go_num, hbz⟩
                    case measure => simp [intOf]; omega
              · go_wp2_with fail
                go_ret
                exact ⟨rfl, bcall hB8 hB8.size hbw⟩
    · have bk : (kv != 0) = true := by simp [kz]
      clear kz
      go_wp2_with fail
      go_region_held3 (fun w' => w'.cell? ⟨w1.heap.size, 0, none⟩ = some (.int .i64 wd) ∧ w'.cell? ⟨w1.heap.size, 1, none⟩ = some (.slice (some ⟨b1, o1, none⟩) cs.length c1) ∧ w'.cell? ⟨b2, o2, none⟩ = some (.int .i64 (X : Int)) ∧ w'.cell? ⟨b1, o1 + X * 2, none⟩ = some (.int .i64 kv))
        (first
          | exact ⟨g0, g1, l0, k0⟩
          | exact ⟨keepc hb5 g0, keepc hb5 g1, keepc hb5 l0, keepc hb5 k0⟩
          | exact ⟨keepc hb4 g0, keepc hb4 g1, keepc hb4 l0, keepc hb4 k0⟩
          | exact ⟨keepc hb3 g0, keepc hb3 g1, keepc hb3 l0, keepc hb3 k0⟩
          | go_keep)
        (first
          | (go_at_call 32; refine (specVisitsR EX.out _ c1 _ (by first | exact hC1 | exact hC1.below (Below.refl _ _).drew | exact hC1.below (Below.refl _ _).drew.drew) (by omega)).mono ?_; rintro e w3 ⟨a3, c3, rfl, hR3, hb3'⟩; have hb3 : Below w2.heap.size w2 w3 := (by first | exact hb3' | exact bdrew hb3' | exact bdrew (bdrew hb3')))
          | (go_at_call 31; refine (llVisits_same _ a3 c2 c3 VS _ (by first | exact (hR2.below hb3) | exact (hR2.below hb3).below (Below.refl _ _).drew | exact (hR2.below hb3).below (Below.refl _ _).drew.drew) (by first | exact hR3 | exact hR3.below (Below.refl _ _).drew | exact hR3.below (Below.refl _ _).drew.drew) hlen).mono ?_; rintro e w4 ⟨rfl, hb4'⟩; have hb4 : Below w2.heap.size w2 w4 := (by first | exact bcall hb3 hb3.size hb4' | exact bcall hb3 hb3.size (bdrew hb4')))
          | (go_at_call 33; refine (llSight_any wd _ c1 cs _ (by first | exact (hC1.below hb4) | exact (hC1.below hb4).below (Below.refl _ _).drew | exact (hC1.below hb4).below (Below.refl _ _).drew.drew) (by omega) k).mono ?_; rw [HS.out]; rintro e w5 ⟨rfl, hb5'⟩; have hb5 : Below w2.heap.size w2 w5 := (by first | exact bcall hb4 hb4.size hb5' | exact bcall hb4 hb4.size (bdrew hb5')))
          | fail)
      all_goals
        have hC5 := hC1.below hb5
        have hR5 := hR2.below hb5
        have g05 := keepc hb5 g0
        have g15 := keepc hb5 g1
        have hB5 := bcall hB_w2 hB_w2.size hb5
        go_wp2_with fail
        refine (specVisitsR EX.out _ c1 _ (by first | exact hC5 | exact hC5.below (Below.refl _ _).drew | exact hC5.below (Below.refl _ _).drew.drew) (by omega)).mono ?_
        rintro e w6 ⟨a6, c6, rfl, hR6, hb6'⟩
        have hb6 : Below w5.heap.size w5 w6 := (by first | exact hb6' | exact bdrew hb6')
        go_wp2_with fail
        refine (llVisits_same _ a6 c2 c6 VS _ (hR5.below hb6) hR6 hlen).mono ?_
        rintro e w7 ⟨rfl, hb7⟩
        have hB7 := bcall (bcall hB5 hB5.size hb6) (bcall hB5 hB5.size hb6).size hb7
        go_wp2
        go_ret
        exact ⟨rfl, hB7⟩
theorem walk (a : Option Addr) (n cap : Nat) (f : Nat → Int) (w : World) (h : BytesAt w a n f) (hm : n ≤ cap ∧ cap ≤ 9223372036854775807) :
    Calls Try.prog 11 #[.slice a n cap] w fun e w' => e = .returned (.bool true) ∧ Below w.heap.size w w' := by
  by_cases hs : n ≤ 1048576
  · exact small a n cap f w h hm hs
  · exact big a n cap f w h hm (by omega)

set_option maxRecDepth 100000 in
theorem lifted (os : Os) (started : os.Started) (H : Type) (enc : TypeId × Value → H) :
    ReturnsInHanded {} Try.checked os 11 .any (Rows.fnTrailDimSpec.pre6 enc Try.prog Try.f11 Rows.fnTrailDimRow.domain false) (Rows.fnTrailDimSpec.post enc Try.prog Try.f11 false true false false) := by
  refine returnsInHanded_of_change (C := Try.checked) own started (by kernel_rfl) Try.func11
    (ChangeSpec.witness6 (enc := enc) (C := Try.checked) false ⟨#[], #[.slice none 0 0], []⟩ 8 (by kernel_rfl) (by kernel_rfl) (by kernel_rfl) (by kernel_rfl)) ?_
  intro W base args ds gs before hval0 hW hcnd _
  have hval : ∀ (j : Nat) t v, Try.f11.params[j]? = some t → args[j]? = some v → Value.okWide Try.prog W .any base t v := hval0
  have hW' := hW
  obtain ⟨p, q, hA0, hV, rfl, hfz, hnd⟩ := hW
  have hA : DataW.TrodAll enc Try.prog W 0 (fun _ => true) true Try.f11.params.toList args.toList ds p := hA0
  rw [Try.params11] at hA hval
  obtain ⟨v0, vs0, d0, ds0, p0, q0, hargs, rfl, rfl, h0, r0⟩ := trodAll_cons hA
  obtain ⟨rfl, rfl, rfl⟩ := trodAll_nil r0
  obtain rfl : args = #[v0] := by cases args; simp_all
  obtain ⟨rfl, rfl⟩ := trodVars_none hV
  have k0 := h0
  have lt0 : ∀ x ∈ p0, x.block < W.heap.size := by obtain ⟨m, hm⟩ := k0; exact DataW.trod_lt m _ _ _ hm
  obtain ⟨a0, n0, cap0, f0, rfl, hC0, hm0⟩ := open_bytes (hval 0 22 v0 rfl rfl) h0
  clear hA0 hval0
  refine (walk a0 n0 cap0 f0 W hC0 hm0).mono fun e W' ⟨he, bel⟩ => ?_
  subst he
  exact ⟨_, rfl, _, _, _, [], _, [], hW', trodAll_mk1 (shut_bool Try.underlying4 _), (trodAll_cons_mk (Below.trod laidOut (by kernel_rfl) (of_decide_eq_true (by kernel_rfl)) k0 bel lt0) trodAll_mk0), rfl, bel.frame _, fun h => by cases h⟩

theorem over : Rows.fnTrailDimRow.holds Try.pinned (OpenSpec.ofChange Rows.fnTrailDimSpec) :=
  OpenClaim.holds_of_wide 11 Try.f11 rfl rfl rfl rfl rfl rfl rfl ⟨rfl, rfl, rfl, rfl, rfl⟩ rfl rfl rfl rfl rfl (by kernel_rfl) Try.func11 (by kernel_rfl)
    (of_decide_eq_true (by kernel_rfl)) (by unfold Func.isWrapper; first | (rw [if_pos (by decide +kernel)]; kernel_rfl) | (rw [if_neg (by decide +kernel)]; exact ⟨rfl, rfl⟩))
    (fun os started H enc _ => lifted os started H enc)

end Go.Proofs.Ytmnninhifiajhaa.LwTrailDim

namespace Go.Proofs.Ytmnninhifiajhaa
/-- The statement. -/
theorem lwTrailDim : Rows.FnTrailDimSaid := LwTrailDim.over
#print axioms lwTrailDim
end Go.Proofs.Ytmnninhifiajhaa
