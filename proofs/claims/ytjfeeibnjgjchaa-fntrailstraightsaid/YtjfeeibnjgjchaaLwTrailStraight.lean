/-
  'laws.FnTrailStraight' returns true for all codes: where nothing stands light goes straight. No condition.
-/
import Derived.Test.YtjfeeibnjgjchaaFb
import Derived.Test.YtjfeeibnjgjchaaUm
import Derived.Test.YtjfeeibnjgjchaaUl
import Derived.Test.YtjfeeibnjgjchaaJm
import Derived.Deep.DeepCutAuto
import Derived.Deep.RegionHeld3
import Derived.Deep.DrawnRows
namespace Go.Proofs.Ytjfeeibnjgjchaa.LwTrailStraight
open Go.ChangeShapes Go.WideShapes Go.ChangeAt Go.RowKit
set_option linter.unusedVariables false
attribute [local go_sem ↓] Go.wp_at_zero Go.wp_at_succ

theorem make_free (n : Nat) (hn : n ≤ 1048576) (w : World) : (Instr.makeSlice 23 (.int .i64 (n : Int)) (.int .i64 (n : Int))).run Try.prog w = .ok (.slice (some ⟨w.heap.size, 0, none⟩) n n) (w.alloc (.cells (madeCells #[.int .i64 0, .int .i64 0] (n * 2)) 45)) := by
  obtain ⟨i0, hi, iz0, iz1, iz2⟩ := info_parts infoCell
  have := run_make (P := Try.prog) w 23 45 i0 (.agg #[.int .i64 0, .int .i64 0]) Try.underlying23 hi iz0 .i64 .i64 (n : Int) (n : Int) (by omega) (by omega) (by rw [iz2]; omega) (by omega)
  rw [iz1] at this
  simpa [Value.cells] using this
theorem free_cells (n : Nat) (w : World) : CellsAt (w.alloc (.cells (madeCells #[.int .i64 0, .int .i64 0] (n * 2)) 45)) (some ⟨w.heap.size, 0, none⟩) (List.replicate n (0, 0)) := by
  refine Or.inr ⟨w.heap.size, 0, rfl, by simp, fun i hi => ?_⟩
  simp only [List.length_replicate] at hi
  rw [World.cell?_alloc_at _ _ _ _ rfl, World.cell?_alloc_at _ _ _ _ rfl]
  have h1 : i * 2 < n * 2 := by omega
  have h2 : i * 2 + 1 < n * 2 := by omega
  have h3 : (i * 2 + 1) % 2 = 1 := by omega
  simp [madeCells, h1, h2, h3, hi]

/-- Too long a code. -/
theorem big (a : Option Addr) (n cap : Nat) (f : Nat → Int) (w : World) (h : BytesAt w a n f) (hm : n ≤ cap ∧ cap ≤ 9223372036854775807) (hbig : 1048576 < n) :
    Calls Try.prog 10 #[.slice a n cap] w fun e w' => e = .returned (.bool true) ∧ Below w.heap.size w w' := by
  have hb : (1048576 : Int) < (n : Int) := by omega
  go_enter Try.func10, Try.ntmps10
  go_wp2
  go_ret
  exact ⟨rfl, Below.refl _ _⟩

set_option maxRecDepth 100000 in
set_option maxHeartbeats 8000000 in
theorem small (a : Option Addr) (n cap : Nat) (f : Nat → Int) (w : World) (h : BytesAt w a n f) (hm : n ≤ cap ∧ cap ≤ 9223372036854775807) (hsm : n ≤ 1048576) :
    Calls Try.prog 10 #[.slice a n cap] w fun e w' => e = .returned (.bool true) ∧ Below w.heap.size w w' := by
  have hb : (n : Int) ≤ 1048576 := by omega
  go_enter Try.func10, Try.ntmps10
  go_wp2_with fail
  refine (drawTrailEnds_any a n cap f w h hsm hm.1 hm.2).mono ?_
  rintro e w1 ⟨wd, a1, c1, cs, k, rfl, hC1, hl1, hk1, hb_w1⟩
  have hz_w1 := hb_w1.size
  try simp at hz_w1
  have hbS1 : Below w1.heap.size w1 (w1.alloc (.cells #[.int .i64 wd, .slice a1 cs.length c1] 25)) := (by repeat (first | exact Below.refl _ _ | refine Below.alloc ?_ (by first | exact Nat.le_refl _ | (simp; done) | (simp; omega)) _ | refine Below.drew ?_ | refine Below.setCell ?_ (by first | exact Nat.le_refl _ | (simp; done) | (simp; omega)) _))
  replace hC1 := hC1.below hbS1
  have g0 : (w1.alloc (.cells #[.int .i64 wd, .slice a1 cs.length c1] 25)).cell? ⟨w1.heap.size, 0, none⟩ = some (.int .i64 wd) := by simp [go_sem]
  have g1 : (w1.alloc (.cells #[.int .i64 wd, .slice a1 cs.length c1] 25)).cell? ⟨w1.heap.size, 1, none⟩ = some (.slice a1 cs.length c1) := by simp [go_sem]
  have hBs1 := bcall hb_w1 (by omega) hbS1
  clear hb_w1
  clear hbS1
  obtain ⟨L, hL⟩ : ∃ L, trailT wd cs k = L := ⟨_, rfl⟩
  have HL : Hid (trailT wd cs k = L) := hL
  obtain ⟨ke1, ke2, ke3, ke4, ke5⟩ := ends_known hL
  obtain ⟨ES, hES⟩ : ∃ ES, L.2 = ES := ⟨_, rfl⟩
  have EX : Hid ((trailT wd cs k).2 = ES) := by show _ = _; rw [hL]; exact hES
  have HX : Hid (L.2 = ES) := hES
  rw [hES] at ke1 ke2 ke3 ke4 ke5
  have KE1 : Hid (∀ u ∈ ES, EndOk wd cs u) := ke1
  have KE2 : Hid (∀ u ∈ ES, u.2.2 ≤ 64) := ke2
  have hlen : ES.length ≤ 1000000 := by omega
  clear ke1 ke2 ke5 hES hL
  go_wp2_with fail
  refine (implEndsR EX.out a1 c1 _ hC1 (by omega)).mono ?_
  rintro e w2 ⟨a2, c2, rfl, hR2, hb_w2⟩
  have hz_w2 := hb_w2.size
  try simp at hz_w2
  replace g0 := keepc hb_w2 g0; replace g1 := keepc hb_w2 g1
  replace hC1 := hC1.below hb_w2
  have hB_w2 := bcall hBs1 (by first | omega | (simp; omega)) hb_w2
  clear hBs1 hb_w2
  go_wp2_with fail
  refine (specEndsR EX.out a1 c1 _ hC1 (by omega)).mono ?_
  rintro e w3 ⟨a3, c3, rfl, hR3, hb_w3⟩
  have hz_w3 := hb_w3.size
  try simp at hz_w3
  replace g0 := keepc hb_w3 g0; replace g1 := keepc hb_w3 g1
  replace hC1 := hC1.below hb_w3
  replace hR2 := hR2.below hb_w3
  have hB_w3 := bcall hB_w2 (by first | omega | (simp; omega)) hb_w3
  clear hB_w2 hb_w3
  go_wp2_with fail
  refine (llEnds_same a2 a3 c2 c3 ES _ hR2 hR3 hlen).mono ?_
  rintro e w4 ⟨rfl, hb_w4⟩
  have hz_w4 := hb_w4.size
  try simp at hz_w4
  replace g0 := keepc hb_w4 g0; replace g1 := keepc hb_w4 g1
  replace hC1 := hC1.below hb_w4
  replace hR2 := hR2.below hb_w4
  replace hR3 := hR3.below hb_w4
  have hB_w4 := bcall hB_w3 (by first | omega | (simp; omega)) hb_w4
  clear hB_w3 hb_w4
  go_wp2_with fail
  refine (llSight_any wd a1 c1 cs _ hC1 (by omega) k).mono ?_
  rintro e w5 ⟨rfl, hb_w5⟩
  have hz_w5 := hb_w5.size
  try simp at hz_w5
  replace g0 := keepc hb_w5 g0; replace g1 := keepc hb_w5 g1
  replace hC1 := hC1.below hb_w5
  replace hR2 := hR2.below hb_w5
  replace hR3 := hR3.below hb_w5
  have hB_w5 := bcall hB_w4 (by first | omega | (simp; omega)) hb_w5
  clear hB_w4 hb_w5
  clear hR3
  rcases hs : inS wd cs k with _ | _
  · go_wp2_with fail
    refine (specEndsR EX.out a1 c1 _ hC1 (by omega)).mono ?_
    rintro e w6 ⟨a6, c6, rfl, hR6, hb_w6⟩
    have hz_w6 := hb_w6.size
    try simp at hz_w6
    replace g0 := keepc hb_w6 g0; replace g1 := keepc hb_w6 g1
    replace hC1 := hC1.below hb_w6
    replace hR2 := hR2.below hb_w6
    have hB_w6 := bcall hB_w5 (by first | omega | (simp; omega)) hb_w6
    clear hB_w5 hb_w6
    go_wp2_with fail
    refine (llEnds_same a2 a6 c2 c6 ES _ hR2 hR6 hlen).mono ?_
    rintro e w7 ⟨rfl, hb_w7⟩
    have hz_w7 := hb_w7.size
    try simp at hz_w7
    replace g0 := keepc hb_w7 g0; replace g1 := keepc hb_w7 g1
    replace hC1 := hC1.below hb_w7
    replace hR2 := hR2.below hb_w7
    replace hR6 := hR6.below hb_w7
    have hB_w7 := bcall hB_w6 (by first | omega | (simp; omega)) hb_w7
    clear hB_w6 hb_w7
    go_wp2
    go_ret
    exact ⟨rfl, hB_w7⟩
  · obtain ⟨x, d, hr⟩ := inS_ray' hs
    obtain ⟨W, H, SZ⟩ := siz_of (inS_ok hs)
    obtain ⟨st1, st2⟩ := straight SZ hs x d hr
    have hW := SZ.hW
    have hH := SZ.hH
    have hk2 := hs
    simp only [inS, decide_eq_true_eq, SZ.em] at hk2
    obtain ⟨K, rfl⟩ := Int.eq_ofNat_of_zero_le hk2.1
    have hsr := inRay_at SZ K (by omega)
    rw [hr] at hsr
    simp only [Prod.mk.injEq, and_true] at hsr
    have KR : Hid (inRay wd cs (K : Int) = (x, d, true)) := hr
    have hN := SZ.el
    have hI := SZ.hI
    have HFR : Hid (freeG W H = List.replicate cs.length (0, 0)) := by show _ = _; unfold freeG; rw [hN]
    have EW := SZ.ew
    have hN25 : cs.length ≤ 25 := by rw [hN]; exact Nat.le_trans (Nat.mul_le_mul hW.2 hH.2) (by omega)
    have hmk := make_free cs.length (by omega)
    have hd2 := hsr.2
    clear hr hs hN SZ
    subst EW
    have e6 : (cs.length : Int).tdiv (W : Int) = (cs.length : Int) / (W : Int) := Int.tdiv_eq_ediv_of_nonneg (by omega)
    have vq : IntKind.i64.wrap ((cs.length : Int) / (W : Int)) = (H : Int) := by rw [hI]; exact IntWalk.i64_in _ (by omega)
    have vt : IntKind.i64.wrap ((cs.length : Int).tdiv (W : Int)) = (H : Int) := by rw [e6]; exact vq
    have hw0 : ((W : Int) == 0) = false := by simp; omega
    have hne : ¬ (W : Int) = 0 := by omega
    have hneN : ¬ W = 0 := by omega
    clear hI hsr
    have HE : Hid ((trailT (W : Int) (freeG W H) (K : Int)).2 = [(0, overK (W : Int) (H : Int) (K : Int), 64)]) := st1
    obtain ⟨FV, hFV⟩ : ∃ FV, (trailT (W : Int) (freeG W H) (K : Int)).1 = FV := ⟨_, rfl⟩
    rw [hFV] at st2
    have HFV : Hid ((trailT (W : Int) (freeG W H) (K : Int)).1 = FV) := hFV
    clear st1 hFV
    have HLF : Hid ((freeG W H).length = cs.length) := by show _ = _; rw [HFR.out]; simp
    clear hR2 KE1 KE2 EX
    have HCA : Hid (CellsAt ((w5.alloc (.cells (madeCells #[.int .i64 0, .int .i64 0] (cs.length * 2)) 45)).alloc (.cells #[.int .i64 (W : Int), .slice (some ⟨w5.heap.size, 0, none⟩) cs.length cs.length] 25)) (some ⟨w5.heap.size, 0, none⟩) (freeG W H)) := by
      have q := free_cells cs.length w5
      rw [← HFR.out] at q
      exact q.below (by repeat (first | exact Below.refl _ _ | refine Below.alloc ?_ (by first | exact Nat.le_refl _ | (simp; done) | (simp; omega)) _ | refine Below.drew ?_ | refine Below.setCell ?_ (by first | exact Nat.le_refl _ | (simp; done) | (simp; omega)) _))
    have HCB : Hid (CellsAt ((w5.alloc (.cells #[.int .i64 (W : Int), .slice (some ⟨w5.heap.size + 1, 0, none⟩) cs.length cs.length] 25)).alloc (.cells (madeCells #[.int .i64 0, .int .i64 0] (cs.length * 2)) 45)) (some ⟨w5.heap.size + 1, 0, none⟩) (freeG W H)) := by
      have q := free_cells cs.length (w5.alloc (.cells #[.int .i64 (W : Int), .slice (some ⟨w5.heap.size + 1, 0, none⟩) cs.length cs.length] 25))
      rw [← HFR.out] at q
      simp only [World.size_alloc] at q
      exact q
    have bZ : Below w5.heap.size w5 (w5.alloc (.cells #[.int .i64 0, .slice none 0 0] 25)) := (by repeat (first | exact Below.refl _ _ | refine Below.alloc ?_ (by first | exact Nat.le_refl _ | (simp; done) | (simp; omega)) _ | refine Below.drew ?_ | refine Below.setCell ?_ (by first | exact Nat.le_refl _ | (simp; done) | (simp; omega)) _))
    have bM : Below w5.heap.size w5 (w5.alloc (.cells (madeCells #[.int .i64 0, .int .i64 0] (cs.length * 2)) 45)) := (by repeat (first | exact Below.refl _ _ | refine Below.alloc ?_ (by first | exact Nat.le_refl _ | (simp; done) | (simp; omega)) _ | refine Below.drew ?_ | refine Below.setCell ?_ (by first | exact Nat.le_refl _ | (simp; done) | (simp; omega)) _))
    have bZM : Below w5.heap.size w5 ((w5.alloc (.cells #[.int .i64 0, .slice none 0 0] 25)).alloc (.cells (madeCells #[.int .i64 0, .int .i64 0] (cs.length * 2)) 45)) := (by repeat (first | exact Below.refl _ _ | refine Below.alloc ?_ (by first | exact Nat.le_refl _ | (simp; done) | (simp; omega)) _ | refine Below.drew ?_ | refine Below.setCell ?_ (by first | exact Nat.le_refl _ | (simp; done) | (simp; omega)) _))
    have bMZ : Below w5.heap.size w5 ((w5.alloc (.cells (madeCells #[.int .i64 0, .int .i64 0] (cs.length * 2)) 45)).alloc (.cells #[.int .i64 0, .slice none 0 0] 25)) := (by repeat (first | exact Below.refl _ _ | refine Below.alloc ?_ (by first | exact Nat.le_refl _ | (simp; done) | (simp; omega)) _ | refine Below.drew ?_ | refine Below.setCell ?_ (by first | exact Nat.le_refl _ | (simp; done) | (simp; omega)) _))
    have bA : Below w5.heap.size w5 ((w5.alloc (.cells (madeCells #[.int .i64 0, .int .i64 0] (cs.length * 2)) 45)).alloc (.cells #[.int .i64 (W : Int), .slice (some ⟨w5.heap.size, 0, none⟩) cs.length cs.length] 25)) := (by repeat (first | exact Below.refl _ _ | refine Below.alloc ?_ (by first | exact Nat.le_refl _ | (simp; done) | (simp; omega)) _ | refine Below.drew ?_ | refine Below.setCell ?_ (by first | exact Nat.le_refl _ | (simp; done) | (simp; omega)) _))
    have bB : Below w5.heap.size w5 ((w5.alloc (.cells #[.int .i64 (W : Int), .slice (some ⟨w5.heap.size + 1, 0, none⟩) cs.length cs.length] 25)).alloc (.cells (madeCells #[.int .i64 0, .int .i64 0] (cs.length * 2)) 45)) := (by repeat (first | exact Below.refl _ _ | refine Below.alloc ?_ (by first | exact Nat.le_refl _ | (simp; done) | (simp; omega)) _ | refine Below.drew ?_ | refine Below.setCell ?_ (by first | exact Nat.le_refl _ | (simp; done) | (simp; omega)) _))
    go_wp2
    go_cut [6] (fun s6 wc => ∃ blk gc : Nat, s6 = .pointer (some ⟨blk, 0, none⟩) ∧ wc.cell? ⟨blk, 0, none⟩ = some (.int .i64 (W : Int)) ∧ wc.cell? ⟨blk, 1, none⟩ = some (.slice (some ⟨gc, 0, none⟩) cs.length cs.length) ∧ CellsAt wc (some ⟨gc, 0, none⟩) (freeG W H) ∧ Below w5.heap.size w5 wc)
    case first =>
      go_region_held3 (fun w' => w'.cell? ⟨w1.heap.size, 0, none⟩ = some (.int .i64 (W : Int)) ∧ w'.cell? ⟨w1.heap.size, 1, none⟩ = some (.slice a1 cs.length c1))
        (first
          | exact ⟨g0, g1⟩
          | exact ⟨keepc bZ g0, keepc bZ g1⟩
          | exact ⟨keepc bM g0, keepc bM g1⟩
          | exact ⟨keepc bZM g0, keepc bZM g1⟩
          | exact ⟨keepc bMZ g0, keepc bMZ g1⟩
          | exact ⟨keepc bA g0, keepc bA g1⟩
          | exact ⟨keepc bB g0, keepc bB g1⟩
          | go_keep)
        (fail)
      all_goals
        go_wp2_with fail
        go_meet
        case rel => first | exact ⟨_, w5.heap.size, rfl, by simp [go_sem], by simp [go_sem], HCA.out, bA⟩ | exact ⟨_, w5.heap.size, rfl, by simp [go_sem], by simp [go_sem], HCA.out.below (Below.refl _ _).drew, bA.drew⟩ | exact ⟨_, w5.heap.size + 1, rfl, by simp [go_sem], by simp [go_sem], HCB.out, bB⟩ | exact ⟨_, w5.heap.size + 1, rfl, by simp [go_sem], by simp [go_sem], HCB.out.below (Below.refl _ _).drew, bB.drew⟩ | fail
    case rest =>
      rename World => wx
      obtain ⟨blk, gc, rfl, x0, x1, hCF2, hbX⟩ := hcut
      replace g0 := keepc hbX g0; replace g1 := keepc hbX g1
      replace hC1 := hC1.below hbX
      have hBX := bcall hB_w5 (by omega) hbX
      have hzx := hbX.size
      clear hB_w5 HCA HCB bZ bM bZM bMZ bA bB hbX
      by_cases z0 : (K : Int) < (W : Int)
      · have q1 : decide ((W : Int) ≤ (K : Int)) = false := decide_eq_false (by omega)
        have q3 : decide (2 * (W : Int) + (H : Int) ≤ (K : Int)) = false := decide_eq_false (by omega)
        unfold sRay at hd2
        rw [if_pos (by omega)] at hd2
        simp only at hd2
        subst hd2
        have hlv : FV.length = H := by simpa using st2
        obtain ⟨o, eo⟩ : ∃ o, 2 * (W : Int) + (H : Int) - 1 - (K : Int) = o := ⟨_, rfl⟩
        have ho : overK (W : Int) (H : Int) (K : Int) = o := by unfold overK; rw [if_neg (by omega)]; exact eo
        have HE2 : Hid ((trailT (W : Int) (freeG W H) (K : Int)).2 = [(0, o, 64)]) := by show _ = _; rw [HE.out, ho]
        have HO : Hid (2 * (W : Int) + (H : Int) - 1 - (K : Int) = o) := eo
        clear st2 ho eo
        go_wp2_with fail
        refine (implRay_any (W : Int) a1 c1 cs _ hC1 (by omega) (K : Int) x 2 true KR.out).mono ?_
        rintro e w7 ⟨rfl, hb7⟩
        have hbR : Below w7.heap.size w7 (w7.alloc (.cells #[.int .i64 x, .int .i64 2] 39)) := (by repeat (first | exact Below.refl _ _ | refine Below.alloc ?_ (by first | exact Nat.le_refl _ | (simp; done) | (simp; omega)) _ | refine Below.drew ?_ | refine Below.setCell ?_ (by first | exact Nat.le_refl _ | (simp; done) | (simp; omega)) _))
        have y1 : (w7.alloc (.cells #[.int .i64 x, .int .i64 2] 39)).cell? ⟨w7.heap.size, 1, none⟩ = some (.int .i64 2) := by simp [go_sem]
        have hz7 := hb7.size
        replace g0 := keepc hb7 g0; replace g1 := keepc hb7 g1; replace x0 := keepc hb7 x0; replace x1 := keepc hb7 x1
        replace g0 := keepc hbR g0; replace g1 := keepc hbR g1; replace x0 := keepc hbR x0; replace x1 := keepc hbR x1
        have hCF3 := (hCF2.below hb7).below hbR
        have hB7 := bcall (bcall hBX (by omega) hb7) (by omega) hbR
        clear hb7 hbR
        go_wp2_with fail
        rw [HO.out]
        have CE := implEndsR HE2.out (some ⟨gc, 0, none⟩) cs.length _ hCF3 (by rw [HLF.out]; omega)
        rw [HLF.out] at CE
        refine CE.mono ?_
        rintro e w8 ⟨a8, c8, rfl, hR8, hb8⟩
        have hz8 := hb8.size
        have hbL : Below w8.heap.size w8 (w8.alloc (.cells #[.int .i64 0, .int .i64 o, .int .i64 64] 33)) := (by repeat (first | exact Below.refl _ _ | refine Below.alloc ?_ (by first | exact Nat.le_refl _ | (simp; done) | (simp; omega)) _ | refine Below.drew ?_ | refine Below.setCell ?_ (by first | exact Nat.le_refl _ | (simp; done) | (simp; omega)) _))
        have hRL : R3At (w8.alloc (.cells #[.int .i64 0, .int .i64 o, .int .i64 64] 33)) (some ⟨w8.heap.size, 0, none⟩) [(0, o, 64)] := by
          refine Or.inr ⟨w8.heap.size, 0, rfl, by simp, fun i hi => ?_⟩
          simp only [List.length_singleton] at hi
          obtain rfl : i = 0 := by omega
          simp [go_sem]
        replace g0 := keepc hb8 g0; replace g1 := keepc hb8 g1; replace x0 := keepc hb8 x0; replace x1 := keepc hb8 x1
        replace g0 := keepc hbL g0; replace g1 := keepc hbL g1; replace x0 := keepc hbL x0; replace x1 := keepc hbL x1
        have hCF4 := (hCF3.below hb8).below hbL
        have hB8 := bcall (bcall hB7 (by simp; omega) hb8) (by simp at hz8; omega) hbL
        have hR9 := hR8.below hbL
        clear hb8 hbL CE
        go_wp2_with fail
        refine (llEnds_same a8 (some ⟨w8.heap.size, 0, none⟩) c8 1 [(0, o, 64)] _ hR9 hRL (by simp)).mono ?_
        rintro e w9 ⟨rfl, hb9⟩
        have hz9 := hb9.size
        replace g0 := keepc hb9 g0; replace g1 := keepc hb9 g1; replace x0 := keepc hb9 x0; replace x1 := keepc hb9 x1
        have hCF5 := hCF4.below hb9
        have hB9 := bcall hB8 (by simp at hz8 ⊢; omega) hb9
        clear hb9
        have CV := implVisitsR HFV.out (some ⟨gc, 0, none⟩) cs.length w9 hCF5 (by rw [HLF.out]; omega)
        rw [HLF.out] at CV
        go_wp2_with fail
        refine CV.mono ?_
        rintro e wa ⟨aa, ca, rfl, hRa, hba⟩
        rw [hlv]
        have hBa := bcall hB9 (by simp at hz8 hz9; omega) hba
        have be : ((H : Nat) : Int) == ((H : Nat) : Int) := by simp
        clear hba CV
        go_wp2_with fail
        go_ret
        exact ⟨by simp, hBa⟩
      by_cases z1 : (K : Int) < (W : Int) + (H : Int)
      · have q1 : decide ((W : Int) ≤ (K : Int)) = true := decide_eq_true (by omega)
        have q2 : decide ((K : Int) < (W : Int) + (H : Int)) = true := decide_eq_true (by omega)
        unfold sRay at hd2
        rw [if_neg (by omega), if_pos (by omega)] at hd2
        simp only at hd2
        subst hd2
        have hlv : FV.length = W := by simpa using st2
        obtain ⟨o, eo⟩ : ∃ o, 3 * (W : Int) + 2 * (H : Int) - 1 - (K : Int) = o := ⟨_, rfl⟩
        have ho : overK (W : Int) (H : Int) (K : Int) = o := by unfold overK; rw [if_pos (by omega)]; exact eo
        have HE2 : Hid ((trailT (W : Int) (freeG W H) (K : Int)).2 = [(0, o, 64)]) := by show _ = _; rw [HE.out, ho]
        have HO : Hid (3 * (W : Int) + 2 * (H : Int) - 1 - (K : Int) = o) := eo
        clear st2 ho eo
        go_wp2_with fail
        refine (implRay_any (W : Int) a1 c1 cs _ hC1 (by omega) (K : Int) x 3 true KR.out).mono ?_
        rintro e w7 ⟨rfl, hb7⟩
        have hbR : Below w7.heap.size w7 (w7.alloc (.cells #[.int .i64 x, .int .i64 3] 39)) := (by repeat (first | exact Below.refl _ _ | refine Below.alloc ?_ (by first | exact Nat.le_refl _ | (simp; done) | (simp; omega)) _ | refine Below.drew ?_ | refine Below.setCell ?_ (by first | exact Nat.le_refl _ | (simp; done) | (simp; omega)) _))
        have y1 : (w7.alloc (.cells #[.int .i64 x, .int .i64 3] 39)).cell? ⟨w7.heap.size, 1, none⟩ = some (.int .i64 3) := by simp [go_sem]
        have hz7 := hb7.size
        replace g0 := keepc hb7 g0; replace g1 := keepc hb7 g1; replace x0 := keepc hb7 x0; replace x1 := keepc hb7 x1
        replace g0 := keepc hbR g0; replace g1 := keepc hbR g1; replace x0 := keepc hbR x0; replace x1 := keepc hbR x1
        have hCF3 := (hCF2.below hb7).below hbR
        have hB7 := bcall (bcall hBX (by omega) hb7) (by omega) hbR
        clear hb7 hbR
        go_wp2_with fail
        rw [HO.out]
        have CE := implEndsR HE2.out (some ⟨gc, 0, none⟩) cs.length _ hCF3 (by rw [HLF.out]; omega)
        rw [HLF.out] at CE
        refine CE.mono ?_
        rintro e w8 ⟨a8, c8, rfl, hR8, hb8⟩
        have hz8 := hb8.size
        have hbL : Below w8.heap.size w8 (w8.alloc (.cells #[.int .i64 0, .int .i64 o, .int .i64 64] 33)) := (by repeat (first | exact Below.refl _ _ | refine Below.alloc ?_ (by first | exact Nat.le_refl _ | (simp; done) | (simp; omega)) _ | refine Below.drew ?_ | refine Below.setCell ?_ (by first | exact Nat.le_refl _ | (simp; done) | (simp; omega)) _))
        have hRL : R3At (w8.alloc (.cells #[.int .i64 0, .int .i64 o, .int .i64 64] 33)) (some ⟨w8.heap.size, 0, none⟩) [(0, o, 64)] := by
          refine Or.inr ⟨w8.heap.size, 0, rfl, by simp, fun i hi => ?_⟩
          simp only [List.length_singleton] at hi
          obtain rfl : i = 0 := by omega
          simp [go_sem]
        replace g0 := keepc hb8 g0; replace g1 := keepc hb8 g1; replace x0 := keepc hb8 x0; replace x1 := keepc hb8 x1
        replace g0 := keepc hbL g0; replace g1 := keepc hbL g1; replace x0 := keepc hbL x0; replace x1 := keepc hbL x1
        have hCF4 := (hCF3.below hb8).below hbL
        have hB8 := bcall (bcall hB7 (by simp; omega) hb8) (by simp at hz8; omega) hbL
        have hR9 := hR8.below hbL
        clear hb8 hbL CE
        go_wp2_with fail
        refine (llEnds_same a8 (some ⟨w8.heap.size, 0, none⟩) c8 1 [(0, o, 64)] _ hR9 hRL (by simp)).mono ?_
        rintro e w9 ⟨rfl, hb9⟩
        have hz9 := hb9.size
        replace g0 := keepc hb9 g0; replace g1 := keepc hb9 g1; replace x0 := keepc hb9 x0; replace x1 := keepc hb9 x1
        have hCF5 := hCF4.below hb9
        have hB9 := bcall hB8 (by simp at hz8 ⊢; omega) hb9
        clear hb9
        have CV := implVisitsR HFV.out (some ⟨gc, 0, none⟩) cs.length w9 hCF5 (by rw [HLF.out]; omega)
        rw [HLF.out] at CV
        go_wp2_with fail
        refine CV.mono ?_
        rintro e wa ⟨aa, ca, rfl, hRa, hba⟩
        rw [hlv]
        have hBa := bcall hB9 (by simp at hz8 hz9; omega) hba
        have be : ((W : Nat) : Int) == ((W : Nat) : Int) := by simp
        clear hba CV
        go_wp2_with fail
        go_ret
        exact ⟨by simp, hBa⟩
      by_cases z2 : (K : Int) < 2 * (W : Int) + (H : Int)
      · have q1 : decide ((W : Int) ≤ (K : Int)) = true := decide_eq_true (by omega)
        have q2 : decide ((K : Int) < (W : Int) + (H : Int)) = false := decide_eq_false (by omega)
        have q3 : decide (2 * (W : Int) + (H : Int) ≤ (K : Int)) = false := decide_eq_false (by omega)
        unfold sRay at hd2
        rw [if_neg (by omega), if_neg (by omega), if_pos (by omega)] at hd2
        simp only at hd2
        subst hd2
        have hlv : FV.length = H := by simpa using st2
        obtain ⟨o, eo⟩ : ∃ o, 2 * (W : Int) + (H : Int) - 1 - (K : Int) = o := ⟨_, rfl⟩
        have ho : overK (W : Int) (H : Int) (K : Int) = o := by unfold overK; rw [if_neg (by omega)]; exact eo
        have HE2 : Hid ((trailT (W : Int) (freeG W H) (K : Int)).2 = [(0, o, 64)]) := by show _ = _; rw [HE.out, ho]
        have HO : Hid (2 * (W : Int) + (H : Int) - 1 - (K : Int) = o) := eo
        clear st2 ho eo
        go_wp2_with fail
        refine (implRay_any (W : Int) a1 c1 cs _ hC1 (by omega) (K : Int) x 0 true KR.out).mono ?_
        rintro e w7 ⟨rfl, hb7⟩
        have hbR : Below w7.heap.size w7 (w7.alloc (.cells #[.int .i64 x, .int .i64 0] 39)) := (by repeat (first | exact Below.refl _ _ | refine Below.alloc ?_ (by first | exact Nat.le_refl _ | (simp; done) | (simp; omega)) _ | refine Below.drew ?_ | refine Below.setCell ?_ (by first | exact Nat.le_refl _ | (simp; done) | (simp; omega)) _))
        have y1 : (w7.alloc (.cells #[.int .i64 x, .int .i64 0] 39)).cell? ⟨w7.heap.size, 1, none⟩ = some (.int .i64 0) := by simp [go_sem]
        have hz7 := hb7.size
        replace g0 := keepc hb7 g0; replace g1 := keepc hb7 g1; replace x0 := keepc hb7 x0; replace x1 := keepc hb7 x1
        replace g0 := keepc hbR g0; replace g1 := keepc hbR g1; replace x0 := keepc hbR x0; replace x1 := keepc hbR x1
        have hCF3 := (hCF2.below hb7).below hbR
        have hB7 := bcall (bcall hBX (by omega) hb7) (by omega) hbR
        clear hb7 hbR
        go_wp2_with fail
        rw [HO.out]
        have CE := implEndsR HE2.out (some ⟨gc, 0, none⟩) cs.length _ hCF3 (by rw [HLF.out]; omega)
        rw [HLF.out] at CE
        refine CE.mono ?_
        rintro e w8 ⟨a8, c8, rfl, hR8, hb8⟩
        have hz8 := hb8.size
        have hbL : Below w8.heap.size w8 (w8.alloc (.cells #[.int .i64 0, .int .i64 o, .int .i64 64] 33)) := (by repeat (first | exact Below.refl _ _ | refine Below.alloc ?_ (by first | exact Nat.le_refl _ | (simp; done) | (simp; omega)) _ | refine Below.drew ?_ | refine Below.setCell ?_ (by first | exact Nat.le_refl _ | (simp; done) | (simp; omega)) _))
        have hRL : R3At (w8.alloc (.cells #[.int .i64 0, .int .i64 o, .int .i64 64] 33)) (some ⟨w8.heap.size, 0, none⟩) [(0, o, 64)] := by
          refine Or.inr ⟨w8.heap.size, 0, rfl, by simp, fun i hi => ?_⟩
          simp only [List.length_singleton] at hi
          obtain rfl : i = 0 := by omega
          simp [go_sem]
        replace g0 := keepc hb8 g0; replace g1 := keepc hb8 g1; replace x0 := keepc hb8 x0; replace x1 := keepc hb8 x1
        replace g0 := keepc hbL g0; replace g1 := keepc hbL g1; replace x0 := keepc hbL x0; replace x1 := keepc hbL x1
        have hCF4 := (hCF3.below hb8).below hbL
        have hB8 := bcall (bcall hB7 (by simp; omega) hb8) (by simp at hz8; omega) hbL
        have hR9 := hR8.below hbL
        clear hb8 hbL CE
        go_wp2_with fail
        refine (llEnds_same a8 (some ⟨w8.heap.size, 0, none⟩) c8 1 [(0, o, 64)] _ hR9 hRL (by simp)).mono ?_
        rintro e w9 ⟨rfl, hb9⟩
        have hz9 := hb9.size
        replace g0 := keepc hb9 g0; replace g1 := keepc hb9 g1; replace x0 := keepc hb9 x0; replace x1 := keepc hb9 x1
        have hCF5 := hCF4.below hb9
        have hB9 := bcall hB8 (by simp at hz8 ⊢; omega) hb9
        clear hb9
        have CV := implVisitsR HFV.out (some ⟨gc, 0, none⟩) cs.length w9 hCF5 (by rw [HLF.out]; omega)
        rw [HLF.out] at CV
        go_wp2_with fail
        refine CV.mono ?_
        rintro e wa ⟨aa, ca, rfl, hRa, hba⟩
        rw [hlv]
        have hBa := bcall hB9 (by simp at hz8 hz9; omega) hba
        have be : ((H : Nat) : Int) == ((H : Nat) : Int) := by simp
        clear hba CV
        go_wp2_with fail
        go_ret
        exact ⟨by simp, hBa⟩
      have q1 : decide ((W : Int) ≤ (K : Int)) = true := decide_eq_true (by omega)
      have q2 : decide ((K : Int) < (W : Int) + (H : Int)) = false := decide_eq_false (by omega)
      have q3 : decide (2 * (W : Int) + (H : Int) ≤ (K : Int)) = true := decide_eq_true (by omega)
      unfold sRay at hd2
      rw [if_neg (by omega), if_neg (by omega), if_neg (by omega)] at hd2
      simp only at hd2
      subst hd2
      have hlv : FV.length = W := by simpa using st2
      obtain ⟨o, eo⟩ : ∃ o, 3 * (W : Int) + 2 * (H : Int) - 1 - (K : Int) = o := ⟨_, rfl⟩
      have ho : overK (W : Int) (H : Int) (K : Int) = o := by unfold overK; rw [if_pos (by omega)]; exact eo
      have HE2 : Hid ((trailT (W : Int) (freeG W H) (K : Int)).2 = [(0, o, 64)]) := by show _ = _; rw [HE.out, ho]
      have HO : Hid (3 * (W : Int) + 2 * (H : Int) - 1 - (K : Int) = o) := eo
      clear st2 ho eo
      go_wp2_with fail
      refine (implRay_any (W : Int) a1 c1 cs _ hC1 (by omega) (K : Int) x 1 true KR.out).mono ?_
      rintro e w7 ⟨rfl, hb7⟩
      have hbR : Below w7.heap.size w7 (w7.alloc (.cells #[.int .i64 x, .int .i64 1] 39)) := (by repeat (first | exact Below.refl _ _ | refine Below.alloc ?_ (by first | exact Nat.le_refl _ | (simp; done) | (simp; omega)) _ | refine Below.drew ?_ | refine Below.setCell ?_ (by first | exact Nat.le_refl _ | (simp; done) | (simp; omega)) _))
      have y1 : (w7.alloc (.cells #[.int .i64 x, .int .i64 1] 39)).cell? ⟨w7.heap.size, 1, none⟩ = some (.int .i64 1) := by simp [go_sem]
      have hz7 := hb7.size
      replace g0 := keepc hb7 g0; replace g1 := keepc hb7 g1; replace x0 := keepc hb7 x0; replace x1 := keepc hb7 x1
      replace g0 := keepc hbR g0; replace g1 := keepc hbR g1; replace x0 := keepc hbR x0; replace x1 := keepc hbR x1
      have hCF3 := (hCF2.below hb7).below hbR
      have hB7 := bcall (bcall hBX (by omega) hb7) (by omega) hbR
      clear hb7 hbR
      go_wp2_with fail
      rw [HO.out]
      have CE := implEndsR HE2.out (some ⟨gc, 0, none⟩) cs.length _ hCF3 (by rw [HLF.out]; omega)
      rw [HLF.out] at CE
      refine CE.mono ?_
      rintro e w8 ⟨a8, c8, rfl, hR8, hb8⟩
      have hz8 := hb8.size
      have hbL : Below w8.heap.size w8 (w8.alloc (.cells #[.int .i64 0, .int .i64 o, .int .i64 64] 33)) := (by repeat (first | exact Below.refl _ _ | refine Below.alloc ?_ (by first | exact Nat.le_refl _ | (simp; done) | (simp; omega)) _ | refine Below.drew ?_ | refine Below.setCell ?_ (by first | exact Nat.le_refl _ | (simp; done) | (simp; omega)) _))
      have hRL : R3At (w8.alloc (.cells #[.int .i64 0, .int .i64 o, .int .i64 64] 33)) (some ⟨w8.heap.size, 0, none⟩) [(0, o, 64)] := by
        refine Or.inr ⟨w8.heap.size, 0, rfl, by simp, fun i hi => ?_⟩
        simp only [List.length_singleton] at hi
        obtain rfl : i = 0 := by omega
        simp [go_sem]
      replace g0 := keepc hb8 g0; replace g1 := keepc hb8 g1; replace x0 := keepc hb8 x0; replace x1 := keepc hb8 x1
      replace g0 := keepc hbL g0; replace g1 := keepc hbL g1; replace x0 := keepc hbL x0; replace x1 := keepc hbL x1
      have hCF4 := (hCF3.below hb8).below hbL
      have hB8 := bcall (bcall hB7 (by simp; omega) hb8) (by simp at hz8; omega) hbL
      have hR9 := hR8.below hbL
      clear hb8 hbL CE
      go_wp2_with fail
      refine (llEnds_same a8 (some ⟨w8.heap.size, 0, none⟩) c8 1 [(0, o, 64)] _ hR9 hRL (by simp)).mono ?_
      rintro e w9 ⟨rfl, hb9⟩
      have hz9 := hb9.size
      replace g0 := keepc hb9 g0; replace g1 := keepc hb9 g1; replace x0 := keepc hb9 x0; replace x1 := keepc hb9 x1
      have hCF5 := hCF4.below hb9
      have hB9 := bcall hB8 (by simp at hz8 ⊢; omega) hb9
      clear hb9
      have CV := implVisitsR HFV.out (some ⟨gc, 0, none⟩) cs.length w9 hCF5 (by rw [HLF.out]; omega)
      rw [HLF.out] at CV
      go_wp2_with fail
      refine CV.mono ?_
      rintro e wa ⟨aa, ca, rfl, hRa, hba⟩
      rw [hlv]
      have hBa := bcall hB9 (by simp at hz8 hz9; omega) hba
      have be : ((W : Nat) : Int) == ((W : Nat) : Int) := by simp
      clear hba CV
      go_wp2_with fail
      go_ret
      exact ⟨by simp, hBa⟩

theorem walk (a : Option Addr) (n cap : Nat) (f : Nat → Int) (w : World) (h : BytesAt w a n f) (hm : n ≤ cap ∧ cap ≤ 9223372036854775807) :
    Calls Try.prog 10 #[.slice a n cap] w fun e w' => e = .returned (.bool true) ∧ Below w.heap.size w w' := by
  by_cases hs : n ≤ 1048576
  · exact small a n cap f w h hm hs
  · exact big a n cap f w h hm (by omega)

set_option maxRecDepth 100000 in
theorem lifted (os : Os) (started : os.Started) (H : Type) (enc : TypeId × Value → H) :
    ReturnsInHanded {} Try.checked os 10 .any (Rows.fnTrailStraightSpec.pre6 enc Try.prog Try.f10 Rows.fnTrailStraightRow.domain false) (Rows.fnTrailStraightSpec.post enc Try.prog Try.f10 false true false false) := by
  refine returnsInHanded_of_change (C := Try.checked) own started (by kernel_rfl) Try.func10
    (ChangeSpec.witness6 (enc := enc) (C := Try.checked) false ⟨#[], #[.slice none 0 0], []⟩ 8 (by kernel_rfl) (by kernel_rfl) (by kernel_rfl) (by kernel_rfl)) ?_
  intro W base args ds gs before hval0 hW hcnd _
  have hval : ∀ (j : Nat) t v, Try.f10.params[j]? = some t → args[j]? = some v → Value.okWide Try.prog W .any base t v := hval0
  have hW' := hW
  obtain ⟨p, q, hA0, hV, rfl, hfz, hnd⟩ := hW
  have hA : DataW.TrodAll enc Try.prog W 0 (fun _ => true) true Try.f10.params.toList args.toList ds p := hA0
  rw [Try.params10] at hA hval
  obtain ⟨v0, vs0, d0, ds0, p0, q0, hargs, rfl, rfl, h0, r0⟩ := trodAll_cons hA
  obtain ⟨rfl, rfl, rfl⟩ := trodAll_nil r0
  obtain rfl : args = #[v0] := by cases args; simp_all
  obtain ⟨rfl, rfl⟩ := trodVars_none hV
  have k0 := h0
  have lt0 : ∀ x ∈ p0, x.block < W.heap.size := by obtain ⟨m, hm⟩ := k0; exact DataW.trod_lt m _ _ _ hm
  obtain ⟨a0, n0, cap0, f0, rfl, hC0, hm0⟩ := open_bytes (hval 0 22 v0 rfl rfl) h0
  clear hA0 hval0
  refine (walk a0 n0 cap0 f0 W hC0 hm0).mono fun e W' ⟨he, bel⟩ => ?_
  subst he
  exact ⟨_, rfl, _, _, _, [], _, [], hW', trodAll_mk1 (shut_bool Try.underlying4 _), (trodAll_cons_mk (Below.trod laidOut (by kernel_rfl) (of_decide_eq_true (by kernel_rfl)) k0 bel lt0) trodAll_mk0), rfl, bel.frame _, fun h => by cases h⟩

theorem over : Rows.fnTrailStraightRow.holds Try.pinned (OpenSpec.ofChange Rows.fnTrailStraightSpec) :=
  OpenClaim.holds_of_wide 10 Try.f10 rfl rfl rfl rfl rfl rfl rfl ⟨rfl, rfl, rfl, rfl, rfl⟩ rfl rfl rfl rfl rfl (by kernel_rfl) Try.func10 (by kernel_rfl)
    (of_decide_eq_true (by kernel_rfl)) (by unfold Func.isWrapper; first | (rw [if_pos (by decide +kernel)]; kernel_rfl) | (rw [if_neg (by decide +kernel)]; exact ⟨rfl, rfl⟩))
    (fun os started H enc _ => lifted os started H enc)

end Go.Proofs.Ytjfeeibnjgjchaa.LwTrailStraight

namespace Go.Proofs.Ytjfeeibnjgjchaa
/-- The statement. -/
theorem lwTrailStraight : Rows.FnTrailStraightSaid := LwTrailStraight.over
#print axioms lwTrailStraight
end Go.Proofs.Ytjfeeibnjgjchaa
