/-
  'laws.FnTrailPairs' returns true for all codes: with mirrors alone sights are in pairs. No condition.
-/
import Derived.Test.YtjfeeibnjgjchaaFb
import Derived.Test.YtjfeeibnjgjchaaUx
import Derived.Test.YtjfeeibnjgjchaaUl
import Derived.Deep.RegionWith
import Derived.Deep.RegionHeld3
import Derived.Deep.DrawnRows
namespace Go.Proofs.Ytjfeeibnjgjchaa.LwTrailPairs
open Go.ChangeShapes Go.WideShapes Go.ChangeAt Go.RowKit
set_option linter.unusedVariables false
attribute [local go_sem ↓] Go.wp_at_zero Go.wp_at_succ

theorem lit_row (w : World) (x y z : Int) : R3At (w.alloc (.cells #[.int .i64 x, .int .i64 y, .int .i64 z] 33)) (some ⟨w.heap.size, 0, none⟩) [(x, y, z)] := by
  refine Or.inr ⟨w.heap.size, 0, rfl, by simp, fun i hi => ?_⟩
  simp only [List.length_singleton] at hi
  obtain rfl : i = 0 := by omega
  simp [go_sem]

/-- Too long a code. -/
theorem big (a : Option Addr) (n cap : Nat) (f : Nat → Int) (w : World) (h : BytesAt w a n f) (hm : n ≤ cap ∧ cap ≤ 9223372036854775807) (hbig : 1048576 < n) :
    Calls Try.prog 14 #[.slice a n cap] w fun e w' => e = .returned (.bool true) ∧ Below w.heap.size w w' := by
  have hb : (1048576 : Int) < (n : Int) := by omega
  go_enter Try.func14, Try.ntmps14
  go_wp2
  go_ret
  exact ⟨rfl, Below.refl _ _⟩

set_option maxRecDepth 100000 in
set_option maxHeartbeats 8000000 in
theorem small (a : Option Addr) (n cap : Nat) (f : Nat → Int) (w : World) (h : BytesAt w a n f) (hm : n ≤ cap ∧ cap ≤ 9223372036854775807) (hsm : n ≤ 1048576) :
    Calls Try.prog 14 #[.slice a n cap] w fun e w' => e = .returned (.bool true) ∧ Below w.heap.size w w' := by
  have hb : (n : Int) ≤ 1048576 := by omega
  go_enter Try.func14, Try.ntmps14
  go_wp2_with fail
  refine (drawTrailEnds_any a n cap f w h hsm hm.1 hm.2).mono ?_
  rintro e w1 ⟨wd, a1, c1, cs, k, rfl, hC1, hl1, hk1, hb_w1⟩
  have hz_w1 := hb_w1.size
  try simp at hz_w1
  have hbS1 : Below w1.heap.size w1 (w1.alloc (.cells #[.int .i64 wd, .slice a1 cs.length c1] 25)) := (by repeat (first | exact Below.refl _ _ | refine Below.alloc ?_ (by first | exact Nat.le_refl _ | (simp; done) | (simp; omega)) _ | refine Below.drew ?_ | refine Below.setCell ?_ (by first | exact Nat.le_refl _ | (simp; done) | (simp; omega)) _))
  replace hC1 := hC1.below hbS1
  have g0 : (w1.alloc (.cells #[.int .i64 wd, .slice a1 cs.length c1] 25)).cell? ⟨w1.heap.size, 0, none⟩ = some (.int .i64 wd) := by simp [go_sem]
  have g1 : (w1.alloc (.cells #[.int .i64 wd, .slice a1 cs.length c1] 25)).cell? ⟨w1.heap.size, 1, none⟩ = some (.slice a1 cs.length c1) := by simp [go_sem]
  have hBs1 := bcall hb_w1 (by omega) hbS1
  clear hb_w1
  clear hbS1
  obtain ⟨L, hL⟩ : ∃ L, trailT wd cs k = L := ⟨_, rfl⟩
  have HL : Hid (trailT wd cs k = L) := hL
  obtain ⟨ke1, ke2, ke3, ke4, ke5⟩ := ends_known hL
  obtain ⟨ES, hES⟩ : ∃ ES, L.2 = ES := ⟨_, rfl⟩
  have EX : Hid ((trailT wd cs k).2 = ES) := by show _ = _; rw [hL]; exact hES
  have HX : Hid (L.2 = ES) := hES
  rw [hES] at ke1 ke2 ke3 ke4 ke5
  have KE1 : Hid (∀ u ∈ ES, EndOk wd cs u) := ke1
  have KE2 : Hid (∀ u ∈ ES, u.2.2 ≤ 64) := ke2
  have hlen : ES.length ≤ 1000000 := by omega
  clear ke1 ke2 ke5 hES hL
  go_wp2_with fail
  refine (implEndsR EX.out a1 c1 _ hC1 (by omega)).mono ?_
  rintro e w2 ⟨a2, c2, rfl, hR2, hb_w2⟩
  have hz_w2 := hb_w2.size
  try simp at hz_w2
  replace g0 := keepc hb_w2 g0; replace g1 := keepc hb_w2 g1
  replace hC1 := hC1.below hb_w2
  have hB_w2 := bcall hBs1 (by first | omega | (simp; omega)) hb_w2
  clear hBs1 hb_w2
  go_wp2_with fail
  refine (specEndsR EX.out a1 c1 _ hC1 (by omega)).mono ?_
  rintro e w3 ⟨a3, c3, rfl, hR3, hb_w3⟩
  have hz_w3 := hb_w3.size
  try simp at hz_w3
  replace g0 := keepc hb_w3 g0; replace g1 := keepc hb_w3 g1
  replace hC1 := hC1.below hb_w3
  replace hR2 := hR2.below hb_w3
  have hB_w3 := bcall hB_w2 (by first | omega | (simp; omega)) hb_w3
  clear hB_w2 hb_w3
  go_wp2_with fail
  refine (llEnds_same a2 a3 c2 c3 ES _ hR2 hR3 hlen).mono ?_
  rintro e w4 ⟨rfl, hb_w4⟩
  have hz_w4 := hb_w4.size
  try simp at hz_w4
  replace g0 := keepc hb_w4 g0; replace g1 := keepc hb_w4 g1
  replace hC1 := hC1.below hb_w4
  replace hR2 := hR2.below hb_w4
  replace hR3 := hR3.below hb_w4
  have hB_w4 := bcall hB_w3 (by first | omega | (simp; omega)) hb_w4
  clear hB_w3 hb_w4
  go_wp2_with fail
  refine (llSight_any wd a1 c1 cs _ hC1 (by omega) k).mono ?_
  rintro e w5 ⟨rfl, hb_w5⟩
  have hz_w5 := hb_w5.size
  try simp at hz_w5
  replace g0 := keepc hb_w5 g0; replace g1 := keepc hb_w5 g1
  replace hC1 := hC1.below hb_w5
  replace hR2 := hR2.below hb_w5
  replace hR3 := hR3.below hb_w5
  have hB_w5 := bcall hB_w4 (by first | omega | (simp; omega)) hb_w5
  clear hB_w4 hb_w5
  clear hR3
  rcases hs : inS wd cs k with _ | _
  · go_wp2_with fail
    refine (specEndsR EX.out a1 c1 _ hC1 (by omega)).mono ?_
    rintro e w6 ⟨a6, c6, rfl, hR6, hb_w6⟩
    have hz_w6 := hb_w6.size
    try simp at hz_w6
    replace g0 := keepc hb_w6 g0; replace g1 := keepc hb_w6 g1
    replace hC1 := hC1.below hb_w6
    replace hR2 := hR2.below hb_w6
    have hB_w6 := bcall hB_w5 (by first | omega | (simp; omega)) hb_w6
    clear hB_w5 hb_w6
    go_wp2_with fail
    refine (llEnds_same a2 a6 c2 c6 ES _ hR2 hR6 hlen).mono ?_
    rintro e w7 ⟨rfl, hb_w7⟩
    have hz_w7 := hb_w7.size
    try simp at hz_w7
    replace g0 := keepc hb_w7 g0; replace g1 := keepc hb_w7 g1
    replace hC1 := hC1.below hb_w7
    replace hR2 := hR2.below hb_w7
    replace hR6 := hR6.below hb_w7
    have hB_w7 := bcall hB_w6 (by first | omega | (simp; omega)) hb_w7
    clear hB_w6 hb_w7
    go_wp2
    go_ret
    exact ⟨rfl, hB_w7⟩
  · obtain ⟨q, mp1, mp2, mp3⟩ := mirX_pairs hs
    obtain ⟨ms, hms⟩ : ∃ ms, cs.map mirX = ms := ⟨_, rfl⟩
    rw [hms] at mp1 mp3
    have HLn : Hid (cs.length = ms.length) := by show _ = _; rw [← hms]; simp
    have HM : Hid (cs.map mirX = ms) := hms
    have H1 : Hid ((trailT wd ms k).2 = [(0, q, 64)]) := mp1
    have H3 : Hid ((trailT wd ms q).2 = [(0, k, 64)]) := mp3
    have bq : (q == k) = false := by simp [mp2]
    have L1 : 0 < cs.length := by
      have := okG_lenD wd cs (inS_ok hs)
      omega
    clear mp1 mp2 mp3 hms hs hR2
    obtain ⟨i0, hi, iz0, iz1, iz2⟩ := info_parts infoCell
    have hCa := hC1
    rcases hC1 with q | ⟨b1, of1, rfl, hlb1, hc1⟩
    · rw [q] at L1; simp at L1
    have src1 := srcX_of hc1
    have E1 := own_emptyX w5 w5.heap.size (Nat.le_refl _)
    have B1 : Below w5.heap.size w5 (w5.alloc (.cells #[] 45)) := (by repeat (first | exact Below.refl _ _ | refine Below.alloc ?_ (by first | exact Nat.le_refl _ | (simp; done) | (simp; omega)) _ | refine Below.drew ?_ | refine Below.setCell ?_ (by first | exact Nat.le_refl _ | (simp; done) | (simp; omega)) _))
    have E3 := E1.alloc (.cells #[.int .i64 0, .slice none 0 0] 25)
    have B3 : Below w5.heap.size w5 ((w5.alloc (.cells #[] 45)).alloc (.cells #[.int .i64 0, .slice none 0 0] 25)) := (by repeat (first | exact Below.refl _ _ | refine Below.alloc ?_ (by first | exact Nat.le_refl _ | (simp; done) | (simp; omega)) _ | refine Below.drew ?_ | refine Below.setCell ?_ (by first | exact Nat.le_refl _ | (simp; done) | (simp; omega)) _))
    have E4 := own_emptyX (w5.alloc (.cells #[.int .i64 0, .slice none 0 0] 25)) w5.heap.size (by simp)
    simp only [World.size_alloc] at E4
    have B4 : Below w5.heap.size w5 ((w5.alloc (.cells #[.int .i64 0, .slice none 0 0] 25)).alloc (.cells #[] 45)) := (by repeat (first | exact Below.refl _ _ | refine Below.alloc ?_ (by first | exact Nat.le_refl _ | (simp; done) | (simp; omega)) _ | refine Below.drew ?_ | refine Below.setCell ?_ (by first | exact Nat.le_refl _ | (simp; done) | (simp; omega)) _))
    have B5 : Below w5.heap.size w5 (w5.alloc (.cells #[.int .i64 0, .slice none 0 0] 25)) := (by repeat (first | exact Below.refl _ _ | refine Below.alloc ?_ (by first | exact Nat.le_refl _ | (simp; done) | (simp; omega)) _ | refine Below.drew ?_ | refine Below.setCell ?_ (by first | exact Nat.le_refl _ | (simp; done) | (simp; omega)) _))
    clear hc1
    go_wp2
    go_cut [6] (fun s9 wc => ∃ (blk : Nat), s9 = .pointer (some ⟨blk, 0, none⟩) ∧ BoxX wc w5.heap.size blk wd cs ∧ Below w5.heap.size w5 wc)
    case first =>
      go_region_held_law (fun w' => w'.cell? ⟨w1.heap.size, 0, none⟩ = some (.int .i64 wd) ∧ w'.cell? ⟨w1.heap.size, 1, none⟩ = some (.slice (some ⟨b1, of1, none⟩) cs.length c1))
        (first
          | exact ⟨keepc hb6 g0, keepc hb6 g1⟩
          | exact ⟨keepc (hb6.alloc hb6.size _) g0, keepc (hb6.alloc hb6.size _) g1⟩
          | exact ⟨setc (by omega) (setc (by omega) (keepc hb6 g0)), setc (by omega) (setc (by omega) (keepc hb6 g1))⟩
          | exact ⟨keepc B1 g0, keepc B1 g1⟩
          | exact ⟨keepc B3 g0, keepc B3 g1⟩
          | exact ⟨keepc B4 g0, keepc B4 g1⟩
          | exact ⟨keepc B5 g0, keepc B5 g1⟩
          | go_keep)
        (first
          | (refine step_append_lies _ (by rfl) _ _ _ (by rfl) w5.heap.size 45 i0 (.agg #[.int .i64 0, .int .i64 0]) 2 16 Try.underlying23 hi iz0 iz1 iz2 rfl (by omega) (.slice (some ⟨w5.heap.size, 0, none⟩) 0 0) 0 [] (by rfl) (by first | exact E1 | exact E1.drew) ⟨b1, of1, none⟩ cs.length c1 (flat cs) (by rfl) (flat_len cs) (by first | exact src1.below (B1) hlb1 | exact src1.below (B1).drew hlb1) (flat_oneX cs) (by omega) (by unfold maxLen; omega) (by omega) (by first | (simp; done) | (simp; omega)) (w5.heap.size + 1) (by first | (simp; done) | (simp; omega)) ?_; intro g6 k6 v6 hO6 hg6 hat6 hlt6; have hb6 : Below w5.heap.size w5 v6 := Below.grown (by first | exact (B1) | exact (B1).drew) hg6 (by first | (simp; done) | (simp; omega)) (fun k hk => by simp [Value.ownBlock] at hk; omega); have hz6 := hg6.size; simp at hz6; have hOw := own_firstX hO6; have zh := hb6.size; skip)
          | (refine step_append_lies _ (by rfl) _ _ _ (by rfl) w5.heap.size 45 i0 (.agg #[.int .i64 0, .int .i64 0]) 2 16 Try.underlying23 hi iz0 iz1 iz2 rfl (by omega) (.slice (some ⟨w5.heap.size, 0, none⟩) 0 0) 0 [] (by rfl) (by first | exact E3 | exact E3.drew) ⟨b1, of1, none⟩ cs.length c1 (flat cs) (by rfl) (flat_len cs) (by first | exact src1.below (B3) hlb1 | exact src1.below (B3).drew hlb1) (flat_oneX cs) (by omega) (by unfold maxLen; omega) (by omega) (by first | (simp; done) | (simp; omega)) (w5.heap.size + 1 + 1) (by first | (simp; done) | (simp; omega)) ?_; intro g6 k6 v6 hO6 hg6 hat6 hlt6; have hb6 : Below w5.heap.size w5 v6 := Below.grown (by first | exact (B3) | exact (B3).drew) hg6 (by first | (simp; done) | (simp; omega)) (fun k hk => by simp [Value.ownBlock] at hk; omega); have hz6 := hg6.size; simp at hz6; have hOw := own_firstX hO6; have zh := hb6.size; have z0 : v6.cell? ⟨w5.heap.size + 1, 0, none⟩ = some (.int .i64 0) := gcell (rb := w5.heap.size) hg6 (by omega) (by simp [go_sem]); have z1 : v6.cell? ⟨w5.heap.size + 1, 1, none⟩ = some (.slice none 0 0) := gcell (rb := w5.heap.size) hg6 (by omega) (by simp [go_sem]); have zf0 : v6.frozen? ⟨w5.heap.size + 1, 0, none⟩ = false := gfroz (rb := w5.heap.size) hg6 (by omega) (v := .int .i64 0) (by simp [go_sem]) (by simp [go_sem]); have zf1 : v6.frozen? ⟨w5.heap.size + 1, 1, none⟩ = false := gfroz (rb := w5.heap.size) hg6 (by omega) (v := .slice none 0 0) (by simp [go_sem]) (by simp [go_sem]); have zb7 : g6 ≠ w5.heap.size + 1 := (by rcases hat6 with q | q; (simp [Value.ownBlock] at q; omega); omega))
          | (refine step_append_lies _ (by rfl) _ _ _ (by rfl) w5.heap.size 45 i0 (.agg #[.int .i64 0, .int .i64 0]) 2 16 Try.underlying23 hi iz0 iz1 iz2 rfl (by omega) (.slice (some ⟨w5.heap.size + 1, 0, none⟩) 0 0) 0 [] (by rfl) (by first | exact E4 | exact E4.drew) ⟨b1, of1, none⟩ cs.length c1 (flat cs) (by rfl) (flat_len cs) (by first | exact src1.below (B4) hlb1 | exact src1.below (B4).drew hlb1) (flat_oneX cs) (by omega) (by unfold maxLen; omega) (by omega) (by first | (simp; done) | (simp; omega)) (w5.heap.size + 1 + 1) (by first | (simp; done) | (simp; omega)) ?_; intro g6 k6 v6 hO6 hg6 hat6 hlt6; have hb6 : Below w5.heap.size w5 v6 := Below.grown (by first | exact (B4) | exact (B4).drew) hg6 (by first | (simp; done) | (simp; omega)) (fun k hk => by simp [Value.ownBlock] at hk; omega); have hz6 := hg6.size; simp at hz6; have hOw := own_firstX hO6; have zh := hb6.size; have z0 : v6.cell? ⟨w5.heap.size, 0, none⟩ = some (.int .i64 0) := gcell (rb := w5.heap.size + 1) hg6 (by omega) (by simp [go_sem]); have z1 : v6.cell? ⟨w5.heap.size, 1, none⟩ = some (.slice none 0 0) := gcell (rb := w5.heap.size + 1) hg6 (by omega) (by simp [go_sem]); have zf0 : v6.frozen? ⟨w5.heap.size, 0, none⟩ = false := gfroz (rb := w5.heap.size + 1) hg6 (by omega) (v := .int .i64 0) (by simp [go_sem]) (by simp [go_sem]); have zf1 : v6.frozen? ⟨w5.heap.size, 1, none⟩ = false := gfroz (rb := w5.heap.size + 1) hg6 (by omega) (v := .slice none 0 0) (by simp [go_sem]) (by simp [go_sem]); have zb8 : g6 ≠ w5.heap.size := (by rcases hat6 with q | q; (simp [Value.ownBlock] at q; omega); omega))
          | fail)
      all_goals
        first
          | (have hbox := boxX_new hb6 hOw wd
             go_wp2_with fail
             go_meet
             case rel => exact ⟨_, rfl, hbox⟩)
          | (have hbox := boxX_set hb6 (by omega) hOw zb7 z0 z1 wd
             go_wp2_with fail
             go_meet
             case rel => exact ⟨_, rfl, hbox⟩)
          | (have hbox := boxX_set hb6 (by omega) hOw zb8 z0 z1 wd
             go_wp2_with fail
             go_meet
             case rel => exact ⟨_, rfl, hbox⟩)
    case rest =>
      obtain ⟨blk, rfl, ⟨gx, cx, hblk, x0, x1, hOx, hgb, hgx⟩, hb9⟩ := hcut
      replace g0 := keepc hb9 g0; replace g1 := keepc hb9 g1
      have hz9 := hb9.size
      have HB9 := bcall hB_w5 hB_w5.size hb9
      clear hb9
      go_wp2_with fail
      go_loopw [7] (fun ii wr => ∃ i : Nat, i ≤ cs.length ∧ ii = .int .i64 i ∧ Own wr w5.heap.size (.slice (some ⟨gx, 0, none⟩) cs.length cx) (partX mirX cs i) ∧ wr.cell? ⟨blk, 0, none⟩ = some (.int .i64 wd) ∧ wr.cell? ⟨blk, 1, none⟩ = some (.slice (some ⟨gx, 0, none⟩) cs.length cx) ∧ Below w.heap.size w wr) (fun ii _ => cs.length - (intOf ii).toNat)
      case atStart => exact ⟨0, Nat.zero_le _, rfl, by rw [partX_zero]; exact hOx, x0, x1, HB9⟩
      case round =>
        rename World => wo
        obtain ⟨i, hii, rfl, hO, x0', x1', hbo⟩ := hrel
        have hB5 : w.heap.size ≤ w5.heap.size := by have := hB_w5.size; omega
        by_cases hlt : i < cs.length
        · have hltI : (i : Int) < (cs.length : Int) := by omega
          obtain ⟨z0, z1, f0, f1⟩ := hO.cell (partX_len _ _ _) i hlt
          rw [partX_at mirX cs (0, 0) hlt] at z0 z1
          have hst := hO.set (partX_len _ _ _) i 0 0 hlt
          obtain ⟨c, ec⟩ : ∃ c, cs.getD i (0, 0) = c := ⟨_, rfl⟩
          rw [ec] at z0 z1
          by_cases h2 : c.1 = 2
          · have hp : partX mirX cs i = partX mirX cs (i + 1) := partX_same mirX cs (0, 0) hlt (by rw [ec]; unfold mirX; rw [if_pos (Or.inl h2)])
            rw [hp] at hO
            rw [h2] at z0
            clear hst ec h2 hp
            go_wp2_with fail
            go_roundw
            case rel => exact ⟨i + 1, by omega, by go_num, hO, x0', x1', hbo⟩
            case measure => simp [intOf]; omega
          · have b2 : (c.1 != 2) = true := by simp [h2]
            by_cases h3 : c.1 = 3
            · have hp : partX mirX cs i = partX mirX cs (i + 1) := partX_same mirX cs (0, 0) hlt (by rw [ec]; unfold mirX; rw [if_pos (Or.inr h3)])
              rw [hp] at hO
              have b3 : (c.1 != 3) = false := by simp [h3]
              clear hst ec h2 h3 hp
              go_wp2_with fail
              go_roundw
              case rel => exact ⟨i + 1, by omega, by go_num, hO, x0', x1', hbo⟩
              case measure => simp [intOf]; omega
            · have hp : (partX mirX cs i).set i (0, 0) = partX mirX cs (i + 1) := by
                rw [← partX_set mirX cs (0, 0) hlt, ec]
                unfold mirX
                rw [if_neg (by omega)]
              rw [hp] at hst
              have b3 : (c.1 != 3) = true := by simp [h3]
              clear ec h2 h3 hp hO
              go_wp2_with fail
              go_roundw
              case rel => exact ⟨i + 1, by omega, by go_num, hst, setc (fun e => hgb e.symm) (setc (fun e => hgb e.symm) x0'), setc (fun e => hgb e.symm) (setc (fun e => hgb e.symm) x1'), (hbo.setCell (p := ⟨gx, _, none⟩) (by show w.heap.size ≤ gx; omega) _).setCell (p := ⟨gx, _, none⟩) (by show w.heap.size ≤ gx; omega) _⟩
              case measure => simp [intOf]; omega
        · rw [partX_end mirX cs (by omega), HM.out, HLn.out] at hO
          have hmlen := HLn.out
          rw [HLn.out] at x1'
          have hCm := own_cellsD hO
          have hnl : ¬ (i : Int) < (ms.length : Int) := by omega
          clear hO
          go_wp2_with fail
          refine (implEndsR H1.out (some ⟨gx, 0, none⟩) cx _ hCm (by omega)).mono ?_
          rintro e wm ⟨a7, c7, rfl, hR7, hb7⟩
          have hC7m := hCm.below hb7
          replace x0' := keepc hb7 x0'; replace x1' := keepc hb7 x1'
          have hBw := bcall hbo hbo.size hb7
          obtain ⟨b7, o7, ea7, e0, e1, e2⟩ := hR7.at (i := 0) (by simp)
          subst ea7
          simp only [Nat.zero_mul, Nat.add_zero, List.getD_cons_zero] at e0 e1 e2
          clear hb7
          have hbL : Below wm.heap.size wm (wm.alloc (.cells #[.int .i64 0, .int .i64 k, .int .i64 64] 33)) := (by repeat (first | exact Below.refl _ _ | refine Below.alloc ?_ (by first | exact Nat.le_refl _ | (simp; done) | (simp; omega)) _ | refine Below.drew ?_ | refine Below.setCell ?_ (by first | exact Nat.le_refl _ | (simp; done) | (simp; omega)) _))
          have hRL0 : R3At (wm.alloc (.cells #[.int .i64 0, .int .i64 k, .int .i64 64] 33)) (some ⟨wm.heap.size, 0, none⟩) [(0, k, 64)] := lit_row _ _ _ _
          go_wp2
          go_region_held3 (fun w' => w'.cell? ⟨blk, 0, none⟩ = some (.int .i64 wd) ∧ w'.cell? ⟨blk, 1, none⟩ = some (.slice (some ⟨gx, 0, none⟩) ms.length cx) ∧ w'.cell? ⟨b7, o7 + 1, none⟩ = some (.int .i64 q))
            (first
              | exact ⟨x0', x1', e1⟩
              | exact ⟨keepc hbL x0', keepc hbL x1', keepc hbL e1⟩
              | exact ⟨keepc hb9 x0', keepc hb9 x1', keepc hb9 e1⟩
              | exact ⟨keepc hb8 x0', keepc hb8 x1', keepc hb8 e1⟩
              | exact ⟨keepc hbL8 (keepc hb8 x0'), keepc hbL8 (keepc hb8 x1'), keepc hbL8 (keepc hb8 e1)⟩
              | go_keep)
            (first
              | (have hguard := hRLb; go_at_call 17; refine (llEnds_same a8 (some ⟨wm.heap.size, 0, none⟩) c8 1 [(0, k, 64)] _ (by first | exact hR8 | exact hR8.below (Below.refl _ _).drew) (by first | exact hRLb | exact hRLb.below (Below.refl _ _).drew) (by simp)).mono ?_; rintro e w9 ⟨rfl, hb9'⟩; have hb9 : Below wm.heap.size wm w9 := (by first | exact bcall hb8 hb8.size hb9' | exact bcall hb8 hb8.size (bdrew hb9')))
              | (have hguard := hRL8; go_at_call 17; refine (llEnds_same a8 (some ⟨w8'.heap.size, 0, none⟩) c8 1 [(0, k, 64)] _ (by first | exact hR8.below hbL8 | exact (hR8.below hbL8).below (Below.refl _ _).drew) (by first | exact hRL8 | exact hRL8.below (Below.refl _ _).drew) (by simp)).mono ?_; rintro e w9 ⟨rfl, hb9'⟩; have hb9 : Below wm.heap.size wm w9 := (by first | exact bcall (hb8.alloc hb8.size _) (hb8.alloc hb8.size _).size hb9' | exact bcall (hb8.alloc hb8.size _) (hb8.alloc hb8.size _).size (bdrew hb9')))
              | (go_at_call 16; refine (implEndsR H3.out (some ⟨gx, 0, none⟩) cx _ (by first | exact hC7m | exact hC7m.below (Below.refl _ _).drew | exact hC7m.below (Below.refl _ _).drew.drew) (by omega)).mono ?_; rintro e w8' ⟨a8, c8, rfl, hR8, hb8'⟩; have hb8 : Below wm.heap.size wm w8' := (by first | exact hb8' | exact bdrew hb8' | exact bdrew (bdrew hb8')); have hbL8 : Below w8'.heap.size w8' (w8'.alloc (.cells #[.int .i64 0, .int .i64 k, .int .i64 64] 33)) := ((Below.refl _ _).alloc (Nat.le_refl _) _); have hRL8 : R3At (w8'.alloc (.cells #[.int .i64 0, .int .i64 k, .int .i64 64] 33)) (some ⟨w8'.heap.size, 0, none⟩) [(0, k, 64)] := lit_row _ _ _ _)
              | (go_at_call 16; refine (implEndsR H3.out (some ⟨gx, 0, none⟩) cx _ (by first | exact hC7m.below hbL | exact (hC7m.below hbL).below (Below.refl _ _).drew) (by omega)).mono ?_; rintro e w8' ⟨a8, c8, rfl, hR8, hb8'⟩; have hb8n : Below (wm.alloc (.cells #[.int .i64 0, .int .i64 k, .int .i64 64] 33)).heap.size (wm.alloc (.cells #[.int .i64 0, .int .i64 k, .int .i64 64] 33)) w8' := (by first | exact hb8' | exact bdrew hb8'); have hb8 : Below wm.heap.size wm w8' := bcall hbL hbL.size hb8n; have hRLb := hRL0.below hb8n)
              | fail)
          all_goals
            have hBf := bcall hBw hBw.size hb9
            go_wp2
            go_ret
            exact ⟨rfl, by first | exact hBf | exact hBf.drew⟩

theorem walk (a : Option Addr) (n cap : Nat) (f : Nat → Int) (w : World) (h : BytesAt w a n f) (hm : n ≤ cap ∧ cap ≤ 9223372036854775807) :
    Calls Try.prog 14 #[.slice a n cap] w fun e w' => e = .returned (.bool true) ∧ Below w.heap.size w w' := by
  by_cases hs : n ≤ 1048576
  · exact small a n cap f w h hm hs
  · exact big a n cap f w h hm (by omega)

set_option maxRecDepth 100000 in
theorem lifted (os : Os) (started : os.Started) (H : Type) (enc : TypeId × Value → H) :
    ReturnsInHanded {} Try.checked os 14 .any (Rows.fnTrailPairsSpec.pre6 enc Try.prog Try.f14 Rows.fnTrailPairsRow.domain false) (Rows.fnTrailPairsSpec.post enc Try.prog Try.f14 false true false false) := by
  refine returnsInHanded_of_change (C := Try.checked) own started (by kernel_rfl) Try.func14
    (ChangeSpec.witness6 (enc := enc) (C := Try.checked) false ⟨#[], #[.slice none 0 0], []⟩ 8 (by kernel_rfl) (by kernel_rfl) (by kernel_rfl) (by kernel_rfl)) ?_
  intro W base args ds gs before hval0 hW hcnd _
  have hval : ∀ (j : Nat) t v, Try.f14.params[j]? = some t → args[j]? = some v → Value.okWide Try.prog W .any base t v := hval0
  have hW' := hW
  obtain ⟨p, q, hA0, hV, rfl, hfz, hnd⟩ := hW
  have hA : DataW.TrodAll enc Try.prog W 0 (fun _ => true) true Try.f14.params.toList args.toList ds p := hA0
  rw [Try.params14] at hA hval
  obtain ⟨v0, vs0, d0, ds0, p0, q0, hargs, rfl, rfl, h0, r0⟩ := trodAll_cons hA
  obtain ⟨rfl, rfl, rfl⟩ := trodAll_nil r0
  obtain rfl : args = #[v0] := by cases args; simp_all
  obtain ⟨rfl, rfl⟩ := trodVars_none hV
  have k0 := h0
  have lt0 : ∀ x ∈ p0, x.block < W.heap.size := by obtain ⟨m, hm⟩ := k0; exact DataW.trod_lt m _ _ _ hm
  obtain ⟨a0, n0, cap0, f0, rfl, hC0, hm0⟩ := open_bytes (hval 0 22 v0 rfl rfl) h0
  clear hA0 hval0
  refine (walk a0 n0 cap0 f0 W hC0 hm0).mono fun e W' ⟨he, bel⟩ => ?_
  subst he
  exact ⟨_, rfl, _, _, _, [], _, [], hW', trodAll_mk1 (shut_bool Try.underlying4 _), (trodAll_cons_mk (Below.trod laidOut (by kernel_rfl) (of_decide_eq_true (by kernel_rfl)) k0 bel lt0) trodAll_mk0), rfl, bel.frame _, fun h => by cases h⟩

theorem over : Rows.fnTrailPairsRow.holds Try.pinned (OpenSpec.ofChange Rows.fnTrailPairsSpec) :=
  OpenClaim.holds_of_wide 14 Try.f14 rfl rfl rfl rfl rfl rfl rfl ⟨rfl, rfl, rfl, rfl, rfl⟩ rfl rfl rfl rfl rfl (by kernel_rfl) Try.func14 (by kernel_rfl)
    (of_decide_eq_true (by kernel_rfl)) (by unfold Func.isWrapper; first | (rw [if_pos (by decide +kernel)]; kernel_rfl) | (rw [if_neg (by decide +kernel)]; exact ⟨rfl, rfl⟩))
    (fun os started H enc _ => lifted os started H enc)

end Go.Proofs.Ytjfeeibnjgjchaa.LwTrailPairs

namespace Go.Proofs.Ytjfeeibnjgjchaa
/-- The statement. -/
theorem lwTrailPairs : Rows.FnTrailPairsSaid := LwTrailPairs.over
#print axioms lwTrailPairs
end Go.Proofs.Ytjfeeibnjgjchaa
