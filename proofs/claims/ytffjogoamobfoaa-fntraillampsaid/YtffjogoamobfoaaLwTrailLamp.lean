/-
  'laws.FnTrailLamp' returns true for all codes: to light a lamp is as good as a wall. No condition.
-/
import Derived.Test.YtffjogoamobfoaaFb
import Derived.Test.YtffjogoamobfoaaUy
import Derived.Test.YtffjogoamobfoaaUl
import Derived.Deep.RegionHeld3
import Derived.Deep.DrawnRows
namespace Go.Proofs.Ytffjogoamobfoaa.LwTrailLamp
open Go.ChangeShapes Go.WideShapes Go.ChangeAt Go.RowKit
set_option linter.unusedVariables false
attribute [local go_sem ↓] Go.wp_at_zero Go.wp_at_succ

/-- Too long a code. -/
theorem big (a : Option Addr) (n cap : Nat) (f : Nat → Int) (w : World) (h : BytesAt w a n f) (hm : n ≤ cap ∧ cap ≤ 9223372036854775807) (hbig : 1048576 < n) :
    Calls Try.prog 8 #[.slice a n cap] w fun e w' => e = .returned (.bool true) ∧ Below w.heap.size w w' := by
  have hb : (1048576 : Int) < (n : Int) := by omega
  go_enter Try.func8, Try.ntmps8
  go_wp2
  go_ret
  exact ⟨rfl, Below.refl _ _⟩

set_option maxRecDepth 100000 in
set_option maxHeartbeats 8000000 in
theorem small (a : Option Addr) (n cap : Nat) (f : Nat → Int) (w : World) (h : BytesAt w a n f) (hm : n ≤ cap ∧ cap ≤ 9223372036854775807) (hsm : n ≤ 1048576) :
    Calls Try.prog 8 #[.slice a n cap] w fun e w' => e = .returned (.bool true) ∧ Below w.heap.size w w' := by
  have hb : (n : Int) ≤ 1048576 := by omega
  go_enter Try.func8, Try.ntmps8
  go_wp2_with fail
  refine (drawTrailEnds_any a n cap f w h hsm hm.1 hm.2).mono ?_
  rintro e w1 ⟨wd, a1, c1, cs, k, rfl, hC1, hl1, hk1, hb_w1⟩
  have hz_w1 := hb_w1.size
  try simp at hz_w1
  have hbS1 : Below w1.heap.size w1 (w1.alloc (.cells #[.int .i64 wd, .slice a1 cs.length c1] 25)) := (by repeat (first | exact Below.refl _ _ | refine Below.alloc ?_ (by first | exact Nat.le_refl _ | (simp; done) | (simp; omega)) _ | refine Below.drew ?_ | refine Below.setCell ?_ (by first | exact Nat.le_refl _ | (simp; done) | (simp; omega)) _))
  replace hC1 := hC1.below hbS1
  have g0 : (w1.alloc (.cells #[.int .i64 wd, .slice a1 cs.length c1] 25)).cell? ⟨w1.heap.size, 0, none⟩ = some (.int .i64 wd) := by simp [go_sem]
  have g1 : (w1.alloc (.cells #[.int .i64 wd, .slice a1 cs.length c1] 25)).cell? ⟨w1.heap.size, 1, none⟩ = some (.slice a1 cs.length c1) := by simp [go_sem]
  have hBs1 := bcall hb_w1 (by omega) hbS1
  clear hb_w1
  clear hbS1
  obtain ⟨L, hL⟩ : ∃ L, trailT wd cs k = L := ⟨_, rfl⟩
  have HL : Hid (trailT wd cs k = L) := hL
  obtain ⟨ke1, ke2, ke3, ke4, ke5⟩ := ends_known hL
  obtain ⟨ES, hES⟩ : ∃ ES, L.2 = ES := ⟨_, rfl⟩
  have EX : Hid ((trailT wd cs k).2 = ES) := by show _ = _; rw [hL]; exact hES
  have HX : Hid (L.2 = ES) := hES
  rw [hES] at ke1 ke2 ke3 ke4 ke5
  have KE1 : Hid (∀ u ∈ ES, EndOk wd cs u) := ke1
  have KE2 : Hid (∀ u ∈ ES, u.2.2 ≤ 64) := ke2
  have hlen : ES.length ≤ 1000000 := by omega
  clear ke1 ke2 ke5 hES hL
  go_wp2_with fail
  refine (implEndsR EX.out a1 c1 _ hC1 (by omega)).mono ?_
  rintro e w2 ⟨a2, c2, rfl, hR2, hb_w2⟩
  have hz_w2 := hb_w2.size
  try simp at hz_w2
  replace g0 := keepc hb_w2 g0; replace g1 := keepc hb_w2 g1
  replace hC1 := hC1.below hb_w2
  have hB_w2 := bcall hBs1 (by first | omega | (simp; omega)) hb_w2
  clear hBs1 hb_w2
  go_wp2_with fail
  refine (specEndsR EX.out a1 c1 _ hC1 (by omega)).mono ?_
  rintro e w3 ⟨a3, c3, rfl, hR3, hb_w3⟩
  have hz_w3 := hb_w3.size
  try simp at hz_w3
  replace g0 := keepc hb_w3 g0; replace g1 := keepc hb_w3 g1
  replace hC1 := hC1.below hb_w3
  replace hR2 := hR2.below hb_w3
  have hB_w3 := bcall hB_w2 (by first | omega | (simp; omega)) hb_w3
  clear hB_w2 hb_w3
  go_wp2_with fail
  refine (llEnds_same a2 a3 c2 c3 ES _ hR2 hR3 hlen).mono ?_
  rintro e w4 ⟨rfl, hb_w4⟩
  have hz_w4 := hb_w4.size
  try simp at hz_w4
  replace g0 := keepc hb_w4 g0; replace g1 := keepc hb_w4 g1
  replace hC1 := hC1.below hb_w4
  replace hR2 := hR2.below hb_w4
  replace hR3 := hR3.below hb_w4
  have hB_w4 := bcall hB_w3 (by first | omega | (simp; omega)) hb_w4
  clear hB_w3 hb_w4
  go_wp2_with fail
  refine (llSight_any wd a1 c1 cs _ hC1 (by omega) k).mono ?_
  rintro e w5 ⟨rfl, hb_w5⟩
  have hz_w5 := hb_w5.size
  try simp at hz_w5
  replace g0 := keepc hb_w5 g0; replace g1 := keepc hb_w5 g1
  replace hC1 := hC1.below hb_w5
  replace hR2 := hR2.below hb_w5
  replace hR3 := hR3.below hb_w5
  have hB_w5 := bcall hB_w4 (by first | omega | (simp; omega)) hb_w5
  clear hB_w4 hb_w5
  clear hR3
  rcases hs : inS wd cs k with _ | _
  · go_wp2_with fail
    refine (specEndsR EX.out a1 c1 _ hC1 (by omega)).mono ?_
    rintro e w6 ⟨a6, c6, rfl, hR6, hb_w6⟩
    have hz_w6 := hb_w6.size
    try simp at hz_w6
    replace g0 := keepc hb_w6 g0; replace g1 := keepc hb_w6 g1
    replace hC1 := hC1.below hb_w6
    replace hR2 := hR2.below hb_w6
    have hB_w6 := bcall hB_w5 (by first | omega | (simp; omega)) hb_w6
    clear hB_w5 hb_w6
    go_wp2_with fail
    refine (llEnds_same a2 a6 c2 c6 ES _ hR2 hR6 hlen).mono ?_
    rintro e w7 ⟨rfl, hb_w7⟩
    have hz_w7 := hb_w7.size
    try simp at hz_w7
    replace g0 := keepc hb_w7 g0; replace g1 := keepc hb_w7 g1
    replace hC1 := hC1.below hb_w7
    replace hR2 := hR2.below hb_w7
    replace hR6 := hR6.below hb_w7
    have hB_w7 := bcall hB_w6 (by first | omega | (simp; omega)) hb_w7
    clear hB_w6 hb_w7
    go_wp2
    go_ret
    exact ⟨rfl, hB_w7⟩
  · have wt := wallX_trail hs
    obtain ⟨ms, hms⟩ : ∃ ms, cs.map wallX = ms := ⟨_, rfl⟩
    rw [hms] at wt
    have HLn : Hid (cs.length = ms.length) := by show _ = _; rw [← hms]; simp
    have HM : Hid (cs.map wallX = ms) := hms
    obtain ⟨TS, hTS⟩ : ∃ TS, ES.map toWall = TS := ⟨_, rfl⟩
    have HT : Hid (ES.map toWall = TS) := hTS
    have HLt : Hid (ES.length = TS.length) := by show _ = _; rw [← hTS]; simp
    obtain ⟨VS, hVS⟩ : ∃ VS, (trailT wd cs k).1 = VS := ⟨_, rfl⟩
    have HV : Hid ((trailT wd cs k).1 = VS) := hVS
    have HVx : Hid ((trailT wd ms k).1 = VS) := by show _ = _; rw [wt]; exact hVS
    have HEx : Hid ((trailT wd ms k).2 = TS) := by
      show _ = _
      rw [wt, ← hTS, ← EX.out]
      rfl
    have kv2 := (visits_known (rfl : trailT wd cs k = trailT wd cs k)).2.1
    rw [hVS] at kv2
    have hvl : VS.length ≤ 1000000 := by omega
    have L1 : 0 < cs.length := by
      have := okG_lenD wd cs (inS_ok hs)
      omega
    have L2 : 0 < ES.length := by
      have hT := trail_ok hs
      have hsum : sumW ES = 64 := by rw [← EX.out]; exact hT.sum
      rcases ES with _ | ⟨e, r⟩
      · simp [sumW] at hsum
      · simp
    clear wt hms hTS hVS hs
    have hRa := hR2
    have gq0 := g0
    have gq1 := g1
    obtain ⟨i0, hi, iz0, iz1, iz2⟩ := info_parts infoCell
    have hCa := hC1
    rcases hC1 with q | ⟨b1, of1, rfl, hlb1, hc1⟩
    · rw [q] at L1; simp at L1
    have src1 := srcX_of hc1
    have E1 := own_emptyX w5 w5.heap.size (Nat.le_refl _)
    have B1 : Below w5.heap.size w5 (w5.alloc (.cells #[] 29)) := (by repeat (first | exact Below.refl _ _ | refine Below.alloc ?_ (by first | exact Nat.le_refl _ | (simp; done) | (simp; omega)) _ | refine Below.drew ?_ | refine Below.setCell ?_ (by first | exact Nat.le_refl _ | (simp; done) | (simp; omega)) _))
    have E3 := E1.alloc (.cells #[.int .i64 0, .slice none 0 0] 25)
    have B3 : Below w5.heap.size w5 ((w5.alloc (.cells #[] 29)).alloc (.cells #[.int .i64 0, .slice none 0 0] 25)) := (by repeat (first | exact Below.refl _ _ | refine Below.alloc ?_ (by first | exact Nat.le_refl _ | (simp; done) | (simp; omega)) _ | refine Below.drew ?_ | refine Below.setCell ?_ (by first | exact Nat.le_refl _ | (simp; done) | (simp; omega)) _))
    have E4 := own_emptyX (w5.alloc (.cells #[.int .i64 0, .slice none 0 0] 25)) w5.heap.size (by simp)
    simp only [World.size_alloc] at E4
    have B4 : Below w5.heap.size w5 ((w5.alloc (.cells #[.int .i64 0, .slice none 0 0] 25)).alloc (.cells #[] 29)) := (by repeat (first | exact Below.refl _ _ | refine Below.alloc ?_ (by first | exact Nat.le_refl _ | (simp; done) | (simp; omega)) _ | refine Below.drew ?_ | refine Below.setCell ?_ (by first | exact Nat.le_refl _ | (simp; done) | (simp; omega)) _))
    have B5 : Below w5.heap.size w5 (w5.alloc (.cells #[.int .i64 0, .slice none 0 0] 25)) := (by repeat (first | exact Below.refl _ _ | refine Below.alloc ?_ (by first | exact Nat.le_refl _ | (simp; done) | (simp; omega)) _ | refine Below.drew ?_ | refine Below.setCell ?_ (by first | exact Nat.le_refl _ | (simp; done) | (simp; omega)) _))
    clear hc1
    go_wp2
    go_cut [6] (fun s9 wc => ∃ (blk : Nat), s9 = .pointer (some ⟨blk, 0, none⟩) ∧ BoxX wc w5.heap.size blk wd cs ∧ Below w5.heap.size w5 wc)
    case first =>
      go_region_held_law (fun w' => w'.cell? ⟨w1.heap.size, 0, none⟩ = some (.int .i64 wd) ∧ w'.cell? ⟨w1.heap.size, 1, none⟩ = some (.slice (some ⟨b1, of1, none⟩) cs.length c1))
        (first
          | exact ⟨keepc hb6 g0, keepc hb6 g1⟩
          | exact ⟨keepc (hb6.alloc hb6.size _) g0, keepc (hb6.alloc hb6.size _) g1⟩
          | exact ⟨setc (by omega) (setc (by omega) (keepc hb6 g0)), setc (by omega) (setc (by omega) (keepc hb6 g1))⟩
          | exact ⟨keepc B1 g0, keepc B1 g1⟩
          | exact ⟨keepc B3 g0, keepc B3 g1⟩
          | exact ⟨keepc B4 g0, keepc B4 g1⟩
          | exact ⟨keepc B5 g0, keepc B5 g1⟩
          | go_keep)
        (first
          | (refine step_append_lies _ (by rfl) _ _ _ (by rfl) w5.heap.size 29 i0 (.agg #[.int .i64 0, .int .i64 0]) 2 16 Try.underlying23 hi iz0 iz1 iz2 rfl (by omega) (.slice (some ⟨w5.heap.size, 0, none⟩) 0 0) 0 [] (by rfl) (by first | exact E1 | exact E1.drew) ⟨b1, of1, none⟩ cs.length c1 (flat cs) (by rfl) (flat_len cs) (by first | exact src1.below (B1) hlb1 | exact src1.below (B1).drew hlb1) (flat_oneX cs) (by omega) (by unfold maxLen; omega) (by omega) (by first | (simp; done) | (simp; omega)) (w5.heap.size + 1) (by first | (simp; done) | (simp; omega)) ?_; intro g6 k6 v6 hO6 hg6 hat6 hlt6; have hb6 : Below w5.heap.size w5 v6 := Below.grown (by first | exact (B1) | exact (B1).drew) hg6 (by first | (simp; done) | (simp; omega)) (fun k hk => by simp [Value.ownBlock] at hk; omega); have hz6 := hg6.size; simp at hz6; have hOw := own_firstX hO6; have zh := hb6.size; skip)
          | (refine step_append_lies _ (by rfl) _ _ _ (by rfl) w5.heap.size 29 i0 (.agg #[.int .i64 0, .int .i64 0]) 2 16 Try.underlying23 hi iz0 iz1 iz2 rfl (by omega) (.slice (some ⟨w5.heap.size, 0, none⟩) 0 0) 0 [] (by rfl) (by first | exact E3 | exact E3.drew) ⟨b1, of1, none⟩ cs.length c1 (flat cs) (by rfl) (flat_len cs) (by first | exact src1.below (B3) hlb1 | exact src1.below (B3).drew hlb1) (flat_oneX cs) (by omega) (by unfold maxLen; omega) (by omega) (by first | (simp; done) | (simp; omega)) (w5.heap.size + 1 + 1) (by first | (simp; done) | (simp; omega)) ?_; intro g6 k6 v6 hO6 hg6 hat6 hlt6; have hb6 : Below w5.heap.size w5 v6 := Below.grown (by first | exact (B3) | exact (B3).drew) hg6 (by first | (simp; done) | (simp; omega)) (fun k hk => by simp [Value.ownBlock] at hk; omega); have hz6 := hg6.size; simp at hz6; have hOw := own_firstX hO6; have zh := hb6.size; have z0 : v6.cell? ⟨w5.heap.size + 1, 0, none⟩ = some (.int .i64 0) := gcell (rb := w5.heap.size) hg6 (by omega) (by simp [go_sem]); have z1 : v6.cell? ⟨w5.heap.size + 1, 1, none⟩ = some (.slice none 0 0) := gcell (rb := w5.heap.size) hg6 (by omega) (by simp [go_sem]); have zf0 : v6.frozen? ⟨w5.heap.size + 1, 0, none⟩ = false := gfroz (rb := w5.heap.size) hg6 (by omega) (v := .int .i64 0) (by simp [go_sem]) (by simp [go_sem]); have zf1 : v6.frozen? ⟨w5.heap.size + 1, 1, none⟩ = false := gfroz (rb := w5.heap.size) hg6 (by omega) (v := .slice none 0 0) (by simp [go_sem]) (by simp [go_sem]); have zb7 : g6 ≠ w5.heap.size + 1 := (by rcases hat6 with q | q; (simp [Value.ownBlock] at q; omega); omega))
          | (refine step_append_lies _ (by rfl) _ _ _ (by rfl) w5.heap.size 29 i0 (.agg #[.int .i64 0, .int .i64 0]) 2 16 Try.underlying23 hi iz0 iz1 iz2 rfl (by omega) (.slice (some ⟨w5.heap.size + 1, 0, none⟩) 0 0) 0 [] (by rfl) (by first | exact E4 | exact E4.drew) ⟨b1, of1, none⟩ cs.length c1 (flat cs) (by rfl) (flat_len cs) (by first | exact src1.below (B4) hlb1 | exact src1.below (B4).drew hlb1) (flat_oneX cs) (by omega) (by unfold maxLen; omega) (by omega) (by first | (simp; done) | (simp; omega)) (w5.heap.size + 1 + 1) (by first | (simp; done) | (simp; omega)) ?_; intro g6 k6 v6 hO6 hg6 hat6 hlt6; have hb6 : Below w5.heap.size w5 v6 := Below.grown (by first | exact (B4) | exact (B4).drew) hg6 (by first | (simp; done) | (simp; omega)) (fun k hk => by simp [Value.ownBlock] at hk; omega); have hz6 := hg6.size; simp at hz6; have hOw := own_firstX hO6; have zh := hb6.size; have z0 : v6.cell? ⟨w5.heap.size, 0, none⟩ = some (.int .i64 0) := gcell (rb := w5.heap.size + 1) hg6 (by omega) (by simp [go_sem]); have z1 : v6.cell? ⟨w5.heap.size, 1, none⟩ = some (.slice none 0 0) := gcell (rb := w5.heap.size + 1) hg6 (by omega) (by simp [go_sem]); have zf0 : v6.frozen? ⟨w5.heap.size, 0, none⟩ = false := gfroz (rb := w5.heap.size + 1) hg6 (by omega) (v := .int .i64 0) (by simp [go_sem]) (by simp [go_sem]); have zf1 : v6.frozen? ⟨w5.heap.size, 1, none⟩ = false := gfroz (rb := w5.heap.size + 1) hg6 (by omega) (v := .slice none 0 0) (by simp [go_sem]) (by simp [go_sem]); have zb8 : g6 ≠ w5.heap.size := (by rcases hat6 with q | q; (simp [Value.ownBlock] at q; omega); omega))
          | fail)
      all_goals
        first
          | (have hbox := boxX_new hb6 hOw wd
             go_wp2_with fail
             go_meet
             case rel => exact ⟨_, rfl, hbox⟩)
          | (have hbox := boxX_set hb6 (by omega) hOw zb7 z0 z1 wd
             go_wp2_with fail
             go_meet
             case rel => exact ⟨_, rfl, hbox⟩)
          | (have hbox := boxX_set hb6 (by omega) hOw zb8 z0 z1 wd
             go_wp2_with fail
             go_meet
             case rel => exact ⟨_, rfl, hbox⟩)
    case rest =>
      obtain ⟨blk, rfl, ⟨gx, cx, hblk, x0, x1, hOx, hgb, hgx⟩, hb9⟩ := hcut
      replace g0 := keepc hb9 g0; replace g1 := keepc hb9 g1
      have hz9 := hb9.size
      have hR9 := hR2.below hb9
      have hCo := hCa.below hb9
      have HB9 := bcall hB_w5 hB_w5.size hb9
      clear hR2
      go_wp2_with fail
      go_loopw [7] (fun ii wr => ∃ i : Nat, i ≤ cs.length ∧ ii = .int .i64 i ∧ Own wr w5.heap.size (.slice (some ⟨gx, 0, none⟩) cs.length cx) (partX wallX cs i) ∧ wr.cell? ⟨blk, 0, none⟩ = some (.int .i64 wd) ∧ wr.cell? ⟨blk, 1, none⟩ = some (.slice (some ⟨gx, 0, none⟩) cs.length cx) ∧ Below w5.heap.size w5 wr) (fun ii _ => cs.length - (intOf ii).toNat)
      case atStart => exact ⟨0, Nat.zero_le _, rfl, by rw [partX_zero]; exact hOx, x0, x1, hb9⟩
      case round =>
        rename World => wo
        obtain ⟨i, hii, rfl, hO, x0', x1', hbo⟩ := hrel
        by_cases hlt : i < cs.length
        · have hltI : (i : Int) < (cs.length : Int) := by omega
          obtain ⟨z0, z1, f0, f1⟩ := hO.cell (partX_len _ _ _) i hlt
          rw [partX_at wallX cs (0, 0) hlt] at z0 z1
          have hst := hO.set (partX_len _ _ _) i 1 0 hlt
          obtain ⟨c, ec⟩ : ∃ c, cs.getD i (0, 0) = c := ⟨_, rfl⟩
          rw [ec] at z0 z1
          by_cases h7 : c.1 = 7
          · have hp : (partX wallX cs i).set i (1, 0) = partX wallX cs (i + 1) := by
              rw [← partX_set wallX cs (0, 0) hlt, ec]
              unfold wallX
              rw [if_pos h7]
            rw [hp] at hst
            rw [h7] at z0
            clear ec h7 hp hO
            go_wp2_with fail
            go_roundw
            case rel => exact ⟨i + 1, by omega, by go_num, hst, setc (fun e => hgb e.symm) (setc (fun e => hgb e.symm) x0'), setc (fun e => hgb e.symm) (setc (fun e => hgb e.symm) x1'), (hbo.setCell (p := ⟨gx, _, none⟩) (by show w5.heap.size ≤ gx; omega) _).setCell (p := ⟨gx, _, none⟩) (by show w5.heap.size ≤ gx; omega) _⟩
            case measure => simp [intOf]; omega
          · have hp : partX wallX cs i = partX wallX cs (i + 1) := partX_same wallX cs (0, 0) hlt (by rw [ec]; unfold wallX; rw [if_neg h7])
            rw [hp] at hO
            have b7 : (c.1 == 7) = false := by simp [h7]
            clear hst ec h7 hp
            go_wp2_with fail
            go_roundw
            case rel => exact ⟨i + 1, by omega, by go_num, hO, x0', x1', hbo⟩
            case measure => simp [intOf]; omega
        · rw [partX_end wallX cs (by omega), HM.out, HLn.out] at hO
          have hmlen := HLn.out
          rw [HLn.out] at x1'
          have hCm := own_cellsD hO
          have hnl : ¬ (i : Int) < (ms.length : Int) := by omega
          have hC0 := hCa.below hbo
          have hR0 := hRa.below hbo
          have go0 := keepc hbo gq0
          have go1 := keepc hbo gq1
          have hBo := bcall hB_w5 hB_w5.size hbo
          have hml : ms.length ≤ 31 := by omega
          clear hO hmlen
          obtain ⟨j0, hj, jz0, jz1, jz2⟩ := info_parts infoEnd
          obtain ⟨b2, o2, ea2, _, _, _⟩ := hR0.at L2
          subst ea2
          have srcE := src3_of hR0
          have bE : b2 < wo.heap.size := by
            rcases hR0 with q | ⟨b, off, e, hbl, _⟩
            · rw [q] at L2; simp at L2
            · simp only [Option.some.injEq, Addr.mk.injEq, and_true] at e
              omega
          have hbE : Below wo.heap.size wo (wo.alloc (.cells #[] 57)) := (by repeat (first | exact Below.refl _ _ | refine Below.alloc ?_ (by first | exact Nat.le_refl _ | (simp; done) | (simp; omega)) _ | refine Below.drew ?_ | refine Below.setCell ?_ (by first | exact Nat.le_refl _ | (simp; done) | (simp; omega)) _))
          have srcF : ∀ j v, (flat3 ES)[j]? = some v → (wo.alloc (.cells #[] 57)).cell? ((⟨b2, o2, none⟩ : Addr).add j) = some v := fun j v hv => by
            rw [hbE.cell (by unfold Addr.add; split <;> exact bE)]
            exact srcE j v hv
          have OE := own3_emptyY wo wo.heap.size (Nat.le_refl _)
          clear srcE
          go_wp2_with (at_builtin; refine wpList_append_lies _ rfl _ _ _ rfl wo.heap.size 57 j0 (.agg #[.int .i64 0, .int .i64 0, .int .i64 0]) 3 24 Try.underlying42 hj jz0 jz1 jz2 rfl (by omega) (.slice (some ⟨wo.heap.size, 0, none⟩) 0 0) 0 [] rfl OE ⟨b2, o2, none⟩ ES.length c2 (flat3 ES) rfl (flat3_len ES) srcF (flat3_oneY ES) (by omega) (by unfold maxLen; omega) (by omega) (by simp) (wo.heap.size + 1) (by simp) ?_)
          intro g6 k6 w6 hO6 hg6 hat6 hlt6
          have hb6 : Below wo.heap.size wo w6 := Below.grown hbE hg6 (by first | (simp; done) | (simp; omega)) (fun k hk => by simp [Value.ownBlock] at hk; omega)
          have hO3 : Own3 w6 wo.heap.size (.slice (some ⟨g6, 0, none⟩) ES.length k6) ES := by first | exact hO6 | exact own3_firstY hO6
          have hge : wo.heap.size ≤ g6 := by
            rcases hat6 with e | e
            · simp only [Value.ownBlock, Option.some.injEq] at e; omega
            · omega
          clear hO6 hg6 hat6 OE srcF hbE
          go_wp2_with fail
          go_loopw [9] (fun ii wr => ∃ i : Nat, i ≤ ES.length ∧ ii = .int .i64 i ∧ Own3 wr wo.heap.size (.slice (some ⟨g6, 0, none⟩) ES.length k6) (partX toWall ES i) ∧ Below wo.heap.size wo wr) (fun ii _ => ES.length - (intOf ii).toNat)
          case atStart => exact ⟨0, Nat.zero_le _, rfl, by rw [partX_zero]; exact hO3, hb6⟩
          case round =>
            rename World => wp
            obtain ⟨j, hjj, rfl, hOj, hbp⟩ := hrel
            by_cases hlt : j < ES.length
            · have hltI : (j : Int) < (ES.length : Int) := by omega
              obtain ⟨z0, f0⟩ := hOj.cell (partX_len _ _ _) j hlt
              have hst := hOj.set (partX_len _ _ _) j 1 hlt
              rw [partX_at toWall ES (0, 0, 0) hlt] at z0 hst
              obtain ⟨t, et⟩ : ∃ t, ES.getD j (0, 0, 0) = t := ⟨_, rfl⟩
              rw [et] at z0 hst
              by_cases h2 : t.1 = 2
              · have hp : (partX toWall ES j).set j (1, t.2) = partX toWall ES (j + 1) := by
                  rw [← partX_set toWall ES (0, 0, 0) hlt, et]
                  unfold toWall
                  rw [if_pos h2]
                rw [hp] at hst
                rw [h2] at z0
                clear et h2 hp hOj
                go_wp2_with fail
                go_roundw
                case rel => exact ⟨j + 1, by omega, by go_num, hst, hbp.setCell (p := ⟨g6, _, none⟩) hge _⟩
                case measure => simp [intOf]; omega
              · have hp : partX toWall ES j = partX toWall ES (j + 1) := partX_same toWall ES (0, 0, 0) hlt (by rw [et]; unfold toWall; rw [if_neg h2])
                rw [hp] at hOj
                have b2' : (t.1 == 2) = false := by simp [h2]
                clear hst et h2 hp
                go_wp2_with fail
                go_roundw
                case rel => exact ⟨j + 1, by omega, by go_num, hOj, hbp⟩
                case measure => simp [intOf]; omega
            · rw [partX_end toWall ES (by omega), HT.out] at hOj
              unfold Own3 at hOj
              have hltT := HLt.out
              have hRT : R3At wp (some ⟨g6, 0, none⟩) TS := own_r3 (c := k6) (by rw [HLt.out] at hOj; exact hOj)
              have hts : TS.length ≤ 1000000 := by omega
              have hxC := hCm.below hbp
              have hgC := hC0.below hbp
              have y0 := keepc hbp x0'
              have y1 := keepc hbp x1'
              have y2 := keepc hbp go0
              have y3 := keepc hbp go1
              have hBp := bcall hBo hBo.size hbp
              clear hltT hOj
              go_wp2
              go_region_held3 (fun w' => w'.cell? ⟨blk, 0, none⟩ = some (.int .i64 wd) ∧ w'.cell? ⟨blk, 1, none⟩ = some (.slice (some ⟨gx, 0, none⟩) ms.length cx) ∧ w'.cell? ⟨w1.heap.size, 0, none⟩ = some (.int .i64 wd) ∧ w'.cell? ⟨w1.heap.size, 1, none⟩ = some (.slice (some ⟨b1, of1, none⟩) cs.length c1))
                (first
                  | exact ⟨y0, y1, y2, y3⟩
                  | exact ⟨keepc hbe y0, keepc hbe y1, keepc hbe y2, keepc hbe y3⟩
                  | exact ⟨keepc hbd y0, keepc hbd y1, keepc hbd y2, keepc hbd y3⟩
                  | exact ⟨keepc hbc y0, keepc hbc y1, keepc hbc y2, keepc hbc y3⟩
                  | exact ⟨keepc hbb y0, keepc hbb y1, keepc hbb y2, keepc hbb y3⟩
                  | exact ⟨keepc hba y0, keepc hba y1, keepc hba y2, keepc hba y3⟩
                  | go_keep)
                (first
                  | (go_at_call 25; refine (implEndsR HEx.out (some ⟨gx, 0, none⟩) cx _ (by first | exact hxC | exact hxC.below (Below.refl _ _).drew) (by omega)).mono ?_; rintro e wa ⟨aa, ca, rfl, hRaa, hba'⟩; have hba : Below wp.heap.size wp wa := (by first | exact hba' | exact bdrew hba'))
                  | (go_at_call 24; refine (llEnds_sameL aa (some ⟨g6, 0, none⟩) ca k6 TS ES.length HLt.out _ hRaa (hRT.below hba) hts).mono ?_; rintro e wb ⟨rfl, hbb'⟩; have hbb : Below wp.heap.size wp wb := bcall hba hba.size hbb')
                  | (have hguard := hRc; go_at_call 16; refine (implVisitsR HV.out (some ⟨b1, of1, none⟩) c1 _ (hgC.below hbc) (by omega)).mono ?_; rintro e wd' ⟨ad, cd, rfl, hRd, hbd'⟩; have hbd : Below wp.heap.size wp wd' := bcall hbc hbc.size hbd')
                  | (go_at_call 16; refine (implVisitsR HVx.out (some ⟨gx, 0, none⟩) cx _ (hxC.below hbb) (by omega)).mono ?_; rintro e wc ⟨ac, cc, rfl, hRc, hbc'⟩; have hbc : Below wp.heap.size wp wc := bcall hbb hbb.size hbc')
                  | (go_at_call 17; refine (llVisits_same ac ad cc cd VS _ (hRc.below hbd') hRd hvl).mono ?_; rintro e we ⟨rfl, hbe'⟩; have hbe : Below wp.heap.size wp we := bcall hbd hbd.size hbe')
                  | fail)
              all_goals
                have hBf := bcall hBp hBp.size hbe
                go_wp2
                go_ret
                exact ⟨rfl, by first | exact hBf | exact hBf.drew⟩

theorem walk (a : Option Addr) (n cap : Nat) (f : Nat → Int) (w : World) (h : BytesAt w a n f) (hm : n ≤ cap ∧ cap ≤ 9223372036854775807) :
    Calls Try.prog 8 #[.slice a n cap] w fun e w' => e = .returned (.bool true) ∧ Below w.heap.size w w' := by
  by_cases hs : n ≤ 1048576
  · exact small a n cap f w h hm hs
  · exact big a n cap f w h hm (by omega)

set_option maxRecDepth 100000 in
theorem lifted (os : Os) (started : os.Started) (H : Type) (enc : TypeId × Value → H) :
    ReturnsInHanded {} Try.checked os 8 .any (Rows.fnTrailLampSpec.pre6 enc Try.prog Try.f8 Rows.fnTrailLampRow.domain false) (Rows.fnTrailLampSpec.post enc Try.prog Try.f8 false true false false) := by
  refine returnsInHanded_of_change (C := Try.checked) own started (by kernel_rfl) Try.func8
    (ChangeSpec.witness6 (enc := enc) (C := Try.checked) false ⟨#[], #[.slice none 0 0], []⟩ 8 (by kernel_rfl) (by kernel_rfl) (by kernel_rfl) (by kernel_rfl)) ?_
  intro W base args ds gs before hval0 hW hcnd _
  have hval : ∀ (j : Nat) t v, Try.f8.params[j]? = some t → args[j]? = some v → Value.okWide Try.prog W .any base t v := hval0
  have hW' := hW
  obtain ⟨p, q, hA0, hV, rfl, hfz, hnd⟩ := hW
  have hA : DataW.TrodAll enc Try.prog W 0 (fun _ => true) true Try.f8.params.toList args.toList ds p := hA0
  rw [Try.params8] at hA hval
  obtain ⟨v0, vs0, d0, ds0, p0, q0, hargs, rfl, rfl, h0, r0⟩ := trodAll_cons hA
  obtain ⟨rfl, rfl, rfl⟩ := trodAll_nil r0
  obtain rfl : args = #[v0] := by cases args; simp_all
  obtain ⟨rfl, rfl⟩ := trodVars_none hV
  have k0 := h0
  have lt0 : ∀ x ∈ p0, x.block < W.heap.size := by obtain ⟨m, hm⟩ := k0; exact DataW.trod_lt m _ _ _ hm
  obtain ⟨a0, n0, cap0, f0, rfl, hC0, hm0⟩ := open_bytes (hval 0 22 v0 rfl rfl) h0
  clear hA0 hval0
  refine (walk a0 n0 cap0 f0 W hC0 hm0).mono fun e W' ⟨he, bel⟩ => ?_
  subst he
  exact ⟨_, rfl, _, _, _, [], _, [], hW', trodAll_mk1 (shut_bool Try.underlying4 _), (trodAll_cons_mk (Below.trod laidOut (by kernel_rfl) (of_decide_eq_true (by kernel_rfl)) k0 bel lt0) trodAll_mk0), rfl, bel.frame _, fun h => by cases h⟩

theorem over : Rows.fnTrailLampRow.holds Try.pinned (OpenSpec.ofChange Rows.fnTrailLampSpec) :=
  OpenClaim.holds_of_wide 8 Try.f8 rfl rfl rfl rfl rfl rfl rfl ⟨rfl, rfl, rfl, rfl, rfl⟩ rfl rfl rfl rfl rfl (by kernel_rfl) Try.func8 (by kernel_rfl)
    (of_decide_eq_true (by kernel_rfl)) (by unfold Func.isWrapper; first | (rw [if_pos (by decide +kernel)]; kernel_rfl) | (rw [if_neg (by decide +kernel)]; exact ⟨rfl, rfl⟩))
    (fun os started H enc _ => lifted os started H enc)

end Go.Proofs.Ytffjogoamobfoaa.LwTrailLamp

namespace Go.Proofs.Ytffjogoamobfoaa
/-- The statement. -/
theorem lwTrailLamp : Rows.FnTrailLampSaid := LwTrailLamp.over
#print axioms lwTrailLamp
end Go.Proofs.Ytffjogoamobfoaa
