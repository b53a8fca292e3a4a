/- Of the proof: PGm -/
import Derived.Test.YtdhopelplokehaaGreatLBq
import Derived.Test.YtdhopelplokehaaGreatLBr
set_option maxHeartbeats 8000000
set_option linter.unusedVariables false
namespace Go.Proofs.YtdhopelplokehaaGreat
namespace Sp
open Go.RowKit
attribute [local go_sem ↓] Go.wp_at_zero Go.wp_at_succ
theorem Own.setL {w : World} {B g n cap : Nat} {cs : List (Int × Int)} (h : Own w B (.slice (some ⟨g, 0, none⟩) n cap) cs) (hn : cs.length = n) (i : Nat) (y : Int) (hi : i < n) :
  Own (w.setCell ⟨g, i * 2 + 1, none⟩ (.int .i64 y)) B (.slice (some ⟨g, 0, none⟩) n cap) (cs.set i ((cs.getD i (0, 0)).1, y)) := by
 subst hn
 have hO : w.ownsRow B 38 2 (.slice (some ⟨g, 0, none⟩) cs.length cap) cs.length (flat cs) := h
 have h2 := (hO.stored (i * 2 + 1) (.int .i64 y)).1
 have e : (flat cs).set (i * 2 + 1) (.int .i64 y) = flat (cs.set i ((cs.getD i (0, 0)).1, y)) := by
  rw [<- flat_set cs i _ y hi]
  congr 1
  obtain ⟨hb, he⟩ := List.getElem?_eq_some_iff.1 (flat_at cs i hi).1
  rw [<- he, List.set_getElem_self]
 rw [e] at h2
 unfold Own
 rw [List.length_set]
 exact h2
theorem picM_len (wd : Int) (cs : List (Int × Int)) : (picN wd cs).length = (manyG wd cs).toNat := by unfold picN; rw [picK_len]
theorem picM_at (wd : Int) (cs : List (Int × Int)) {k : Nat} (hk : k < (manyG wd cs).toNat) : (picN wd cs).getD k 0 = lightN wd cs (k : Int) := by
 unfold picN picK
 simp [List.getD, hk]
theorem times_pics {wd : Int} {cs : List (Int × Int)} (hok : okG wd cs = true) (t : Int) (ht : 1 <= t /\ t <= 9) :
  (picN wd (updC (lampL 1) cs cs.length)).length = (picN wd cs).length /\ (picN wd (updC (lampL t) cs cs.length)).length = (picN wd cs).length /\
  ∀ k, k < (picN wd cs).length -> ∃ x y : Int, (picN wd (updC (lampL 1) cs cs.length)).getD k 0 = x /\ (picN wd (updC (lampL t) cs cs.length)).getD k 0 = x * t /\ (picN wd cs).getD k 0 = y /\ x <= y /\ 0 <= x /\ x * t <= 576 := by
 have m1 : manyG wd (updC (lampL 1) cs cs.length) = manyG wd cs := by unfold manyG; rw [(light_lamps hok 1 (by omega) 0).1, hok, updC_len]
 have mt : manyG wd (updC (lampL t) cs cs.length) = manyG wd cs := by unfold manyG; rw [(light_lamps hok t ht 0).1, hok, updC_len]
 refine ⟨by rw [picM_len, picM_len, m1], by rw [picM_len, picM_len, mt], fun k hk => ?_⟩
 rw [picM_len] at hk
 obtain ⟨e1, e2⟩ := times_light hok t ht (k : Int)
 refine ⟨_, _, picM_at _ _ (by rw [m1]; exact hk), ?_, picM_at _ _ hk, e2, (light_in _ _ _).1, ?_⟩
 ·rw [picM_at _ _ (by rw [mt]; exact hk), e1]
 ·rw [e1]; exact (light_in _ _ _).2
theorem implPicM {wd : Int} {cs : List (Int × Int)} {ps : List Int} (hv : picN wd cs = ps) (a : Option Addr) (cap : Nat) (w : World) (h : CellsAt w a cs) (hm : cs.length < 4611686018427387904) (m n : Nat) (hm2 : cs.length = m) (hn : ps.length = n) :
  Calls SqP.prog 12 #[.agg #[.int .i64 wd, .slice a m cap]] w fun e w' => ∃ a2 c2, e = .returned (.slice a2 n c2) /\ R1At w' a2 ps /\ Below w.heap.size w w' := by
 subst hv; subst hn; subst hm2
 exact implPicOf_any wd a cap cs w h hm
theorem picTimes_big (a : Option Addr) (n cap : Nat) (f : Nat -> Int) (a' : Option Addr) (n' cap' : Nat) (f' : Nat -> Int) (w : World) (h : BytesAt w a n f) (hm : n <= cap /\ cap <= 9223372036854775807) (h' : BytesAt w a' n' f') (hm' : n' <= cap' /\ cap' <= 9223372036854775807) (hbig : 1048576 < n) :
  Calls SqP.prog 8 #[.slice a n cap, .slice a' n' cap'] w fun e w' => e = .returned (.bool true) /\ Below w.heap.size w w' := by
 have hb : (1048576 : Int) < (n : Int) := by omega
 go_enter SqP.func8, Tryz.ntmps8
 go_wp2
 go_ret
 exact ⟨rfl, Below.refl _ _⟩
theorem picTimes_big2 (a : Option Addr) (n cap : Nat) (f : Nat -> Int) (a' : Option Addr) (n' cap' : Nat) (f' : Nat -> Int) (w : World) (h : BytesAt w a n f) (hm : n <= cap /\ cap <= 9223372036854775807) (h' : BytesAt w a' n' f') (hm' : n' <= cap' /\ cap' <= 9223372036854775807) (hsm : n <= 1048576) (hbig : 1048576 < n') :
  Calls SqP.prog 8 #[.slice a n cap, .slice a' n' cap'] w fun e w' => e = .returned (.bool true) /\ Below w.heap.size w w' := by
 have hb : (n : Int) <= 1048576 := by omega
 have hb' : (1048576 : Int) < (n' : Int) := by omega
 go_enter SqP.func8, Tryz.ntmps8
 go_wp2
 go_ret
 exact ⟨rfl, Below.refl _ _⟩
set_option maxRecDepth 100000 in
theorem picTimes_small (a : Option Addr) (n cap : Nat) (f : Nat -> Int) (a' : Option Addr) (n' cap' : Nat) (f' : Nat -> Int) (w : World) (h : BytesAt w a n f) (hm : n <= cap /\ cap <= 9223372036854775807) (h' : BytesAt w a' n' f') (hm' : n' <= cap' /\ cap' <= 9223372036854775807) (hsm : n <= 1048576) (hsm' : n' <= 1048576) :
  Calls SqP.prog 8 #[.slice a n cap, .slice a' n' cap'] w fun e w' => e = .returned (.bool true) /\ Below w.heap.size w w' := by
 have hb : (n : Int) <= 1048576 := by omega
 have hb' : (n' : Int) <= 1048576 := by omega
 go_enter SqP.func8, Tryz.ntmps8
 go_wp2_with fail
 refine (drawPicOf_any a n cap f w h hsm hm.1 hm.2).mono ?_
 rintro e w1 ⟨wd, a1, c1, cs, rfl, hC1, hl1, hb_w1⟩
 have hz_w1 := hb_w1.size
 have hbS1 : Below w1.heap.size w1 (w1.alloc (.cells #[.int .i64 wd, .slice a1 cs.length c1] 25)) := bel
 replace hC1 := hC1.below hbS1
 have g0 : (w1.alloc (.cells #[.int .i64 wd, .slice a1 cs.length c1] 25)).cell? ⟨w1.heap.size, 0, none⟩ = some (.int .i64 wd) := by simp [go_sem]
 have g1 : (w1.alloc (.cells #[.int .i64 wd, .slice a1 cs.length c1] 25)).cell? ⟨w1.heap.size, 1, none⟩ = some (.slice a1 cs.length c1) := by simp [go_sem]
 have hBs1 := bcall hb_w1 (by omega) hbS1
 clear hb_w1 hbS1
 obtain ⟨ps, hps⟩ : ∃ ps, picN wd cs = ps := ⟨_, rfl⟩
 have hpl : ps.length = (manyG wd cs).toNat := by rw [<- hps]; unfold picN; rw [picK_len]
 have hpv : ∀ k, k < ps.length -> ps.getD k 0 = lightN wd cs (k : Int) := by
  intro k hk
  have hk' : k < (manyG wd cs).toNat := by omega
  rw [<- hps]
  unfold picN picK
  simp [List.getD, hk']
 have hmn : 0 <= manyG wd cs /\ manyG wd cs <= 20 := by
  rcases hk : okG wd cs with _ | _
  ·rw [manyG_bad hk]; omega
  ·obtain ⟨W, H, rfl, h1, h2, h3, h4, el, hH, hHI⟩ := okG_nat wd cs hk
   rw [manyG_ok hk hHI]; omega
 have hpm : (ps.length : Int) = manyG wd cs := by omega
 have hp20 : ps.length <= 20 := by omega
 have EP : Hid (picN wd cs = ps) := hps
 have HPV : Hid (∀ k, k < ps.length -> ps.getD k 0 = lightN wd cs (k : Int)) := hpv
 have EM : Hid ((ps.length : Int) = manyG wd cs) := hpm
 clear hps hpl hpv hmn hpm
 go_wp2_with fail
 refine (implPicOf_any wd a1 c1 cs _ hC1 (by omega)).mono ?_
 rintro e w2 ⟨a2, c2, rfl, hR2, hb_w2⟩
 rw [EP.out] at hR2 ⊢
 have hz_w2 := hb_w2.size
 simp at hz_w2
 replace g0 := keepc hb_w2 g0; replace g1 := keepc hb_w2 g1
 replace hC1 := hC1.below hb_w2
 have hB_w2 := bcall hBs1 (by first | omega | (simp; omega)) hb_w2
 clear hBs1 hb_w2
 go_wp2_with fail
 refine (specPicOf_any wd a1 c1 cs _ hC1 (by omega)).mono ?_
 rintro e w3 ⟨v3, rfl, hO3, hb_w3⟩
 rw [EP.out] at hO3
 obtain ⟨a3, c3, rfl, hR3⟩ := row1_at hO3
 have hz_w3 := hb_w3.size
 replace g0 := keepc hb_w3 g0; replace g1 := keepc hb_w3 g1
 replace hC1 := hC1.below hb_w3
 replace hR2 := hR2.below hb_w3
 have hB_w3 := bcall hB_w2 (by omega) hb_w3
 clear hB_w2 hb_w3 hO3
 go_wp2_with fail
 refine (llInts_same a2 a3 c2 c3 ps _ hR2 hR3 (by omega)).mono ?_
 rintro e w4 ⟨rfl, hb_w4⟩
 have hz_w4 := hb_w4.size
 replace g0 := keepc hb_w4 g0; replace g1 := keepc hb_w4 g1
 replace hC1 := hC1.below hb_w4
 replace hR2 := hR2.below hb_w4
 have hB_w4 := bcall hB_w3 (by omega) hb_w4
 clear hB_w3 hb_w4 hR3
 go_wp2_with fail
 refine (specGridOk_any wd a1 c1 cs _ hC1 (by omega)).mono ?_
 rintro e w5 ⟨rfl, hb_w5⟩
 have hz_w5 := hb_w5.size
 replace g0 := keepc hb_w5 g0; replace g1 := keepc hb_w5 g1
 replace hC1 := hC1.below hb_w5
 replace hR2 := hR2.below hb_w5
 have hB_w5 := bcall hB_w4 (by omega) hb_w5
 clear hB_w4 hb_w5
 rcases hk : okG wd cs with _ | _
 ·clear hk
  go_wp2_with fail
  refine (specPicOf_any wd a1 c1 cs _ hC1 (by omega)).mono ?_
  rintro e w6 ⟨v6, rfl, hO6, hb_w6⟩
  rw [EP.out] at hO6
  obtain ⟨a6, c6, rfl, hR6⟩ := row1_at hO6
  replace hR2 := hR2.below hb_w6
  have hB_w6 := bcall hB_w5 (by omega) hb_w6
  clear hB_w5 hO6
  go_wp2_with fail
  refine (llInts_same a2 a6 c2 c6 ps _ hR2 hR6 (by omega)).mono ?_
  rintro e w7 ⟨rfl, hb_w7⟩
  have hB_w7 := bcall hB_w6 (by have := hb_w6.size; omega) hb_w7
  go_wp2_with fail
  go_ret
  exact ⟨rfl, hB_w7⟩
 ·obtain ⟨r, hr⟩ : ∃ r : Nat, n' % 9 = r := ⟨_, rfl⟩
  have hr9 : r < 9 := by omega
  have et : ((n' : Int)).tmod 9 = (r : Int) := by rw [Int.tmod_eq_emod_of_nonneg (by omega)]; omega
  have wt1 : IntKind.i64.wrap (r : Int) = (r : Int) := IntWalk.i64_in _ (by omega)
  have wt2 : IntKind.i64.wrap (1 + (r : Int)) = 1 + (r : Int) := IntWalk.i64_in _ (by omega)
  obtain ⟨hq1, hqt, hqk⟩ := times_pics hk (1 + (r : Int)) (by omega)
  obtain ⟨os, hos⟩ : ∃ os, picN wd (updC (lampL 1) cs cs.length) = os := ⟨_, rfl⟩
  obtain ⟨ms, hms⟩ : ∃ ms, picN wd (updC (lampL (1 + (r : Int))) cs cs.length) = ms := ⟨_, rfl⟩
  rw [hos, EP.out] at hq1
  rw [hms, EP.out] at hqt
  simp only [hos, hms, EP.out] at hqk
  have EO : Hid (picN wd (updC (lampL 1) cs cs.length) = os) := hos
  have EMs : Hid (picN wd (updC (lampL (1 + (r : Int))) cs cs.length) = ms) := hms
  have LO : Hid (os.length = ps.length) := hq1
  have LM : Hid (ms.length = ps.length) := hqt
  have HQ : Hid (∀ k, k < ps.length -> ∃ x y : Int, os.getD k 0 = x /\ ms.getD k 0 = x * (1 + (r : Int)) /\ ps.getD k 0 = y /\ x <= y /\ 0 <= x /\ x * (1 + (r : Int)) <= 576) := hqk
  have L1 : 0 < cs.length := by
   have := okG_lenD wd cs hk
   omega
  clear hq1 hqt hqk hos hms hk hr
  have g05 := g0
  have g15 := g1
  have hC5 := hC1
  have hR5 := hR2
  have hB5 := hB_w5
  obtain ⟨i0, hi, iz0, iz1, iz2⟩ := info_parts infoCell
  have hCa := hC1
  rcases hC1 with q | ⟨b1, of1, rfl, hlb1, hc1⟩
  ·rw [q] at L1; simp at L1
  have src1 := srcX_of hc1
  have E1 := own_emptyX w5 w5.heap.size (Nat.le_refl _)
  have B1 : Below w5.heap.size w5 (w5.alloc (.cells #[] 38)) := bel
  have E3 := E1.alloc (.cells #[.int .i64 0, .slice none 0 0] 25)
  have B3 : Below w5.heap.size w5 ((w5.alloc (.cells #[] 38)).alloc (.cells #[.int .i64 0, .slice none 0 0] 25)) := bel
  have E4 := own_emptyX (w5.alloc (.cells #[.int .i64 0, .slice none 0 0] 25)) w5.heap.size (by simp)
  simp only [World.size_alloc] at E4
  have B4 : Below w5.heap.size w5 ((w5.alloc (.cells #[.int .i64 0, .slice none 0 0] 25)).alloc (.cells #[] 38)) := bel
  have B5 : Below w5.heap.size w5 (w5.alloc (.cells #[.int .i64 0, .slice none 0 0] 25)) := bel
  clear hc1
  go_wp2
  go_cut [8] (fun s9 wc => ∃ (blk : Nat), s9 = .pointer (some ⟨blk, 0, none⟩) /\ BoxX wc w5.heap.size blk wd cs /\ Below w5.heap.size w5 wc /\ w5.heap.size <= blk)
  case first =>
   go_region_held_law (fun w' => w'.cell? ⟨w1.heap.size, 0, none⟩ = some (.int .i64 wd) /\ w'.cell? ⟨w1.heap.size, 1, none⟩ = some (.slice (some ⟨b1, of1, none⟩) cs.length c1))
    (first
     | exact ⟨keepc hb6 g0, keepc hb6 g1⟩
     | exact ⟨keepc (hb6.alloc hb6.size _) g0, keepc (hb6.alloc hb6.size _) g1⟩
     | exact ⟨setc (by omega) (setc (by omega) (keepc hb6 g0)), setc (by omega) (setc (by omega) (keepc hb6 g1))⟩
     | exact ⟨keepc B1 g0, keepc B1 g1⟩
     | exact ⟨keepc B3 g0, keepc B3 g1⟩
     | exact ⟨keepc B4 g0, keepc B4 g1⟩
     | exact ⟨keepc B5 g0, keepc B5 g1⟩
     | go_keep)
    (first
     | (refine step_append_lies _ (by rfl) _ _ _ (by rfl) w5.heap.size 38 i0 (.agg #[.int .i64 0, .int .i64 0]) 2 16 SqP.underlying23 hi iz0 iz1 iz2 rfl (by omega) (.slice (some ⟨w5.heap.size, 0, none⟩) 0 0) 0 [] (by rfl) (by first | exact E1 | exact E1.drew) ⟨b1, of1, none⟩ cs.length c1 (flat cs) (by rfl) (flat_len cs) (by first | exact src1.below (B1) hlb1 | exact src1.below (B1).drew hlb1) (flat_oneX cs) (by omega) (by unfold maxLen; omega) (by omega) (by first | (simp; done) | (simp; omega)) (w5.heap.size + 1) (by first | (simp; done) | (simp; omega)) ?_; intro g6 k6 v6 hO6 hg6 hat6 hlt6; have hb6 : Below w5.heap.size w5 v6 := Below.grown (by first | exact (B1) | exact (B1).drew) hg6 (by first | (simp; done) | (simp; omega)) (fun k hk => by simp [Value.ownBlock] at hk; omega); have hz6 := hg6.size; simp at hz6; have hOw := own_firstX hO6; have zh := hb6.size; skip)
     | (refine step_append_lies _ (by rfl) _ _ _ (by rfl) w5.heap.size 38 i0 (.agg #[.int .i64 0, .int .i64 0]) 2 16 SqP.underlying23 hi iz0 iz1 iz2 rfl (by omega) (.slice (some ⟨w5.heap.size, 0, none⟩) 0 0) 0 [] (by rfl) (by first | exact E3 | exact E3.drew) ⟨b1, of1, none⟩ cs.length c1 (flat cs) (by rfl) (flat_len cs) (by first | exact src1.below (B3) hlb1 | exact src1.below (B3).drew hlb1) (flat_oneX cs) (by omega) (by unfold maxLen; omega) (by omega) (by first | (simp; done) | (simp; omega)) (w5.heap.size + 1 + 1) (by first | (simp; done) | (simp; omega)) ?_; intro g6 k6 v6 hO6 hg6 hat6 hlt6; have hb6 : Below w5.heap.size w5 v6 := Below.grown (by first | exact (B3) | exact (B3).drew) hg6 (by first | (simp; done) | (simp; omega)) (fun k hk => by simp [Value.ownBlock] at hk; omega); have hz6 := hg6.size; simp at hz6; have hOw := own_firstX hO6; have zh := hb6.size; have z0 : v6.cell? ⟨w5.heap.size + 1, 0, none⟩ = some (.int .i64 0) := gcell (rb := w5.heap.size) hg6 (by omega) (by simp [go_sem]); have z1 : v6.cell? ⟨w5.heap.size + 1, 1, none⟩ = some (.slice none 0 0) := gcell (rb := w5.heap.size) hg6 (by omega) (by simp [go_sem]); have zf0 : v6.frozen? ⟨w5.heap.size + 1, 0, none⟩ = false := gfroz (rb := w5.heap.size) hg6 (by omega) (v := .int .i64 0) (by simp [go_sem]) (by simp [go_sem]); have zf1 : v6.frozen? ⟨w5.heap.size + 1, 1, none⟩ = false := gfroz (rb := w5.heap.size) hg6 (by omega) (v := .slice none 0 0) (by simp [go_sem]) (by simp [go_sem]); have zb7 : g6 ≠ w5.heap.size + 1 := (by rcases hat6 with q | q; (simp [Value.ownBlock] at q; omega); omega))
     | (refine step_append_lies _ (by rfl) _ _ _ (by rfl) w5.heap.size 38 i0 (.agg #[.int .i64 0, .int .i64 0]) 2 16 SqP.underlying23 hi iz0 iz1 iz2 rfl (by omega) (.slice (some ⟨w5.heap.size + 1, 0, none⟩) 0 0) 0 [] (by rfl) (by first | exact E4 | exact E4.drew) ⟨b1, of1, none⟩ cs.length c1 (flat cs) (by rfl) (flat_len cs) (by first | exact src1.below (B4) hlb1 | exact src1.below (B4).drew hlb1) (flat_oneX cs) (by omega) (by unfold maxLen; omega) (by omega) (by first | (simp; done) | (simp; omega)) (w5.heap.size + 1 + 1) (by first | (simp; done) | (simp; omega)) ?_; intro g6 k6 v6 hO6 hg6 hat6 hlt6; have hb6 : Below w5.heap.size w5 v6 := Below.grown (by first | exact (B4) | exact (B4).drew) hg6 (by first | (simp; done) | (simp; omega)) (fun k hk => by simp [Value.ownBlock] at hk; omega); have hz6 := hg6.size; simp at hz6; have hOw := own_firstX hO6; have zh := hb6.size; have z0 : v6.cell? ⟨w5.heap.size, 0, none⟩ = some (.int .i64 0) := gcell (rb := w5.heap.size + 1) hg6 (by omega) (by simp [go_sem]); have z1 : v6.cell? ⟨w5.heap.size, 1, none⟩ = some (.slice none 0 0) := gcell (rb := w5.heap.size + 1) hg6 (by omega) (by simp [go_sem]); have zf0 : v6.frozen? ⟨w5.heap.size, 0, none⟩ = false := gfroz (rb := w5.heap.size + 1) hg6 (by omega) (v := .int .i64 0) (by simp [go_sem]) (by simp [go_sem]); have zf1 : v6.frozen? ⟨w5.heap.size, 1, none⟩ = false := gfroz (rb := w5.heap.size + 1) hg6 (by omega) (v := .slice none 0 0) (by simp [go_sem]) (by simp [go_sem]); have zb8 : g6 ≠ w5.heap.size := (by rcases hat6 with q | q; (simp [Value.ownBlock] at q; omega); omega))
     | fail)
   all_goals
    first
     | (have hbox := boxX_new hb6 hOw wd
        go_wp2_with fail
        go_meet
        case rel => exact ⟨_, rfl, hbox.1, hbox.2, by first | exact zh | omega⟩)
     | (have hbox := boxX_set hb6 (by omega) hOw zb7 z0 z1 wd
        go_wp2_with fail
        go_meet
        case rel => exact ⟨_, rfl, hbox.1, hbox.2, by first | exact zh | omega⟩)
     | (have hbox := boxX_set hb6 (by omega) hOw zb8 z0 z1 wd
        go_wp2_with fail
        go_meet
        case rel => exact ⟨_, rfl, hbox.1, hbox.2, by first | exact zh | omega⟩)
  case rest =>
   rename World => w6
   obtain ⟨blk, rfl, ⟨gx, cx, hblk, x0, x1, hOx, hgb, hgx⟩, hb9, hbk⟩ := hcut
   replace g0 := keepc hb9 g0; replace g1 := keepc hb9 g1
   have hz9 := hb9.size
   have HB9 := bcall hB_w5 hB_w5.size hb9
   clear hB_w5
   have hC6 := hCa.below hb9
   have hR6 := hR2.below hb9
   have hOx6 := hOx
   have lt_g : gx < w6.heap.size := (own_geX hOx).2
   have L2 := L1
   clear hR2 hCa src1 E1 B1 E3 B3 E4 B4 B5
   have hCa := hC6
   rcases hC6 with q | ⟨b1q, of1q, eq1, hlb1, hc1⟩
   ·rw [q] at L2; simp at L2
   simp only [Option.some.injEq, Addr.mk.injEq, and_true] at eq1
   obtain ⟨rfl, rfl⟩ := eq1
   have src1 := srcX_of hc1
   have E1 := own_emptyX w6 w6.heap.size (Nat.le_refl _)
   have B1 : Below w6.heap.size w6 (w6.alloc (.cells #[] 38)) := bel
   have E3 := E1.alloc (.cells #[.int .i64 0, .slice none 0 0] 25)
   have B3 : Below w6.heap.size w6 ((w6.alloc (.cells #[] 38)).alloc (.cells #[.int .i64 0, .slice none 0 0] 25)) := bel
   have E4 := own_emptyX (w6.alloc (.cells #[.int .i64 0, .slice none 0 0] 25)) w6.heap.size (by simp)
   simp only [World.size_alloc] at E4
   have B4 : Below w6.heap.size w6 ((w6.alloc (.cells #[.int .i64 0, .slice none 0 0] 25)).alloc (.cells #[] 38)) := bel
   have B5 : Below w6.heap.size w6 (w6.alloc (.cells #[.int .i64 0, .slice none 0 0] 25)) := bel
   clear hc1
   go_wp2
   go_cut [9] (fun s9 wc => ∃ (blk : Nat), s9 = .pointer (some ⟨blk, 0, none⟩) /\ BoxX wc w6.heap.size blk wd cs /\ Below w6.heap.size w6 wc /\ w6.heap.size <= blk)
   case first =>
    go_region_held_law (fun w' => w'.cell? ⟨w1.heap.size, 0, none⟩ = some (.int .i64 wd) /\ w'.cell? ⟨w1.heap.size, 1, none⟩ = some (.slice (some ⟨b1, of1, none⟩) cs.length c1))
     (first
      | exact ⟨keepc hb6 g0, keepc hb6 g1⟩
      | exact ⟨keepc (hb6.alloc hb6.size _) g0, keepc (hb6.alloc hb6.size _) g1⟩
      | exact ⟨setc (by omega) (setc (by omega) (keepc hb6 g0)), setc (by omega) (setc (by omega) (keepc hb6 g1))⟩
      | exact ⟨keepc B1 g0, keepc B1 g1⟩
      | exact ⟨keepc B3 g0, keepc B3 g1⟩
      | exact ⟨keepc B4 g0, keepc B4 g1⟩
      | exact ⟨keepc B5 g0, keepc B5 g1⟩
      | go_keep)
     (first
      | (refine step_append_lies _ (by rfl) _ _ _ (by rfl) w6.heap.size 38 i0 (.agg #[.int .i64 0, .int .i64 0]) 2 16 SqP.underlying23 hi iz0 iz1 iz2 rfl (by omega) (.slice (some ⟨w6.heap.size, 0, none⟩) 0 0) 0 [] (by rfl) (by first | exact E1 | exact E1.drew) ⟨b1, of1, none⟩ cs.length c1 (flat cs) (by rfl) (flat_len cs) (by first | exact src1.below (B1) hlb1 | exact src1.below (B1).drew hlb1) (flat_oneX cs) (by omega) (by unfold maxLen; omega) (by omega) (by first | (simp; done) | (simp; omega)) (w6.heap.size + 1) (by first | (simp; done) | (simp; omega)) ?_; intro g6 k6 v6 hO6 hg6 hat6 hlt6; have hb6 : Below w6.heap.size w6 v6 := Below.grown (by first | exact (B1) | exact (B1).drew) hg6 (by first | (simp; done) | (simp; omega)) (fun k hk => by simp [Value.ownBlock] at hk; omega); have hz6 := hg6.size; simp at hz6; have hOw := own_firstX hO6; have zh := hb6.size; skip)
      | (refine step_append_lies _ (by rfl) _ _ _ (by rfl) w6.heap.size 38 i0 (.agg #[.int .i64 0, .int .i64 0]) 2 16 SqP.underlying23 hi iz0 iz1 iz2 rfl (by omega) (.slice (some ⟨w6.heap.size, 0, none⟩) 0 0) 0 [] (by rfl) (by first | exact E3 | exact E3.drew) ⟨b1, of1, none⟩ cs.length c1 (flat cs) (by rfl) (flat_len cs) (by first | exact src1.below (B3) hlb1 | exact src1.below (B3).drew hlb1) (flat_oneX cs) (by omega) (by unfold maxLen; omega) (by omega) (by first | (simp; done) | (simp; omega)) (w6.heap.size + 1 + 1) (by first | (simp; done) | (simp; omega)) ?_; intro g6 k6 v6 hO6 hg6 hat6 hlt6; have hb6 : Below w6.heap.size w6 v6 := Below.grown (by first | exact (B3) | exact (B3).drew) hg6 (by first | (simp; done) | (simp; omega)) (fun k hk => by simp [Value.ownBlock] at hk; omega); have hz6 := hg6.size; simp at hz6; have hOw := own_firstX hO6; have zh := hb6.size; have z0 : v6.cell? ⟨w6.heap.size + 1, 0, none⟩ = some (.int .i64 0) := gcell (rb := w6.heap.size) hg6 (by omega) (by simp [go_sem]); have z1 : v6.cell? ⟨w6.heap.size + 1, 1, none⟩ = some (.slice none 0 0) := gcell (rb := w6.heap.size) hg6 (by omega) (by simp [go_sem]); have zf0 : v6.frozen? ⟨w6.heap.size + 1, 0, none⟩ = false := gfroz (rb := w6.heap.size) hg6 (by omega) (v := .int .i64 0) (by simp [go_sem]) (by simp [go_sem]); have zf1 : v6.frozen? ⟨w6.heap.size + 1, 1, none⟩ = false := gfroz (rb := w6.heap.size) hg6 (by omega) (v := .slice none 0 0) (by simp [go_sem]) (by simp [go_sem]); have zb7 : g6 ≠ w6.heap.size + 1 := (by rcases hat6 with q | q; (simp [Value.ownBlock] at q; omega); omega))
      | (refine step_append_lies _ (by rfl) _ _ _ (by rfl) w6.heap.size 38 i0 (.agg #[.int .i64 0, .int .i64 0]) 2 16 SqP.underlying23 hi iz0 iz1 iz2 rfl (by omega) (.slice (some ⟨w6.heap.size + 1, 0, none⟩) 0 0) 0 [] (by rfl) (by first | exact E4 | exact E4.drew) ⟨b1, of1, none⟩ cs.length c1 (flat cs) (by rfl) (flat_len cs) (by first | exact src1.below (B4) hlb1 | exact src1.below (B4).drew hlb1) (flat_oneX cs) (by omega) (by unfold maxLen; omega) (by omega) (by first | (simp; done) | (simp; omega)) (w6.heap.size + 1 + 1) (by first | (simp; done) | (simp; omega)) ?_; intro g6 k6 v6 hO6 hg6 hat6 hlt6; have hb6 : Below w6.heap.size w6 v6 := Below.grown (by first | exact (B4) | exact (B4).drew) hg6 (by first | (simp; done) | (simp; omega)) (fun k hk => by simp [Value.ownBlock] at hk; omega); have hz6 := hg6.size; simp at hz6; have hOw := own_firstX hO6; have zh := hb6.size; have z0 : v6.cell? ⟨w6.heap.size, 0, none⟩ = some (.int .i64 0) := gcell (rb := w6.heap.size + 1) hg6 (by omega) (by simp [go_sem]); have z1 : v6.cell? ⟨w6.heap.size, 1, none⟩ = some (.slice none 0 0) := gcell (rb := w6.heap.size + 1) hg6 (by omega) (by simp [go_sem]); have zf0 : v6.frozen? ⟨w6.heap.size, 0, none⟩ = false := gfroz (rb := w6.heap.size + 1) hg6 (by omega) (v := .int .i64 0) (by simp [go_sem]) (by simp [go_sem]); have zf1 : v6.frozen? ⟨w6.heap.size, 1, none⟩ = false := gfroz (rb := w6.heap.size + 1) hg6 (by omega) (v := .slice none 0 0) (by simp [go_sem]) (by simp [go_sem]); have zb8 : g6 ≠ w6.heap.size := (by rcases hat6 with q | q; (simp [Value.ownBlock] at q; omega); omega))
      | fail)
    all_goals
     first
      | (have hbox := boxX_new hb6 hOw wd
         go_wp2_with fail
         go_meet
         case rel => exact ⟨_, rfl, hbox.1, hbox.2, by first | exact zh | omega⟩)
      | (have hbox := boxX_set hb6 (by omega) hOw zb7 z0 z1 wd
         go_wp2_with fail
         go_meet
         case rel => exact ⟨_, rfl, hbox.1, hbox.2, by first | exact zh | omega⟩)
      | (have hbox := boxX_set hb6 (by omega) hOw zb8 z0 z1 wd
         go_wp2_with fail
         go_meet
         case rel => exact ⟨_, rfl, hbox.1, hbox.2, by first | exact zh | omega⟩)
   case rest =>
    rename World => w7
    obtain ⟨bly, rfl, ⟨gy, cy, hbly, y0, y1, hOy, hyb, hgy⟩, hb8, hby⟩ := hcut
    replace g0 := keepc hb8 g0; replace g1 := keepc hb8 g1
    have hz8 := hb8.size
    have HB8 := bcall HB9 HB9.size hb8
    have hCz := hCa.below hb8
    have hRz := hR6.below hb8
    have x0z := keepc hb8 x0
    have x1z := keepc hb8 x1
    have hOxz := hOx.below hb8
    have hblkz : blk < w7.heap.size := by omega
    have n1 : ¬ gx = gy := by omega
    have n2 : ¬ bly = gx := by omega
    have n3 : ¬ blk = gy := by omega
    have n4 : ¬ blk = gx := fun e => hgb e.symm
    have n5 : ¬ bly = gy := fun e => hyb e.symm
    have hW5 : w5.heap.size <= gy := by omega
    have bz : Below w5.heap.size w5 w7 := bcall hb9 hb9.size hb8
    have g0a := g0
    have g1a := g1
    clear hb8 hCa hR6 x0 x1 hOx src1 E1 B1 E3 B3 E4 B4 B5
    go_wp2_with fail
    go_loopw [10] (fun ii wr => ∃ i : Nat, i <= cs.length /\ ii = .int .i64 i /\ Own wr w5.heap.size (.slice (some ⟨gx, 0, none⟩) cs.length cx) (updC (lampL 1) cs i) /\ Own wr w6.heap.size (.slice (some ⟨gy, 0, none⟩) cs.length cy) (updC (lampL (1 + (r : Int))) cs i) /\ (wr.cell? ⟨blk, 0, none⟩ = some (.int .i64 wd) /\ wr.cell? ⟨blk, 1, none⟩ = some (.slice (some ⟨gx, 0, none⟩) cs.length cx)) /\ (wr.cell? ⟨bly, 0, none⟩ = some (.int .i64 wd) /\ wr.cell? ⟨bly, 1, none⟩ = some (.slice (some ⟨gy, 0, none⟩) cs.length cy)) /\ Below w5.heap.size w5 wr) (fun ii _ => cs.length - (intOf ii).toNat)
    case atStart => exact ⟨0, Nat.zero_le _, rfl, by rw [updC_zero]; exact hOxz, by rw [updC_zero]; exact hOy, ⟨x0z, x1z⟩, ⟨y0, y1⟩, bz⟩
    case round =>
     clear hCz hRz x0z x1z hOxz y0 y1 hOy bz hz8 hz9 hbly hblk hblkz HB8 HB9
     rename World => wo
     obtain ⟨i, hii, rfl, hX, hY, ⟨x0, x1⟩, ⟨y0, y1⟩, hbo⟩ := hrel
     have g0o := keepc hbo g05
     have g1o := keepc hbo g15
     have hCo := hC5.below hbo
     by_cases hlt : i < cs.length
     ·have hltI : (i : Int) < (cs.length : Int) := by omega
      rcases hCo with q | ⟨b', o', e, hl', hc'⟩
      ·rw [q] at L2; simp at L2
      simp only [Option.some.injEq, Addr.mk.injEq, and_true] at e
      obtain ⟨rfl, rfl⟩ := e
      have s0 := (hc' i hlt).1
      obtain ⟨z0, z1, f0, f1⟩ := hX.cell (updC_len _ _ _) i hlt
      obtain ⟨u0, u1, v0, v1⟩ := hY.cell (updC_len _ _ _) i hlt
      have hsX := hX.setL (updC_len _ _ _) i 1 hlt
      have hsY := hY.setL (updC_len _ _ _) i (1 + (r : Int)) hlt
      rw [updC_at _ _ _ hlt, if_neg (Nat.lt_irrefl i)] at z0 z1 u0 u1 hsX hsY
      obtain ⟨c, ec⟩ : ∃ c, cs.getD i (0, 0) = c := ⟨_, rfl⟩
      rw [ec] at z0 z1 u0 u1 s0 hsX hsY
      by_cases h7 : c.1 = 7
      ·have hp1 : (updC (lampL 1) cs i).set i (c.1, 1) = updC (lampL 1) cs (i + 1) := by
        rw [<- updC_set (lampL 1) cs hlt, ec]
        unfold lampL
        rw [if_pos h7, h7]
       have hpt : (updC (lampL (1 + (r : Int))) cs i).set i (c.1, 1 + (r : Int)) = updC (lampL (1 + (r : Int))) cs (i + 1) := by
        rw [<- updC_set (lampL (1 + (r : Int))) cs hlt, ec]
        unfold lampL
        rw [if_pos h7, h7]
       rw [hp1] at hsX
       rw [hpt] at hsY
       rw [h7] at s0
       have hX2 := ownOther (p := ⟨gy, i * 2 + 1, none⟩) hsX n1 (.int .i64 (1 + (r : Int)))
       have hY2 : Own ((wo.setCell ⟨gx, i * 2 + 1, none⟩ (.int .i64 1)).setCell ⟨gy, i * 2 + 1, none⟩ (.int .i64 (1 + (r : Int)))) w6.heap.size (.slice (some ⟨gy, 0, none⟩) cs.length cy) (updC (lampL (1 + (r : Int))) cs (i + 1)) := by
        have q := ownOther (p := ⟨gx, i * 2 + 1, none⟩) hY (fun e => n1 e.symm) (.int .i64 1)
        have q2 := q.setL (updC_len _ _ _) i (1 + (r : Int)) hlt
        rw [updC_at _ _ _ hlt, if_neg (Nat.lt_irrefl i), ec, hpt] at q2
        exact q2
       have k1 : (wo.setCell ⟨gx, i * 2 + 1, none⟩ (.int .i64 1)).cell? ⟨bly, 1, none⟩ = some (.slice (some ⟨gy, 0, none⟩) cs.length cy) := setc n2 y1
       clear ec h7 hp1 hpt hX hY hsX hsY z0 u0 f0 v0 hc'
       go_wp2_with fail
       go_roundw
       case rel => exact ⟨i + 1, by omega, by go_num, hX2, hY2, ⟨setc n3 (setc n4 x0), setc n3 (setc n4 x1)⟩, ⟨setc n5 (setc n2 y0), setc n5 (setc n2 y1)⟩, (hbo.setCell (p := ⟨gx, _, none⟩) (by show w5.heap.size <= gx; omega) _).setCell (p := ⟨gy, _, none⟩) hW5 _⟩
       case measure => simp [intOf]; omega
      ·have hp1 : updC (lampL 1) cs i = updC (lampL 1) cs (i + 1) := updC_same _ cs hlt (by rw [ec]; unfold lampL; rw [if_neg h7])
       have hpt : updC (lampL (1 + (r : Int))) cs i = updC (lampL (1 + (r : Int))) cs (i + 1) := updC_same _ cs hlt (by rw [ec]; unfold lampL; rw [if_neg h7])
       rw [hp1] at hX
       rw [hpt] at hY
       have b7 : (c.1 == 7) = false := by simp [h7]
       clear ec h7 hp1 hpt hsX hsY z0 z1 u0 u1 f0 f1 v0 v1 hc'
       go_wp2_with fail
       go_roundw
       case rel => exact ⟨i + 1, by omega, by go_num, hX, hY, ⟨x0, x1⟩, ⟨y0, y1⟩, hbo⟩
       case measure => simp [intOf]; omega
     ·have hic : i = cs.length := by omega
      subst hic
      have hnl : ¬ (cs.length : Int) < (cs.length : Int) := by omega
      have hCx : CellsAt wo (some ⟨gx, 0, none⟩) (updC (lampL 1) cs cs.length) := own_cellsD (cap := cx) (by rw [updC_len]; exact hX)
      have hCy : CellsAt wo (some ⟨gy, 0, none⟩) (updC (lampL (1 + (r : Int))) cs cs.length) := own_cellsD (cap := cy) (by rw [updC_len]; exact hY)
      have hRo := hR5.below hbo
      have hBo := bcall hB5 hB5.size hbo
      have hl1' : (updC (lampL 1) cs cs.length).length < 4611686018427387904 := by rw [updC_len]; omega
      have hlt' : (updC (lampL (1 + (r : Int))) cs cs.length).length < 4611686018427387904 := by rw [updC_len]; omega
      have bq : ((ps.length : Int) != (ps.length : Int)) = false := by simp
      clear hX hY hCo hbo
      go_wp2_with fail
      refine (implPicM EO.out (some ⟨gx, 0, none⟩) cx _ hCx hl1' cs.length ps.length (updC_len _ _ _) LO.out).mono ?_
      rintro e wa ⟨aa, ca, rfl, hRa, hba⟩
      have y0a := keepc hba y0
      have y1a := keepc hba y1
      have hRo2 := hRo.below hba
      have hCy2 := hCy.below hba
      have hBa := bcall hBo hBo.size hba
      clear hba hRo hCy hBo x0 x1 y0 y1
      go_wp2_with fail
      refine (implPicM EMs.out (some ⟨gy, 0, none⟩) cy _ hCy2 hlt' cs.length ps.length (updC_len _ _ _) LM.out).mono ?_
      rintro e wb ⟨ab, cb, rfl, hRb, hbb⟩
      have hRa2 := hRa.below hbb
      have hRo3 := hRo2.below hbb
      have hBb := bcall hBa hBa.size hbb
      clear hbb hRa hRo2 hBa y0a y1a hCx hCy2
      go_wp2_with fail
      go_loopw [13] (fun kk wr => ∃ k : Nat, k <= ps.length /\ kk = .int .i64 k /\ Below wb.heap.size wb wr) (fun kk _ => ps.length - (intOf kk).toNat)
      case atStart => exact ⟨0, Nat.zero_le _, rfl, Below.refl _ _⟩
      case round =>
       rename World => wp
       obtain ⟨k, hk, rfl, hbp⟩ := hrel
       by_cases hlt : k < ps.length
       ·have bl : decide ((k : Int) < (ps.length : Int)) = true := decide_eq_true (by omega)
        have hltI : (k : Int) < (ps.length : Int) := by omega
        have wk : IntKind.i64.wrap ((k : Int) + 1) = (k : Int) + 1 := IntWalk.i64_in _ (by omega)
        obtain ⟨x, y, ex, em, ey, hxy, hx0, hxm⟩ := HQ.out k hlt
        obtain ⟨b3, o3, rfl, _, q3⟩ := (hRa2.below hbp).at (show k < os.length by rw [LO.out]; exact hlt)
        obtain ⟨b4, o4, rfl, _, q4⟩ := (hRb.below hbp).at (show k < ms.length by rw [LM.out]; exact hlt)
        obtain ⟨b5, o5, rfl, _, q5⟩ := (hRo3.below hbp).at hlt
        rw [ex] at q3
        rw [em] at q4
        rw [ey] at q5
        have hm0 : 0 <= x * (1 + (r : Int)) := Int.mul_nonneg hx0 (by omega)
        obtain ⟨m, hm9⟩ : ∃ m, x * (1 + (r : Int)) = m := ⟨_, rfl⟩
        rw [hm9] at q4 hxm hm0
        have wm : IntKind.i64.wrap (x * (1 + (r : Int))) = m := by rw [hm9]; exact IntWalk.i64_in _ (by omega)
        have bn : (m != m) = false := by simp
        have d1 : decide (y < x) = false := decide_eq_false (by omega)
        clear hm9 ex em ey
        go_wp2_with fail
        go_quiet (fail)
        have hbz : Below wb.heap.size wb (wp.drewN nq) := ⟨hbp.os, hbp.tape, hbp.output, hbp.size, hbp.block⟩
        go_wp2_with fail
        go_roundw
        case rel => exact ⟨k + 1, by omega, by go_num, hbz⟩
        case measure => simp [intOf]; omega
       ·have bl : decide ((k : Int) < (ps.length : Int)) = false := decide_eq_false (by omega)
        have hBp := bcall hBb hBb.size hbp
        go_wp2_with fail
        go_ret
        exact ⟨rfl, hBp⟩
theorem picTimes_any (a : Option Addr) (n cap : Nat) (f : Nat -> Int) (a' : Option Addr) (n' cap' : Nat) (f' : Nat -> Int) (w : World) (h : BytesAt w a n f) (hm : n <= cap /\ cap <= 9223372036854775807) (h' : BytesAt w a' n' f') (hm' : n' <= cap' /\ cap' <= 9223372036854775807) :
  Calls SqP.prog 8 #[.slice a n cap, .slice a' n' cap'] w fun e w' => e = .returned (.bool true) /\ Below w.heap.size w w' := by
 by_cases hs : n <= 1048576
 ·by_cases hs' : n' <= 1048576
  ·exact picTimes_small a n cap f a' n' cap' f' w h hm h' hm' hs hs'
  ·exact picTimes_big2 a n cap f a' n' cap' f' w h hm h' hm' hs (by omega)
 ·exact picTimes_big a n cap f a' n' cap' f' w h hm h' hm' (by omega)
end Sp
end Go.Proofs.YtdhopelplokehaaGreat
