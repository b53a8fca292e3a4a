/- Of the proof: PGu -/
import Derived.Test.YtdhopelplokehaaGreatLBq
import Derived.Test.YtdhopelplokehaaGreatLBr
set_option maxHeartbeats 8000000
set_option linter.unusedVariables false
namespace Go.Proofs.YtdhopelplokehaaGreat
namespace Sp
open Go.RowKit
attribute [local go_sem ↓] Go.wp_at_zero Go.wp_at_succ
theorem picU_len (wd : Int) (cs : List (Int × Int)) : (picN wd cs).length = (manyG wd cs).toNat := by unfold picN; rw [picK_len]
theorem picU_at (wd : Int) (cs : List (Int × Int)) {k : Nat} (hk : k < (manyG wd cs).toNat) : (picN wd cs).getD k 0 = lightN wd cs (k : Int) := by
 unfold picN picK
 simp [List.getD, hk]
theorem one_pic {wd : Int} {cs : List (Int × Int)} (hok : okG wd cs = true) (A : Nat) :
  (picN wd (updC (oneL A) cs cs.length)).length = (picN wd cs).length /\ ∀ k, k < (picN wd cs).length -> (picN wd (updC (oneL A) cs cs.length)).getD k 0 = lightN wd (updC (oneL A) cs cs.length) (k : Int) := by
 have m1 : manyG wd (updC (oneL A) cs cs.length) = manyG wd cs := by unfold manyG; rw [oneL_ok A cs.length hok, hok, updC_len]
 refine ⟨by rw [picU_len, picU_len, m1], fun k hk => ?_⟩
 rw [picU_len] at hk
 exact picU_at _ _ (by rw [m1]; exact hk)
theorem implPicU {wd : Int} {cs : List (Int × Int)} {ps : List Int} (hv : picN wd cs = ps) (a : Option Addr) (cap : Nat) (w : World) (h : CellsAt w a cs) (hm : cs.length < 4611686018427387904) (m n : Nat) (hm2 : cs.length = m) (hn : ps.length = n) :
  Calls SqP.prog 12 #[.agg #[.int .i64 wd, .slice a m cap]] w fun e w' => ∃ a2 c2, e = .returned (.slice a2 n c2) /\ R1At w' a2 ps /\ (∀ b off, a2 = some ⟨b, off, none⟩ -> w.heap.size <= b) /\ Below w.heap.size w w' := by
 subst hv; subst hn; subst hm2
 rcases hk : okG wd cs with _ | _
 ·have e : picN wd cs = [] := by unfold picN; rw [manyG_bad hk]; rfl
  rw [e]
  exact (picNo_any wd a cap cs w h hm hk).mono fun e w' h => ⟨none, 0, h.1, .inl rfl, fun _ _ q => by simp at q, h.2⟩
 ·obtain ⟨W, H, rfl, h1, h2, h3, h4, el, hH, hHI⟩ := okG_nat wd cs hk
  have hM : manyG (W : Int) cs = ((2 * (W + H) : Nat) : Int) := by rw [manyG_ok hk hHI]; omega
  have hl : (picN (W : Int) cs).length = 2 * (W + H) := by rw [picU_len, hM]; rfl
  refine (picYes_any (W : Int) a cap cs w h hk (2 * (W + H)) hM).mono ?_
  rintro r w' ⟨g, rfl, hg, hgc, hb⟩
  refine ⟨_, _, by rw [hl], pic_row hM hgc, fun b off q => ?_, hb⟩
  simp only [Option.some.injEq, Addr.mk.injEq, and_true] at q
  omega
theorem R1At.set {w : World} {a : Option Addr} {xs : List Int} (h : R1At w a xs) {g j : Nat} (hne : ∀ b off, a = some ⟨b, off, none⟩ -> ¬ b = g) (u : Value) : R1At (w.setCell ⟨g, j, none⟩ u) a xs := by
 rcases h with h | ⟨b, off, rfl, hbl, hc⟩
 ·exact .inl h
 ·exact .inr ⟨b, off, rfl, by simpa using hbl, fun i hi => setc (hne b off rfl) (hc i hi)⟩
theorem picSum_big (a : Option Addr) (n cap : Nat) (f : Nat -> Int) (w : World) (h : BytesAt w a n f) (hm : n <= cap /\ cap <= 9223372036854775807) (hbig : 1048576 < n) :
  Calls SqP.prog 7 #[.slice a n cap] w fun e w' => e = .returned (.bool true) /\ Below w.heap.size w w' := by
 have hb : (1048576 : Int) < (n : Int) := by omega
 go_enter SqP.func7, Tryz.ntmps7
 go_wp2
 go_ret
 exact ⟨rfl, Below.refl _ _⟩
set_option maxRecDepth 100000 in
theorem picSum_small (a : Option Addr) (n cap : Nat) (f : Nat -> Int) (w : World) (h : BytesAt w a n f) (hm : n <= cap /\ cap <= 9223372036854775807) (hsm : n <= 1048576) :
  Calls SqP.prog 7 #[.slice a n cap] w fun e w' => e = .returned (.bool true) /\ Below w.heap.size w w' := by
 have hb : (n : Int) <= 1048576 := by omega
 go_enter SqP.func7, Tryz.ntmps7
 go_wp2_with fail
 refine (drawPicOf_any a n cap f w h hsm hm.1 hm.2).mono ?_
 rintro e w1 ⟨wd, a1, c1, cs, rfl, hC1, hl1, hb_w1⟩
 have hz_w1 := hb_w1.size
 have hbS1 : Below w1.heap.size w1 (w1.alloc (.cells #[.int .i64 wd, .slice a1 cs.length c1] 25)) := bel
 replace hC1 := hC1.below hbS1
 have g0 : (w1.alloc (.cells #[.int .i64 wd, .slice a1 cs.length c1] 25)).cell? ⟨w1.heap.size, 0, none⟩ = some (.int .i64 wd) := by simp [go_sem]
 have g1 : (w1.alloc (.cells #[.int .i64 wd, .slice a1 cs.length c1] 25)).cell? ⟨w1.heap.size, 1, none⟩ = some (.slice a1 cs.length c1) := by simp [go_sem]
 have hBs1 := bcall hb_w1 (by omega) hbS1
 clear hb_w1 hbS1
 obtain ⟨ps, hps⟩ : ∃ ps, picN wd cs = ps := ⟨_, rfl⟩
 have hpl : ps.length = (manyG wd cs).toNat := by rw [<- hps]; unfold picN; rw [picK_len]
 have hpv : ∀ k, k < ps.length -> ps.getD k 0 = lightN wd cs (k : Int) := by
  intro k hk
  have hk' : k < (manyG wd cs).toNat := by omega
  rw [<- hps]
  unfold picN picK
  simp [List.getD, hk']
 have hmn : 0 <= manyG wd cs /\ manyG wd cs <= 20 := by
  rcases hk : okG wd cs with _ | _
  ·rw [manyG_bad hk]; omega
  ·obtain ⟨W, H, rfl, h1, h2, h3, h4, el, hH, hHI⟩ := okG_nat wd cs hk
   rw [manyG_ok hk hHI]; omega
 have hpm : (ps.length : Int) = manyG wd cs := by omega
 have hp20 : ps.length <= 20 := by omega
 have EP : Hid (picN wd cs = ps) := hps
 have HPV : Hid (∀ k, k < ps.length -> ps.getD k 0 = lightN wd cs (k : Int)) := hpv
 have EM : Hid ((ps.length : Int) = manyG wd cs) := hpm
 clear hps hpl hpv hmn hpm
 go_wp2_with fail
 refine (implPicOf_any wd a1 c1 cs _ hC1 (by omega)).mono ?_
 rintro e w2 ⟨a2, c2, rfl, hR2, hb_w2⟩
 rw [EP.out] at hR2 ⊢
 have hz_w2 := hb_w2.size
 simp at hz_w2
 replace g0 := keepc hb_w2 g0; replace g1 := keepc hb_w2 g1
 replace hC1 := hC1.below hb_w2
 have hB_w2 := bcall hBs1 (by first | omega | (simp; omega)) hb_w2
 clear hBs1 hb_w2
 go_wp2_with fail
 refine (specPicOf_any wd a1 c1 cs _ hC1 (by omega)).mono ?_
 rintro e w3 ⟨v3, rfl, hO3, hb_w3⟩
 rw [EP.out] at hO3
 obtain ⟨a3, c3, rfl, hR3⟩ := row1_at hO3
 have hz_w3 := hb_w3.size
 replace g0 := keepc hb_w3 g0; replace g1 := keepc hb_w3 g1
 replace hC1 := hC1.below hb_w3
 replace hR2 := hR2.below hb_w3
 have hB_w3 := bcall hB_w2 (by omega) hb_w3
 clear hB_w2 hb_w3 hO3
 go_wp2_with fail
 refine (llInts_same a2 a3 c2 c3 ps _ hR2 hR3 (by omega)).mono ?_
 rintro e w4 ⟨rfl, hb_w4⟩
 have hz_w4 := hb_w4.size
 replace g0 := keepc hb_w4 g0; replace g1 := keepc hb_w4 g1
 replace hC1 := hC1.below hb_w4
 replace hR2 := hR2.below hb_w4
 have hB_w4 := bcall hB_w3 (by omega) hb_w4
 clear hB_w3 hb_w4 hR3
 have hmk := make_ints ps.length (by omega)
 have hbA : Below w4.heap.size w4 (w4.alloc (.cells (madeCells #[.int .i64 0] ps.length) 3)) := (Below.refl _ _).alloc (Nat.le_refl _) _
 have hA0 : (w4.alloc (.cells (madeCells #[.int .i64 0] ps.length) 3)).heap[w4.heap.size]? = some (.cells (madeCells #[.int .i64 0] ps.length) 3) := heap_alloc_new w4 _
 have hsz0 : (madeCells #[Value.int .i64 0] ps.length).size = ps.length := by simp [madeCells]
 have hj0 : ∀ j, j < ps.length -> (madeCells #[Value.int .i64 0] ps.length)[j]? = some (.int .i64 (sumK wd cs (j : Int) 0)) := fun j hj => by simp [madeCells, hj, sumK, Nat.mod_one]
 go_wp2_with fail
 obtain ⟨w5, hw5⟩ : ∃ w5, w5 = w4.alloc (.cells (madeCells #[.int .i64 0] ps.length) 3) := ⟨_, rfl⟩
 rw [<- hw5] at hA0 hbA ⊢
 clear hw5 hmk
 obtain ⟨s, hs⟩ : ∃ s, w4.heap.size = s := ⟨_, rfl⟩
 rw [hs] at hA0 hbA ⊢
 have HS : Hid (w4.heap.size = s) := hs
 clear hs
 go_loopw [6, 7, 8, 9, 10] (fun kk _ _ _ _ wr => ∃ (q : Nat) (arr : Array Value), q <= cs.length /\ kk = .int .i64 q /\ Below s w4 wr /\ wr.heap[s]? = some (.cells arr 3) /\ arr.size = ps.length /\ ∀ j, j < ps.length -> arr[j]? = some (.int .i64 (sumK wd cs (j : Int) q))) (fun kk _ _ _ _ _ => cs.length - (intOf kk).toNat)
 case atStart => exact ⟨0, _, Nat.zero_le _, rfl, hbA, hA0, hsz0, hj0⟩
 case round =>
  clear hA0 hbA hsz0 hj0
  rename World => wo
  obtain ⟨q, arr, hq, rfl, hbo, hso, hsz, harr⟩ := hrel
  have hB4 : Below w4.heap.size w4 wo := by rw [HS.out]; exact hbo
  have hzo := hB4.size
  rw [HS.out] at hzo
  have hw1 : w1.heap.size < wo.heap.size := by have := HS.out; omega
  have hsl : s < wo.heap.size := (Array.getElem?_eq_some_iff.1 hso).1
  have g0o := keepc hB4 g0
  have g1o := keepc hB4 g1
  have hCo := hC1.below hB4
  by_cases hgo : q < cs.length /\ 0 < ps.length
  ·obtain ⟨hlt, hp0⟩ := hgo
   have bl : decide ((q : Int) < (cs.length : Int)) = true := decide_eq_true (by omega)
   have bp : decide (0 < ps.length) = true := decide_eq_true hp0
   have hltI : (q : Int) < (cs.length : Int) := by omega
   have hp0I : (0 : Int) < (ps.length : Int) := by omega
   have wq : IntKind.i64.wrap ((q : Int) + 1) = (q : Int) + 1 := IntWalk.i64_in _ (by omega)
   have hok : okG wd cs = true := by
    rcases hk : okG wd cs with _ | _
    ·have := EM.out; rw [manyG_bad hk] at this; omega
    ·rfl
   rcases hCo with z | ⟨b1, of1, ea1, hlb1, hc1⟩
   ·rw [z] at hlt; simp at hlt
   have s0 := (hc1 q hlt).1
   obtain ⟨c, ec⟩ : ∃ c, cs.getD q (0, 0) = c := ⟨_, rfl⟩
   rw [ec] at s0
   subst ea1
   by_cases h7 : c.1 = 7
   ·have hsum : ∀ j : Nat, sumK wd cs (j : Int) (q + 1) = sumK wd cs (j : Int) q + lightN wd (updC (oneL q) cs cs.length) (j : Int) := fun j => by
     simp only [sumK]
     rw [ec, if_pos h7]
    obtain ⟨hol, hov⟩ := one_pic hok q
    obtain ⟨os, hos⟩ : ∃ os, picN wd (updC (oneL q) cs cs.length) = os := ⟨_, rfl⟩
    rw [hos, EP.out] at hol
    rw [EP.out] at hov
    simp only [hos] at hov
    have EO : Hid (picN wd (updC (oneL q) cs cs.length) = os) := hos
    have LO : Hid (os.length = ps.length) := hol
    have HOV : Hid (∀ k, k < ps.length -> os.getD k 0 = lightN wd (updC (oneL q) cs cs.length) (k : Int)) := hov
    have HSUM : Hid (∀ j : Nat, sumK wd cs (j : Int) (q + 1) = sumK wd cs (j : Int) q + lightN wd (updC (oneL q) cs cs.length) (j : Int)) := hsum
    rw [h7] at s0
    have L1 : 0 < cs.length := by omega
    have HARR : Hid (∀ j, j < ps.length -> arr[j]? = some (.int .i64 (sumK wd cs (j : Int) q))) := harr
    clear hol hov hos hsum ec h7 harr hok
    obtain ⟨i0, hi, iz0, iz1, iz2⟩ := info_parts infoCell
    have src1 := srcX_of hc1
    have E1 := own_emptyX wo wo.heap.size (Nat.le_refl _)
    have B1 : Below wo.heap.size wo (wo.alloc (.cells #[] 38)) := bel
    have E3 := E1.alloc (.cells #[.int .i64 0, .slice none 0 0] 25)
    have B3 : Below wo.heap.size wo ((wo.alloc (.cells #[] 38)).alloc (.cells #[.int .i64 0, .slice none 0 0] 25)) := bel
    have E4 := own_emptyX (wo.alloc (.cells #[.int .i64 0, .slice none 0 0] 25)) wo.heap.size (by simp)
    simp only [World.size_alloc] at E4
    have B4 : Below wo.heap.size wo ((wo.alloc (.cells #[.int .i64 0, .slice none 0 0] 25)).alloc (.cells #[] 38)) := bel
    have B5 : Below wo.heap.size wo (wo.alloc (.cells #[.int .i64 0, .slice none 0 0] 25)) := bel
    clear hc1
    go_wp2
    go_cut [7] from 26 to 100 (fun s9 wc => ∃ (blk : Nat), s9 = .pointer (some ⟨blk, 0, none⟩) /\ BoxX wc wo.heap.size blk wd cs /\ Below wo.heap.size wo wc)
    case first =>
     go_region_held_law (fun w' => w'.cell? ⟨w1.heap.size, 0, none⟩ = some (.int .i64 wd) /\ w'.cell? ⟨w1.heap.size, 1, none⟩ = some (.slice (some ⟨b1, of1, none⟩) cs.length c1))
      (first
       | exact ⟨keepc hb6 g0o, keepc hb6 g1o⟩
       | exact ⟨keepc (hb6.alloc hb6.size _) g0o, keepc (hb6.alloc hb6.size _) g1o⟩
       | exact ⟨setc (by omega) (setc (by omega) (keepc hb6 g0o)), setc (by omega) (setc (by omega) (keepc hb6 g1o))⟩
       | exact ⟨keepc B1 g0o, keepc B1 g1o⟩
       | exact ⟨keepc B3 g0o, keepc B3 g1o⟩
       | exact ⟨keepc B4 g0o, keepc B4 g1o⟩
       | exact ⟨keepc B5 g0o, keepc B5 g1o⟩
       | go_keep)
      (first
       | (refine step_append_lies _ (by rfl) _ _ _ (by rfl) wo.heap.size 38 i0 (.agg #[.int .i64 0, .int .i64 0]) 2 16 SqP.underlying23 hi iz0 iz1 iz2 rfl (by omega) (.slice (some ⟨wo.heap.size, 0, none⟩) 0 0) 0 [] (by rfl) (by first | exact E1 | exact E1.drew) ⟨b1, of1, none⟩ cs.length c1 (flat cs) (by rfl) (flat_len cs) (by first | exact src1.below (B1) hlb1 | exact src1.below (B1).drew hlb1) (flat_oneX cs) (by omega) (by unfold maxLen; omega) (by omega) (by first | (simp; done) | (simp; omega)) (wo.heap.size + 1) (by first | (simp; done) | (simp; omega)) ?_; intro g6 k6 v6 hO6 hg6 hat6 hlt6; have hb6 : Below wo.heap.size wo v6 := Below.grown (by first | exact (B1) | exact (B1).drew) hg6 (by first | (simp; done) | (simp; omega)) (fun k hk => by simp [Value.ownBlock] at hk; omega); have hz6 := hg6.size; simp at hz6; have hOw := own_firstX hO6; have zh := hb6.size; skip)
       | (refine step_append_lies _ (by rfl) _ _ _ (by rfl) wo.heap.size 38 i0 (.agg #[.int .i64 0, .int .i64 0]) 2 16 SqP.underlying23 hi iz0 iz1 iz2 rfl (by omega) (.slice (some ⟨wo.heap.size, 0, none⟩) 0 0) 0 [] (by rfl) (by first | exact E3 | exact E3.drew) ⟨b1, of1, none⟩ cs.length c1 (flat cs) (by rfl) (flat_len cs) (by first | exact src1.below (B3) hlb1 | exact src1.below (B3).drew hlb1) (flat_oneX cs) (by omega) (by unfold maxLen; omega) (by omega) (by first | (simp; done) | (simp; omega)) (wo.heap.size + 1 + 1) (by first | (simp; done) | (simp; omega)) ?_; intro g6 k6 v6 hO6 hg6 hat6 hlt6; have hb6 : Below wo.heap.size wo v6 := Below.grown (by first | exact (B3) | exact (B3).drew) hg6 (by first | (simp; done) | (simp; omega)) (fun k hk => by simp [Value.ownBlock] at hk; omega); have hz6 := hg6.size; simp at hz6; have hOw := own_firstX hO6; have zh := hb6.size; have z0 : v6.cell? ⟨wo.heap.size + 1, 0, none⟩ = some (.int .i64 0) := gcell (rb := wo.heap.size) hg6 (by omega) (by simp [go_sem]); have z1 : v6.cell? ⟨wo.heap.size + 1, 1, none⟩ = some (.slice none 0 0) := gcell (rb := wo.heap.size) hg6 (by omega) (by simp [go_sem]); have zf0 : v6.frozen? ⟨wo.heap.size + 1, 0, none⟩ = false := gfroz (rb := wo.heap.size) hg6 (by omega) (v := .int .i64 0) (by simp [go_sem]) (by simp [go_sem]); have zf1 : v6.frozen? ⟨wo.heap.size + 1, 1, none⟩ = false := gfroz (rb := wo.heap.size) hg6 (by omega) (v := .slice none 0 0) (by simp [go_sem]) (by simp [go_sem]); have zb7 : g6 ≠ wo.heap.size + 1 := (by rcases hat6 with q | q; (simp [Value.ownBlock] at q; omega); omega))
       | (refine step_append_lies _ (by rfl) _ _ _ (by rfl) wo.heap.size 38 i0 (.agg #[.int .i64 0, .int .i64 0]) 2 16 SqP.underlying23 hi iz0 iz1 iz2 rfl (by omega) (.slice (some ⟨wo.heap.size + 1, 0, none⟩) 0 0) 0 [] (by rfl) (by first | exact E4 | exact E4.drew) ⟨b1, of1, none⟩ cs.length c1 (flat cs) (by rfl) (flat_len cs) (by first | exact src1.below (B4) hlb1 | exact src1.below (B4).drew hlb1) (flat_oneX cs) (by omega) (by unfold maxLen; omega) (by omega) (by first | (simp; done) | (simp; omega)) (wo.heap.size + 1 + 1) (by first | (simp; done) | (simp; omega)) ?_; intro g6 k6 v6 hO6 hg6 hat6 hlt6; have hb6 : Below wo.heap.size wo v6 := Below.grown (by first | exact (B4) | exact (B4).drew) hg6 (by first | (simp; done) | (simp; omega)) (fun k hk => by simp [Value.ownBlock] at hk; omega); have hz6 := hg6.size; simp at hz6; have hOw := own_firstX hO6; have zh := hb6.size; have z0 : v6.cell? ⟨wo.heap.size, 0, none⟩ = some (.int .i64 0) := gcell (rb := wo.heap.size + 1) hg6 (by omega) (by simp [go_sem]); have z1 : v6.cell? ⟨wo.heap.size, 1, none⟩ = some (.slice none 0 0) := gcell (rb := wo.heap.size + 1) hg6 (by omega) (by simp [go_sem]); have zf0 : v6.frozen? ⟨wo.heap.size, 0, none⟩ = false := gfroz (rb := wo.heap.size + 1) hg6 (by omega) (v := .int .i64 0) (by simp [go_sem]) (by simp [go_sem]); have zf1 : v6.frozen? ⟨wo.heap.size, 1, none⟩ = false := gfroz (rb := wo.heap.size + 1) hg6 (by omega) (v := .slice none 0 0) (by simp [go_sem]) (by simp [go_sem]); have zb8 : g6 ≠ wo.heap.size := (by rcases hat6 with q | q; (simp [Value.ownBlock] at q; omega); omega))
       | fail)
     all_goals
      first
       | (have hbox := boxX_new hb6 hOw wd
          go_wp2_with fail
          go_meet
          case rel => exact ⟨_, rfl, hbox⟩)
       | (have hbox := boxX_set hb6 (by omega) hOw zb7 z0 z1 wd
          go_wp2_with fail
          go_meet
          case rel => exact ⟨_, rfl, hbox⟩)
       | (have hbox := boxX_set hb6 (by omega) hOw zb8 z0 z1 wd
          go_wp2_with fail
          go_meet
          case rel => exact ⟨_, rfl, hbox⟩)
    case rest =>
     rename World => w6
     obtain ⟨blk, rfl, ⟨gx, cx, hblk, x0, x1, hOx, hgb, hgx⟩, hb9⟩ := hcut
     have hz9 := hb9.size
     have x0z := x0
     have x1z := x1
     clear src1 E1 B1 E3 B3 E4 B4 B5
     go_wp2_with fail
     go_loopw [8] (fun ii wr => ∃ i : Nat, i <= cs.length /\ ii = .int .i64 i /\ Own wr wo.heap.size (.slice (some ⟨gx, 0, none⟩) cs.length cx) (updC (oneL q) cs i) /\ wr.cell? ⟨blk, 0, none⟩ = some (.int .i64 wd) /\ wr.cell? ⟨blk, 1, none⟩ = some (.slice (some ⟨gx, 0, none⟩) cs.length cx) /\ Below wo.heap.size wo wr) (fun ii _ => cs.length - (intOf ii).toNat)
     case atStart => exact ⟨0, Nat.zero_le _, rfl, by rw [updC_zero]; exact hOx, x0z, x1z, hb9⟩
     case round =>
      clear hOx x0z x1z hb9 hz9 x0 x1
      rename World => wp
      obtain ⟨i, hii, rfl, hO, x0, x1, hbp⟩ := hrel
      by_cases hli : i < cs.length
      ·have hliI : (i : Int) < (cs.length : Int) := by omega
       obtain ⟨z0, z1, f0, f1⟩ := hO.cell (updC_len _ _ _) i hli
       have hst := hO.set (updC_len _ _ _) i 1 0 hli
       rw [updC_at _ _ _ hli, if_neg (Nat.lt_irrefl i)] at z0 z1
       obtain ⟨d, ed⟩ : ∃ d, cs.getD i (0, 0) = d := ⟨_, rfl⟩
       rw [ed] at z0 z1
       have wi : IntKind.i64.wrap ((i : Int) + 1) = (i : Int) + 1 := IntWalk.i64_in _ (by omega)
       by_cases hiq : i = q
       ·have hp : updC (oneL q) cs i = updC (oneL q) cs (i + 1) := updC_same _ cs hli (by unfold oneL; rw [if_neg (fun y => y.1 hiq)])
        rw [hp] at hO
        have bi : ((i : Int) != (q : Int)) = false := by simp [hiq]
        clear hst ed hp hiq z0 z1 f0 f1
        go_wp2_with fail
        go_roundw
        case rel => exact ⟨i + 1, by omega, by go_num, hO, x0, x1, hbp⟩
        case measure => simp [intOf]; omega
       ·have bi : ((i : Int) != (q : Int)) = true := by simp; omega
        by_cases d7 : d.1 = 7
        ·have hp : (updC (oneL q) cs i).set i (1, 0) = updC (oneL q) cs (i + 1) := by
          rw [<- updC_set (oneL q) cs hli, ed]
          unfold oneL
          rw [if_pos ⟨hiq, d7⟩]
         rw [hp] at hst
         rw [d7] at z0
         clear ed d7 hp hO hiq
         go_wp2_with fail
         go_roundw
         case rel => exact ⟨i + 1, by omega, by go_num, hst, setc (fun e => hgb e.symm) (setc (fun e => hgb e.symm) x0), setc (fun e => hgb e.symm) (setc (fun e => hgb e.symm) x1), (hbp.setCell (p := ⟨gx, _, none⟩) (by show wo.heap.size <= gx; omega) _).setCell (p := ⟨gx, _, none⟩) (by show wo.heap.size <= gx; omega) _⟩
         case measure => simp [intOf]; omega
        ·have hp : updC (oneL q) cs i = updC (oneL q) cs (i + 1) := updC_same _ cs hli (by rw [ed]; unfold oneL; rw [if_neg (fun y => d7 y.2)])
         rw [hp] at hO
         have b7 : (d.1 == 7) = false := by simp [d7]
         clear hst ed hp hiq d7 z1 f0 f1
         go_wp2_with fail
         go_roundw
         case rel => exact ⟨i + 1, by omega, by go_num, hO, x0, x1, hbp⟩
         case measure => simp [intOf]; omega
      ·have hic : i = cs.length := by omega
       subst hic
       have hnl : ¬ (cs.length : Int) < (cs.length : Int) := by omega
       have hCx : CellsAt wp (some ⟨gx, 0, none⟩) (updC (oneL q) cs cs.length) := own_cellsD (cap := cx) (by rw [updC_len]; exact hO)
       have hlx : (updC (oneL q) cs cs.length).length < 4611686018427387904 := by rw [updC_len]; omega
       have bq : ((ps.length : Int) != (ps.length : Int)) = false := by simp
       have hb4p : Below s w4 wp := bcall hbo (by omega) hbp
       have hsp : wp.heap[s]? = some (.cells arr 3) := by rw [hbp.block s hsl]; exact hso
       have hzp := hbp.size
       clear hO hbp
       go_wp2_with fail
       refine (implPicU EO.out (some ⟨gx, 0, none⟩) cx _ hCx hlx cs.length ps.length (updC_len _ _ _) LO.out).mono ?_
       rintro e wa ⟨aa, ca, rfl, hRa, hnew, hba⟩
       have hza := hba.size
       have hb4a : Below s w4 wa := bcall hb4p (by omega) hba
       have hsa : wa.heap[s]? = some (.cells arr 3) := by rw [hba.block s (by omega)]; exact hsp
       have hne : ∀ b off, aa = some ⟨b, off, none⟩ -> ¬ b = s := fun b off e => by have := hnew b off e; omega
       clear hba hb4p hsp x0 x1 hCx hnew
       go_wp2_with fail
       go_loopw [10] (fun kk wr => ∃ (k : Nat) (ar : Array Value), k <= ps.length /\ kk = .int .i64 k /\ Below s w4 wr /\ R1At wr aa os /\ wr.heap[s]? = some (.cells ar 3) /\ ar.size = ps.length /\ (∀ j, j < k -> ar[j]? = some (.int .i64 (sumK wd cs (j : Int) (q + 1)))) /\ ∀ j, k <= j -> j < ps.length -> ar[j]? = some (.int .i64 (sumK wd cs (j : Int) q))) (fun kk _ => ps.length - (intOf kk).toNat)
       case atStart => exact ⟨0, arr, Nat.zero_le _, rfl, hb4a, hRa, hsa, hsz, fun j hj => by omega, fun j _ hj => HARR.out j hj⟩
       case round =>
        clear hb4a hRa hsa
        rename World => wz
        obtain ⟨k, ar, hk, rfl, hbz, hRz, hsz', hszz, hlo, hhi⟩ := hrel
        by_cases hlk : k < ps.length
        ·have blk' : decide ((k : Int) < (ps.length : Int)) = true := decide_eq_true (by omega)
         have hlkI : (k : Int) < (ps.length : Int) := by omega
         have wk : IntKind.i64.wrap ((k : Int) + 1) = (k : Int) + 1 := IntWalk.i64_in _ (by omega)
         have hk5 : k < ar.size := by omega
         have c5 : wz.cell? ⟨s, k, none⟩ = some (.int .i64 (sumK wd cs (k : Int) q)) := by rw [cell_of_row _ _ _ _ _ _ hsz']; exact hhi k (Nat.le_refl _) hlk
         have f5 : wz.frozen? ⟨s, k, none⟩ = false := frozen_of_row _ _ _ _ _ hsz'
         obtain ⟨b3, o3, ea3, _, q3⟩ := hRz.at (show k < os.length by rw [LO.out]; exact hlk)
         rw [HOV.out k hlk] at q3
         have i1 := sumK_in wd cs (k : Int) q
         have i2 := light_in wd (updC (oneL q) cs cs.length) (k : Int)
         have hS := HSUM.out k
         obtain ⟨u, hu⟩ : ∃ u, sumK wd cs (k : Int) q = u := ⟨_, rfl⟩
         obtain ⟨x, hx⟩ : ∃ x, lightN wd (updC (oneL q) cs cs.length) (k : Int) = x := ⟨_, rfl⟩
         rw [hu, hx] at hS
         rw [hu] at c5 i1
         rw [hx] at q3 i2
         have wu : IntKind.i64.wrap (u + x) = u + x := IntWalk.i64_in _ (by omega)
         have hb6 : Below s w4 (wz.setCell ⟨s, k, none⟩ (.int .i64 (u + x))) := hbz.setCell (p := ⟨s, k, none⟩) (Nat.le_refl _) _
         have hR6 := hRz.set (g := s) (j := k) hne (.int .i64 (u + x))
         have hg6 : (wz.setCell ⟨s, k, none⟩ (.int .i64 (u + x))).heap[s]? = some (.cells (ar.setIfInBounds k (.int .i64 (u + x))) 3) := heap_setCell_same wz s k _ _ _ hsz'
         have hlo6 : ∀ j, j < k + 1 -> (ar.setIfInBounds k (.int .i64 (u + x)))[j]? = some (.int .i64 (sumK wd cs (j : Int) (q + 1))) := fun j hj => by
          by_cases e : j = k
          ·subst e
           rw [Array.getElem?_setIfInBounds_self_of_lt hk5, hS]
          ·rw [Array.getElem?_setIfInBounds_ne (by omega)]
           exact hlo j (by omega)
         have hhi6 : ∀ j, k + 1 <= j -> j < ps.length -> (ar.setIfInBounds k (.int .i64 (u + x)))[j]? = some (.int .i64 (sumK wd cs (j : Int) q)) := fun j h1 h2 => by
          rw [Array.getElem?_setIfInBounds_ne (by omega)]
          exact hhi j (by omega) h2
         subst ea3
         clear hlo hhi hbz hRz hsz' hS hu hx
         go_wp2_with fail
         go_region
         go_wp2_with fail
         go_roundw
         case rel => exact ⟨k + 1, _, by omega, by go_num, hb6.drew, hR6, hg6, by simpa using hszz, hlo6, hhi6⟩
         case measure => simp [intOf]; omega
        ·have blk' : decide ((k : Int) < (ps.length : Int)) = false := decide_eq_false (by omega)
         have hfin : ∀ j, j < ps.length -> ar[j]? = some (.int .i64 (sumK wd cs (j : Int) (q + 1))) := fun j hj => hlo j (by omega)
         clear hlo hhi
         go_wp2_with fail
         go_roundw
         case rel => exact ⟨q + 1, ar, by omega, by go_num, hbz, hsz', hszz, hfin⟩
         case measure => simp [intOf]; omega
   ·have hsum : ∀ j : Nat, sumK wd cs (j : Int) (q + 1) = sumK wd cs (j : Int) q := fun j => by
     simp only [sumK]
     rw [ec, if_neg h7, Int.add_zero]
    have harr2 : ∀ j, j < ps.length -> arr[j]? = some (.int .i64 (sumK wd cs (j : Int) (q + 1))) := fun j hj => by rw [hsum]; exact harr j hj
    have b7 : (c.1 != 7) = true := by simp [h7]
    clear hsum harr ec h7 hok hc1
    go_wp2_with fail
    go_roundw
    case rel => exact ⟨q + 1, arr, by omega, by go_num, hbo, hso, hsz, harr2⟩
    case measure => simp [intOf]; omega
  ·have hRs : R1At wo (some ⟨s, 0, none⟩) ps := by
    by_cases hp0 : 0 < ps.length
    ·have hqe : q = cs.length := by
      refine Classical.byContradiction fun h => hgo ⟨?_, hp0⟩
      omega
     subst hqe
     refine .inr ⟨s, 0, rfl, hsl, fun i hi => ?_⟩
     rw [Nat.zero_add, cell_of_row _ _ _ _ _ _ hso, harr i hi, HPV.out i hi, sumK_all (by unfold inS; rw [<- EM.out]; exact decide_eq_true (by omega))]
    ·exact .inl (List.length_eq_zero_iff.1 (by omega))
   have hRp := hR2.below hB4
   have hBo := bcall hB_w4 hB_w4.size hB4
   have blx : (decide ((q : Int) < (cs.length : Int)) && decide ((0 : Int) < (ps.length : Int))) = false := by
    rcases Classical.em (q < cs.length) with h | h
    ·have : ¬ 0 < ps.length := fun e => hgo ⟨h, e⟩
     rw [decide_eq_false (show ¬ (0 : Int) < (ps.length : Int) by omega), Bool.and_false]
    ·rw [decide_eq_false (show ¬ (q : Int) < (cs.length : Int) by omega), Bool.false_and]
   clear harr hso
   rcases Classical.em (q < cs.length) with h | h
   ·have bl : decide ((q : Int) < (cs.length : Int)) = true := decide_eq_true (by omega)
    have bp : decide (0 < ps.length) = false := decide_eq_false (fun e => hgo ⟨h, e⟩)
    clear hgo blx
    go_wp2_with fail
    refine (llInts_same (some ⟨s, 0, none⟩) a2 ps.length c2 ps _ hRs hRp (by omega)).mono ?_
    rintro e w9 ⟨rfl, hb_w9⟩
    have hB9 := bcall hBo hBo.size hb_w9
    go_wp2_with fail
    go_ret
    exact ⟨rfl, hB9⟩
   ·have bl : decide ((q : Int) < (cs.length : Int)) = false := decide_eq_false (by omega)
    clear hgo blx
    go_wp2_with fail
    refine (llInts_same (some ⟨s, 0, none⟩) a2 ps.length c2 ps _ hRs hRp (by omega)).mono ?_
    rintro e w9 ⟨rfl, hb_w9⟩
    have hB9 := bcall hBo hBo.size hb_w9
    go_wp2_with fail
    go_ret
    exact ⟨rfl, hB9⟩
theorem picSum_any (a : Option Addr) (n cap : Nat) (f : Nat -> Int) (w : World) (h : BytesAt w a n f) (hm : n <= cap /\ cap <= 9223372036854775807) :
  Calls SqP.prog 7 #[.slice a n cap] w fun e w' => e = .returned (.bool true) /\ Below w.heap.size w w' := by
 by_cases hs : n <= 1048576
 ·exact picSum_small a n cap f w h hm hs
 ·exact picSum_big a n cap f w h hm (by omega)
end Sp
end Go.Proofs.YtdhopelplokehaaGreat
