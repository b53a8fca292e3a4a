/- Of the proof: PGs -/
import Derived.Deep.RegionWith
import Derived.Test.YtfhhcfcjhlkdoaaGreatLAy
import Derived.Test.YtfhhcfcjhlkdoaaGreatLBj
import Derived.Test.YtfhhcfcjhlkdoaaGreatLBo
import Derived.Test.YtfhhcfcjhlkdoaaGreatLBp
set_option maxHeartbeats 8000000
set_option linter.unusedVariables false
namespace Go.Proofs.YtfhhcfcjhlkdoaaGreat
namespace Sp
open Go.RowKit
attribute [local go_sem ↓] Go.wp_at_zero Go.wp_at_succ
theorem pic_row {w : World} {g : Nat} {wd : Int} {cs : List (Int × Int)} {M : Nat} (hM : manyG wd cs = (M : Int)) (h : w.heap[g]? = some (picCells wd cs M)) : R1At w (some ⟨g, 0, none⟩) (picN wd cs) := by
 refine .inr ⟨g, 0, rfl, (Array.getElem?_eq_some_iff.1 h).1, fun i hi => ?_⟩
 have hq : picN wd cs = (List.range M).map fun (k : Nat) => lightN wd cs (k : Int) := by unfold picN picK; rw [hM]; rfl
 rw [hq] at hi ⊢
 have hi' : i < M := by simpa using hi
 rw [Nat.zero_add, cell_of_row _ _ _ _ _ _ h]
 simp [List.getD, hi']
theorem implPicOf_any (wd : Int) (a : Option Addr) (cap : Nat) (cs : List (Int × Int)) (w : World) (h : CellsAt w a cs) (hm : cs.length < 4611686018427387904) :
  Calls SqP.prog 12 #[.agg #[.int .i64 wd, .slice a cs.length cap]] w fun e w' => ∃ a2 c2, e = .returned (.slice a2 (picN wd cs).length c2) /\ R1At w' a2 (picN wd cs) /\ Below w.heap.size w w' := by
 rcases hk : okG wd cs with _ | _
 ·have e : picN wd cs = [] := by unfold picN; rw [manyG_bad hk]; rfl
  rw [e]
  exact (picNo_any wd a cap cs w h hm hk).mono fun e w' h => ⟨none, 0, h.1, .inl rfl, h.2⟩
 ·obtain ⟨W, H, rfl, h1, h2, h3, h4, el, hH, hHI⟩ := okG_nat wd cs hk
  have hM : manyG (W : Int) cs = ((2 * (W + H) : Nat) : Int) := by rw [manyG_ok hk hHI]; omega
  have hl : (picN (W : Int) cs).length = 2 * (W + H) := by unfold picN; rw [picK_len, hM]; rfl
  refine (picYes_any (W : Int) a cap cs w h hk (2 * (W + H)) hM).mono ?_
  rintro r w' ⟨g, rfl, hg, hgc, hb⟩
  exact ⟨_, _, by rw [hl], pic_row hM hgc, hb⟩
theorem picSights_big (a : Option Addr) (n cap : Nat) (f : Nat -> Int) (w : World) (h : BytesAt w a n f) (hm : n <= cap /\ cap <= 9223372036854775807) (hbig : 1048576 < n) :
  Calls SqP.prog 3 #[.slice a n cap] w fun e w' => e = .returned (.bool true) /\ Below w.heap.size w w' := by
 have hb : (1048576 : Int) < (n : Int) := by omega
 go_enter SqP.func3, Tryz.ntmps3
 go_wp2
 go_ret
 exact ⟨rfl, Below.refl _ _⟩
set_option maxRecDepth 100000 in
theorem picSights_small (a : Option Addr) (n cap : Nat) (f : Nat -> Int) (w : World) (h : BytesAt w a n f) (hm : n <= cap /\ cap <= 9223372036854775807) (hsm : n <= 1048576) :
  Calls SqP.prog 3 #[.slice a n cap] w fun e w' => e = .returned (.bool true) /\ Below w.heap.size w w' := by
 have hb : (n : Int) <= 1048576 := by omega
 go_enter SqP.func3, Tryz.ntmps3
 go_wp2_with fail
 refine (drawPicOf_any a n cap f w h hsm hm.1 hm.2).mono ?_
 rintro e w1 ⟨wd, a1, c1, cs, rfl, hC1, hl1, hb_w1⟩
 have hz_w1 := hb_w1.size
 have hbS1 : Below w1.heap.size w1 (w1.alloc (.cells #[.int .i64 wd, .slice a1 cs.length c1] 25)) := bel
 replace hC1 := hC1.below hbS1
 have g0 : (w1.alloc (.cells #[.int .i64 wd, .slice a1 cs.length c1] 25)).cell? ⟨w1.heap.size, 0, none⟩ = some (.int .i64 wd) := by simp [go_sem]
 have g1 : (w1.alloc (.cells #[.int .i64 wd, .slice a1 cs.length c1] 25)).cell? ⟨w1.heap.size, 1, none⟩ = some (.slice a1 cs.length c1) := by simp [go_sem]
 have hBs1 := bcall hb_w1 (by omega) hbS1
 clear hb_w1 hbS1
 obtain ⟨ps, hps⟩ : ∃ ps, picN wd cs = ps := ⟨_, rfl⟩
 have hpl : ps.length = (manyG wd cs).toNat := by rw [<- hps]; unfold picN; rw [picK_len]
 have hpv : ∀ k, k < ps.length -> ps.getD k 0 = lightN wd cs (k : Int) := by
  intro k hk
  have hk' : k < (manyG wd cs).toNat := by omega
  rw [<- hps]
  unfold picN picK
  simp [List.getD, hk']
 have hmn : 0 <= manyG wd cs /\ manyG wd cs <= 20 := by
  rcases hk : okG wd cs with _ | _
  ·rw [manyG_bad hk]; omega
  ·obtain ⟨W, H, rfl, h1, h2, h3, h4, el, hH, hHI⟩ := okG_nat wd cs hk
   rw [manyG_ok hk hHI]; omega
 have hpm : (ps.length : Int) = manyG wd cs := by omega
 have hp20 : ps.length <= 20 := by omega
 have EP : Hid (picN wd cs = ps) := hps
 have HPV : Hid (∀ k, k < ps.length -> ps.getD k 0 = lightN wd cs (k : Int)) := hpv
 have EM : Hid ((ps.length : Int) = manyG wd cs) := hpm
 clear hps hpl hpv hmn hpm
 go_wp2_with fail
 refine (implPicOf_any wd a1 c1 cs _ hC1 (by omega)).mono ?_
 rintro e w2 ⟨a2, c2, rfl, hR2, hb_w2⟩
 rw [EP.out] at hR2 ⊢
 have hz_w2 := hb_w2.size
 simp at hz_w2
 replace g0 := keepc hb_w2 g0; replace g1 := keepc hb_w2 g1
 replace hC1 := hC1.below hb_w2
 have hB_w2 := bcall hBs1 (by first | omega | (simp; omega)) hb_w2
 clear hBs1 hb_w2
 go_wp2_with fail
 refine (specPicOf_any wd a1 c1 cs _ hC1 (by omega)).mono ?_
 rintro e w3 ⟨v3, rfl, hO3, hb_w3⟩
 rw [EP.out] at hO3
 obtain ⟨a3, c3, rfl, hR3⟩ := row1_at hO3
 have hz_w3 := hb_w3.size
 replace g0 := keepc hb_w3 g0; replace g1 := keepc hb_w3 g1
 replace hC1 := hC1.below hb_w3
 replace hR2 := hR2.below hb_w3
 have hB_w3 := bcall hB_w2 (by omega) hb_w3
 clear hB_w2 hb_w3 hO3
 go_wp2_with fail
 refine (llInts_same a2 a3 c2 c3 ps _ hR2 hR3 (by omega)).mono ?_
 rintro e w4 ⟨rfl, hb_w4⟩
 have hz_w4 := hb_w4.size
 replace g0 := keepc hb_w4 g0; replace g1 := keepc hb_w4 g1
 replace hC1 := hC1.below hb_w4
 replace hR2 := hR2.below hb_w4
 have hB_w4 := bcall hB_w3 (by omega) hb_w4
 clear hB_w3 hb_w4 hR3
 go_wp2_with fail
 go_loopw [5] (fun kk wr => ∃ k : Nat, k <= ps.length /\ kk = .int .i64 k /\ Below w4.heap.size w4 wr) (fun kk _ => ps.length - (intOf kk).toNat)
 case atStart => exact ⟨0, Nat.zero_le _, rfl, Below.refl _ _⟩
 case round =>
  rename World => wo
  obtain ⟨k, hk, rfl, hbo⟩ := hrel
  have hzo := hbo.size
  have g0o := keepc hbo g0
  have g1o := keepc hbo g1
  have hCo := hC1.below hbo
  have hRo := hR2.below hbo
  by_cases hlt : k < ps.length
  ·have bl : decide ((k : Int) < (ps.length : Int)) = true := decide_eq_true (by omega)
   have wk : IntKind.i64.wrap ((k : Int) + 1) = (k : Int) + 1 := IntWalk.i64_in _ (by omega)
   obtain ⟨b, off, rfl, hbl, y0⟩ := hRo.at hlt
   rw [HPV.out k hlt] at y0
   obtain ⟨x, hx⟩ : ∃ x, lightN wd cs (k : Int) = x := ⟨_, rfl⟩
   have HX : Hid (lightN wd cs (k : Int) = x) := hx
   rw [hx] at y0
   have bn : (x != x) = false := by simp
   clear hx
   go_wp2
   go_region_held3 (fun w' => w'.cell? ⟨w1.heap.size, 0, none⟩ = some (.int .i64 wd) /\ w'.cell? ⟨w1.heap.size, 1, none⟩ = some (.slice a1 cs.length c1) /\ w'.cell? ⟨b, off + k, none⟩ = some (.int .i64 x))
    (first
     | exact ⟨keepc hb7 g0o, keepc hb7 g1o, keepc hb7 y0⟩
     | go_keep)
    (first
     | (go_at_call 15; refine (implLight_any wd a1 c1 cs _ (hCo.below (by first | exact Below.refl _ _ | exact (Below.refl _ _).drew)) (by omega) (k : Int)).mono ?_; rintro e w7 ⟨rfl, hb7'⟩; have hb7 : Below wo.heap.size wo w7 := (by first | exact hb7' | exact bdrew hb7'); rw [HX.out])
     | fail)
   all_goals
    have hb8 := bcall hbo hzo hb7
    go_wp2_with fail
    go_roundw
    case rel => exact ⟨k + 1, by omega, by go_num, by first | exact hb8 | exact hb8.drew⟩
    case measure => simp [intOf]; omega
  ·have bl : decide ((k : Int) < (ps.length : Int)) = false := decide_eq_false (by omega)
   have bq : ((ps.length : Int) == (ps.length : Int)) = true := by simp
   have hBo := bcall hB_w4 (by omega) hbo
   go_wp2_with fail
   refine (implMany_any wd a1 c1 cs _ hCo (by omega)).mono ?_
   rintro e w7 ⟨rfl, hb7⟩
   rw [<- EM.out]
   have hB7 := bcall hBo (by omega) hb7
   go_wp2_with fail
   go_ret
   exact ⟨rfl, hB7⟩
theorem picSights_any (a : Option Addr) (n cap : Nat) (f : Nat -> Int) (w : World) (h : BytesAt w a n f) (hm : n <= cap /\ cap <= 9223372036854775807) :
  Calls SqP.prog 3 #[.slice a n cap] w fun e w' => e = .returned (.bool true) /\ Below w.heap.size w w' := by
 by_cases hs : n <= 1048576
 ·exact picSights_small a n cap f w h hm hs
 ·exact picSights_big a n cap f w h hm (by omega)
end Sp
end Go.Proofs.YtfhhcfcjhlkdoaaGreat
