/- Of the proof: PGk -/
import Derived.Test.YtmmeapmlfopleaaGreatEBp
set_option maxHeartbeats 4000000
set_option linter.unusedVariables false
namespace Go.Proofs.YtmmeapmlfopleaaGreat
namespace Sp
open Go.RowKit
attribute [local go_sem ↓] Go.wp_at_zero Go.wp_at_succ
theorem exPicTo_any (wd : Int) (a : Option Addr) (cap : Nat) (cs : List (Int × Int)) (w : World) (hC : CellsAt w a cs) (hm : cs.length <= 9223372036854775807) :
  Calls SqP.prog 4 #[.agg #[.int .i64 wd, .slice a cs.length cap]] w fun e w' => e = .returned (.bool true) /\ Below w.heap.size w w' := by
 by_cases hbig : (1048576 : Int) - cs.length < 0
 ·go_enter SqP.func4, Tryz.ntmps4
  go_wp2_with fail
  refine (szGrid_any _ _ _ _ _ _ hm (by omega)).mono ?_
  rintro e w1 ⟨rfl, hb1⟩
  go_wp2
  go_ret
  exact ⟨rfl, bcall bel (by simp) hb1⟩
 have hm2 : cs.length <= 1048576 := by omega
 obtain ⟨ci, cp⟩ := toNN wd cs hm2
 have hn := (manyN_in wd cs).2
 obtain ⟨n, en⟩ : ∃ n, manyN wd cs = n := ⟨_, rfl⟩
 rw [en] at hn ci cp
 have hn2 : n <= 1048576 := by omega
 obtain ⟨f, ef⟩ : ∃ f : Nat -> Nat -> Int, f = fun (k j : Nat) => toN wd cs (k : Int) (j : Int) := ⟨_, rfl⟩
 rw [<- ef] at ci cp
 clear ef en
 have CI : Hid (∀ (a : Option Addr) (cap : Nat) (w : World), CellsAt w a cs -> Calls SqP.prog 6 #[.agg #[.int .i64 wd, .slice a cs.length cap]] w (AnsR w n f)) := ci
 have CS : Hid (∀ (a : Option Addr) (cap : Nat) (w : World), CellsAt w a cs -> Calls SqP.prog 8 #[.agg #[.int .i64 wd, .slice a cs.length cap]] w (AnsR w n f)) := cp
 have heq2 : eqG wd wd cs cs = true := by simp [eqG]
 clear ci cp
 go_enter SqP.func4, Tryz.ntmps4
 go_wp2_with fail
 refine (szGrid_any _ _ _ _ _ _ hm (by omega)).mono ?_
 rintro e w1 ⟨rfl, hb1⟩
 have hz1 := hb1.size
 simp at hz1
 have hB1 : Below w.heap.size w w1 := bcall bel (by simp) hb1
 have p0 : w1.cell? ⟨w.heap.size, 0, none⟩ = some (.int .i64 wd) := keepc hb1 (by simp [go_sem])
 have p1 : w1.cell? ⟨w.heap.size, 1, none⟩ = some (.slice a cs.length cap) := keepc hb1 (by simp [go_sem])
 clear hb1
 go_wp2_with fail
 refine (toGrid_any _ _ _ cs _ (hC.below hB1) hm2).mono ?_
 rintro e w2 ⟨g2, rfl, hO2, hb2⟩
 have hz2 := hb2.size
 have hB2 : Below w.heap.size w w2 := bcall hB1 (by omega) hb2
 replace p0 := keepc hb2 p0; replace p1 := keepc hb2 p1
 obtain ⟨a2, c2, e2, hC2⟩ := hO2.slice
 simp only [Value.slice.injEq] at e2
 obtain ⟨rfl, _, rfl⟩ := e2
 clear hb2 hO2
 go_wp2_with fail
 refine (CS.out _ _ _ hC2).mono ?_
 rintro e w3 ⟨a3, c3, gf3, rfl, hR3, hb3⟩
 have hz3 := hb3.size
 have hB3 : Below w.heap.size w w3 := bcall hB2 (by omega) hb3
 replace p0 := keepc hb3 p0; replace p1 := keepc hb3 p1
 clear hb3 hC2
 go_wp2_with fail
 refine (toGrid_any _ _ _ cs _ (hC.below hB3) hm2).mono ?_
 rintro e w4 ⟨gx, rfl, hOx, hb4⟩
 have hz4 := hb4.size
 have hB4 : Below w.heap.size w w4 := bcall hB3 (by omega) hb4
 replace hR3 := hR3.below hb4
 have Rx := hOx.lt
 replace p0 := keepc hb4 p0; replace p1 := keepc hb4 p1
 clear hb4
 have hbY : Below w4.heap.size w4 (w4.alloc (.cells #[.int .i64 wd, .slice (some ⟨gx, 0, none⟩) cs.length cs.length] 25)) := bel
 have hOxY := hOx.below hbY
 obtain ⟨ax, cx, ex, hCx⟩ := hOxY.slice
 simp only [Value.slice.injEq] at ex
 obtain ⟨rfl, _, rfl⟩ := ex
 go_wp2_with fail
 refine (CI.out _ _ _ hCx).mono ?_
 rintro e w5 ⟨a5, c5, gf5, rfl, hR5, hb5⟩
 simp only [World.size_alloc] at hR5
 have hz5 := hb5.size
 simp at hz5
 have r0 : w5.cell? ⟨w4.heap.size, 0, none⟩ = some (.int .i64 wd) := keepc hb5 (by simp [go_sem])
 have r1 : w5.cell? ⟨w4.heap.size, 1, none⟩ = some (.slice (some ⟨gx, 0, none⟩) cs.length cs.length) := keepc hb5 (by simp [go_sem])
 have hb45 : Below w4.heap.size w4 w5 := bcall hbY (by simp) hb5
 have hB5 : Below w.heap.size w w5 := bcall hB4 (by omega) hb45
 replace hR3 := hR3.below hb45
 replace hOx := hOx.below hb45
 replace p0 := keepc hb45 p0; replace p1 := keepc hb45 p1
 clear hb5 hbY hb45 hOxY hCx
 go_wp2_with fail
 refine (eqIntSS_same _ _ _ _ n _ _ _ _ _ _ f _ hR5 hR3 hn2).mono ?_
 rintro e w6 ⟨rfl, hb6⟩
 have hz6 := hb6.size
 have hB6 : Below w.heap.size w w6 := bcall hB5 (by omega) hb6
 replace hR3 := hR3.below hb6
 replace hR5 := hR5.below hb6
 replace hOx := hOx.below hb6
 replace p0 := keepc hb6 p0; replace p1 := keepc hb6 p1; replace r0 := keepc hb6 r0; replace r1 := keepc hb6 r1
 clear hb6
 go_wp2
 go_region_held3 (fun w' => w'.cell? ⟨w4.heap.size, 0, none⟩ = some (.int .i64 wd) /\ w'.cell? ⟨w4.heap.size, 1, none⟩ = some (.slice (some ⟨gx, 0, none⟩) cs.length cs.length) /\ w'.cell? ⟨w.heap.size, 0, none⟩ = some (.int .i64 wd) /\ w'.cell? ⟨w.heap.size, 1, none⟩ = some (.slice a cs.length cap))
  (first
   | exact ⟨keepc hb8 (keepc hb7 r0), keepc hb8 (keepc hb7 r1), keepc hb8 (keepc hb7 p0), keepc hb8 (keepc hb7 p1)⟩
   | exact ⟨keepc hb7 r0, keepc hb7 r1, keepc hb7 p0, keepc hb7 p1⟩
   | go_keep)
  (first
   | (go_at_call 12; refine (toGrid_any _ _ _ cs _ (hC.below (by first | exact hB6 | exact hB6.drew)) hm2).mono ?_; rintro e w7 ⟨g7, rfl, hO7, hb7'⟩; have hb7 : Below w6.heap.size w6 w7 := (by first | exact hb7' | exact bdrew hb7'))
   | (go_at_call 14; refine (eqGrid_own _ _ _ _ _ _ cs cs _ (hOx.below hb7) hO7 hm2 hm2).mono ?_; rintro e w8 ⟨rfl, hb8'⟩; have hb8 : Below w7.heap.size w7 w8 := (by first | exact hb8' | exact bdrew hb8'))
   | fail)
 have hb68 : Below w6.heap.size w6 w8 := bcall hb7 hb7.size hb8
 have hz8 := hb68.size
 have hB8 : Below w.heap.size w w8 := bcall hB6 (by omega) hb68
 replace hR3 := hR3.below hb68
 replace hR5 := hR5.below hb68
 replace hOx := hOx.below hb68
 replace p0 := keepc hb68 p0; replace p1 := keepc hb68 p1; replace r0 := keepc hb68 r0; replace r1 := keepc hb68 r1
 clear hb7 hb7' hb8 hb8' hO7 hb68
 go_wp2_with fail
 refine (markGrid_own _ _ _ _ cs _ hOx hm2 (by omega)).mono ?_
 rintro e w9 ⟨rfl, _, hg9⟩
 have hz9 := hg9.size
 have n1 : some w.heap.size ≠ (Value.slice (some ⟨gx, 0, none⟩) cs.length cs.length).ownBlock := by simp [Value.ownBlock]; omega
 have hB9 : Below w.heap.size w w9 := hB8.grown hg9 (by omega) (fun k hk => by simp [Value.ownBlock] at hk; omega)
 replace hR3 := hR3.grown (g := gx) hg9 (fun q => by omega)
 replace hR5 := hR5.grown (g := gx) hg9 (fun q => by omega)
 replace p0 := keepg hg9 n1 p0
 replace p1 := keepg hg9 n1 p1
 clear hg9 hOx r0 r1 n1
 have bk : decide ((1 : Int) + 2 * (cs.length : Int) < 0) = false := decide_eq_false (by omega)
 go_wp2_with fail
 refine (eqIntSS_same _ _ _ _ n _ _ _ _ _ _ f _ hR5 hR3 hn2).mono ?_
 rintro e wa ⟨rfl, hba⟩
 have hza := hba.size
 have hBa : Below w.heap.size w wa := bcall hB9 (by omega) hba
 replace hR3 := hR3.below hba
 replace hR5 := hR5.below hba
 replace p0 := keepc hba p0; replace p1 := keepc hba p1
 clear hba
 go_wp2_with fail
 refine (markIntSS_any a5 c5 n _ _ gf5 f _ hR5 hn).mono ?_
 rintro e wb ⟨rfl, hRm, hgb⟩
 have hzb := hgb.size
 have hnb : ∀ e, (∃ k, k < n /\ e = gf5 k) -> w4.heap.size + 1 <= e := by
  rintro e ⟨k, hk, rfl⟩
  rcases hR5 with q | ⟨b, _, hy⟩
  ·omega
  ·exact (hy.lt k hk).1.1
 have hBb : Below w.heap.size w wb := hgb.below hBa (fun e he => by have := hnb e he; omega) (by omega)
 replace hR3 := hR3.off hgb (fun e h1 h2 he => by have := hnb e he; omega)
 have n1 : ¬ ∃ k, k < n /\ w.heap.size = gf5 k := fun he => by have := hnb _ he; omega
 replace p0 := hgb.cell n1 p0
 replace p1 := hgb.cell n1 p1
 clear hgb n1 hnb hR5
 obtain ⟨z, hz⟩ : ∃ z : Nat, n * n = z := ⟨_, rfl⟩
 have hheld : ∀ (w' : World), RowsX w' (w4.heap.size + 1) w5.heap.size a5 n gf5 (fun k j => 1 + ((k * n : Nat) : Int) + (j : Int)) -> Calls SqP.prog 17 #[.slice a5 n c5, .int .i64 1] w' (fun e w'' => e = .returned (.int .i64 (1 + (z : Int))) /\ w'' = w') := fun w' h => by rw [<- hz]; exact heldIntSS_any a5 c5 n _ _ gf5 w' h hn
 rw [hz]
 clear hz
 go_wp2_with fail
 refine (hheld _ hRm).mono ?_
 rintro e w' ⟨rfl, rfl⟩
 have bq : decide ((1 : Int) + (z : Int) < 0) = false := decide_eq_false (by omega)
 have bm : ((1 : Int) + (z : Int) != 1 + (z : Int)) = false := by simp
 go_wp2_with fail
 refine (toGrid_any _ _ _ cs _ (hC.below hBb) hm2).mono ?_
 rintro e wc ⟨gc, rfl, hOc, hbc⟩
 have hzc := hbc.size
 have hBc : Below w.heap.size w wc := bcall hBb (by omega) hbc
 replace hR3 := hR3.below hbc
 replace hRm := hRm.below hbc
 obtain ⟨ac, cc, ec, hCc⟩ := hOc.slice
 simp only [Value.slice.injEq] at ec
 obtain ⟨rfl, _, rfl⟩ := ec
 clear hbc hOc p0 p1
 go_wp2_with fail
 refine (CI.out _ _ _ hCc).mono ?_
 rintro e wd' ⟨ad, cd, gfd, rfl, hRd, hbd⟩
 have hzd := hbd.size
 have hBd : Below w.heap.size w wd' := bcall hBc (by omega) hbd
 replace hR3 := hR3.below hbd
 replace hRm := hRm.below hbd
 clear hbd hCc
 go_wp2_with fail
 refine (eqIntSS_same _ _ _ _ n _ _ _ _ _ _ f _ hRd hR3 hn2).mono ?_
 rintro e we ⟨rfl, hbe⟩
 have hBe : Below w.heap.size w we := bcall hBd (by omega) hbe
 replace hRm := hRm.below hbe
 clear hbe hR3 hRd
 go_wp2_with fail
 refine (hheld _ hRm).mono ?_
 rintro e w' ⟨rfl, rfl⟩
 go_wp2
 go_ret
 exact ⟨rfl, hBe⟩
end Sp
end Go.Proofs.YtmmeapmlfopleaaGreat
