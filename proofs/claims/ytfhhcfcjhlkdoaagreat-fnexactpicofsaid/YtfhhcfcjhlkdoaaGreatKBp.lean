/-
  Texts of the proof: PGx.
-/
import Derived.Test.YtfhhcfcjhlkdoaaGreatChecked
import Derived.Deep.RegionHeld3
import Derived.Calls
import Derived.Laws.Sem
import Derived.WalkKit
import Derived.WalkLawsBesides
import Derived.Below
import Derived.Deep.Draws
import Derived.Deep.DrawnRows
import Derived.Laws.EntriesVeiled
import Derived.BigQuiet
import Derived.Deep.DeepCutAuto
import Derived.Laws.CopyOwn
import Derived.Deep.WholeRow
import Derived.LoopN
import Derived.Deep.AppendLies
import Derived.Laws.Rows
import Derived.Deep.QuietTactic
import Derived.Laws.Bits64
import Derived.Deep.RegionLaw
import Derived.WalkSmall
import Derived.Deep.RegionHeldLaw
import Derived.Deep.LoopGhost
import Derived.Deep.RegionWith
import Derived.Test.YtfhhcfcjhlkdoaaGreatKAa
import Derived.Test.YtfhhcfcjhlkdoaaGreatKAb
import Derived.Test.YtfhhcfcjhlkdoaaGreatKAc
import Derived.Test.YtfhhcfcjhlkdoaaGreatKAo
import Derived.Test.YtfhhcfcjhlkdoaaGreatKAp
import Derived.Test.YtfhhcfcjhlkdoaaGreatKAq
import Derived.Test.YtfhhcfcjhlkdoaaGreatKAr
import Derived.Test.YtfhhcfcjhlkdoaaGreatKAs
import Derived.Test.YtfhhcfcjhlkdoaaGreatKAt
import Derived.Test.YtfhhcfcjhlkdoaaGreatKAu
import Derived.Test.YtfhhcfcjhlkdoaaGreatKAv
import Derived.Test.YtfhhcfcjhlkdoaaGreatKAw
import Derived.Test.YtfhhcfcjhlkdoaaGreatKAx
import Derived.Test.YtfhhcfcjhlkdoaaGreatKAy
import Derived.Test.YtfhhcfcjhlkdoaaGreatKAz
import Derived.Test.YtfhhcfcjhlkdoaaGreatKBa
import Derived.Test.YtfhhcfcjhlkdoaaGreatKBj
import Derived.Test.YtfhhcfcjhlkdoaaGreatKBk
import Derived.Test.YtfhhcfcjhlkdoaaGreatKBl
import Derived.Test.YtfhhcfcjhlkdoaaGreatKBm

namespace Go.Proofs.YtfhhcfcjhlkdoaaGreat.Sp
open Go.RowKit
set_option linter.unusedVariables false

theorem picNN (wd : Int) (cs : List (Int × Int)) (hm : cs.length ≤ 1048576) : ∃ (n : Nat) (f : Nat → Int), n ≤ 1048576 ∧
    (∀ (a : Option Addr) (cap : Nat) (w : World), CellsAt w a cs → Calls SqP.prog 12 #[.agg #[.int .i64 wd, .slice a cs.length cap]] w (AnsI w n 1 f)) ∧
    (∀ (a : Option Addr) (cap : Nat) (w : World), CellsAt w a cs → Calls SqP.prog 14 #[.agg #[.int .i64 wd, .slice a cs.length cap]] w (AnsI w n 1 f)) := by
  have hs : ∀ (a : Option Addr) (cap : Nat) (w : World), CellsAt w a cs → Calls SqP.prog 14 #[.agg #[.int .i64 wd, .slice a cs.length cap]] w (AnsI w (picN wd cs).length 1 (fun j => intOf ((intsV (picN wd cs)).getD j (.int .i64 0)))) := by
    intro a cap w h
    refine (specPicOf_any wd a cap cs w h hm).mono ?_
    rintro r w' ⟨v, rfl, ho, hb⟩
    obtain ⟨a3, c3, e, hR, hn, ho2⟩ := own_RI ho (ints_int _)
    exact ⟨a3, c3, by rw [e], hR, hn, ho2, hb⟩
  rcases hk : okG wd cs with _ | _
  · have e : picN wd cs = [] := by unfold picN; rw [manyG_bad hk]; rfl
    rw [e] at hs
    refine ⟨0, fun j => intOf ((intsV []).getD j (.int .i64 0)), by omega, fun a cap w h => ?_, hs⟩
    refine (picNo_any wd a cap cs w h (by omega) hk).mono ?_
    rintro r w' ⟨rfl, hb⟩
    exact ⟨none, 0, rfl, .inl (by simp), fun b off e => (by cases e), fun b e => by simp [Value.ownBlock] at e, hb⟩
  · obtain ⟨W, H, rfl, h1, h2, h3, h4, el, hH, hHI⟩ := okG_nat wd cs hk
    have hM : manyG (W : Int) cs = ((2 * (W + H) : Nat) : Int) := by rw [manyG_ok hk hHI]; omega
    have hl : (picN (W : Int) cs).length = 2 * (W + H) := by unfold picN; rw [picK_len, hM]; rfl
    refine ⟨_, _, by rw [hl]; omega, fun a cap w h => ?_, hs⟩
    rw [hl]
    refine (picYes_any (W : Int) a cap cs w h hk (2 * (W + H)) hM).mono ?_
    rintro r w' ⟨g, rfl, hg, hgc, hb⟩
    have hgl := (Array.getElem?_eq_some_iff.1 hgc).1
    refine ⟨_, _, rfl, .inr ⟨g, rfl, hgl, fun j hj => ⟨?_, frozen_of_row _ _ _ _ _ hgc⟩⟩, fun b off e => ?_, fun b e => ?_, hb⟩
    · have hj' : j < 2 * (W + H) := by omega
      rw [cell_of_row _ _ _ _ _ _ hgc]
      have e2 : (intsV (picN (W : Int) cs)).getD j (.int .i64 0) = .int .i64 (lightN (W : Int) cs (j : Int)) := by
        have hq : (picN (W : Int) cs) = (List.range (2 * (W + H))).map fun (k : Nat) => lightN (W : Int) cs (k : Int) := by unfold picN picK; rw [hM]; rfl
        rw [hq]
        simp [intsV, List.getD, hj']
      show _ = some (Value.int .i64 (intOf ((intsV (picN (W : Int) cs)).getD j (.int .i64 0))))
      rw [e2]
      simp [hj', intOf]
    · simp only [Option.some.injEq, Addr.mk.injEq, and_true] at e
      obtain ⟨rfl, rfl⟩ := e
      exact ⟨hg, hgl⟩
    · simp only [Value.ownBlock, Option.some.injEq] at e
      omega

set_option maxHeartbeats 4000000 in
theorem exPicOf_any (wd : Int) (a : Option Addr) (cap : Nat) (cs : List (Int × Int)) (w : World) (hC : CellsAt w a cs) (hm : cs.length ≤ 9223372036854775807) :
    Calls SqP.prog 9 #[.agg #[.int .i64 wd, .slice a cs.length cap]] w fun e w' => e = .returned (.bool true) ∧ Below w.heap.size w w' := by
  by_cases hbig : (1048576 : Int) - cs.length < 0
  · go_enter SqP.func9, Tryz.ntmps9
    go_wp2_with fail
    refine (szGrid_any _ _ _ _ _ _ hm (by omega)).mono ?_
    rintro e w1 ⟨rfl, hb1⟩
    go_wp2
    go_ret
    exact ⟨rfl, bcall (by repeat (first | exact Below.refl _ _ | refine Below.alloc ?_ (by first | exact Nat.le_refl _ | (simp; done) | (simp; omega)) _ | refine Below.drew ?_ | refine Below.setCell ?_ (by first | exact Nat.le_refl _ | (simp; done) | (simp; omega)) _)) (by simp) hb1⟩
  have hm2 : cs.length ≤ 1048576 := by omega
  obtain ⟨n, f, hn, ci, cp⟩ := picNN wd cs hm2
  have hn2 : n ≤ 1048576 := by omega
  have CI : Hid (∀ (a : Option Addr) (cap : Nat) (w : World), CellsAt w a cs → Calls SqP.prog 12 #[.agg #[.int .i64 wd, .slice a cs.length cap]] w (AnsI w n 1 f)) := ci
  have CS : Hid (∀ (a : Option Addr) (cap : Nat) (w : World), CellsAt w a cs → Calls SqP.prog 14 #[.agg #[.int .i64 wd, .slice a cs.length cap]] w (AnsI w n 1 f)) := cp
  have heq2 : eqG wd wd cs cs = true := by simp [eqG]
  clear ci cp
  go_enter SqP.func9, Tryz.ntmps9
  go_wp2_with fail
  refine (szGrid_any _ _ _ _ _ _ hm (by omega)).mono ?_
  rintro e w1 ⟨rfl, hb1⟩
  have hz1 := hb1.size
  simp at hz1
  have hB1 : Below w.heap.size w w1 := bcall (by repeat (first | exact Below.refl _ _ | refine Below.alloc ?_ (by first | exact Nat.le_refl _ | (simp; done) | (simp; omega)) _ | refine Below.drew ?_ | refine Below.setCell ?_ (by first | exact Nat.le_refl _ | (simp; done) | (simp; omega)) _)) (by simp) hb1
  have p0 : w1.cell? ⟨w.heap.size, 0, none⟩ = some (.int .i64 wd) := keepc hb1 (by simp [go_sem])
  have p1 : w1.cell? ⟨w.heap.size, 1, none⟩ = some (.slice a cs.length cap) := keepc hb1 (by simp [go_sem])
  clear hb1
  -- what is wanted
  go_wp2_with fail
  refine (toGrid_any _ _ _ cs _ (hC.below hB1) hm2).mono ?_
  rintro e w2 ⟨g2, rfl, hO2, hb2⟩
  have hz2 := hb2.size
  have hB2 : Below w.heap.size w w2 := bcall hB1 (by omega) hb2
  replace p0 := keepc hb2 p0; replace p1 := keepc hb2 p1
  obtain ⟨a2, c2, e2, hC2⟩ := hO2.slice
  simp only [Value.slice.injEq] at e2
  obtain ⟨rfl, _, rfl⟩ := e2
  clear hb2 hO2
  go_wp2_with fail
  refine (CS.out _ _ _ hC2).mono ?_
  rintro e w3 ⟨a3, c3, rfl, hR3, hN3, _, hb3⟩
  have hz3 := hb3.size
  have hB3 : Below w.heap.size w w3 := bcall hB2 (by omega) hb3
  replace p0 := keepc hb3 p0; replace p1 := keepc hb3 p1
  clear hb3 hC2
  go_wp2_with fail
  refine (toGrid_any _ _ _ cs _ (hC.below hB3) hm2).mono ?_
  rintro e w4 ⟨gx, rfl, hOx, hb4⟩
  have hz4 := hb4.size
  have hB4 : Below w.heap.size w w4 := bcall hB3 (by omega) hb4
  replace hR3 := hR3.below hb4
  have Rx := hOx.lt
  replace p0 := keepc hb4 p0; replace p1 := keepc hb4 p1
  clear hb4
  -- the argument's box
  have hbY : Below w4.heap.size w4 (w4.alloc (.cells #[.int .i64 wd, .slice (some ⟨gx, 0, none⟩) cs.length cs.length] 25)) := (by repeat (first | exact Below.refl _ _ | refine Below.alloc ?_ (by first | exact Nat.le_refl _ | (simp; done) | (simp; omega)) _ | refine Below.drew ?_ | refine Below.setCell ?_ (by first | exact Nat.le_refl _ | (simp; done) | (simp; omega)) _))
  have hOxY := hOx.below hbY
  obtain ⟨ax, cx, ex, hCx⟩ := hOxY.slice
  simp only [Value.slice.injEq] at ex
  obtain ⟨rfl, _, rfl⟩ := ex
  go_wp2_with fail
  refine (CI.out _ _ _ hCx).mono ?_
  rintro e w5 ⟨a5, c5, rfl, hR5, hN5, hW5, hb5⟩
  have hz5 := hb5.size
  simp at hz5
  have hN5' : ∀ b off, a5 = some ⟨b, off, none⟩ → w4.heap.size + 1 ≤ b ∧ b < w5.heap.size := fun b off e => by have := hN5 b off e; simp at this; omega
  have r0 : w5.cell? ⟨w4.heap.size, 0, none⟩ = some (.int .i64 wd) := keepc hb5 (by simp [go_sem])
  have r1 : w5.cell? ⟨w4.heap.size, 1, none⟩ = some (.slice (some ⟨gx, 0, none⟩) cs.length cs.length) := keepc hb5 (by simp [go_sem])
  have hb45 : Below w4.heap.size w4 w5 := bcall hbY (by simp) hb5
  have hB5 : Below w.heap.size w w5 := bcall hB4 (by omega) hb45
  replace hR3 := hR3.below hb45
  replace hOx := hOx.below hb45
  replace p0 := keepc hb45 p0; replace p1 := keepc hb45 p1
  clear hb5 hbY hb45 hOxY hCx hN5
  go_wp2_with fail
  refine (eqIntS_same _ _ _ _ n f _ hR5 hR3 hn2).mono ?_
  rintro e w6 ⟨rfl, hb6⟩
  have hz6 := hb6.size
  have hB6 : Below w.heap.size w w6 := bcall hB5 (by omega) hb6
  replace hR3 := hR3.below hb6
  replace hR5 := hR5.below hb6
  replace hOx := hOx.below hb6
  replace p0 := keepc hb6 p0; replace p1 := keepc hb6 p1; replace r0 := keepc hb6 r0; replace r1 := keepc hb6 r1
  clear hb6
  go_wp2
  go_region_held3 (fun w' => w'.cell? ⟨w4.heap.size, 0, none⟩ = some (.int .i64 wd) ∧ w'.cell? ⟨w4.heap.size, 1, none⟩ = some (.slice (some ⟨gx, 0, none⟩) cs.length cs.length) ∧ w'.cell? ⟨w.heap.size, 0, none⟩ = some (.int .i64 wd) ∧ w'.cell? ⟨w.heap.size, 1, none⟩ = some (.slice a cs.length cap))
    (first
      | exact ⟨keepc hb8 (keepc hb7 r0), keepc hb8 (keepc hb7 r1), keepc hb8 (keepc hb7 p0), keepc hb8 (keepc hb7 p1)⟩
      | exact ⟨keepc hb7 r0, keepc hb7 r1, keepc hb7 p0, keepc hb7 p1⟩
      | go_keep)
    (first
      | (go_at_call 28; refine (toGrid_any _ _ _ cs _ (hC.below (by first | exact hB6 | exact hB6.drew)) hm2).mono ?_; rintro e w7 ⟨g7, rfl, hO7, hb7'⟩; have hb7 : Below w6.heap.size w6 w7 := (by first | exact hb7' | exact bdrew hb7'))
      | (go_at_call 30; refine (eqGrid_own _ _ _ _ _ _ cs cs _ (hOx.below hb7) hO7 hm2 hm2).mono ?_; rintro e w8 ⟨rfl, hb8'⟩; have hb8 : Below w7.heap.size w7 w8 := (by first | exact hb8' | exact bdrew hb8'))
      | fail)
  have hb68 : Below w6.heap.size w6 w8 := bcall hb7 hb7.size hb8
  have hz8 := hb68.size
  have hB8 : Below w.heap.size w w8 := bcall hB6 (by omega) hb68
  replace hR3 := hR3.below hb68
  replace hR5 := hR5.below hb68
  replace hOx := hOx.below hb68
  replace p0 := keepc hb68 p0; replace p1 := keepc hb68 p1; replace r0 := keepc hb68 r0; replace r1 := keepc hb68 r1
  clear hb7 hb7' hb8 hb8' hO7 hb68
  -- the argument is marked
  go_wp2_with fail
  refine (markGrid_own _ _ _ _ cs _ hOx hm2 (by omega)).mono ?_
  rintro e w9 ⟨rfl, _, hg9⟩
  have hz9 := hg9.size
  have n1 : some w.heap.size ≠ (Value.slice (some ⟨gx, 0, none⟩) cs.length cs.length).ownBlock := by simp [Value.ownBlock]; omega
  have hB9 : Below w.heap.size w w9 := hB8.grown hg9 (by omega) (fun k hk => by simp [Value.ownBlock] at hk; omega)
  replace hR3 := hR3.grown hg9 (fun b off e => by have := hN3 b off e; simp [Value.ownBlock]; omega)
  replace hR5 := hR5.grown hg9 (fun b off e => by have := hN5' b off e; simp [Value.ownBlock]; omega)
  replace p0 := keepg hg9 n1 p0
  replace p1 := keepg hg9 n1 p1
  clear hg9 hOx r0 r1 n1
  have bk : decide ((1 : Int) + 2 * (cs.length : Int) < 0) = false := decide_eq_false (by omega)
  go_wp2_with fail
  refine (eqIntS_same _ _ _ _ n f _ hR5 hR3 hn2).mono ?_
  rintro e wa ⟨rfl, hba⟩
  have hza := hba.size
  have hBa : Below w.heap.size w wa := bcall hB9 (by omega) hba
  replace hR3 := hR3.below hba
  replace hR5 := hR5.below hba
  replace p0 := keepc hba p0; replace p1 := keepc hba p1
  clear hba
  -- the answer is marked
  go_wp2_with fail
  refine (markIntS_any 1 a5 n c5 f _ hR5 hn2 (by omega)).mono ?_
  rintro e wb ⟨rfl, hRm, hgb⟩
  have hzb := hgb.size
  have nob : ∀ b, (Value.slice a5 n c5).ownBlock = some b → w4.heap.size + 1 ≤ b := fun b hb => by have := hW5 b hb; simp at this; omega
  have hBb : Below w.heap.size w wb := hBa.grown hgb (by omega) (fun k hk => by have := nob k hk; omega)
  replace hR3 := hR3.grown hgb (fun b off e q => by have := hN3 b off e; have := nob b q.symm; omega)
  have n1 : some w.heap.size ≠ (Value.slice a5 n c5).ownBlock := fun q => by have := nob _ q.symm; omega
  replace p0 := keepg hgb n1 p0
  replace p1 := keepg hgb n1 p1
  clear hgb n1 nob hR5
  go_wp2_with fail
  refine (heldIntS_any 1 a5 n c5 _ hRm hn2 (by omega)).mono ?_
  rintro e w' ⟨rfl, rfl⟩
  have bq : decide ((1 : Int) + 1 * (n : Int) < 0) = false := decide_eq_false (by omega)
  have bm : ((1 : Int) + 1 * (n : Int) != 1 + 1 * (n : Int)) = false := by simp
  go_wp2_with fail
  refine (toGrid_any _ _ _ cs _ (hC.below hBb) hm2).mono ?_
  rintro e wc ⟨gc, rfl, hOc, hbc⟩
  have hzc := hbc.size
  have hBc : Below w.heap.size w wc := bcall hBb (by omega) hbc
  replace hR3 := hR3.below hbc
  replace hRm := hRm.below hbc
  obtain ⟨ac, cc, ec, hCc⟩ := hOc.slice
  simp only [Value.slice.injEq] at ec
  obtain ⟨rfl, _, rfl⟩ := ec
  clear hbc hOc p0 p1
  go_wp2_with fail
  refine (CI.out _ _ _ hCc).mono ?_
  rintro e wd' ⟨ad, cd, rfl, hRd, hNd, _, hbd⟩
  have hzd := hbd.size
  have hBd : Below w.heap.size w wd' := bcall hBc (by omega) hbd
  replace hR3 := hR3.below hbd
  replace hRm := hRm.below hbd
  clear hbd hCc
  go_wp2_with fail
  refine (eqIntS_same _ _ _ _ n f _ hRd hR3 hn2).mono ?_
  rintro e we ⟨rfl, hbe⟩
  have hBe : Below w.heap.size w we := bcall hBd (by omega) hbe
  replace hRm := hRm.below hbe
  clear hbe hR3 hRd
  go_wp2_with fail
  refine (heldIntS_any 1 a5 n c5 _ hRm hn2 (by omega)).mono ?_
  rintro e w' ⟨rfl, rfl⟩
  go_wp2
  go_ret
  exact ⟨rfl, hBe⟩

end Go.Proofs.YtfhhcfcjhlkdoaaGreat.Sp
