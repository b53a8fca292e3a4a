/-
  'laws.FnExactGridPut' returns true for every grid, place and cell: impl.GridPut answers as spec.GridPut, writes into no argument, keeps nothing of one, and its answer owns its memory, behind another call too. No condition.
-/
import Derived.Test.YtmnninhifiajhaaWx
import Derived.Test.YtmnninhifiajhaaFa
import Derived.Deep.RegionHeld3
import Derived.Deep.DeepCutAuto
namespace Go.Proofs.Ytmnninhifiajhaa.ExGridPut
open Go.ChangeShapes Go.WideShapes Go.ChangeAt Go.RowKit Go.Joins Go.Deep
set_option linter.unusedVariables false

theorem big (wd : Int) (a : Option Addr) (cap : Nat) (cs : List (Int × Int)) (x ck cl : Int) (w : World) (hC : CellsAt w a cs) (hm : cs.length ≤ 9223372036854775807) (hbig : (1048576 : Int) - cs.length < 0) :
    Calls Try.prog 7 #[.agg #[.int .i64 wd, .slice a cs.length cap], .int .i64 x, .agg #[.int .i64 ck, .int .i64 cl]] w fun e w' => e = .returned (.bool true) ∧ Below w.heap.size w w' := by
  go_enter Try.func7, Try.ntmps7
  go_wp2_with fail
  refine (szGrid_any _ _ _ _ _ _ hm (by omega)).mono ?_
  rintro e w1 ⟨rfl, hb1⟩
  go_wp2
  go_ret
  exact ⟨rfl, bcall (by repeat (first | exact Below.refl _ _ | refine Below.alloc ?_ (by first | exact Nat.le_refl _ | (simp; done) | (simp; omega)) _ | refine Below.drew ?_ | refine Below.setCell ?_ (by first | exact Nat.le_refl _ | (simp; done) | (simp; omega)) _)) (by simp; omega) hb1⟩

set_option maxRecDepth 100000 in
set_option maxHeartbeats 4000000 in
theorem small (wd : Int) (a : Option Addr) (cap : Nat) (cs : List (Int × Int)) (x ck cl : Int) (w : World) (hC : CellsAt w a cs) (hm2 : cs.length ≤ 1048576) :
    Calls Try.prog 7 #[.agg #[.int .i64 wd, .slice a cs.length cap], .int .i64 x, .agg #[.int .i64 ck, .int .i64 cl]] w fun e w' => e = .returned (.bool true) ∧ Below w.heap.size w w' := by
  have hlen := putG_len wd cs x ck cl
  obtain ⟨tw, tc, tb, ht⟩ : ∃ tw tc tb, putG wd cs x ck cl = (tw, tc, tb) := ⟨_, _, _, rfl⟩
  rw [ht] at hlen
  have htl : tc.length ≤ 1048576 := by simp only at hlen; omega
  have CS : Hid (∀ (a : Option Addr) (cap : Nat) (w : World), CellsAt w a cs → Calls Try.prog 13 #[.agg #[.int .i64 wd, .slice a cs.length cap], .int .i64 x, .agg #[.int .i64 ck, .int .i64 cl]] w fun e w' => ∃ v, e = .returned (.tuple #[.agg #[.int .i64 tw, v], .bool tb]) ∧ Own w' w.heap.size v tc ∧ Below w.heap.size w w') := by
    intro a cap w h
    have := specGridPut_any wd a cap cs x ck cl w h hm2
    rw [ht] at this
    exact this
  have CI : Hid (∀ (a : Option Addr) (cap : Nat) (w : World), CellsAt w a cs → Calls Try.prog 14 #[.agg #[.int .i64 wd, .slice a cs.length cap], .int .i64 x, .agg #[.int .i64 ck, .int .i64 cl]] w fun e w' => ∃ v, e = .returned (.tuple #[.agg #[.int .i64 tw, v], .bool tb]) ∧ Own w' w.heap.size v tc ∧ Below w.heap.size w w') := by
    intro a cap w h
    have := implGridPut_any wd a cap cs x ck cl w h hm2
    rw [ht] at this
    exact this
  have heq : eqG tw tw tc tc = true := by simp [eqG]
  have heq2 : eqG wd wd cs cs = true := by simp [eqG]
  have hbig : ¬ (1048576 : Int) - cs.length < 0 := by omega
  have hbb : (tb != tb) = false := by cases tb <;> rfl
  clear ht hlen
  go_enter Try.func7, Try.ntmps7
  go_wp2_with fail
  refine (szGrid_any _ _ _ _ _ _ (by omega) (by omega)).mono ?_
  rintro e w1 ⟨rfl, hb1⟩
  have hz1 := hb1.size
  simp at hz1
  have hB1 : Below w.heap.size w w1 := bcall (by repeat (first | exact Below.refl _ _ | refine Below.alloc ?_ (by first | exact Nat.le_refl _ | (simp; done) | (simp; omega)) _ | refine Below.drew ?_ | refine Below.setCell ?_ (by first | exact Nat.le_refl _ | (simp; done) | (simp; omega)) _)) (by simp; omega) hb1
  have p0 : w1.cell? ⟨w.heap.size, 0, none⟩ = some (.int .i64 wd) := keepc hb1 (by simp [go_sem])
  have p1 : w1.cell? ⟨w.heap.size, 1, none⟩ = some (.slice a cs.length cap) := keepc hb1 (by simp [go_sem])
  have b0 : w1.cell? ⟨w.heap.size + 1, 0, none⟩ = some (.int .i64 ck) := keepc hb1 (by simp [go_sem])
  have b1 : w1.cell? ⟨w.heap.size + 1, 1, none⟩ = some (.int .i64 cl) := keepc hb1 (by simp [go_sem])
  have hCu := hC.below hB1
  clear hb1
  have hbZ : Below w1.heap.size w1 (w1.alloc (.cells #[.int .i64 0, .slice none 0 0] 25)) := (by repeat (first | exact Below.refl _ _ | refine Below.alloc ?_ (by first | exact Nat.le_refl _ | (simp; done) | (simp; omega)) _ | refine Below.drew ?_ | refine Below.setCell ?_ (by first | exact Nat.le_refl _ | (simp; done) | (simp; omega)) _))
  go_wp2
  go_cut [8, 9] (fun sA sB w5 => ∃ blk : Nat, sA = .pointer (some ⟨blk, 0, none⟩) ∧ sB = .bool tb ∧ AnsAt w1 w5 blk tw tc)
  case first =>
    go_region_held3 (fun w' => w'.cell? ⟨w.heap.size, 0, none⟩ = some (.int .i64 wd) ∧ w'.cell? ⟨w.heap.size, 1, none⟩ = some (.slice a cs.length cap) ∧ w'.cell? ⟨w.heap.size + 1, 0, none⟩ = some (.int .i64 ck) ∧ w'.cell? ⟨w.heap.size + 1, 1, none⟩ = some (.int .i64 cl))
      (first
        | exact ⟨keepc hbP p0, keepc hbP p1, keepc hbP b0, keepc hbP b1⟩
        | exact ⟨keepc hbPV p0, keepc hbPV p1, keepc hbPV b0, keepc hbPV b1⟩
        | exact ⟨keepc hbPZ p0, keepc hbPZ p1, keepc hbPZ b0, keepc hbPZ b1⟩
        | exact ⟨setc (by omega) (setc (by omega) (keepc hbP p0)), setc (by omega) (setc (by omega) (keepc hbP p1)), setc (by omega) (setc (by omega) (keepc hbP b0)), setc (by omega) (setc (by omega) (keepc hbP b1))⟩
        | exact ⟨keepc hbB p0, keepc hbB p1, keepc hbB b0, keepc hbB b1⟩
        | exact ⟨keepc hbBZ p0, keepc hbBZ p1, keepc hbBZ b0, keepc hbBZ b1⟩
        | exact ⟨keepc hbA p0, keepc hbA p1, keepc hbA b0, keepc hbA b1⟩
        | exact ⟨keepc hbAZ p0, keepc hbAZ p1, keepc hbAZ b0, keepc hbAZ b1⟩
        | exact ⟨keepc hbZ p0, keepc hbZ p1, keepc hbZ b0, keepc hbZ b1⟩
        | go_keep)
      (first
        | (go_at_call 23; refine (toGrid_any _ _ _ cs _ (by first | exact hCu | exact hCu.below (Below.refl _ _).drew) hm2).mono ?_; rintro e wA ⟨gA, rfl, hOA, hbA'⟩; have hbA : Below w1.heap.size w1 wA := (by first | exact hbA' | exact bdrew hbA'); have hzA := hbA.size; have hbAZ : Below w1.heap.size w1 (wA.alloc (.cells #[.int .i64 0, .slice none 0 0] 25)) := hbA.alloc hbA.size _)
        | (go_at_call 23; refine (toGrid_any _ _ _ cs _ (by first | exact hCu.below hbZ | exact hCu.below hbZ.drew) hm2).mono ?_; rintro e wA ⟨gA, rfl, hOA, hbA'⟩; have hbA : Below w1.heap.size w1 wA := (by first | exact bcall hbZ hbZ.size hbA' | exact bcall hbZ hbZ.size (bdrew hbA')); have hzA := hbA'.size; simp at hzA; have z0 : wA.cell? ⟨w1.heap.size, 0, none⟩ = some (.int .i64 0) := keepc hbA' (by simp [go_sem]); have z1 : wA.cell? ⟨w1.heap.size, 1, none⟩ = some (.slice none 0 0) := keepc hbA' (by simp [go_sem]); have zf0 : wA.frozen? ⟨w1.heap.size, 0, none⟩ = false := keepf hbA' (v := .int .i64 0) (by simp [go_sem]) (by simp [go_sem]); have zf1 : wA.frozen? ⟨w1.heap.size, 1, none⟩ = false := keepf hbA' (v := .slice none 0 0) (by simp [go_sem]) (by simp [go_sem]))
        | (go_at_call 24; refine (toCell_any _ _ _).mono ?_; rintro e wB ⟨rfl, hbB'⟩; have hbB : Below w1.heap.size w1 wB := bcall hbA hbA.size hbB'; have hzB := hbB'.size; have hOB := hOA.below hbB'; have hbBZ : Below w1.heap.size w1 (wB.alloc (.cells #[.int .i64 0, .slice none 0 0] 25)) := hbB.alloc hbB.size _; (try (replace zf0 := keepf hbB' z0 zf0; replace zf1 := keepf hbB' z1 zf1; replace z0 := keepc hbB' z0; replace z1 := keepc hbB' z1)))
        | (go_at_call 24; refine (toCell_any _ _ _).mono ?_; rintro e wB ⟨rfl, hbB'⟩; have hbB : Below w1.heap.size w1 wB := bcall hbAZ hbAZ.size hbB'; have hzB := hbB'.size; simp at hzB; have hOB := (hOA.alloc (.cells #[.int .i64 0, .slice none 0 0] 25)).below hbB'; have y0 : wB.cell? ⟨wA.heap.size, 0, none⟩ = some (.int .i64 0) := keepc hbB' (by simp [go_sem]); have y1 : wB.cell? ⟨wA.heap.size, 1, none⟩ = some (.slice none 0 0) := keepc hbB' (by simp [go_sem]); have yf0 : wB.frozen? ⟨wA.heap.size, 0, none⟩ = false := keepf hbB' (v := .int .i64 0) (by simp [go_sem]) (by simp [go_sem]); have yf1 : wB.frozen? ⟨wA.heap.size, 1, none⟩ = false := keepf hbB' (v := .slice none 0 0) (by simp [go_sem]) (by simp [go_sem]))
        | (go_at_call 13; refine (CS.out _ _ _ (own_cells hOB)).mono ?_; rintro e wP ⟨vP, rfl, hOP, hbP'⟩; obtain ⟨aP, cP, rfl, -⟩ := hOP.slice; have hbP : Below w1.heap.size w1 wP := bcall hbB hbB.size hbP'; have hzP := hbP'.size; have hbPV : Below w1.heap.size w1 (wP.alloc (.cells #[.int .i64 tw, .slice aP tc.length cP] 25)) := hbP.alloc hbP.size _; have hbPZ : Below w1.heap.size w1 (wP.alloc (.cells #[.int .i64 0, .slice none 0 0] 25)) := hbP.alloc hbP.size _; (try (replace zf0 := keepf hbP' z0 zf0; replace zf1 := keepf hbP' z1 zf1; replace z0 := keepc hbP' z0; replace z1 := keepc hbP' z1)); (try (replace yf0 := keepf hbP' y0 yf0; replace yf1 := keepf hbP' y1 yf1; replace y0 := keepc hbP' y0; replace y1 := keepc hbP' y1)))
        | (go_at_call 13; refine (CS.out _ _ _ (own_cells (hOB.alloc (.cells #[.int .i64 0, .slice none 0 0] 25)))).mono ?_; rintro e wP ⟨vP, rfl, hOP, hbP'⟩; obtain ⟨aP, cP, rfl, -⟩ := hOP.slice; have hbP : Below w1.heap.size w1 wP := bcall hbBZ hbBZ.size hbP'; have hzP := hbP'.size; simp at hzP; simp only [World.size_alloc] at hOP; have x0 : wP.cell? ⟨wB.heap.size, 0, none⟩ = some (.int .i64 0) := keepc hbP' (by simp [go_sem]); have x1 : wP.cell? ⟨wB.heap.size, 1, none⟩ = some (.slice none 0 0) := keepc hbP' (by simp [go_sem]); have xf0 : wP.frozen? ⟨wB.heap.size, 0, none⟩ = false := keepf hbP' (v := .int .i64 0) (by simp [go_sem]) (by simp [go_sem]); have xf1 : wP.frozen? ⟨wB.heap.size, 1, none⟩ = false := keepf hbP' (v := .slice none 0 0) (by simp [go_sem]) (by simp [go_sem]))
        | fail)
    · have hbox := ans_new hbP hOP (by omega) tw
      go_wp2_with fail
      go_meet
      case rel => exact ⟨_, rfl, rfl, hbox⟩
    · have hbox := ans_set hbP hOP (by omega) (by omega) x0 x1 tw
      go_wp2_with fail
      go_meet
      case rel => exact ⟨_, rfl, rfl, hbox⟩
    · have hbox := ans_set hbP hOP (by omega) (by omega) y0 y1 tw
      go_wp2_with fail
      go_meet
      case rel => exact ⟨_, rfl, rfl, hbox⟩
    · have hbox := ans_set hbP hOP (by omega) (by omega) z0 z1 tw
      go_wp2_with fail
      go_meet
      case rel => exact ⟨_, rfl, rfl, hbox⟩
  case rest =>
    rename World => w5
    obtain ⟨bS, rfl, rfl, aS, cS, hS1, hS2, q0, q1, hO3, R3, hb5⟩ := hcut
    have hz5 := hb5.size
    have hB5 := bcall hB1 (by omega) hb5
    replace p0 := keepc hb5 p0; replace p1 := keepc hb5 p1; replace b0 := keepc hb5 b0; replace b1 := keepc hb5 b1
    clear hb5 hbZ hCu hB1
    go_wp2_with fail
    refine (toGrid_any _ _ _ cs _ (hC.below hB5) hm2).mono ?_
    rintro e w6 ⟨gx, rfl, hOx, hb6⟩
    have hz6 := hb6.size
    have hB6 := bcall hB5 (by omega) hb6
    have Rx := hOx.lt
    replace hO3 := hO3.below hb6
    replace p0 := keepc hb6 p0; replace p1 := keepc hb6 p1; replace b0 := keepc hb6 b0; replace b1 := keepc hb6 b1; replace q0 := keepc hb6 q0; replace q1 := keepc hb6 q1
    clear hb6 hB5
    obtain ⟨w7, hw7⟩ : ∃ w7, w7 = w6.alloc (.cells #[.int .i64 wd, .slice (some ⟨gx, 0, none⟩) cs.length cs.length] 25) := ⟨_, rfl⟩
    have hb7 : Below w6.heap.size w6 w7 := by rw [hw7]; exact (by repeat (first | exact Below.refl _ _ | refine Below.alloc ?_ (by first | exact Nat.le_refl _ | (simp; done) | (simp; omega)) _ | refine Below.drew ?_ | refine Below.setCell ?_ (by first | exact Nat.le_refl _ | (simp; done) | (simp; omega)) _))
    have r0 : w7.cell? ⟨w6.heap.size, 0, none⟩ = some (.int .i64 wd) := by rw [hw7]; simp [go_sem]
    have r1 : w7.cell? ⟨w6.heap.size, 1, none⟩ = some (.slice (some ⟨gx, 0, none⟩) cs.length cs.length) := by rw [hw7]; simp [go_sem]
    have hz7 : w6.heap.size + 1 ≤ w7.heap.size := by rw [hw7]; simp
    replace p0 := keepc hb7 p0; replace p1 := keepc hb7 p1; replace b0 := keepc hb7 b0; replace b1 := keepc hb7 b1; replace q0 := keepc hb7 q0; replace q1 := keepc hb7 q1
    replace hO3 := hO3.below hb7
    replace hOx := hOx.below hb7
    have hB7 := bcall hB6 (by omega) hb7
    clear hb7 hB6
    go_wp2
    rw [← hw7]
    clear hw7
    have hbZ : Below w7.heap.size w7 (w7.alloc (.cells #[.int .i64 0, .slice none 0 0] 25)) := (by repeat (first | exact Below.refl _ _ | refine Below.alloc ?_ (by first | exact Nat.le_refl _ | (simp; done) | (simp; omega)) _ | refine Below.drew ?_ | refine Below.setCell ?_ (by first | exact Nat.le_refl _ | (simp; done) | (simp; omega)) _))
    go_wp2
    go_cut [11, 12] (fun sA sB w8 => ∃ blk : Nat, sA = .pointer (some ⟨blk, 0, none⟩) ∧ sB = .bool tb ∧ AnsAt w7 w8 blk tw tc)
    case first =>
      go_region_held3 (fun w' => w'.cell? ⟨w6.heap.size, 0, none⟩ = some (.int .i64 wd) ∧ w'.cell? ⟨w6.heap.size, 1, none⟩ = some (.slice (some ⟨gx, 0, none⟩) cs.length cs.length) ∧ w'.cell? ⟨w.heap.size + 1, 0, none⟩ = some (.int .i64 ck) ∧ w'.cell? ⟨w.heap.size + 1, 1, none⟩ = some (.int .i64 cl))
        (first
          | exact ⟨keepc hbP r0, keepc hbP r1, keepc hbP b0, keepc hbP b1⟩
          | exact ⟨keepc hbPV r0, keepc hbPV r1, keepc hbPV b0, keepc hbPV b1⟩
          | exact ⟨keepc hbPZ r0, keepc hbPZ r1, keepc hbPZ b0, keepc hbPZ b1⟩
          | exact ⟨setc (by omega) (setc (by omega) (keepc hbP r0)), setc (by omega) (setc (by omega) (keepc hbP r1)), setc (by omega) (setc (by omega) (keepc hbP b0)), setc (by omega) (setc (by omega) (keepc hbP b1))⟩
          | exact ⟨keepc hbB r0, keepc hbB r1, keepc hbB b0, keepc hbB b1⟩
          | exact ⟨keepc hbBZ r0, keepc hbBZ r1, keepc hbBZ b0, keepc hbBZ b1⟩
          | exact ⟨keepc hbZ r0, keepc hbZ r1, keepc hbZ b0, keepc hbZ b1⟩
          | go_keep)
        (first
          | (go_at_call 24; refine (toCell_any _ _ _).mono ?_; rintro e wB ⟨rfl, hbB'⟩; have hbB : Below w7.heap.size w7 wB := (by first | exact hbB' | exact bdrew hbB'); have hzB := hbB.size; have hOB := hOx.below hbB; have hbBZ : Below w7.heap.size w7 (wB.alloc (.cells #[.int .i64 0, .slice none 0 0] 25)) := hbB.alloc hbB.size _)
          | (go_at_call 24; refine (toCell_any _ _ _).mono ?_; rintro e wB ⟨rfl, hbB'⟩; have hbB : Below w7.heap.size w7 wB := (by first | exact bcall hbZ hbZ.size hbB' | exact bcall hbZ hbZ.size (bdrew hbB')); have hzB := hbB'.size; simp at hzB; have hOB := hOx.below hbB; have z0 : wB.cell? ⟨w7.heap.size, 0, none⟩ = some (.int .i64 0) := keepc hbB' (by simp [go_sem]); have z1 : wB.cell? ⟨w7.heap.size, 1, none⟩ = some (.slice none 0 0) := keepc hbB' (by simp [go_sem]); have zf0 : wB.frozen? ⟨w7.heap.size, 0, none⟩ = false := keepf hbB' (v := .int .i64 0) (by simp [go_sem]) (by simp [go_sem]); have zf1 : wB.frozen? ⟨w7.heap.size, 1, none⟩ = false := keepf hbB' (v := .slice none 0 0) (by simp [go_sem]) (by simp [go_sem]))
          | (go_at_call 14; refine (CI.out _ _ _ (own_cells hOB)).mono ?_; rintro e wP ⟨vP, rfl, hOP, hbP'⟩; obtain ⟨aP, cP, rfl, -⟩ := hOP.slice; have hbP : Below w7.heap.size w7 wP := bcall hbB hbB.size hbP'; have hzP := hbP'.size; have hbPV : Below w7.heap.size w7 (wP.alloc (.cells #[.int .i64 tw, .slice aP tc.length cP] 25)) := hbP.alloc hbP.size _; have hbPZ : Below w7.heap.size w7 (wP.alloc (.cells #[.int .i64 0, .slice none 0 0] 25)) := hbP.alloc hbP.size _; (try (replace zf0 := keepf hbP' z0 zf0; replace zf1 := keepf hbP' z1 zf1; replace z0 := keepc hbP' z0; replace z1 := keepc hbP' z1)); (try (replace yf0 := keepf hbP' y0 yf0; replace yf1 := keepf hbP' y1 yf1; replace y0 := keepc hbP' y0; replace y1 := keepc hbP' y1)))
          | (go_at_call 14; refine (CI.out _ _ _ (own_cells (hOB.alloc (.cells #[.int .i64 0, .slice none 0 0] 25)))).mono ?_; rintro e wP ⟨vP, rfl, hOP, hbP'⟩; obtain ⟨aP, cP, rfl, -⟩ := hOP.slice; have hbP : Below w7.heap.size w7 wP := bcall hbBZ hbBZ.size hbP'; have hzP := hbP'.size; simp at hzP; simp only [World.size_alloc] at hOP; have x0 : wP.cell? ⟨wB.heap.size, 0, none⟩ = some (.int .i64 0) := keepc hbP' (by simp [go_sem]); have x1 : wP.cell? ⟨wB.heap.size, 1, none⟩ = some (.slice none 0 0) := keepc hbP' (by simp [go_sem]); have xf0 : wP.frozen? ⟨wB.heap.size, 0, none⟩ = false := keepf hbP' (v := .int .i64 0) (by simp [go_sem]) (by simp [go_sem]); have xf1 : wP.frozen? ⟨wB.heap.size, 1, none⟩ = false := keepf hbP' (v := .slice none 0 0) (by simp [go_sem]) (by simp [go_sem]))
          | fail)
      · have hbox := ans_new hbP hOP (by omega) tw
        go_wp2_with fail
        go_meet
        case rel => exact ⟨_, rfl, rfl, hbox⟩
      · have hbox := ans_set hbP hOP (by omega) (by omega) x0 x1 tw
        go_wp2_with fail
        go_meet
        case rel => exact ⟨_, rfl, rfl, hbox⟩
      · have hbox := ans_set hbP hOP (by omega) (by omega) z0 z1 tw
        go_wp2_with fail
        go_meet
        case rel => exact ⟨_, rfl, rfl, hbox⟩
    case rest =>
      rename World => w8
      obtain ⟨bA, rfl, rfl, aA, cA, hA1, hA2, u0, u1, hO5, R5, hb8⟩ := hcut
      have hz8 := hb8.size
      have hB8 := bcall hB7 (by omega) hb8
      replace p0 := keepc hb8 p0; replace p1 := keepc hb8 p1; replace b0 := keepc hb8 b0; replace b1 := keepc hb8 b1; replace q0 := keepc hb8 q0; replace q1 := keepc hb8 q1; replace r0 := keepc hb8 r0; replace r1 := keepc hb8 r1
      replace hO3 := hO3.below hb8
      replace hOx := hOx.below hb8
      clear hb8 hbZ hB7
      go_wp2_with fail
      refine (eqGrid_own _ _ _ _ _ _ tc tc _ hO5 hO3 htl htl).mono ?_
      rintro e w9 ⟨rfl, hb9⟩
      have hz9 := hb9.size
      have hB9 := bcall hB8 (by omega) hb9
      replace p0 := keepc hb9 p0; replace p1 := keepc hb9 p1; replace b0 := keepc hb9 b0; replace b1 := keepc hb9 b1; replace q0 := keepc hb9 q0; replace q1 := keepc hb9 q1; replace r0 := keepc hb9 r0; replace r1 := keepc hb9 r1; replace u0 := keepc hb9 u0; replace u1 := keepc hb9 u1
      replace hO3 := hO3.below hb9
      replace hO5 := hO5.below hb9
      replace hOx := hOx.below hb9
      have hCw := hC.below hB9
      clear hb9 hB8
      go_wp2
      go_region_held3 (fun w' => w'.cell? ⟨w6.heap.size, 0, none⟩ = some (.int .i64 wd) ∧ w'.cell? ⟨w6.heap.size, 1, none⟩ = some (.slice (some ⟨gx, 0, none⟩) cs.length cs.length) ∧ w'.cell? ⟨w.heap.size, 0, none⟩ = some (.int .i64 wd) ∧ w'.cell? ⟨w.heap.size, 1, none⟩ = some (.slice a cs.length cap))
        (first
          | exact ⟨keepc hb11 r0, keepc hb11 r1, keepc hb11 p0, keepc hb11 p1⟩
          | exact ⟨keepc hb10 r0, keepc hb10 r1, keepc hb10 p0, keepc hb10 p1⟩
          | go_keep)
        (first
          | (go_at_call 23; refine (toGrid_any _ _ _ cs _ (by first | exact hCw | exact hCw.below (Below.refl _ _).drew) hm2).mono ?_; rintro e w10 ⟨g10, rfl, hO10, hb10'⟩; have hb10 : Below w9.heap.size w9 w10 := (by first | exact hb10' | exact bdrew hb10'))
          | (go_at_call 25; refine (eqGrid_own _ _ _ _ _ _ cs cs _ (hOx.below hb10) hO10 hm2 hm2).mono ?_; rintro e w11 ⟨rfl, hb11'⟩; have hb11 : Below w9.heap.size w9 w11 := bcall hb10 hb10.size hb11')
          | fail)
      have hz11 := hb11.size
      have hB11 := bcall hB9 (by omega) hb11
      replace p0 := keepc hb11 p0; replace p1 := keepc hb11 p1; replace b0 := keepc hb11 b0; replace b1 := keepc hb11 b1; replace q0 := keepc hb11 q0; replace q1 := keepc hb11 q1; replace r0 := keepc hb11 r0; replace r1 := keepc hb11 r1; replace u0 := keepc hb11 u0; replace u1 := keepc hb11 u1
      replace hO3 := hO3.below hb11
      replace hO5 := hO5.below hb11
      replace hOx := hOx.below hb11
      clear hb10 hb10' hb11 hb11' hO10 hCw hB9
      go_wp2_with fail
      refine (markGrid_own _ _ _ _ cs _ hOx hm2 (by omega)).mono ?_
      rintro e w12 ⟨rfl, _, hg12⟩
      have hz12 := hg12.size
      have n1 : some w.heap.size ≠ (Value.slice (some ⟨gx, 0, none⟩) cs.length cs.length).ownBlock := by simp [Value.ownBlock]; omega
      have n4 : some (w.heap.size + 1) ≠ (Value.slice (some ⟨gx, 0, none⟩) cs.length cs.length).ownBlock := by simp [Value.ownBlock]; omega
      have n2 : some bS ≠ (Value.slice (some ⟨gx, 0, none⟩) cs.length cs.length).ownBlock := by simp [Value.ownBlock]; omega
      have n3 : some bA ≠ (Value.slice (some ⟨gx, 0, none⟩) cs.length cs.length).ownBlock := by simp [Value.ownBlock]; omega
      have hB12 : Below w.heap.size w w12 := hB11.grown hg12 (by omega) (fun k hk => by simp [Value.ownBlock] at hk; omega)
      replace hO3 := hO3.keptg hg12 (fun k hk e => by have := R3 k hk; simp [Value.ownBlock] at e; omega)
      replace hO5 := hO5.keptg hg12 (fun k hk e => by have := R5 k hk; simp [Value.ownBlock] at e; omega)
      replace p0 := keepg hg12 n1 p0
      replace p1 := keepg hg12 n1 p1
      replace b0 := keepg hg12 n4 b0
      replace b1 := keepg hg12 n4 b1
      replace q0 := keepg hg12 n2 q0
      replace q1 := keepg hg12 n2 q1
      replace u0 := keepg hg12 n3 u0
      replace u1 := keepg hg12 n3 u1
      clear hg12 n1 n2 n3 n4 hOx r0 r1 hB11
      go_wp2_with fail
      refine (eqGrid_own _ _ _ _ _ _ tc tc _ hO5 hO3 htl htl).mono ?_
      rintro e w13 ⟨rfl, hb13⟩
      have hz13 := hb13.size
      have hB13 := bcall hB12 (by omega) hb13
      replace p0 := keepc hb13 p0; replace p1 := keepc hb13 p1; replace b0 := keepc hb13 b0; replace b1 := keepc hb13 b1; replace q0 := keepc hb13 q0; replace q1 := keepc hb13 q1; replace u0 := keepc hb13 u0; replace u1 := keepc hb13 u1
      replace hO3 := hO3.below hb13
      replace hO5 := hO5.below hb13
      clear hb13 hB12
      go_wp2_with fail
      refine (markGrid_own _ _ _ _ tc _ hO5 htl (by omega)).mono ?_
      rintro e w14 ⟨rfl, hM, hg14⟩
      have hz14 := hg14.size
      have hB14 : Below w.heap.size w w14 := hB13.grown hg14 (by omega) (fun k hk => by have := R5 k hk; omega)
      have R5' : ∀ k, (Value.slice aA tc.length cA).ownBlock = some k → w7.heap.size ≤ k ∧ k < w8.heap.size := fun k hk => ⟨(R5 k hk).1, (R5 k hk).2.1⟩
      have n1 : some w.heap.size ≠ (Value.slice aA tc.length cA).ownBlock := ne_of_range R5' (by omega)
      have n4 : some (w.heap.size + 1) ≠ (Value.slice aA tc.length cA).ownBlock := ne_of_range R5' (by omega)
      have n2 : some bS ≠ (Value.slice aA tc.length cA).ownBlock := ne_of_range R5' (by omega)
      have n3 : some bA ≠ (Value.slice aA tc.length cA).ownBlock := fun e => (R5 bA e.symm).2.2 rfl
      replace hO3 := hO3.keptg hg14 (fun k hk e => by have := R3 k hk; have := R5 k e; omega)
      replace p0 := keepg hg14 n1 p0
      replace p1 := keepg hg14 n1 p1
      replace b0 := keepg hg14 n4 b0
      replace b1 := keepg hg14 n4 b1
      replace q0 := keepg hg14 n2 q0
      replace q1 := keepg hg14 n2 q1
      replace u0 := keepg hg14 n3 u0
      replace u1 := keepg hg14 n3 u1
      clear hg14 n1 n2 n3 n4 hO5 hB13
      go_wp2_with fail
      refine (heldGrid_own _ _ _ _ tc.length _ hM htl (by omega)).mono ?_
      rintro e w15 ⟨rfl, hb15⟩
      have hz15 := hb15.size
      have hB15 := bcall hB14 (by omega) hb15
      replace hO3 := hO3.below hb15
      replace hM := hM.below hb15
      replace p0 := keepc hb15 p0; replace p1 := keepc hb15 p1; replace b0 := keepc hb15 b0; replace b1 := keepc hb15 b1; replace q0 := keepc hb15 q0; replace q1 := keepc hb15 q1; replace u0 := keepc hb15 u0; replace u1 := keepc hb15 u1
      have hCu := hC.below hB15
      clear hb15 hB14
      have hbZ : Below w15.heap.size w15 (w15.alloc (.cells #[.int .i64 0, .slice none 0 0] 25)) := (by repeat (first | exact Below.refl _ _ | refine Below.alloc ?_ (by first | exact Nat.le_refl _ | (simp; done) | (simp; omega)) _ | refine Below.drew ?_ | refine Below.setCell ?_ (by first | exact Nat.le_refl _ | (simp; done) | (simp; omega)) _))
      go_wp2
      go_cut [16, 17] (fun sA sB w16 => ∃ blk : Nat, sA = .pointer (some ⟨blk, 0, none⟩) ∧ sB = .bool tb ∧ AnsAt w15 w16 blk tw tc)
      case first =>
        go_region_held3 (fun w' => w'.cell? ⟨w.heap.size, 0, none⟩ = some (.int .i64 wd) ∧ w'.cell? ⟨w.heap.size, 1, none⟩ = some (.slice a cs.length cap) ∧ w'.cell? ⟨w.heap.size + 1, 0, none⟩ = some (.int .i64 ck) ∧ w'.cell? ⟨w.heap.size + 1, 1, none⟩ = some (.int .i64 cl))
          (first
            | exact ⟨keepc hbP p0, keepc hbP p1, keepc hbP b0, keepc hbP b1⟩
            | exact ⟨keepc hbPV p0, keepc hbPV p1, keepc hbPV b0, keepc hbPV b1⟩
            | exact ⟨keepc hbPZ p0, keepc hbPZ p1, keepc hbPZ b0, keepc hbPZ b1⟩
            | exact ⟨setc (by omega) (setc (by omega) (keepc hbP p0)), setc (by omega) (setc (by omega) (keepc hbP p1)), setc (by omega) (setc (by omega) (keepc hbP b0)), setc (by omega) (setc (by omega) (keepc hbP b1))⟩
            | exact ⟨keepc hbB p0, keepc hbB p1, keepc hbB b0, keepc hbB b1⟩
            | exact ⟨keepc hbBZ p0, keepc hbBZ p1, keepc hbBZ b0, keepc hbBZ b1⟩
            | exact ⟨keepc hbA p0, keepc hbA p1, keepc hbA b0, keepc hbA b1⟩
            | exact ⟨keepc hbAZ p0, keepc hbAZ p1, keepc hbAZ b0, keepc hbAZ b1⟩
            | exact ⟨keepc hbZ p0, keepc hbZ p1, keepc hbZ b0, keepc hbZ b1⟩
            | go_keep)
          (first
            | (go_at_call 23; refine (toGrid_any _ _ _ cs _ (by first | exact hCu | exact hCu.below (Below.refl _ _).drew) hm2).mono ?_; rintro e wA ⟨gA, rfl, hOA, hbA'⟩; have hbA : Below w15.heap.size w15 wA := (by first | exact hbA' | exact bdrew hbA'); have hzA := hbA.size; have hbAZ : Below w15.heap.size w15 (wA.alloc (.cells #[.int .i64 0, .slice none 0 0] 25)) := hbA.alloc hbA.size _)
            | (go_at_call 23; refine (toGrid_any _ _ _ cs _ (by first | exact hCu.below hbZ | exact hCu.below hbZ.drew) hm2).mono ?_; rintro e wA ⟨gA, rfl, hOA, hbA'⟩; have hbA : Below w15.heap.size w15 wA := (by first | exact bcall hbZ hbZ.size hbA' | exact bcall hbZ hbZ.size (bdrew hbA')); have hzA := hbA'.size; simp at hzA; have z0 : wA.cell? ⟨w15.heap.size, 0, none⟩ = some (.int .i64 0) := keepc hbA' (by simp [go_sem]); have z1 : wA.cell? ⟨w15.heap.size, 1, none⟩ = some (.slice none 0 0) := keepc hbA' (by simp [go_sem]); have zf0 : wA.frozen? ⟨w15.heap.size, 0, none⟩ = false := keepf hbA' (v := .int .i64 0) (by simp [go_sem]) (by simp [go_sem]); have zf1 : wA.frozen? ⟨w15.heap.size, 1, none⟩ = false := keepf hbA' (v := .slice none 0 0) (by simp [go_sem]) (by simp [go_sem]))
            | (go_at_call 24; refine (toCell_any _ _ _).mono ?_; rintro e wB ⟨rfl, hbB'⟩; have hbB : Below w15.heap.size w15 wB := bcall hbA hbA.size hbB'; have hzB := hbB'.size; have hOB := hOA.below hbB'; have hbBZ : Below w15.heap.size w15 (wB.alloc (.cells #[.int .i64 0, .slice none 0 0] 25)) := hbB.alloc hbB.size _; (try (replace zf0 := keepf hbB' z0 zf0; replace zf1 := keepf hbB' z1 zf1; replace z0 := keepc hbB' z0; replace z1 := keepc hbB' z1)))
            | (go_at_call 24; refine (toCell_any _ _ _).mono ?_; rintro e wB ⟨rfl, hbB'⟩; have hbB : Below w15.heap.size w15 wB := bcall hbAZ hbAZ.size hbB'; have hzB := hbB'.size; simp at hzB; have hOB := (hOA.alloc (.cells #[.int .i64 0, .slice none 0 0] 25)).below hbB'; have y0 : wB.cell? ⟨wA.heap.size, 0, none⟩ = some (.int .i64 0) := keepc hbB' (by simp [go_sem]); have y1 : wB.cell? ⟨wA.heap.size, 1, none⟩ = some (.slice none 0 0) := keepc hbB' (by simp [go_sem]); have yf0 : wB.frozen? ⟨wA.heap.size, 0, none⟩ = false := keepf hbB' (v := .int .i64 0) (by simp [go_sem]) (by simp [go_sem]); have yf1 : wB.frozen? ⟨wA.heap.size, 1, none⟩ = false := keepf hbB' (v := .slice none 0 0) (by simp [go_sem]) (by simp [go_sem]))
            | (go_at_call 14; refine (CI.out _ _ _ (own_cells hOB)).mono ?_; rintro e wP ⟨vP, rfl, hOP, hbP'⟩; obtain ⟨aP, cP, rfl, -⟩ := hOP.slice; have hbP : Below w15.heap.size w15 wP := bcall hbB hbB.size hbP'; have hzP := hbP'.size; have hbPV : Below w15.heap.size w15 (wP.alloc (.cells #[.int .i64 tw, .slice aP tc.length cP] 25)) := hbP.alloc hbP.size _; have hbPZ : Below w15.heap.size w15 (wP.alloc (.cells #[.int .i64 0, .slice none 0 0] 25)) := hbP.alloc hbP.size _; (try (replace zf0 := keepf hbP' z0 zf0; replace zf1 := keepf hbP' z1 zf1; replace z0 := keepc hbP' z0; replace z1 := keepc hbP' z1)); (try (replace yf0 := keepf hbP' y0 yf0; replace yf1 := keepf hbP' y1 yf1; replace y0 := keepc hbP' y0; replace y1 := keepc hbP' y1)))
            | (go_at_call 14; refine (CI.out _ _ _ (own_cells (hOB.alloc (.cells #[.int .i64 0, .slice none 0 0] 25)))).mono ?_; rintro e wP ⟨vP, rfl, hOP, hbP'⟩; obtain ⟨aP, cP, rfl, -⟩ := hOP.slice; have hbP : Below w15.heap.size w15 wP := bcall hbBZ hbBZ.size hbP'; have hzP := hbP'.size; simp at hzP; simp only [World.size_alloc] at hOP; have x0 : wP.cell? ⟨wB.heap.size, 0, none⟩ = some (.int .i64 0) := keepc hbP' (by simp [go_sem]); have x1 : wP.cell? ⟨wB.heap.size, 1, none⟩ = some (.slice none 0 0) := keepc hbP' (by simp [go_sem]); have xf0 : wP.frozen? ⟨wB.heap.size, 0, none⟩ = false := keepf hbP' (v := .int .i64 0) (by simp [go_sem]) (by simp [go_sem]); have xf1 : wP.frozen? ⟨wB.heap.size, 1, none⟩ = false := keepf hbP' (v := .slice none 0 0) (by simp [go_sem]) (by simp [go_sem]))
            | fail)
        · have hbox := ans_new hbP hOP (by omega) tw
          go_wp2_with fail
          go_meet
          case rel => exact ⟨_, rfl, rfl, hbox⟩
        · have hbox := ans_set hbP hOP (by omega) (by omega) x0 x1 tw
          go_wp2_with fail
          go_meet
          case rel => exact ⟨_, rfl, rfl, hbox⟩
        · have hbox := ans_set hbP hOP (by omega) (by omega) y0 y1 tw
          go_wp2_with fail
          go_meet
          case rel => exact ⟨_, rfl, rfl, hbox⟩
        · have hbox := ans_set hbP hOP (by omega) (by omega) z0 z1 tw
          go_wp2_with fail
          go_meet
          case rel => exact ⟨_, rfl, rfl, hbox⟩
      case rest =>
        rename World => w16
        obtain ⟨bH, rfl, rfl, aH, cH, hH1, hH2, t0, t1, hO6, R6, hb16⟩ := hcut
        have hz16 := hb16.size
        have hB16 := bcall hB15 (by omega) hb16
        replace q0 := keepc hb16 q0; replace q1 := keepc hb16 q1; replace u0 := keepc hb16 u0; replace u1 := keepc hb16 u1
        replace hO3 := hO3.below hb16
        replace hM := hM.below hb16
        clear hb16 hbZ hB15
        go_wp2_with fail
        refine (eqGrid_own _ _ _ _ _ _ tc tc _ hO6 hO3 htl htl).mono ?_
        rintro e w17 ⟨rfl, hb17⟩
        have hz17 := hb17.size
        have hB17 := bcall hB16 (by omega) hb17
        replace u0 := keepc hb17 u0; replace u1 := keepc hb17 u1
        replace hM := hM.below hb17
        clear hb17 hB16
        go_wp2_with fail
        refine (heldGrid_own _ _ _ _ tc.length _ hM htl (by omega)).mono ?_
        rintro e w18 ⟨rfl, hb18⟩
        have hB18 := bcall hB17 (by omega) hb18
        go_wp2
        go_ret
        exact ⟨rfl, hB18⟩

theorem walk (wd : Int) (a : Option Addr) (cap : Nat) (cs : List (Int × Int)) (x ck cl : Int) (w : World) (hC : CellsAt w a cs) (hm : cs.length ≤ 9223372036854775807) (wx : (Lit.int .i64 x).wf = true) (wk : (Lit.int .i64 ck).wf = true) (wl : (Lit.int .i64 cl).wf = true) :
    Calls Try.prog 7 #[.agg #[.int .i64 wd, .slice a cs.length cap], .int .i64 x, .agg #[.int .i64 ck, .int .i64 cl]] w fun e w' => e = .returned (.bool true) ∧ Below w.heap.size w w' := by
  by_cases hbig : (1048576 : Int) - cs.length < 0
  · exact big wd a cap cs x ck cl w hC hm hbig
  · exact small wd a cap cs x ck cl w hC (by omega)
theorem cellsLC2 : Try.prog.cellsOf 41 = 2 := by kernel_rfl
set_option maxRecDepth 20000 in
theorem open_cell {H : Type} {enc : TypeId × Value → H} {W : World} {base : Nat} {v : Value} {d : DataW H} {p : List MemPlace}
    (hv : Value.okWide Try.prog W .any base 41 v) (h : DataW.Trod enc Try.prog W 0 (fun _ => true) true 41 v d p) :
    ∃ k l, v = .agg #[.int .i64 k, .int .i64 l] ∧ (Lit.int .i64 k).wf = true ∧ (Lit.int .i64 l).wf = true := by
  obtain ⟨c0, c1, y0, y1, m, rfl, rfl, rfl, hy0, hy1⟩ := open_agg2 Try.underlying41 (by kernel_rfl) cellsLC2 hv h
  obtain ⟨k, e0, _, wk⟩ := DataW.trod_int Try.underlying3 hy0
  obtain ⟨l, e1, _, wl⟩ := DataW.trod_int Try.underlying3 hy1
  simp only [List.cons.injEq, and_true] at e0 e1
  exact ⟨k, l, by rw [e0, e1], wk, wl⟩

set_option maxRecDepth 100000 in
theorem lifted (os : Os) (started : os.Started) (H : Type) (enc : TypeId × Value → H) :
    ReturnsInHanded {} Try.checked os 7 .any (Rows.fnExactGridPutSpec.pre6 enc Try.prog Try.f7 Rows.fnExactGridPutRow.domain false) (Rows.fnExactGridPutSpec.post enc Try.prog Try.f7 false true false false) := by
  refine returnsInHanded_of_change (C := Try.checked) own started (by kernel_rfl) Try.func7
    (ChangeSpec.witness6 (enc := enc) (C := Try.checked) false ⟨#[], #[.agg #[.int .i64 0, .slice none 0 0], .int .i64 0, .agg #[.int .i64 0, .int .i64 0]], []⟩ 8 (by kernel_rfl) (by kernel_rfl) (by kernel_rfl) (by kernel_rfl)) ?_
  intro W base args ds gs before hval0 hW hcnd _
  have hval : ∀ (j : Nat) t v, Try.f7.params[j]? = some t → args[j]? = some v → Value.okWide Try.prog W .any base t v := hval0
  have hW' := hW
  obtain ⟨p, q, hA0, hV, rfl, hfz, hnd⟩ := hW
  have hA : DataW.TrodAll enc Try.prog W 0 (fun _ => true) true Try.f7.params.toList args.toList ds p := hA0
  rw [Try.params7] at hA hval
  obtain ⟨v0, vs0, d0, ds0, p0, q0, hargs, rfl, rfl, h0, r0⟩ := trodAll_cons hA
  obtain ⟨v1, vs1, d1, ds1, p1, q1, rfl, rfl, rfl, h1, r1⟩ := trodAll_cons r0
  obtain ⟨v2, vs2, d2, ds2, p2, q2, rfl, rfl, rfl, h2, r2⟩ := trodAll_cons r1
  obtain ⟨rfl, rfl, rfl⟩ := trodAll_nil r2
  obtain rfl : args = #[v0, v1, v2] := by cases args; simp_all
  obtain ⟨rfl, rfl⟩ := trodVars_none hV
  have k0 := h0
  have lt0 : ∀ x ∈ p0, x.block < W.heap.size := by obtain ⟨m, hm⟩ := k0; exact DataW.trod_lt m _ _ _ hm
  obtain ⟨wd0, a0, cap0, cs0, rfl, hC0, hm0⟩ := open_grid (hval 0 40 v0 rfl rfl) h0
  have k1 := h1
  have lt1 : ∀ x ∈ p1, x.block < W.heap.size := by obtain ⟨m, hm⟩ := k1; exact DataW.trod_lt m _ _ _ hm
  obtain ⟨x1, rfl, _, _, wx1⟩ := open_int Try.underlying3 (hval 1 3 v1 rfl rfl) h1
  have k2 := h2
  have lt2 : ∀ x ∈ p2, x.block < W.heap.size := by obtain ⟨m, hm⟩ := k2; exact DataW.trod_lt m _ _ _ hm
  obtain ⟨ck2, cl2, rfl, wk2, wl2⟩ := open_cell (hval 2 41 v2 rfl rfl) h2
  clear hA0 hval0
  refine (walk wd0 a0 cap0 cs0 x1 ck2 cl2 W hC0 hm0 wx1 wk2 wl2).mono fun e W' ⟨he, bel⟩ => ?_
  subst he
  exact ⟨_, rfl, _, _, _, [], _, [], hW', trodAll_mk1 (shut_bool Try.underlying4 _), (trodAll_cons_mk (Below.trod laidOut (by kernel_rfl) (of_decide_eq_true (by kernel_rfl)) k0 bel lt0) (trodAll_cons_mk (Below.trod laidOut (by kernel_rfl) (of_decide_eq_true (by kernel_rfl)) k1 bel lt1) (trodAll_cons_mk (Below.trod laidOut (by kernel_rfl) (of_decide_eq_true (by kernel_rfl)) k2 bel lt2) trodAll_mk0))), rfl, bel.frame _, fun h => by cases h⟩

theorem over : Rows.fnExactGridPutRow.holds Try.pinned (OpenSpec.ofChange Rows.fnExactGridPutSpec) :=
  OpenClaim.holds_of_wide 7 Try.f7 rfl rfl rfl rfl rfl rfl rfl ⟨rfl, rfl, rfl, rfl, rfl⟩ rfl rfl rfl rfl rfl (by kernel_rfl) Try.func7 (by kernel_rfl)
    (of_decide_eq_true (by kernel_rfl)) (by unfold Func.isWrapper; first | (rw [if_pos (by decide +kernel)]; kernel_rfl) | (rw [if_neg (by decide +kernel)]; exact ⟨rfl, rfl⟩))
    (fun os started H enc _ => lifted os started H enc)

end Go.Proofs.Ytmnninhifiajhaa.ExGridPut

namespace Go.Proofs.Ytmnninhifiajhaa
/-- The statement. -/
theorem exGridPut : Rows.FnExactGridPutSaid := ExGridPut.over
#print axioms exGridPut
end Go.Proofs.Ytmnninhifiajhaa
