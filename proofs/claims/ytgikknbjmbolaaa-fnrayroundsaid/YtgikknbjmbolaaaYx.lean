/-
  DrawRayNext draws a grid, a place and a way: all lies in memory, at most 31 cells, the place from -1 to 31, the way from 0 to 4.
-/
import Derived.Test.YtgikknbjmbolaaaDp
import Derived.Deep.RegionHeld3
namespace Go.Proofs.Ytgikknbjmbolaaa
open Go.RowKit
set_option linter.unusedVariables false
attribute [local go_sem ↓] Go.wp_at_zero Go.wp_at_succ

/-- What stands while DrawRayNext draws: the box of the answer, the grid's box gb. -/
structure RayInv (w wr : World) (gb : Nat) (wd : Int) (v : Value) : Prop where
  hb : Below w.heap.size w wr
  p0 : wr.cell? ⟨w.heap.size, 0, none⟩ = some (.int .i64 0)
  p1 : wr.cell? ⟨w.heap.size, 1, none⟩ = some (.slice none 0 0)
  fp0 : wr.frozen? ⟨w.heap.size, 0, none⟩ = false
  fp1 : wr.frozen? ⟨w.heap.size, 1, none⟩ = false
  g0 : wr.cell? ⟨gb, 0, none⟩ = some (.int .i64 wd)
  g1 : wr.cell? ⟨gb, 1, none⟩ = some v
  sz : w.heap.size + 2 ≤ gb ∧ gb < wr.heap.size
theorem RayInv.call {w wr w2 : World} {gb : Nat} {wd : Int} {v : Value} (h : RayInv w wr gb wd v) (hg : wr.grownBy w2 (some (w.heap.size + 1))) : RayInv w w2 gb wd v := by
  obtain ⟨s1, s2⟩ := h.sz
  have hz := hg.size
  have n1 : w.heap.size ≠ w.heap.size + 1 := by omega
  have n3 : gb ≠ w.heap.size + 1 := by omega
  exact ⟨⟨hg.os.trans h.hb.os, hg.tape.trans h.hb.tape, hg.output.trans h.hb.output, Nat.le_trans h.hb.size hg.size, fun k hk => (hg.block k (by omega) (by simp; omega)).trans (h.hb.block k hk)⟩,
    gcell hg n1 h.p0, gcell hg n1 h.p1, gfroz hg n1 h.p0 h.fp0, gfroz hg n1 h.p1 h.fp1, gcell hg n3 h.g0, gcell hg n3 h.g1, by omega⟩

set_option maxHeartbeats 2000000 in
theorem drawRayNext_any (a : Option Addr) (n cap : Nat) (f : Nat → Int) (w : World) (h : BytesAt w a n f) (hn : n ≤ 1048576) (hcap : n ≤ cap) (hc2 : cap ≤ 9223372036854775807) :
    Calls Try.prog 13 #[.slice a n cap] w fun e w' => ∃ (wd : Int) (a : Option Addr) (c : Nat) (xs : List (Int × Int)) (x d : Int), e = .returned (.tuple #[.agg #[.int .i64 wd, .slice a xs.length c], .int .i64 x, .int .i64 d]) ∧ CellsAt w' a xs ∧ xs.length ≤ 31 ∧ (-1 ≤ x ∧ x ≤ 31) ∧ (0 ≤ d ∧ d ≤ 4) ∧ Below w.heap.size w w' := by
  go_enter Try.func13, Try.ntmps13
  go_wp2_with fail
  refine (l6Open_any _ n _ f _ (h.below (by repeat (first | exact Below.refl _ _ | refine Below.alloc ?_ (by first | exact Nat.le_refl _ | (simp; done) | (simp; omega)) _ | refine Below.drew ?_ | refine Below.setCell ?_ (by first | exact Nat.le_refl _ | (simp; done) | (simp; omega)) _))) hn hcap hc2).mono ?_
  rintro e w1 ⟨rfl, hr1, hb1⟩
  have hz1 := hb1.size
  simp at hz1 hr1
  have s1 : w.heap.size + 1 < w1.heap.size := by have := hr1.lt; omega
  have p0 : w1.cell? ⟨w.heap.size, 0, none⟩ = some (.int .i64 0) := keepc hb1 (by simp [go_sem])
  have p1 : w1.cell? ⟨w.heap.size, 1, none⟩ = some (.slice none 0 0) := keepc hb1 (by simp [go_sem])
  have fp0 : w1.frozen? ⟨w.heap.size, 0, none⟩ = false := keepf hb1 (v := .int .i64 0) (by simp [go_sem]) (by simp [go_sem])
  have fp1 : w1.frozen? ⟨w.heap.size, 1, none⟩ = false := keepf hb1 (v := .slice none 0 0) (by simp [go_sem]) (by simp [go_sem])
  have hB1 : Below w.heap.size w w1 := bcall (by repeat (first | exact Below.refl _ _ | refine Below.alloc ?_ (by first | exact Nat.le_refl _ | (simp; done) | (simp; omega)) _ | refine Below.drew ?_ | refine Below.setCell ?_ (by first | exact Nat.le_refl _ | (simp; done) | (simp; omega)) _)) (by simp) hb1
  clear hb1
  go_wp2_with fail
  refine (l71Some_any _ (w.heap.size + 1) (w.heap.size + 1 + 1) 0 hr1 (by omega) (by omega)).mono ?_
  rintro e w2 ⟨wd, a2, c2, xs, rfl, ⟨hC2, hn2⟩, hxl, hr2, hg2⟩
  have hz2 := hg2.size
  have nr : w.heap.size ≠ w.heap.size + 1 := by omega
  replace fp0 := gfroz hg2 nr p0 fp0
  replace fp1 := gfroz hg2 nr p1 fp1
  replace p0 := gcell hg2 nr p0
  replace p1 := gcell hg2 nr p1
  have hB2 : Below w.heap.size w w2 := ⟨hg2.os.trans hB1.os, hg2.tape.trans hB1.tape, hg2.output.trans hB1.output, Nat.le_trans hB1.size hg2.size, fun k hk => (hg2.block k (by omega) (by simp; omega)).trans (hB1.block k hk)⟩
  have hbG : Below w2.heap.size w2 (w2.alloc (.cells #[.int .i64 wd, .slice a2 xs.length c2] 29)) := (by repeat (first | exact Below.refl _ _ | refine Below.alloc ?_ (by first | exact Nat.le_refl _ | (simp; done) | (simp; omega)) _ | refine Below.drew ?_ | refine Below.setCell ?_ (by first | exact Nat.le_refl _ | (simp; done) | (simp; omega)) _))
  clear hg2 hB1
  have hI : RayInv w (w2.alloc (.cells #[.int .i64 wd, .slice a2 xs.length c2] 29)) w2.heap.size wd (.slice a2 xs.length c2) :=
    ⟨bcall hB2 (by omega) hbG, keepc hbG p0, keepc hbG p1, keepf hbG p0 fp0, keepf hbG p1 fp1, by simp [go_sem], by simp [go_sem], by simp; omega⟩
  have hrz : RdQ (w2.alloc (.cells #[.int .i64 wd, .slice a2 xs.length c2] 29)) (w.heap.size + 1) (w.heap.size + 1 + 1) 90 := (hr2.below (hbG.mono (by omega))).more (by omega)
  have hCz := hC2.below hbG
  go_wp2
  obtain ⟨wz, hwz⟩ : ∃ wz, wz = w2.alloc (.cells #[.int .i64 wd, .slice a2 xs.length c2] 29) := ⟨_, rfl⟩
  rw [← hwz] at hI hrz hCz ⊢
  clear hwz fp0 fp1 p0 p1 hB2 hbG hC2 hr2 hr1
  have hz := hI.hb.size
  obtain ⟨p0, p1, fp0, fp1⟩ := And.intro hI.p0 (And.intro hI.p1 (And.intro hI.fp0 hI.fp1))
  obtain ⟨g0, g1⟩ := And.intro hI.g0 hI.g1
  obtain ⟨s1, s2⟩ := hI.sz
  have hLz : w.heap.size + 1 + 1 ≤ wz.heap.size := by omega
  have n1 : w2.heap.size ≠ w.heap.size := by omega
  go_region_held3 (fun w' => w'.cell? ⟨w2.heap.size, 0, none⟩ = some (.int .i64 wd) ∧ w'.cell? ⟨w2.heap.size, 1, none⟩ = some (.slice a2 xs.length c2))
    (first
      | with_reducible exact ⟨setc n1 (setc n1 hL.g0), setc n1 (setc n1 hL.g1)⟩
      | with_reducible exact ⟨hL.g0, hL.g1⟩
      | with_reducible exact ⟨hK.g0, hK.g1⟩
      | with_reducible exact ⟨hJ.g0, hJ.g1⟩
      | go_keep)
    (first
      | (go_at_call 27; refine (l71Place_any _ (w.heap.size + 1) (w.heap.size + 1 + 1) 90 (by first | exact hrz | exact hrz.below (Below.refl _ _).drew) (by omega) (by first | exact hLz | (simp; omega)) wd a2 xs.length c2 hxl).mono ?_; rintro e w6 ⟨v6, rfl, hv1, hv2, hr6, hg6'⟩; have hg6 : wz.grownBy w6 (some (w.heap.size + 1)) := (by first | exact hg6' | exact gdrew hg6'); have hJ := hI.call hg6; have hC6 := hCz.grown hg6 (fun b off e => by have := hn2 b off e; omega))
      | (go_at_call 22; refine (pickQ 24 _ (w.heap.size + 1) (w.heap.size + 1 + 1) 93 hr7 (by omega) (by omega)).mono ?_; rintro e w8 ⟨v8, rfl, hv5, hv6, hr8, hg8⟩; have hL := hK.call hg8; have hC8 := hC7.grown hg8 (fun b off e => by have := hn2 b off e; omega); obtain ⟨p0, p1, fp0, fp1⟩ := And.intro hL.p0 (And.intro hL.p1 (And.intro hL.fp0 hL.fp1)))
      | (go_at_call 22; refine (pickQ 4 _ (w.heap.size + 1) (w.heap.size + 1 + 1) 92 hr6 (by omega) (by omega)).mono ?_; rintro e w7 ⟨v7, rfl, hv3, hv4, hr7, hg7⟩; have hK := hJ.call hg7; have hC7 := hC6.grown hg7 (fun b off e => by have := hn2 b off e; omega)))
  all_goals
    go_wp2
    have e1 : v8.tdiv 23 = v8 / 23 := Int.tdiv_eq_ediv_of_nonneg hv5
    have e2 : IntKind.i64.wrap (v8.tdiv 23) = v8 / 23 := by rw [e1]; exact IntWalk.i64_in _ (by omega)
    have e3 : IntKind.i64.wrap (v7 + IntKind.i64.wrap (v8.tdiv 23)) = v7 + v8 / 23 := by rw [e2]; exact IntWalk.i64_in _ (by omega)
    refine bodyPost_ret (v := .tuple #[.agg #[.int .i64 wd, .slice a2 xs.length c2], .int .i64 v6, .int .i64 (v7 + v8 / 23)]) (by simp [results, Try.results13, go_sem, p0, p1, e3]) rfl ⟨wd, a2, c2, xs, v6, v7 + v8 / 23, rfl, ?_, hxl, ⟨hv1, hv2⟩, by omega, ?_⟩
    · exact (hC8.set (bb := w.heap.size) (fun b off e => by have := hn2 b off e; omega) _).set (bb := w.heap.size) (fun b off e => by have := hn2 b off e; omega) _
    · exact (hL.hb.setCell (p := ⟨w.heap.size, 0, none⟩) (Nat.le_refl _) _).setCell (p := ⟨w.heap.size, 1, none⟩) (Nat.le_refl _) _
end Go.Proofs.Ytgikknbjmbolaaa
