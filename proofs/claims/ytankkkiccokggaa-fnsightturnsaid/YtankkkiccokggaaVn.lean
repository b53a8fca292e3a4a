/-
  DrawSightRay and DrawSightTurn draw a grid and a sight: all lies in memory, at most 31 cells, the sight from -1 to 20.
-/
import Derived.Test.YtankkkiccokggaaVm
import Derived.Deep.RegionHeld3
namespace Go.Proofs.Ytankkkiccokggaa
open Go.RowKit
set_option linter.unusedVariables false
attribute [local go_sem ↓] Go.wp_at_zero Go.wp_at_succ

/-- What stands while DrawSightRay draws: the box of the answer, the grid's box gb. -/
structure SigInv (w wr : World) (gb : Nat) (wd : Int) (v : Value) : Prop where
  hb : Below w.heap.size w wr
  p0 : wr.cell? ⟨w.heap.size, 0, none⟩ = some (.int .i64 0)
  p1 : wr.cell? ⟨w.heap.size, 1, none⟩ = some (.slice none 0 0)
  fp0 : wr.frozen? ⟨w.heap.size, 0, none⟩ = false
  fp1 : wr.frozen? ⟨w.heap.size, 1, none⟩ = false
  g0 : wr.cell? ⟨gb, 0, none⟩ = some (.int .i64 wd)
  g1 : wr.cell? ⟨gb, 1, none⟩ = some v
  sz : w.heap.size + 2 ≤ gb ∧ gb < wr.heap.size
theorem SigInv.call {w wr w2 : World} {gb : Nat} {wd : Int} {v : Value} (h : SigInv w wr gb wd v) (hg : wr.grownBy w2 (some (w.heap.size + 1))) : SigInv w w2 gb wd v := by
  obtain ⟨s1, s2⟩ := h.sz
  have hz := hg.size
  have n1 : w.heap.size ≠ w.heap.size + 1 := by omega
  have n3 : gb ≠ w.heap.size + 1 := by omega
  exact ⟨⟨hg.os.trans h.hb.os, hg.tape.trans h.hb.tape, hg.output.trans h.hb.output, Nat.le_trans h.hb.size hg.size, fun k hk => (hg.block k (by omega) (by simp; omega)).trans (h.hb.block k hk)⟩,
    gcell hg n1 h.p0, gcell hg n1 h.p1, gfroz hg n1 h.p0 h.fp0, gfroz hg n1 h.p1 h.fp1, gcell hg n3 h.g0, gcell hg n3 h.g1, by omega⟩

set_option maxHeartbeats 2000000 in
theorem drawSightRay_any (a : Option Addr) (n cap : Nat) (f : Nat → Int) (w : World) (h : BytesAt w a n f) (hn : n ≤ 1048576) (hcap : n ≤ cap) (hc2 : cap ≤ 9223372036854775807) :
    Calls Try.prog 13 #[.slice a n cap] w fun e w' => ∃ (wd : Int) (a : Option Addr) (c : Nat) (xs : List (Int × Int)) (k : Int), e = .returned (.tuple #[.agg #[.int .i64 wd, .slice a xs.length c], .int .i64 k]) ∧ CellsAt w' a xs ∧ xs.length ≤ 31 ∧ (-1 ≤ k ∧ k ≤ 20) ∧ Below w.heap.size w w' := by
  go_enter Try.func13, Try.ntmps13
  go_wp2_with fail
  refine (l6Open_any _ n _ f _ (h.below (by repeat (first | exact Below.refl _ _ | refine Below.alloc ?_ (by first | exact Nat.le_refl _ | (simp; done) | (simp; omega)) _ | refine Below.drew ?_ | refine Below.setCell ?_ (by first | exact Nat.le_refl _ | (simp; done) | (simp; omega)) _))) hn hcap hc2).mono ?_
  rintro e w1 ⟨rfl, hr1, hb1⟩
  have hz1 := hb1.size
  simp at hz1 hr1
  have s1 : w.heap.size + 1 < w1.heap.size := by have := hr1.lt; omega
  have p0 : w1.cell? ⟨w.heap.size, 0, none⟩ = some (.int .i64 0) := keepc hb1 (by simp [go_sem])
  have p1 : w1.cell? ⟨w.heap.size, 1, none⟩ = some (.slice none 0 0) := keepc hb1 (by simp [go_sem])
  have fp0 : w1.frozen? ⟨w.heap.size, 0, none⟩ = false := keepf hb1 (v := .int .i64 0) (by simp [go_sem]) (by simp [go_sem])
  have fp1 : w1.frozen? ⟨w.heap.size, 1, none⟩ = false := keepf hb1 (v := .slice none 0 0) (by simp [go_sem]) (by simp [go_sem])
  have hB1 : Below w.heap.size w w1 := bcall (by repeat (first | exact Below.refl _ _ | refine Below.alloc ?_ (by first | exact Nat.le_refl _ | (simp; done) | (simp; omega)) _ | refine Below.drew ?_ | refine Below.setCell ?_ (by first | exact Nat.le_refl _ | (simp; done) | (simp; omega)) _)) (by simp) hb1
  clear hb1
  go_wp2_with fail
  refine (l71Some_any _ (w.heap.size + 1) (w.heap.size + 1 + 1) 0 hr1 (by omega) (by omega)).mono ?_
  rintro e w2 ⟨wd, a2, c2, xs, rfl, ⟨hC2, hn2⟩, hxl, hr2, hg2⟩
  have hz2 := hg2.size
  have nr : w.heap.size ≠ w.heap.size + 1 := by omega
  replace fp0 := gfroz hg2 nr p0 fp0
  replace fp1 := gfroz hg2 nr p1 fp1
  replace p0 := gcell hg2 nr p0
  replace p1 := gcell hg2 nr p1
  have hB2 : Below w.heap.size w w2 := ⟨hg2.os.trans hB1.os, hg2.tape.trans hB1.tape, hg2.output.trans hB1.output, Nat.le_trans hB1.size hg2.size, fun k hk => (hg2.block k (by omega) (by simp; omega)).trans (hB1.block k hk)⟩
  have hbG : Below w2.heap.size w2 (w2.alloc (.cells #[.int .i64 wd, .slice a2 xs.length c2] 25)) := (by repeat (first | exact Below.refl _ _ | refine Below.alloc ?_ (by first | exact Nat.le_refl _ | (simp; done) | (simp; omega)) _ | refine Below.drew ?_ | refine Below.setCell ?_ (by first | exact Nat.le_refl _ | (simp; done) | (simp; omega)) _))
  clear hg2 hB1
  have hI : SigInv w (w2.alloc (.cells #[.int .i64 wd, .slice a2 xs.length c2] 25)) w2.heap.size wd (.slice a2 xs.length c2) :=
    ⟨bcall hB2 (by omega) hbG, keepc hbG p0, keepc hbG p1, keepf hbG p0 fp0, keepf hbG p1 fp1, by simp [go_sem], by simp [go_sem], by simp; omega⟩
  have hrz : RdQ (w2.alloc (.cells #[.int .i64 wd, .slice a2 xs.length c2] 25)) (w.heap.size + 1) (w.heap.size + 1 + 1) 90 := (hr2.below (hbG.mono (by omega))).more (by omega)
  have hCz := hC2.below hbG
  go_wp2
  obtain ⟨wz, hwz⟩ : ∃ wz, wz = w2.alloc (.cells #[.int .i64 wd, .slice a2 xs.length c2] 25) := ⟨_, rfl⟩
  rw [← hwz] at hI hrz hCz ⊢
  clear hwz fp0 fp1 p0 p1 hB2 hbG hC2 hr2 hr1
  have hz := hI.hb.size
  obtain ⟨p0, p1, fp0, fp1⟩ := And.intro hI.p0 (And.intro hI.p1 (And.intro hI.fp0 hI.fp1))
  obtain ⟨g0, g1⟩ := And.intro hI.g0 hI.g1
  obtain ⟨s1, s2⟩ := hI.sz
  have hLz : w.heap.size + 1 + 1 ≤ wz.heap.size := by omega
  have n1 : w2.heap.size ≠ w.heap.size := by omega
  go_region_held3 (fun w' => w'.cell? ⟨w2.heap.size, 0, none⟩ = some (.int .i64 wd) ∧ w'.cell? ⟨w2.heap.size, 1, none⟩ = some (.slice a2 xs.length c2))
    (first
      | with_reducible exact ⟨setc n1 (setc n1 hJ.g0), setc n1 (setc n1 hJ.g1)⟩
      | with_reducible exact ⟨hJ.g0, hJ.g1⟩
      | go_keep)
    (first
      | (go_at_call 36; refine (l71Sight_any _ (w.heap.size + 1) (w.heap.size + 1 + 1) 90 (by first | exact hrz | exact hrz.below (Below.refl _ _).drew) (by omega) (by first | exact hLz | (simp; omega)) wd a2 c2 xs (by first | exact hCz | exact hCz.below (Below.refl _ _).drew) hxl).mono ?_; rintro e w6 ⟨v6, rfl, hv1, hv2, hr6, hg6'⟩; have hg6 : wz.grownBy w6 (some (w.heap.size + 1)) := (by first | exact hg6' | exact gdrew hg6'); have hJ := hI.call hg6; have hC6 := hCz.grown hg6 (fun b off e => by have := hn2 b off e; omega); obtain ⟨p0, p1, fp0, fp1⟩ := And.intro hJ.p0 (And.intro hJ.p1 (And.intro hJ.fp0 hJ.fp1)))
      | fail)
  all_goals
    go_wp2
    refine bodyPost_ret (v := .tuple #[.agg #[.int .i64 wd, .slice a2 xs.length c2], .int .i64 v6]) (by simp [results, Try.results13, go_sem, p0, p1]) rfl ⟨wd, a2, c2, xs, v6, rfl, ?_, hxl, ⟨hv1, hv2⟩, ?_⟩
    · exact (hC6.set (bb := w.heap.size) (fun b off e => by have := hn2 b off e; omega) _).set (bb := w.heap.size) (fun b off e => by have := hn2 b off e; omega) _
    · exact (hJ.hb.setCell (p := ⟨w.heap.size, 0, none⟩) (Nat.le_refl _) _).setCell (p := ⟨w.heap.size, 1, none⟩) (Nat.le_refl _) _
end Go.Proofs.Ytankkkiccokggaa
