/-
  DrawGridPut draws a grid, a place and a cell: all lies in memory, at most 31 cells, the place from -1 to 31.
-/
import Derived.Test.YtmnninhifiajhaaDp
namespace Go.Proofs.Ytmnninhifiajhaa
open Go.RowKit
set_option linter.unusedVariables false
attribute [local go_sem ↓] Go.wp_at_zero Go.wp_at_succ

/-- What stands while DrawGridPut draws: the two boxes of the answer, the grid's box gb, the cell's box cb. -/
structure PutInv (w wr : World) (gb cb : Nat) (wd : Int) (v : Value) (k l : Int) : Prop where
  hb : Below w.heap.size w wr
  p0 : wr.cell? ⟨w.heap.size, 0, none⟩ = some (.int .i64 0)
  p1 : wr.cell? ⟨w.heap.size, 1, none⟩ = some (.slice none 0 0)
  q0 : wr.cell? ⟨w.heap.size + 1, 0, none⟩ = some (.int .i64 0)
  q1 : wr.cell? ⟨w.heap.size + 1, 1, none⟩ = some (.int .i64 0)
  fp0 : wr.frozen? ⟨w.heap.size, 0, none⟩ = false
  fp1 : wr.frozen? ⟨w.heap.size, 1, none⟩ = false
  fq0 : wr.frozen? ⟨w.heap.size + 1, 0, none⟩ = false
  fq1 : wr.frozen? ⟨w.heap.size + 1, 1, none⟩ = false
  g0 : wr.cell? ⟨gb, 0, none⟩ = some (.int .i64 wd)
  g1 : wr.cell? ⟨gb, 1, none⟩ = some v
  c0 : wr.cell? ⟨cb, 0, none⟩ = some (.int .i64 k)
  c1 : wr.cell? ⟨cb, 1, none⟩ = some (.int .i64 l)
  fc0 : wr.frozen? ⟨cb, 0, none⟩ = false
  fc1 : wr.frozen? ⟨cb, 1, none⟩ = false
  sz : w.heap.size + 3 ≤ gb ∧ gb < cb ∧ cb < wr.heap.size ∧ w.heap.size + 3 ≤ wr.heap.size
theorem PutInv.call {w wr w2 : World} {gb cb : Nat} {wd : Int} {v : Value} {k l : Int} (h : PutInv w wr gb cb wd v k l) (hg : wr.grownBy w2 (some (w.heap.size + 1 + 1))) : PutInv w w2 gb cb wd v k l := by
  obtain ⟨s1, s2, s3, s4⟩ := h.sz
  have hz := hg.size
  have n1 : w.heap.size ≠ w.heap.size + 1 + 1 := by omega
  have n2 : w.heap.size + 1 ≠ w.heap.size + 1 + 1 := by omega
  have n3 : gb ≠ w.heap.size + 1 + 1 := by omega
  have n4 : cb ≠ w.heap.size + 1 + 1 := by omega
  exact ⟨⟨hg.os.trans h.hb.os, hg.tape.trans h.hb.tape, hg.output.trans h.hb.output, Nat.le_trans h.hb.size hg.size, fun k hk => (hg.block k (by omega) (by simp; omega)).trans (h.hb.block k hk)⟩,
    gcell hg n1 h.p0, gcell hg n1 h.p1, gcell hg n2 h.q0, gcell hg n2 h.q1, gfroz hg n1 h.p0 h.fp0, gfroz hg n1 h.p1 h.fp1, gfroz hg n2 h.q0 h.fq0, gfroz hg n2 h.q1 h.fq1, gcell hg n3 h.g0, gcell hg n3 h.g1, gcell hg n4 h.c0, gcell hg n4 h.c1, gfroz hg n4 h.c0 h.fc0, gfroz hg n4 h.c1 h.fc1, by omega⟩
theorem PutInv.setC {w wr : World} {gb cb : Nat} {wd : Int} {v : Value} {k l : Int} (h : PutInv w wr gb cb wd v k l) (k2 l2 : Int) : PutInv w ((wr.setCell ⟨cb, 0, none⟩ (.int .i64 k2)).setCell ⟨cb, 1, none⟩ (.int .i64 l2)) gb cb wd v k2 l2 := by
  obtain ⟨s1, s2, s3, s4⟩ := h.sz
  have n1 : w.heap.size ≠ cb := by omega
  have n2 : w.heap.size + 1 ≠ cb := by omega
  have n3 : gb ≠ cb := by omega
  refine ⟨(h.hb.setCell (p := ⟨cb, 0, none⟩) (by show w.heap.size ≤ cb; omega) _).setCell (p := ⟨cb, 1, none⟩) (by show w.heap.size ≤ cb; omega) _, setc n1 (setc n1 h.p0), setc n1 (setc n1 h.p1), setc n2 (setc n2 h.q0), setc n2 (setc n2 h.q1), setf n1 (setf n1 h.fp0), setf n1 (setf n1 h.fp1), setf n2 (setf n2 h.fq0), setf n2 (setf n2 h.fq1), setc n3 (setc n3 h.g0), setc n3 (setc n3 h.g1), ?_, ?_, ?_, ?_, ?_⟩
  · rw [World.cell?_setCell_other _ _ _ _ (by simp)]; exact World.cell?_setCell_same _ _ _ h.c0
  · exact World.cell?_setCell_same _ _ _ (by rw [World.cell?_setCell_other _ _ _ _ (by simp)]; exact h.c1)
  · rw [World.frozen?_setCell, World.frozen?_setCell]; exact h.fc0
  · rw [World.frozen?_setCell, World.frozen?_setCell]; exact h.fc1
  · simp [World.setCell]; omega

theorem CellsAt.setNew {w w0 : World} {a : Option Addr} {cs : List (Int × Int)} (h : CellsAt w a cs) (h0 : CellsAt w0 a cs) {bb j : Nat} (hbb : w0.heap.size ≤ bb) (u : Value) : CellsAt (w.setCell ⟨bb, j, none⟩ u) a cs := by
  rcases h0 with h0 | ⟨b, off, rfl, hbl, _⟩
  · exact Or.inl h0
  · refine h.set (fun b' off' e => ?_) u
    simp only [Option.some.injEq, Addr.mk.injEq, and_true] at e
    omega

set_option maxHeartbeats 1000000 in
theorem drawGridPut_any (a : Option Addr) (n cap : Nat) (f : Nat → Int) (w : World) (h : BytesAt w a n f) (hn : n ≤ 1048576) (hcap : n ≤ cap) (hc2 : cap ≤ 9223372036854775807) :
    Calls Try.prog 12 #[.slice a n cap] w fun e w' => ∃ (wd : Int) (a : Option Addr) (c : Nat) (xs : List (Int × Int)) (at_ k l : Int), e = .returned (.tuple #[.agg #[.int .i64 wd, .slice a xs.length c], .int .i64 at_, .agg #[.int .i64 k, .int .i64 l]]) ∧ CellsAt w' a xs ∧ xs.length ≤ 31 ∧ -1 ≤ at_ ∧ at_ ≤ 31 ∧ Below w.heap.size w w' := by
  go_enter Try.func12, Try.ntmps12
  go_wp2_with fail
  refine (l6Open_any _ n _ f _ (h.below (by repeat (first | exact Below.refl _ _ | refine Below.alloc ?_ (by first | exact Nat.le_refl _ | (simp; done) | (simp; omega)) _ | refine Below.drew ?_ | refine Below.setCell ?_ (by first | exact Nat.le_refl _ | (simp; done) | (simp; omega)) _))) hn hcap hc2).mono ?_
  rintro e w1 ⟨rfl, hr1, hb1⟩
  have hz1 := hb1.size
  simp at hz1 hr1
  have s1 : w.heap.size + 1 + 1 < w1.heap.size := by have := hr1.lt; omega
  have p0 : w1.cell? ⟨w.heap.size, 0, none⟩ = some (.int .i64 0) := keepc hb1 (by simp [go_sem])
  have p1 : w1.cell? ⟨w.heap.size, 1, none⟩ = some (.slice none 0 0) := keepc hb1 (by simp [go_sem])
  have fp0 : w1.frozen? ⟨w.heap.size, 0, none⟩ = false := keepf hb1 (v := .int .i64 0) (by simp [go_sem]) (by simp [go_sem])
  have fp1 : w1.frozen? ⟨w.heap.size, 1, none⟩ = false := keepf hb1 (v := .slice none 0 0) (by simp [go_sem]) (by simp [go_sem])
  have q0 : w1.cell? ⟨w.heap.size + 1, 0, none⟩ = some (.int .i64 0) := keepc hb1 (by simp [go_sem])
  have q1 : w1.cell? ⟨w.heap.size + 1, 1, none⟩ = some (.int .i64 0) := keepc hb1 (by simp [go_sem])
  have fq0 : w1.frozen? ⟨w.heap.size + 1, 0, none⟩ = false := keepf hb1 (v := .int .i64 0) (by simp [go_sem]) (by simp [go_sem])
  have fq1 : w1.frozen? ⟨w.heap.size + 1, 1, none⟩ = false := keepf hb1 (v := .int .i64 0) (by simp [go_sem]) (by simp [go_sem])
  have hB1 : Below w.heap.size w w1 := bcall (by repeat (first | exact Below.refl _ _ | refine Below.alloc ?_ (by first | exact Nat.le_refl _ | (simp; done) | (simp; omega)) _ | refine Below.drew ?_ | refine Below.setCell ?_ (by first | exact Nat.le_refl _ | (simp; done) | (simp; omega)) _)) (by simp; omega) hb1
  clear hb1
  go_wp2_with fail
  refine (l71Some_any _ (w.heap.size + 1 + 1) (w.heap.size + 1 + 1 + 1) 0 hr1 (by omega) (by omega)).mono ?_
  rintro e w2 ⟨wd, a2, c2, xs, rfl, ⟨hC2, hn2⟩, hxl, hr2, hg2⟩
  have hz2 := hg2.size
  have nr : w.heap.size ≠ w.heap.size + 1 + 1 := by omega
  have nr2 : w.heap.size + 1 ≠ w.heap.size + 1 + 1 := by omega
  replace fp0 := gfroz hg2 nr p0 fp0
  replace fp1 := gfroz hg2 nr p1 fp1
  replace fq0 := gfroz hg2 nr2 q0 fq0
  replace fq1 := gfroz hg2 nr2 q1 fq1
  replace p0 := gcell hg2 nr p0
  replace p1 := gcell hg2 nr p1
  replace q0 := gcell hg2 nr2 q0
  replace q1 := gcell hg2 nr2 q1
  have hB2 : Below w.heap.size w w2 := ⟨hg2.os.trans hB1.os, hg2.tape.trans hB1.tape, hg2.output.trans hB1.output, Nat.le_trans hB1.size hg2.size, fun k hk => (hg2.block k (by omega) (by simp; omega)).trans (hB1.block k hk)⟩
  have hbG : Below w2.heap.size w2 (w2.alloc (.cells #[.int .i64 wd, .slice a2 xs.length c2] 25)) := (by repeat (first | exact Below.refl _ _ | refine Below.alloc ?_ (by first | exact Nat.le_refl _ | (simp; done) | (simp; omega)) _ | refine Below.drew ?_ | refine Below.setCell ?_ (by first | exact Nat.le_refl _ | (simp; done) | (simp; omega)) _))
  clear hg2 hB1
  go_wp2_with fail
  refine (l71Cell_any _ (w.heap.size + 1 + 1) (w.heap.size + 1 + 1 + 1) 70 (hr2.below (hbG.mono (by omega))) (by omega) (by simp; omega)).mono ?_
  rintro e w3 ⟨k, l, rfl, hok, hr3, hg3⟩
  have hz3 := hg3.size
  simp at hz3
  have ng : w2.heap.size ≠ w.heap.size + 1 + 1 := by omega
  replace fp0 := gfroz hg3 nr (keepc hbG p0) (keepf hbG p0 fp0)
  replace fp1 := gfroz hg3 nr (keepc hbG p1) (keepf hbG p1 fp1)
  replace fq0 := gfroz hg3 nr2 (keepc hbG q0) (keepf hbG q0 fq0)
  replace fq1 := gfroz hg3 nr2 (keepc hbG q1) (keepf hbG q1 fq1)
  replace p0 := gcell hg3 nr (keepc hbG p0)
  replace p1 := gcell hg3 nr (keepc hbG p1)
  replace q0 := gcell hg3 nr2 (keepc hbG q0)
  replace q1 := gcell hg3 nr2 (keepc hbG q1)
  have g0 : w3.cell? ⟨w2.heap.size, 0, none⟩ = some (.int .i64 wd) := gcell hg3 ng (by simp [go_sem])
  have g1 : w3.cell? ⟨w2.heap.size, 1, none⟩ = some (.slice a2 xs.length c2) := gcell hg3 ng (by simp [go_sem])
  have hB3 : Below w.heap.size w w3 := by
    have hx := bcall hB2 (by omega) hbG
    exact ⟨hg3.os.trans hx.os, hg3.tape.trans hx.tape, hg3.output.trans hx.output, Nat.le_trans hx.size hg3.size, fun k hk => (hg3.block k (by simp; omega) (by simp; omega)).trans (hx.block k hk)⟩
  have hC3 : CellsAt w3 a2 xs := (hC2.below hbG).grown hg3 (fun b off e => by have := hn2 b off e; omega)
  have hbK : Below w3.heap.size w3 (w3.alloc (.cells #[.int .i64 k, .int .i64 l] 27)) := (by repeat (first | exact Below.refl _ _ | refine Below.alloc ?_ (by first | exact Nat.le_refl _ | (simp; done) | (simp; omega)) _ | refine Below.drew ?_ | refine Below.setCell ?_ (by first | exact Nat.le_refl _ | (simp; done) | (simp; omega)) _))
  have hI3 : PutInv w (w3.alloc (.cells #[.int .i64 k, .int .i64 l] 27)) w2.heap.size w3.heap.size wd (.slice a2 xs.length c2) k l :=
    ⟨bcall hB3 (by omega) hbK, keepc hbK p0, keepc hbK p1, keepc hbK q0, keepc hbK q1, keepf hbK p0 fp0, keepf hbK p1 fp1, keepf hbK q0 fq0, keepf hbK q1 fq1, keepc hbK g0, keepc hbK g1, by simp [go_sem], by simp [go_sem], by simp [go_sem], by simp [go_sem], by simp; omega⟩
  replace hr3 := hr3.below (hbK.mono (by omega))
  have hCb := hC3
  replace hC3 := hC3.below hbK
  clear fp0 fp1 fq0 fq1 p0 p1 q0 q1 g0 g1 hB3 hbK hB2 hbG hg3 hC2 hr2 hr1
  go_wp2_with fail
  refine (pickQ 16 _ (w.heap.size + 1 + 1) (w.heap.size + 1 + 1 + 1) 72 hr3 (by omega) (by omega)).mono ?_
  rintro e w4 ⟨v, rfl, hv1, hv2, hr4, hg4⟩
  have hI4 := hI3.call hg4
  have hC4 := hC3.grown hg4 (fun b off e => by have := hn2 b off e; omega)
  clear hI3 hC3 hg4 hr3
  by_cases hv : v = 0
  · subst hv
    obtain ⟨f0, f1, b0, b1⟩ := And.intro hI4.fc0 (And.intro hI4.fc1 (And.intro hI4.c0 hI4.c1))
    go_wp2_with fail
    refine (l71Off_any _ (w.heap.size + 1 + 1) (w.heap.size + 1 + 1 + 1) 73 hr4 (by omega) (by have := hI4.sz; omega)).mono ?_
    rintro e w5 ⟨k2, l2, rfl, hr5, hg5⟩
    have hI5 := hI4.call hg5
    have hC5 := hC4.grown hg5 (fun b off e => by have := hn2 b off e; omega)
    clear hI4 hC4 hg5 hr4 f0 f1 b0 b1
    obtain ⟨f0, f1, b0, b1⟩ := And.intro hI5.fc0 (And.intro hI5.fc1 (And.intro hI5.c0 hI5.c1))
    have hI := hI5.setC k2 l2
    have hCz := (hC5.setNew hCb (Nat.le_refl _) (j := 0) (.int .i64 k2)).setNew hCb (Nat.le_refl _) (j := 1) (.int .i64 l2)
    have hrz : RdQ ((w5.setCell ⟨w3.heap.size, 0, none⟩ (.int .i64 k2)).setCell ⟨w3.heap.size, 1, none⟩ (.int .i64 l2)) (w.heap.size + 1 + 1) (w.heap.size + 1 + 1 + 1) 90 :=
      (hr5.below (((Below.refl _ _).setCell (p := ⟨w3.heap.size, 0, none⟩) (by show _ ≤ w3.heap.size; omega) _).setCell (p := ⟨w3.heap.size, 1, none⟩) (by show _ ≤ w3.heap.size; omega) _)).more (by omega)
    go_wp2
    obtain ⟨wz, hwz⟩ : ∃ wz, wz = (w5.setCell ⟨w3.heap.size, 0, none⟩ (.int .i64 k2)).setCell ⟨w3.heap.size, 1, none⟩ (.int .i64 l2) := ⟨_, rfl⟩
    rw [← hwz] at hI hrz hCz ⊢
    clear hI5 hr5 hC5 hwz f0 f1 b0 b1
    have hz := hI.hb.size
    obtain ⟨p0, p1, q0, q1, fp0, fp1, fq0, fq1⟩ := And.intro hI.p0 (And.intro hI.p1 (And.intro hI.q0 (And.intro hI.q1 (And.intro hI.fp0 (And.intro hI.fp1 (And.intro hI.fq0 hI.fq1))))))
    obtain ⟨g0, g1, c0, c1⟩ := And.intro hI.g0 (And.intro hI.g1 (And.intro hI.c0 hI.c1))
    obtain ⟨s1, s2, s3, s4⟩ := hI.sz
    have hLz : w.heap.size + 1 + 1 + 1 ≤ wz.heap.size := by omega
    have n1 : w2.heap.size ≠ w.heap.size := by omega
    have n2 : w2.heap.size ≠ w.heap.size + 1 := by omega
    have n3 : w3.heap.size ≠ w.heap.size := by omega
    have n4 : w3.heap.size ≠ w.heap.size + 1 := by omega
    have n5 : w.heap.size ≠ w.heap.size + 1 := by omega
    go_region_held3 (fun w' => w'.cell? ⟨w2.heap.size, 0, none⟩ = some (.int .i64 wd) ∧ w'.cell? ⟨w2.heap.size, 1, none⟩ = some (.slice a2 xs.length c2) ∧ w'.cell? ⟨w3.heap.size, 0, none⟩ = some (.int .i64 k2) ∧ w'.cell? ⟨w3.heap.size, 1, none⟩ = some (.int .i64 l2))
      (first
        | with_reducible exact ⟨setc n1 (setc n1 hJ.g0), setc n1 (setc n1 hJ.g1), setc n3 (setc n3 hJ.c0), setc n3 (setc n3 hJ.c1)⟩
        | with_reducible exact ⟨setc n2 (setc n2 (setc n1 (setc n1 hJ.g0))), setc n2 (setc n2 (setc n1 (setc n1 hJ.g1))), setc n4 (setc n4 (setc n3 (setc n3 hJ.c0))), setc n4 (setc n4 (setc n3 (setc n3 hJ.c1)))⟩
        | with_reducible exact ⟨hJ.g0, hJ.g1, hJ.c0, hJ.c1⟩
        | go_keep)
      (first
        | (go_at_call 52; refine (l71Place_any _ (w.heap.size + 1 + 1) (w.heap.size + 1 + 1 + 1) 90 (by first | exact hrz | exact hrz.below (Below.refl _ _).drew) (by omega) (by first | exact hLz | (simp; omega)) wd a2 xs.length c2 hxl).mono ?_; rintro e w6 ⟨v6, rfl, hv1, hv2, hr6, hg6'⟩; have hg6 : wz.grownBy w6 (some (w.heap.size + 1 + 1)) := (by first | exact hg6' | exact gdrew hg6'); have hJ := hI.call hg6; obtain ⟨p0, p1, q0, q1, fp0, fp1, fq0, fq1⟩ := And.intro hJ.p0 (And.intro hJ.p1 (And.intro hJ.q0 (And.intro hJ.q1 (And.intro hJ.fp0 (And.intro hJ.fp1 (And.intro hJ.fq0 hJ.fq1)))))); have hC6 := hCz.grown hg6 (fun b off e => by have := hn2 b off e; omega)))
    all_goals
      go_wp2
      refine bodyPost_ret (v := .tuple #[.agg #[.int .i64 wd, .slice a2 xs.length c2], .int .i64 v6, .agg #[.int .i64 k2, .int .i64 l2]]) (by simp [results, Try.results12, go_sem, p0, p1, q0, q1]) rfl ⟨wd, a2, c2, xs, v6, k2, l2, rfl, ?_, hxl, hv1, hv2, ?_⟩
      · exact (((hC6.set (bb := w.heap.size) (fun b off e => by have := hn2 b off e; omega) _).set (bb := w.heap.size) (fun b off e => by have := hn2 b off e; omega) _).set (bb := w.heap.size + 1) (fun b off e => by have := hn2 b off e; omega) _).set (bb := w.heap.size + 1) (fun b off e => by have := hn2 b off e; omega) _
      · exact (((hJ.hb.setCell (p := ⟨w.heap.size, 0, none⟩) (Nat.le_refl _) _).setCell (p := ⟨w.heap.size, 1, none⟩) (Nat.le_refl _) _).setCell (p := ⟨w.heap.size + 1, 0, none⟩) (Nat.le_succ _) _).setCell (p := ⟨w.heap.size + 1, 1, none⟩) (Nat.le_succ _) _
  · have hvv : (v == 0) = false := by simp [hv]
    obtain ⟨wz, hwz⟩ : ∃ wz, wz = w4 := ⟨_, rfl⟩
    have hI := hI4
    have hrz := hr4.more (P' := 90) (by omega)
    have hCz := hC4
    go_wp2
    rw [← hwz] at hI hrz hCz ⊢
    clear hI4 hr4 hC4 hwz
    have hz := hI.hb.size
    obtain ⟨p0, p1, q0, q1, fp0, fp1, fq0, fq1⟩ := And.intro hI.p0 (And.intro hI.p1 (And.intro hI.q0 (And.intro hI.q1 (And.intro hI.fp0 (And.intro hI.fp1 (And.intro hI.fq0 hI.fq1))))))
    obtain ⟨g0, g1, c0, c1⟩ := And.intro hI.g0 (And.intro hI.g1 (And.intro hI.c0 hI.c1))
    obtain ⟨s1, s2, s3, s4⟩ := hI.sz
    have hLz : w.heap.size + 1 + 1 + 1 ≤ wz.heap.size := by omega
    have n1 : w2.heap.size ≠ w.heap.size := by omega
    have n2 : w2.heap.size ≠ w.heap.size + 1 := by omega
    have n3 : w3.heap.size ≠ w.heap.size := by omega
    have n4 : w3.heap.size ≠ w.heap.size + 1 := by omega
    have n5 : w.heap.size ≠ w.heap.size + 1 := by omega
    go_region_held3 (fun w' => w'.cell? ⟨w2.heap.size, 0, none⟩ = some (.int .i64 wd) ∧ w'.cell? ⟨w2.heap.size, 1, none⟩ = some (.slice a2 xs.length c2) ∧ w'.cell? ⟨w3.heap.size, 0, none⟩ = some (.int .i64 k) ∧ w'.cell? ⟨w3.heap.size, 1, none⟩ = some (.int .i64 l))
      (first
        | with_reducible exact ⟨setc n1 (setc n1 hJ.g0), setc n1 (setc n1 hJ.g1), setc n3 (setc n3 hJ.c0), setc n3 (setc n3 hJ.c1)⟩
        | with_reducible exact ⟨setc n2 (setc n2 (setc n1 (setc n1 hJ.g0))), setc n2 (setc n2 (setc n1 (setc n1 hJ.g1))), setc n4 (setc n4 (setc n3 (setc n3 hJ.c0))), setc n4 (setc n4 (setc n3 (setc n3 hJ.c1)))⟩
        | with_reducible exact ⟨hJ.g0, hJ.g1, hJ.c0, hJ.c1⟩
        | go_keep)
      (first
        | (go_at_call 52; refine (l71Place_any _ (w.heap.size + 1 + 1) (w.heap.size + 1 + 1 + 1) 90 (by first | exact hrz | exact hrz.below (Below.refl _ _).drew) (by omega) (by first | exact hLz | (simp; omega)) wd a2 xs.length c2 hxl).mono ?_; rintro e w6 ⟨v6, rfl, hv1, hv2, hr6, hg6'⟩; have hg6 : wz.grownBy w6 (some (w.heap.size + 1 + 1)) := (by first | exact hg6' | exact gdrew hg6'); have hJ := hI.call hg6; obtain ⟨p0, p1, q0, q1, fp0, fp1, fq0, fq1⟩ := And.intro hJ.p0 (And.intro hJ.p1 (And.intro hJ.q0 (And.intro hJ.q1 (And.intro hJ.fp0 (And.intro hJ.fp1 (And.intro hJ.fq0 hJ.fq1)))))); have hC6 := hCz.grown hg6 (fun b off e => by have := hn2 b off e; omega)))
    all_goals
      go_wp2
      refine bodyPost_ret (v := .tuple #[.agg #[.int .i64 wd, .slice a2 xs.length c2], .int .i64 v6, .agg #[.int .i64 k, .int .i64 l]]) (by simp [results, Try.results12, go_sem, p0, p1, q0, q1]) rfl ⟨wd, a2, c2, xs, v6, k, l, rfl, ?_, hxl, hv1, hv2, ?_⟩
      · exact (((hC6.set (bb := w.heap.size) (fun b off e => by have := hn2 b off e; omega) _).set (bb := w.heap.size) (fun b off e => by have := hn2 b off e; omega) _).set (bb := w.heap.size + 1) (fun b off e => by have := hn2 b off e; omega) _).set (bb := w.heap.size + 1) (fun b off e => by have := hn2 b off e; omega) _
      · exact (((hJ.hb.setCell (p := ⟨w.heap.size, 0, none⟩) (Nat.le_refl _) _).setCell (p := ⟨w.heap.size, 1, none⟩) (Nat.le_refl _) _).setCell (p := ⟨w.heap.size + 1, 0, none⟩) (Nat.le_succ _) _).setCell (p := ⟨w.heap.size + 1, 1, none⟩) (Nat.le_succ _) _

end Go.Proofs.Ytmnninhifiajhaa
