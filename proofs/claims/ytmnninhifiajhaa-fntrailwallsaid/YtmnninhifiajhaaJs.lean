/-
  Several texts in one: Vm, Vn, Vt.
-/
import Derived.Test.YtmnninhifiajhaaJr
import Derived.Test.YtmnninhifiajhaaJo
import Derived.Deep.RegionHeld3

/-
  l71Sight draws a sight: from -1 to 20.
-/
namespace Go.Proofs.Ytmnninhifiajhaa
open Go.RowKit
set_option linter.unusedVariables false
attribute [local go_sem ↓] Go.wp_at_zero Go.wp_at_succ

theorem one3S (M : Int) (h1 : 0 ≤ M) (h2 : M ≤ 20) (v : Int) (h0 : 0 ≤ v) (h3 : v < 3) : ∃ x : Int, -1 ≤ x ∧ x ≤ 20 ∧ (#[Value.int .i64 (-1), .int .i64 M, .int .i64 20] : Array Value)[v.toNat]? = some (.int .i64 x) := by
  rcases (show v = 0 ∨ v = 1 ∨ v = 2 by omega) with rfl | rfl | rfl
  · exact ⟨-1, by omega, by omega, rfl⟩
  · exact ⟨M, by omega, by omega, rfl⟩
  · exact ⟨20, by omega, by omega, rfl⟩
theorem lit3S (w : World) (M v x : Int) (t : TypeId) (h : (#[Value.int .i64 (-1), .int .i64 M, .int .i64 20] : Array Value)[v.toNat]? = some (.int .i64 x)) : (w.alloc (.cells #[.int .i64 (-1), .int .i64 M, .int .i64 20] t)).cell? ⟨w.heap.size, v.toNat, none⟩ = some (.int .i64 x) := by
  rw [World.cell?_alloc_at _ _ _ _ rfl]
  exact h
theorem manyG_to (wd : Int) (cs : List (Int × Int)) : 0 ≤ manyG wd cs ∧ manyG wd cs ≤ 20 := by
  rcases hk : okG wd cs with _ | _
  · rw [manyG_bad hk]; omega
  · obtain ⟨W, H, rfl, h1, h2, h3, h4, el, hH, hHI⟩ := okG_nat wd cs hk
    rw [manyG_ok hk hHI]; omega

set_option maxHeartbeats 1000000 in
theorem l71Sight_any (w : World) (rb L P : Nat) (h : RdQ w rb L P) (hp : P ≤ 999000) (hL : L ≤ w.heap.size) (wd : Int) (a : Option Addr) (c : Nat) (xs : List (Int × Int)) (hC : CellsAt w a xs) (hn : xs.length ≤ 31) :
    Calls Try.prog 78 #[.pointer (some ⟨rb, 0, none⟩), .agg #[.int .i64 wd, .slice a xs.length c]] w fun e w' => ∃ v : Int, e = .returned (.int .i64 v) ∧ -1 ≤ v ∧ v ≤ 20 ∧ RdQ w' rb L (P + 2) ∧ w.grownBy w' (some rb) := by
  have hrb := h.lt
  obtain ⟨M, hM⟩ : ∃ M, manyG wd xs = M := ⟨_, rfl⟩
  have hMM := manyG_to wd xs
  rw [hM] at hMM
  have hM1 := hMM.1
  have hM2 := hMM.2
  have EM : Hid (manyG wd xs = M) := hM
  clear hM hMM
  have hbX : Below w.heap.size w (w.alloc (.cells #[.int .i64 wd, .slice a xs.length c] 25)) := (by repeat (first | exact Below.refl _ _ | refine Below.alloc ?_ (by first | exact Nat.le_refl _ | (simp; done) | (simp; omega)) _ | refine Below.drew ?_ | refine Below.setCell ?_ (by first | exact Nat.le_refl _ | (simp; done) | (simp; omega)) _))
  have hX := h.below (hbX.mono hL)
  go_enter Try.func78, Try.ntmps78
  go_wp2_with fail
  refine (specMany_any _ _ _ xs _ (hC.below hbX) (by omega)).mono ?_
  rintro e w0 ⟨rfl, hb0⟩
  rw [EM.out]
  have hz0 := hb0.size
  simp at hz0
  have hB0 := bcall hbX (by simp) hb0
  have hr0 := hX.below (hb0.mono (by simp; omega))
  have hg0 := belowP (rb := rb) hB0
  have hs0 : L ≤ w0.heap.size := by omega
  clear hb0 hX hbX hB0
  by_cases e0 : M = 0
  · have hn0 : (M == 0) = true := by simp [e0]
    have hs1 := hs0
    have hs2 : w0.heap.size ≠ rb := by omega
    clear e0
    have hbL : Below w0.heap.size w0 (w0.alloc (.cells #[.int .i64 (-1), .int .i64 M, .int .i64 20] 3)) := (by repeat (first | exact Below.refl _ _ | refine Below.alloc ?_ (by first | exact Nat.le_refl _ | (simp; done) | (simp; omega)) _ | refine Below.drew ?_ | refine Below.setCell ?_ (by first | exact Nat.le_refl _ | (simp; done) | (simp; omega)) _))
    have hrL := hr0.below (hbL.mono hs1)
    go_wp2_with fail
    refine (pickQ 3 _ rb L P hrL (by omega) (by omega)).mono ?_
    rintro e w5 ⟨v, rfl, hv1, hv2, hr5, hg5⟩
    obtain ⟨x, hx1, hx2, hx3⟩ := one3S M hM1 hM2 v hv1 hv2
    have zB : w5.cell? ⟨w0.heap.size, v.toNat, none⟩ = some (.int .i64 x) := gcell hg5 hs2 (lit3S w0 M v x 3 hx3)
    have hgB := picks (picksB hg0 hbL) hg5
    clear hg5 hbL hx3
    go_wp2_with fail
    go_ret
    exact ⟨x, rfl, hx1, hx2, hr5.more (by omega), hgB⟩
  · have hn0 : (M == 0) = false := by simp [e0]
    have hMp : 1 ≤ M := by omega
    clear e0
    go_wp2_with fail
    refine (pickQ 24 _ rb L P hr0 (by omega) (by omega)).mono ?_
    rintro e w1 ⟨u, rfl, hu1, hu2, hr1, hg1'⟩
    have hg1 := picks hg0 hg1'
    have hz1 := hg1'.size
    have hs1 : L ≤ w1.heap.size := by omega
    have hs2 : w1.heap.size ≠ rb := by omega
    clear hg1'
    by_cases e1 : u = 0
    · have hu0 : (u == 0) = true := by simp [e1]
      clear e1
      have hbL : Below w1.heap.size w1 (w1.alloc (.cells #[.int .i64 (-1), .int .i64 M, .int .i64 20] 3)) := (by repeat (first | exact Below.refl _ _ | refine Below.alloc ?_ (by first | exact Nat.le_refl _ | (simp; done) | (simp; omega)) _ | refine Below.drew ?_ | refine Below.setCell ?_ (by first | exact Nat.le_refl _ | (simp; done) | (simp; omega)) _))
      have hrL := hr1.below (hbL.mono hs1)
      go_wp2_with fail
      refine (pickQ 3 _ rb L (P + 1) hrL (by omega) (by omega)).mono ?_
      rintro e w5 ⟨v, rfl, hv1, hv2, hr5, hg5⟩
      obtain ⟨x, hx1, hx2, hx3⟩ := one3S M hM1 hM2 v hv1 hv2
      have zB : w5.cell? ⟨w1.heap.size, v.toNat, none⟩ = some (.int .i64 x) := gcell hg5 hs2 (lit3S w1 M v x 3 hx3)
      have hgB := picks (picksB hg1 hbL) hg5
      clear hg5 hbL hx3
      go_wp2_with fail
      go_ret
      exact ⟨x, rfl, hx1, hx2, hr5.more (by omega), hgB⟩
    · have hu0 : (u == 0) = false := by simp [e1]
      clear e1
      go_wp2_with fail
      refine (pickQ M _ rb L (P + 1) hr1 (by omega) (by omega)).mono ?_
      rintro e w2 ⟨v, rfl, hv1, hv2, hr2, hg2⟩
      go_wp2_with fail
      go_ret
      exact ⟨v, rfl, by omega, by omega, hr2, picks hg1 hg2⟩
end Go.Proofs.Ytmnninhifiajhaa

/-
  DrawSightRay and DrawSightTurn draw a grid and a sight: all lies in memory, at most 31 cells, the sight from -1 to 20.
-/
namespace Go.Proofs.Ytmnninhifiajhaa
open Go.RowKit
set_option linter.unusedVariables false
attribute [local go_sem ↓] Go.wp_at_zero Go.wp_at_succ

/-- What stands while DrawSightRay draws: the box of the answer, the grid's box gb. -/
structure SigInv (w wr : World) (gb : Nat) (wd : Int) (v : Value) : Prop where
  hb : Below w.heap.size w wr
  p0 : wr.cell? ⟨w.heap.size, 0, none⟩ = some (.int .i64 0)
  p1 : wr.cell? ⟨w.heap.size, 1, none⟩ = some (.slice none 0 0)
  fp0 : wr.frozen? ⟨w.heap.size, 0, none⟩ = false
  fp1 : wr.frozen? ⟨w.heap.size, 1, none⟩ = false
  g0 : wr.cell? ⟨gb, 0, none⟩ = some (.int .i64 wd)
  g1 : wr.cell? ⟨gb, 1, none⟩ = some v
  sz : w.heap.size + 2 ≤ gb ∧ gb < wr.heap.size
theorem SigInv.call {w wr w2 : World} {gb : Nat} {wd : Int} {v : Value} (h : SigInv w wr gb wd v) (hg : wr.grownBy w2 (some (w.heap.size + 1))) : SigInv w w2 gb wd v := by
  obtain ⟨s1, s2⟩ := h.sz
  have hz := hg.size
  have n1 : w.heap.size ≠ w.heap.size + 1 := by omega
  have n3 : gb ≠ w.heap.size + 1 := by omega
  exact ⟨⟨hg.os.trans h.hb.os, hg.tape.trans h.hb.tape, hg.output.trans h.hb.output, Nat.le_trans h.hb.size hg.size, fun k hk => (hg.block k (by omega) (by simp; omega)).trans (h.hb.block k hk)⟩,
    gcell hg n1 h.p0, gcell hg n1 h.p1, gfroz hg n1 h.p0 h.fp0, gfroz hg n1 h.p1 h.fp1, gcell hg n3 h.g0, gcell hg n3 h.g1, by omega⟩

set_option maxHeartbeats 2000000 in
theorem drawSightRay_any (a : Option Addr) (n cap : Nat) (f : Nat → Int) (w : World) (h : BytesAt w a n f) (hn : n ≤ 1048576) (hcap : n ≤ cap) (hc2 : cap ≤ 9223372036854775807) :
    Calls Try.prog 67 #[.slice a n cap] w fun e w' => ∃ (wd : Int) (a : Option Addr) (c : Nat) (xs : List (Int × Int)) (k : Int), e = .returned (.tuple #[.agg #[.int .i64 wd, .slice a xs.length c], .int .i64 k]) ∧ CellsAt w' a xs ∧ xs.length ≤ 31 ∧ (-1 ≤ k ∧ k ≤ 20) ∧ Below w.heap.size w w' := by
  go_enter Try.func67, Try.ntmps67
  go_wp2_with fail
  refine (l6Open_any _ n _ f _ (h.below (by repeat (first | exact Below.refl _ _ | refine Below.alloc ?_ (by first | exact Nat.le_refl _ | (simp; done) | (simp; omega)) _ | refine Below.drew ?_ | refine Below.setCell ?_ (by first | exact Nat.le_refl _ | (simp; done) | (simp; omega)) _))) hn hcap hc2).mono ?_
  rintro e w1 ⟨rfl, hr1, hb1⟩
  have hz1 := hb1.size
  simp at hz1 hr1
  have s1 : w.heap.size + 1 < w1.heap.size := by have := hr1.lt; omega
  have p0 : w1.cell? ⟨w.heap.size, 0, none⟩ = some (.int .i64 0) := keepc hb1 (by simp [go_sem])
  have p1 : w1.cell? ⟨w.heap.size, 1, none⟩ = some (.slice none 0 0) := keepc hb1 (by simp [go_sem])
  have fp0 : w1.frozen? ⟨w.heap.size, 0, none⟩ = false := keepf hb1 (v := .int .i64 0) (by simp [go_sem]) (by simp [go_sem])
  have fp1 : w1.frozen? ⟨w.heap.size, 1, none⟩ = false := keepf hb1 (v := .slice none 0 0) (by simp [go_sem]) (by simp [go_sem])
  have hB1 : Below w.heap.size w w1 := bcall (by repeat (first | exact Below.refl _ _ | refine Below.alloc ?_ (by first | exact Nat.le_refl _ | (simp; done) | (simp; omega)) _ | refine Below.drew ?_ | refine Below.setCell ?_ (by first | exact Nat.le_refl _ | (simp; done) | (simp; omega)) _)) (by simp) hb1
  clear hb1
  go_wp2_with fail
  refine (l71Some_any _ (w.heap.size + 1) (w.heap.size + 1 + 1) 0 hr1 (by omega) (by omega)).mono ?_
  rintro e w2 ⟨wd, a2, c2, xs, rfl, ⟨hC2, hn2⟩, hxl, hr2, hg2⟩
  have hz2 := hg2.size
  have nr : w.heap.size ≠ w.heap.size + 1 := by omega
  replace fp0 := gfroz hg2 nr p0 fp0
  replace fp1 := gfroz hg2 nr p1 fp1
  replace p0 := gcell hg2 nr p0
  replace p1 := gcell hg2 nr p1
  have hB2 : Below w.heap.size w w2 := ⟨hg2.os.trans hB1.os, hg2.tape.trans hB1.tape, hg2.output.trans hB1.output, Nat.le_trans hB1.size hg2.size, fun k hk => (hg2.block k (by omega) (by simp; omega)).trans (hB1.block k hk)⟩
  have hbG : Below w2.heap.size w2 (w2.alloc (.cells #[.int .i64 wd, .slice a2 xs.length c2] 25)) := (by repeat (first | exact Below.refl _ _ | refine Below.alloc ?_ (by first | exact Nat.le_refl _ | (simp; done) | (simp; omega)) _ | refine Below.drew ?_ | refine Below.setCell ?_ (by first | exact Nat.le_refl _ | (simp; done) | (simp; omega)) _))
  clear hg2 hB1
  have hI : SigInv w (w2.alloc (.cells #[.int .i64 wd, .slice a2 xs.length c2] 25)) w2.heap.size wd (.slice a2 xs.length c2) :=
    ⟨bcall hB2 (by omega) hbG, keepc hbG p0, keepc hbG p1, keepf hbG p0 fp0, keepf hbG p1 fp1, by simp [go_sem], by simp [go_sem], by simp; omega⟩
  have hrz : RdQ (w2.alloc (.cells #[.int .i64 wd, .slice a2 xs.length c2] 25)) (w.heap.size + 1) (w.heap.size + 1 + 1) 90 := (hr2.below (hbG.mono (by omega))).more (by omega)
  have hCz := hC2.below hbG
  go_wp2
  obtain ⟨wz, hwz⟩ : ∃ wz, wz = w2.alloc (.cells #[.int .i64 wd, .slice a2 xs.length c2] 25) := ⟨_, rfl⟩
  rw [← hwz] at hI hrz hCz ⊢
  clear hwz fp0 fp1 p0 p1 hB2 hbG hC2 hr2 hr1
  have hz := hI.hb.size
  obtain ⟨p0, p1, fp0, fp1⟩ := And.intro hI.p0 (And.intro hI.p1 (And.intro hI.fp0 hI.fp1))
  obtain ⟨g0, g1⟩ := And.intro hI.g0 hI.g1
  obtain ⟨s1, s2⟩ := hI.sz
  have hLz : w.heap.size + 1 + 1 ≤ wz.heap.size := by omega
  have n1 : w2.heap.size ≠ w.heap.size := by omega
  go_region_held3 (fun w' => w'.cell? ⟨w2.heap.size, 0, none⟩ = some (.int .i64 wd) ∧ w'.cell? ⟨w2.heap.size, 1, none⟩ = some (.slice a2 xs.length c2))
    (first
      | with_reducible exact ⟨setc n1 (setc n1 hJ.g0), setc n1 (setc n1 hJ.g1)⟩
      | with_reducible exact ⟨hJ.g0, hJ.g1⟩
      | go_keep)
    (first
      | (go_at_call 78; refine (l71Sight_any _ (w.heap.size + 1) (w.heap.size + 1 + 1) 90 (by first | exact hrz | exact hrz.below (Below.refl _ _).drew) (by omega) (by first | exact hLz | (simp; omega)) wd a2 c2 xs (by first | exact hCz | exact hCz.below (Below.refl _ _).drew) hxl).mono ?_; rintro e w6 ⟨v6, rfl, hv1, hv2, hr6, hg6'⟩; have hg6 : wz.grownBy w6 (some (w.heap.size + 1)) := (by first | exact hg6' | exact gdrew hg6'); have hJ := hI.call hg6; have hC6 := hCz.grown hg6 (fun b off e => by have := hn2 b off e; omega); obtain ⟨p0, p1, fp0, fp1⟩ := And.intro hJ.p0 (And.intro hJ.p1 (And.intro hJ.fp0 hJ.fp1)))
      | fail)
  all_goals
    go_wp2
    refine bodyPost_ret (v := .tuple #[.agg #[.int .i64 wd, .slice a2 xs.length c2], .int .i64 v6]) (by simp [results, Try.results67, go_sem, p0, p1]) rfl ⟨wd, a2, c2, xs, v6, rfl, ?_, hxl, ⟨hv1, hv2⟩, ?_⟩
    · exact (hC6.set (bb := w.heap.size) (fun b off e => by have := hn2 b off e; omega) _).set (bb := w.heap.size) (fun b off e => by have := hn2 b off e; omega) _
    · exact (hJ.hb.setCell (p := ⟨w.heap.size, 0, none⟩) (Nat.le_refl _) _).setCell (p := ⟨w.heap.size, 1, none⟩) (Nat.le_refl _) _
end Go.Proofs.Ytmnninhifiajhaa

/-
  DrawSightRay draws a grid and a sight: as before, and the cells lie in new memory.
-/
namespace Go.Proofs.Ytmnninhifiajhaa
open Go.RowKit
set_option linter.unusedVariables false
attribute [local go_sem ↓] Go.wp_at_zero Go.wp_at_succ

set_option maxHeartbeats 2000000 in
theorem drawSightRayN_any (a : Option Addr) (n cap : Nat) (f : Nat → Int) (w : World) (h : BytesAt w a n f) (hn : n ≤ 1048576) (hcap : n ≤ cap) (hc2 : cap ≤ 9223372036854775807) :
    Calls Try.prog 67 #[.slice a n cap] w fun e w' => ∃ (wd : Int) (a : Option Addr) (c : Nat) (xs : List (Int × Int)) (k : Int), e = .returned (.tuple #[.agg #[.int .i64 wd, .slice a xs.length c], .int .i64 k]) ∧ CellsAt w' a xs ∧ xs.length ≤ 31 ∧ (-1 ≤ k ∧ k ≤ 20) ∧ (∀ b off, a = some ⟨b, off, none⟩ → w.heap.size ≤ b) ∧ Below w.heap.size w w' := by
  go_enter Try.func67, Try.ntmps67
  go_wp2_with fail
  refine (l6Open_any _ n _ f _ (h.below (by repeat (first | exact Below.refl _ _ | refine Below.alloc ?_ (by first | exact Nat.le_refl _ | (simp; done) | (simp; omega)) _ | refine Below.drew ?_ | refine Below.setCell ?_ (by first | exact Nat.le_refl _ | (simp; done) | (simp; omega)) _))) hn hcap hc2).mono ?_
  rintro e w1 ⟨rfl, hr1, hb1⟩
  have hz1 := hb1.size
  simp at hz1 hr1
  have s1 : w.heap.size + 1 < w1.heap.size := by have := hr1.lt; omega
  have p0 : w1.cell? ⟨w.heap.size, 0, none⟩ = some (.int .i64 0) := keepc hb1 (by simp [go_sem])
  have p1 : w1.cell? ⟨w.heap.size, 1, none⟩ = some (.slice none 0 0) := keepc hb1 (by simp [go_sem])
  have fp0 : w1.frozen? ⟨w.heap.size, 0, none⟩ = false := keepf hb1 (v := .int .i64 0) (by simp [go_sem]) (by simp [go_sem])
  have fp1 : w1.frozen? ⟨w.heap.size, 1, none⟩ = false := keepf hb1 (v := .slice none 0 0) (by simp [go_sem]) (by simp [go_sem])
  have hB1 : Below w.heap.size w w1 := bcall (by repeat (first | exact Below.refl _ _ | refine Below.alloc ?_ (by first | exact Nat.le_refl _ | (simp; done) | (simp; omega)) _ | refine Below.drew ?_ | refine Below.setCell ?_ (by first | exact Nat.le_refl _ | (simp; done) | (simp; omega)) _)) (by simp) hb1
  clear hb1
  go_wp2_with fail
  refine (l71Some_any _ (w.heap.size + 1) (w.heap.size + 1 + 1) 0 hr1 (by omega) (by omega)).mono ?_
  rintro e w2 ⟨wd, a2, c2, xs, rfl, ⟨hC2, hn2⟩, hxl, hr2, hg2⟩
  have hz2 := hg2.size
  have nr : w.heap.size ≠ w.heap.size + 1 := by omega
  replace fp0 := gfroz hg2 nr p0 fp0
  replace fp1 := gfroz hg2 nr p1 fp1
  replace p0 := gcell hg2 nr p0
  replace p1 := gcell hg2 nr p1
  have hB2 : Below w.heap.size w w2 := ⟨hg2.os.trans hB1.os, hg2.tape.trans hB1.tape, hg2.output.trans hB1.output, Nat.le_trans hB1.size hg2.size, fun k hk => (hg2.block k (by omega) (by simp; omega)).trans (hB1.block k hk)⟩
  have hbG : Below w2.heap.size w2 (w2.alloc (.cells #[.int .i64 wd, .slice a2 xs.length c2] 25)) := (by repeat (first | exact Below.refl _ _ | refine Below.alloc ?_ (by first | exact Nat.le_refl _ | (simp; done) | (simp; omega)) _ | refine Below.drew ?_ | refine Below.setCell ?_ (by first | exact Nat.le_refl _ | (simp; done) | (simp; omega)) _))
  clear hg2 hB1
  have hI : SigInv w (w2.alloc (.cells #[.int .i64 wd, .slice a2 xs.length c2] 25)) w2.heap.size wd (.slice a2 xs.length c2) :=
    ⟨bcall hB2 (by omega) hbG, keepc hbG p0, keepc hbG p1, keepf hbG p0 fp0, keepf hbG p1 fp1, by simp [go_sem], by simp [go_sem], by simp; omega⟩
  have hrz : RdQ (w2.alloc (.cells #[.int .i64 wd, .slice a2 xs.length c2] 25)) (w.heap.size + 1) (w.heap.size + 1 + 1) 90 := (hr2.below (hbG.mono (by omega))).more (by omega)
  have hCz := hC2.below hbG
  go_wp2
  obtain ⟨wz, hwz⟩ : ∃ wz, wz = w2.alloc (.cells #[.int .i64 wd, .slice a2 xs.length c2] 25) := ⟨_, rfl⟩
  rw [← hwz] at hI hrz hCz ⊢
  clear hwz fp0 fp1 p0 p1 hB2 hbG hC2 hr2 hr1
  have hz := hI.hb.size
  obtain ⟨p0, p1, fp0, fp1⟩ := And.intro hI.p0 (And.intro hI.p1 (And.intro hI.fp0 hI.fp1))
  obtain ⟨g0, g1⟩ := And.intro hI.g0 hI.g1
  obtain ⟨s1, s2⟩ := hI.sz
  have hLz : w.heap.size + 1 + 1 ≤ wz.heap.size := by omega
  have n1 : w2.heap.size ≠ w.heap.size := by omega
  go_region_held3 (fun w' => w'.cell? ⟨w2.heap.size, 0, none⟩ = some (.int .i64 wd) ∧ w'.cell? ⟨w2.heap.size, 1, none⟩ = some (.slice a2 xs.length c2))
    (first
      | with_reducible exact ⟨setc n1 (setc n1 hJ.g0), setc n1 (setc n1 hJ.g1)⟩
      | with_reducible exact ⟨hJ.g0, hJ.g1⟩
      | go_keep)
    (first
      | (go_at_call 78; refine (l71Sight_any _ (w.heap.size + 1) (w.heap.size + 1 + 1) 90 (by first | exact hrz | exact hrz.below (Below.refl _ _).drew) (by omega) (by first | exact hLz | (simp; omega)) wd a2 c2 xs (by first | exact hCz | exact hCz.below (Below.refl _ _).drew) hxl).mono ?_; rintro e w6 ⟨v6, rfl, hv1, hv2, hr6, hg6'⟩; have hg6 : wz.grownBy w6 (some (w.heap.size + 1)) := (by first | exact hg6' | exact gdrew hg6'); have hJ := hI.call hg6; have hC6 := hCz.grown hg6 (fun b off e => by have := hn2 b off e; omega); obtain ⟨p0, p1, fp0, fp1⟩ := And.intro hJ.p0 (And.intro hJ.p1 (And.intro hJ.fp0 hJ.fp1)))
      | fail)
  all_goals
    go_wp2
    refine bodyPost_ret (v := .tuple #[.agg #[.int .i64 wd, .slice a2 xs.length c2], .int .i64 v6]) (by simp [results, Try.results67, go_sem, p0, p1]) rfl ⟨wd, a2, c2, xs, v6, rfl, ?_, hxl, ⟨hv1, hv2⟩, fun b off e => by have := hn2 b off e; omega, ?_⟩
    · exact (hC6.set (bb := w.heap.size) (fun b off e => by have := hn2 b off e; omega) _).set (bb := w.heap.size) (fun b off e => by have := hn2 b off e; omega) _
    · exact (hJ.hb.setCell (p := ⟨w.heap.size, 0, none⟩) (Nat.le_refl _) _).setCell (p := ⟨w.heap.size, 1, none⟩) (Nat.le_refl _) _
end Go.Proofs.Ytmnninhifiajhaa
