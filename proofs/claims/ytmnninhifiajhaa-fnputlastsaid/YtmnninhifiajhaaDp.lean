/-
  l71Place draws a place, DrawGridPut a grid, a place and a cell: all lies in memory, at most 31 cells, the place from -1 to 31.
-/
import Derived.Test.YtmnninhifiajhaaJr
namespace Go.Proofs.Ytmnninhifiajhaa
open Go.RowKit
set_option linter.unusedVariables false
attribute [local go_sem ↓] Go.wp_at_zero Go.wp_at_succ

/-- One of three numbers. -/
theorem one3 (n : Nat) (hn : n ≤ 31) (v : Int) (h0 : 0 ≤ v) (h3 : v < 3) : ∃ x : Int, -1 ≤ x ∧ x ≤ 31 ∧ (#[Value.int .i64 (-1), .int .i64 25, .int .i64 (n : Int)] : Array Value)[v.toNat]? = some (.int .i64 x) := by
  rcases (show v = 0 ∨ v = 1 ∨ v = 2 by omega) with rfl | rfl | rfl
  · exact ⟨-1, by omega, by omega, rfl⟩
  · exact ⟨25, by omega, by omega, rfl⟩
  · exact ⟨n, by omega, by omega, rfl⟩
theorem lit3 (w : World) (n : Nat) (v x : Int) (t : TypeId) (h : (#[Value.int .i64 (-1), .int .i64 25, .int .i64 (n : Int)] : Array Value)[v.toNat]? = some (.int .i64 x)) : (w.alloc (.cells #[.int .i64 (-1), .int .i64 25, .int .i64 (n : Int)] t)).cell? ⟨w.heap.size, v.toNat, none⟩ = some (.int .i64 x) := by
  rw [World.cell?_alloc_at _ _ _ _ rfl]
  exact h

set_option maxHeartbeats 1000000 in
theorem l71Place_any (w : World) (rb L P : Nat) (h : RdQ w rb L P) (hp : P ≤ 999000) (hL : L ≤ w.heap.size) (wd : Int) (a : Option Addr) (n c : Nat) (hn : n ≤ 31) :
    Calls Try.prog 52 #[.pointer (some ⟨rb, 0, none⟩), .agg #[.int .i64 wd, .slice a n c]] w fun e w' => ∃ v : Int, e = .returned (.int .i64 v) ∧ -1 ≤ v ∧ v ≤ 31 ∧ RdQ w' rb L (P + 2) ∧ w.grownBy w' (some rb) := by
  have hrb := h.lt
  have hbX : Below w.heap.size w (w.alloc (.cells #[.int .i64 wd, .slice a n c] 25)) := (by repeat (first | exact Below.refl _ _ | refine Below.alloc ?_ (by first | exact Nat.le_refl _ | (simp; done) | (simp; omega)) _ | refine Below.drew ?_ | refine Below.setCell ?_ (by first | exact Nat.le_refl _ | (simp; done) | (simp; omega)) _))
  have hX := h.below (hbX.mono hL)
  have hne : w.heap.size ≠ rb := by omega
  have hgX := belowP (rb := rb) hbX
  by_cases h0 : n = 0
  · have hn0 : ((n : Int) == 0) = true := by simp [h0]
    clear h0
    go_enter Try.func52, Try.ntmps52
    go_wp2
    obtain ⟨w1, hw1⟩ : ∃ w1, w1 = w.alloc (.cells #[.int .i64 wd, .slice a n c] 25) := ⟨_, rfl⟩
    have g1 : w1.cell? ⟨w.heap.size, 1, none⟩ = some (.slice a n c) := by rw [hw1]; simp [go_sem]
    have hs1 : L ≤ w1.heap.size := by rw [hw1]; simp; omega
    have hs2 : w1.heap.size ≠ rb := by omega
    rw [← hw1] at hX hgX ⊢
    clear hw1 hbX
    have hr1 := hX
    have hg1 := hgX
    clear hX hgX
    · skip
      go_region_with
        (first
          | (go_at_call 50; refine (pickQ 3 _ rb L P (by first | exact hr1 | exact hr1.below (Below.refl _ _).drew) (by omega) (by omega)).mono ?_; rintro e w5 ⟨v, rfl, hv1, hv2, hr5, hg5'⟩; have hg5 : w1.grownBy w5 (some rb) := (by first | exact hg5' | exact gdrew hg5'); have g5 : w5.cell? ⟨w.heap.size, 1, none⟩ = some (.slice a n c) := gcell hg5 hne g1; obtain ⟨x, hx1, hx2, hx3⟩ := one3 n hn v hv1 hv2; have zB := lit3 w5 n v x 3 hx3; have hgB := galloc (picks hg1 hg5) (.cells #[.int .i64 (-1), .int .i64 25, .int .i64 (n : Int)] 3); have hrB : RdQ (w5.alloc (.cells #[.int .i64 (-1), .int .i64 25, .int .i64 (n : Int)] 3)) rb L (P + 1) := hr5.below ((Below.refl _ _).alloc (by have := hg5.size; omega) _); clear hx3 hg5' hr5)
          | (go_at_call 50; refine (pickQ 3 _ rb L P (hr1.below (by first | exact (Below.refl _ _).alloc hs1 _ | exact ((Below.refl _ _).alloc hs1 _).drew)) (by omega) (by omega)).mono ?_; rintro e w5 ⟨v, rfl, hv1, hv2, hrB, hg5'⟩; have hg5 : w1.grownBy w5 (some rb) := picks (belowP (by first | exact (Below.refl _ _).alloc (Nat.le_refl _) _ | exact ((Below.refl _ _).alloc (Nat.le_refl _) _).drew)) hg5'; have g5 : w5.cell? ⟨w.heap.size, 1, none⟩ = some (.slice a n c) := gcell hg5 hne g1; obtain ⟨x, hx1, hx2, hx3⟩ := one3 n hn v hv1 hv2; have zA : w5.cell? ⟨w1.heap.size, v.toNat, none⟩ = some (.int .i64 x) := gcell hg5' (by omega) (by have := lit3 w1 n v x 3 hx3; first | exact this | simpa using this); have hgB := picks hg1 hg5; clear hx3 hg5'))
      all_goals
        go_wp2
        go_ret
        exact ⟨x, rfl, hx1, hx2, (by first | exact hrB.more (by omega) | exact (hrB.below (Below.refl _ _).drew).more (by omega)), (by first | exact hgB | exact ⟨hgB.os, hgB.tape, hgB.output, hgB.size, hgB.block⟩)⟩
  · have hn0 : ((n : Int) == 0) = false := by simp; omega
    go_enter Try.func52, Try.ntmps52
    go_wp2_with fail
    refine (pickQ 24 _ rb L P hX (by omega) (by omega)).mono ?_
    rintro e w1 ⟨v, rfl, hv1, hv2, hr1, hg1'⟩
    have g1 : w1.cell? ⟨w.heap.size, 1, none⟩ = some (.slice a n c) := gcell hg1' hne (by simp [go_sem])
    have hg1 := picks hgX hg1'
    have hs1 : L ≤ w1.heap.size := by have := hg1.size; omega
    have hs2 : w1.heap.size ≠ rb := by omega
    clear hg1' hX hgX hbX
    by_cases hv : v = 0
    · subst hv
      go_wp2
      go_region_with
        (first
          | (go_at_call 50; refine (pickQ 3 _ rb L (P + 1) (by first | exact hr1 | exact hr1.below (Below.refl _ _).drew) (by omega) (by omega)).mono ?_; rintro e w5 ⟨v, rfl, hv1, hv2, hr5, hg5'⟩; have hg5 : w1.grownBy w5 (some rb) := (by first | exact hg5' | exact gdrew hg5'); have g5 : w5.cell? ⟨w.heap.size, 1, none⟩ = some (.slice a n c) := gcell hg5 hne g1; obtain ⟨x, hx1, hx2, hx3⟩ := one3 n hn v hv1 hv2; have zB := lit3 w5 n v x 3 hx3; have hgB := galloc (picks hg1 hg5) (.cells #[.int .i64 (-1), .int .i64 25, .int .i64 (n : Int)] 3); have hrB : RdQ (w5.alloc (.cells #[.int .i64 (-1), .int .i64 25, .int .i64 (n : Int)] 3)) rb L (P + 2) := hr5.below ((Below.refl _ _).alloc (by have := hg5.size; omega) _); clear hx3 hg5' hr5)
          | (go_at_call 50; refine (pickQ 3 _ rb L (P + 1) (hr1.below (by first | exact (Below.refl _ _).alloc hs1 _ | exact ((Below.refl _ _).alloc hs1 _).drew)) (by omega) (by omega)).mono ?_; rintro e w5 ⟨v, rfl, hv1, hv2, hrB, hg5'⟩; have hg5 : w1.grownBy w5 (some rb) := picks (belowP (by first | exact (Below.refl _ _).alloc (Nat.le_refl _) _ | exact ((Below.refl _ _).alloc (Nat.le_refl _) _).drew)) hg5'; have g5 : w5.cell? ⟨w.heap.size, 1, none⟩ = some (.slice a n c) := gcell hg5 hne g1; obtain ⟨x, hx1, hx2, hx3⟩ := one3 n hn v hv1 hv2; have zA : w5.cell? ⟨w1.heap.size, v.toNat, none⟩ = some (.int .i64 x) := gcell hg5' (by omega) (by have := lit3 w1 n v x 3 hx3; first | exact this | simpa using this); have hgB := picks hg1 hg5; clear hx3 hg5'))
      all_goals
        go_wp2
        go_ret
        exact ⟨x, rfl, hx1, hx2, (by first | exact hrB.more (by omega) | exact (hrB.below (Below.refl _ _).drew).more (by omega)), (by first | exact hgB | exact ⟨hgB.os, hgB.tape, hgB.output, hgB.size, hgB.block⟩)⟩
    · have hvv : (v == 0) = false := by simp [hv]
      go_wp2_with fail
      refine (pickQ (n : Int) _ rb L (P + 1) hr1 (by omega) (by omega)).mono ?_
      rintro e w2 ⟨u, rfl, hu1, hu2, hr2, hg2⟩
      go_wp2
      go_ret
      exact ⟨u, rfl, by omega, by omega, hr2, picks hg1 hg2⟩

end Go.Proofs.Ytmnninhifiajhaa
