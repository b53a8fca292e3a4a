/-
  l71Sight draws a sight: from -1 to 20.
-/
import Derived.Test.YtankkkiccokggaaDe
import Derived.Test.YtankkkiccokggaaVk
namespace Go.Proofs.Ytankkkiccokggaa
open Go.RowKit
set_option linter.unusedVariables false
attribute [local go_sem ↓] Go.wp_at_zero Go.wp_at_succ

theorem one3S (M : Int) (h1 : 0 ≤ M) (h2 : M ≤ 20) (v : Int) (h0 : 0 ≤ v) (h3 : v < 3) : ∃ x : Int, -1 ≤ x ∧ x ≤ 20 ∧ (#[Value.int .i64 (-1), .int .i64 M, .int .i64 20] : Array Value)[v.toNat]? = some (.int .i64 x) := by
  rcases (show v = 0 ∨ v = 1 ∨ v = 2 by omega) with rfl | rfl | rfl
  · exact ⟨-1, by omega, by omega, rfl⟩
  · exact ⟨M, by omega, by omega, rfl⟩
  · exact ⟨20, by omega, by omega, rfl⟩
theorem lit3S (w : World) (M v x : Int) (t : TypeId) (h : (#[Value.int .i64 (-1), .int .i64 M, .int .i64 20] : Array Value)[v.toNat]? = some (.int .i64 x)) : (w.alloc (.cells #[.int .i64 (-1), .int .i64 M, .int .i64 20] t)).cell? ⟨w.heap.size, v.toNat, none⟩ = some (.int .i64 x) := by
  rw [World.cell?_alloc_at _ _ _ _ rfl]
  exact h
theorem manyG_to (wd : Int) (cs : List (Int × Int)) : 0 ≤ manyG wd cs ∧ manyG wd cs ≤ 20 := by
  rcases hk : okG wd cs with _ | _
  · rw [manyG_bad hk]; omega
  · obtain ⟨W, H, rfl, h1, h2, h3, h4, el, hH, hHI⟩ := okG_nat wd cs hk
    rw [manyG_ok hk hHI]; omega

set_option maxHeartbeats 1000000 in
theorem l71Sight_any (w : World) (rb L P : Nat) (h : RdQ w rb L P) (hp : P ≤ 999000) (hL : L ≤ w.heap.size) (wd : Int) (a : Option Addr) (c : Nat) (xs : List (Int × Int)) (hC : CellsAt w a xs) (hn : xs.length ≤ 31) :
    Calls Try.prog 36 #[.pointer (some ⟨rb, 0, none⟩), .agg #[.int .i64 wd, .slice a xs.length c]] w fun e w' => ∃ v : Int, e = .returned (.int .i64 v) ∧ -1 ≤ v ∧ v ≤ 20 ∧ RdQ w' rb L (P + 2) ∧ w.grownBy w' (some rb) := by
  have hrb := h.lt
  obtain ⟨M, hM⟩ : ∃ M, manyG wd xs = M := ⟨_, rfl⟩
  have hMM := manyG_to wd xs
  rw [hM] at hMM
  have hM1 := hMM.1
  have hM2 := hMM.2
  have EM : Hid (manyG wd xs = M) := hM
  clear hM hMM
  have hbX : Below w.heap.size w (w.alloc (.cells #[.int .i64 wd, .slice a xs.length c] 25)) := (by repeat (first | exact Below.refl _ _ | refine Below.alloc ?_ (by first | exact Nat.le_refl _ | (simp; done) | (simp; omega)) _ | refine Below.drew ?_ | refine Below.setCell ?_ (by first | exact Nat.le_refl _ | (simp; done) | (simp; omega)) _))
  have hX := h.below (hbX.mono hL)
  go_enter Try.func36, Try.ntmps36
  go_wp2_with fail
  refine (specMany_any _ _ _ xs _ (hC.below hbX) (by omega)).mono ?_
  rintro e w0 ⟨rfl, hb0⟩
  rw [EM.out]
  have hz0 := hb0.size
  simp at hz0
  have hB0 := bcall hbX (by simp) hb0
  have hr0 := hX.below (hb0.mono (by simp; omega))
  have hg0 := belowP (rb := rb) hB0
  have hs0 : L ≤ w0.heap.size := by omega
  clear hb0 hX hbX hB0
  by_cases e0 : M = 0
  · have hn0 : (M == 0) = true := by simp [e0]
    have hs1 := hs0
    have hs2 : w0.heap.size ≠ rb := by omega
    clear e0
    have hbL : Below w0.heap.size w0 (w0.alloc (.cells #[.int .i64 (-1), .int .i64 M, .int .i64 20] 3)) := (by repeat (first | exact Below.refl _ _ | refine Below.alloc ?_ (by first | exact Nat.le_refl _ | (simp; done) | (simp; omega)) _ | refine Below.drew ?_ | refine Below.setCell ?_ (by first | exact Nat.le_refl _ | (simp; done) | (simp; omega)) _))
    have hrL := hr0.below (hbL.mono hs1)
    go_wp2_with fail
    refine (pickQ 3 _ rb L P hrL (by omega) (by omega)).mono ?_
    rintro e w5 ⟨v, rfl, hv1, hv2, hr5, hg5⟩
    obtain ⟨x, hx1, hx2, hx3⟩ := one3S M hM1 hM2 v hv1 hv2
    have zB : w5.cell? ⟨w0.heap.size, v.toNat, none⟩ = some (.int .i64 x) := gcell hg5 hs2 (lit3S w0 M v x 3 hx3)
    have hgB := picks (picksB hg0 hbL) hg5
    clear hg5 hbL hx3
    go_wp2_with fail
    go_ret
    exact ⟨x, rfl, hx1, hx2, hr5.more (by omega), hgB⟩
  · have hn0 : (M == 0) = false := by simp [e0]
    have hMp : 1 ≤ M := by omega
    clear e0
    go_wp2_with fail
    refine (pickQ 24 _ rb L P hr0 (by omega) (by omega)).mono ?_
    rintro e w1 ⟨u, rfl, hu1, hu2, hr1, hg1'⟩
    have hg1 := picks hg0 hg1'
    have hz1 := hg1'.size
    have hs1 : L ≤ w1.heap.size := by omega
    have hs2 : w1.heap.size ≠ rb := by omega
    clear hg1'
    by_cases e1 : u = 0
    · have hu0 : (u == 0) = true := by simp [e1]
      clear e1
      have hbL : Below w1.heap.size w1 (w1.alloc (.cells #[.int .i64 (-1), .int .i64 M, .int .i64 20] 3)) := (by repeat (first | exact Below.refl _ _ | refine Below.alloc ?_ (by first | exact Nat.le_refl _ | (simp; done) | (simp; omega)) _ | refine Below.drew ?_ | refine Below.setCell ?_ (by first | exact Nat.le_refl _ | (simp; done) | (simp; omega)) _))
      have hrL := hr1.below (hbL.mono hs1)
      go_wp2_with fail
      refine (pickQ 3 _ rb L (P + 1) hrL (by omega) (by omega)).mono ?_
      rintro e w5 ⟨v, rfl, hv1, hv2, hr5, hg5⟩
      obtain ⟨x, hx1, hx2, hx3⟩ := one3S M hM1 hM2 v hv1 hv2
      have zB : w5.cell? ⟨w1.heap.size, v.toNat, none⟩ = some (.int .i64 x) := gcell hg5 hs2 (lit3S w1 M v x 3 hx3)
      have hgB := picks (picksB hg1 hbL) hg5
      clear hg5 hbL hx3
      go_wp2_with fail
      go_ret
      exact ⟨x, rfl, hx1, hx2, hr5.more (by omega), hgB⟩
    · have hu0 : (u == 0) = false := by simp [e1]
      clear e1
      go_wp2_with fail
      refine (pickQ M _ rb L (P + 1) hr1 (by omega) (by omega)).mono ?_
      rintro e w2 ⟨v, rfl, hv1, hv2, hr2, hg2⟩
      go_wp2_with fail
      go_ret
      exact ⟨v, rfl, by omega, by omega, hr2, picks hg1 hg2⟩
end Go.Proofs.Ytankkkiccokggaa
