/-
  More that is drawn: l71Off draws some cell, l6Open opens a reader, l71Grid draws a grid that is ok.
-/
import Derived.Test.YtankkkiccokggaaDb
import Derived.Deep.RegionHeld3
import Derived.Deep.RegionLaw
import Derived.Deep.AppendLies
import Derived.Deep.DrawnRows
namespace Go.Proofs.Ytankkkiccokggaa
open Go.RowKit
set_option linter.unusedVariables false
attribute [local go_sem ↓] Go.wp_at_zero Go.wp_at_succ

set_option maxHeartbeats 1000000 in
theorem l71Off_any (w : World) (rb L P : Nat) (h : RdQ w rb L P) (hp : P ≤ 999000) (hL : L ≤ w.heap.size) :
    Calls Try.prog 66 #[.pointer (some ⟨rb, 0, none⟩)] w fun e w' => ∃ k l : Int, e = .returned (.agg #[.int .i64 k, .int .i64 l]) ∧ RdQ w' rb L (P + 1) ∧ w.grownBy w' (some rb) := by
  have hrb := h.lt
  have hbX : Below w.heap.size w ((w.alloc (.cells #[.int .i64 0, .int .i64 0] 78)).alloc (.cells #[.int .i64 (-1), .int .i64 0, .int .i64 8, .int .i64 0, .int .i64 7, .int .i64 0, .int .i64 7, .int .i64 10, .int .i64 1, .int .i64 1, .int .i64 0, .int .i64 0] 78)) := (by repeat (first | exact Below.refl _ _ | refine Below.alloc ?_ (by first | exact Nat.le_refl _ | (simp; done) | (simp; omega)) _ | refine Below.drew ?_ | refine Below.setCell ?_ (by first | exact Nat.le_refl _ | (simp; done) | (simp; omega)) _))
  have hX := h.below (hbX.mono hL)
  go_enter Try.func66, Try.ntmps66
  go_wp2_with fail
  refine (pickQ 6 _ rb L P hX (by omega) (by omega)).mono ?_
  rintro e w1 ⟨v, rfl, hv1, hv2, hr1, hg1'⟩
  have hne : w.heap.size ≠ rb := by omega
  have hne2 : w.heap.size + 1 ≠ rb := by omega
  have q0 : w1.cell? ⟨w.heap.size, 0, none⟩ = some (.int .i64 0) := gcell hg1' hne (by simp [go_sem])
  have q1 : w1.cell? ⟨w.heap.size, 1, none⟩ = some (.int .i64 0) := gcell hg1' hne (by simp [go_sem])
  have f0 : w1.frozen? ⟨w.heap.size, 0, none⟩ = false := gfroz hg1' hne (v := .int .i64 0) (by simp [go_sem]) (by simp [go_sem])
  have f1 : w1.frozen? ⟨w.heap.size, 1, none⟩ = false := gfroz hg1' hne (v := .int .i64 0) (by simp [go_sem]) (by simp [go_sem])
  have hg1 : w.grownBy w1 (some rb) := picks (belowP hbX) hg1'
  have FIN : Hid (∀ k l : Int, RdQ ((w1.setCell ⟨w.heap.size, 0, none⟩ (.int .i64 k)).setCell ⟨w.heap.size, 1, none⟩ (.int .i64 l)) rb L (P + 1) ∧ w.grownBy ((w1.setCell ⟨w.heap.size, 0, none⟩ (.int .i64 k)).setCell ⟨w.heap.size, 1, none⟩ (.int .i64 l)) (some rb)) := fun k l =>
    ⟨hr1.below (((Below.refl _ _).setCell (p := ⟨w.heap.size, 0, none⟩) hL _).setCell (p := ⟨w.heap.size, 1, none⟩) hL _), gset (gset hg1 (p := ⟨w.heap.size, 0, none⟩) (Nat.le_refl _) _) (p := ⟨w.heap.size, 1, none⟩) (Nat.le_refl _) _⟩
  have z0 : w1.cell? ⟨w.heap.size + 1, 0, none⟩ = some (.int .i64 (-1)) := gcell hg1' hne2 (by simp [go_sem])
  have z1 : w1.cell? ⟨w.heap.size + 1, 1, none⟩ = some (.int .i64 0) := gcell hg1' hne2 (by simp [go_sem])
  have z2 : w1.cell? ⟨w.heap.size + 1, 2, none⟩ = some (.int .i64 8) := gcell hg1' hne2 (by simp [go_sem])
  have z3 : w1.cell? ⟨w.heap.size + 1, 3, none⟩ = some (.int .i64 0) := gcell hg1' hne2 (by simp [go_sem])
  have z4 : w1.cell? ⟨w.heap.size + 1, 4, none⟩ = some (.int .i64 7) := gcell hg1' hne2 (by simp [go_sem])
  have z5 : w1.cell? ⟨w.heap.size + 1, 5, none⟩ = some (.int .i64 0) := gcell hg1' hne2 (by simp [go_sem])
  have z6 : w1.cell? ⟨w.heap.size + 1, 6, none⟩ = some (.int .i64 7) := gcell hg1' hne2 (by simp [go_sem])
  have z7 : w1.cell? ⟨w.heap.size + 1, 7, none⟩ = some (.int .i64 10) := gcell hg1' hne2 (by simp [go_sem])
  have z8 : w1.cell? ⟨w.heap.size + 1, 8, none⟩ = some (.int .i64 1) := gcell hg1' hne2 (by simp [go_sem])
  have z9 : w1.cell? ⟨w.heap.size + 1, 9, none⟩ = some (.int .i64 1) := gcell hg1' hne2 (by simp [go_sem])
  have z10 : w1.cell? ⟨w.heap.size + 1, 10, none⟩ = some (.int .i64 0) := gcell hg1' hne2 (by simp [go_sem])
  have z11 : w1.cell? ⟨w.heap.size + 1, 11, none⟩ = some (.int .i64 0) := gcell hg1' hne2 (by simp [go_sem])
  clear hX hbX hg1'
  rcases (show v = 0 ∨ v = 1 ∨ v = 2 ∨ v = 3 ∨ v = 4 ∨ v = 5 by omega) with rfl | rfl | rfl | rfl | rfl | rfl
  · go_wp2
    exact bodyPost_ret (v := .agg #[.int .i64 (-1), .int .i64 0]) (by simp [results, Try.results66, go_sem, q0, q1]) rfl ⟨(-1), 0, rfl, (FIN.out (-1) 0)⟩
  · go_wp2
    exact bodyPost_ret (v := .agg #[.int .i64 8, .int .i64 0]) (by simp [results, Try.results66, go_sem, q0, q1]) rfl ⟨8, 0, rfl, (FIN.out 8 0)⟩
  · go_wp2
    exact bodyPost_ret (v := .agg #[.int .i64 7, .int .i64 0]) (by simp [results, Try.results66, go_sem, q0, q1]) rfl ⟨7, 0, rfl, (FIN.out 7 0)⟩
  · go_wp2
    exact bodyPost_ret (v := .agg #[.int .i64 7, .int .i64 10]) (by simp [results, Try.results66, go_sem, q0, q1]) rfl ⟨7, 10, rfl, (FIN.out 7 10)⟩
  · go_wp2
    exact bodyPost_ret (v := .agg #[.int .i64 1, .int .i64 1]) (by simp [results, Try.results66, go_sem, q0, q1]) rfl ⟨1, 1, rfl, (FIN.out 1 1)⟩
  · go_wp2
    exact bodyPost_ret (v := .agg #[.int .i64 0, .int .i64 0]) (by simp [results, Try.results66, go_sem, q0, q1]) rfl ⟨0, 0, rfl, (FIN.out 0 0)⟩

/-- Bytes that came in: n of them, f gives them. -/
def BytesAt (w : World) (a : Option Addr) (n : Nat) (f : Nat → Int) : Prop :=
  (∀ i, 0 ≤ f i ∧ f i ≤ 255) ∧ (n = 0 ∨ ∃ b off, a = some ⟨b, off, none⟩ ∧ b < w.heap.size ∧ ∀ i, i < n → w.cell? ⟨b, off + i, none⟩ = some (.int .u8 (f i)))

theorem BytesAt.below {w w' : World} {a : Option Addr} {n : Nat} {f : Nat → Int} (h : BytesAt w a n f) (hb : Below w.heap.size w w') : BytesAt w' a n f := by
  obtain ⟨h1, h2⟩ := h
  refine ⟨h1, ?_⟩
  rcases h2 with h2 | ⟨b, off, rfl, hbl, hc⟩
  · exact Or.inl h2
  · exact Or.inr ⟨b, off, rfl, Nat.lt_of_lt_of_le hbl hb.size, fun i hi => keepc hb (hc i hi)⟩

theorem open_rd {w : World} {a : Option Addr} {n cap : Nat} {f : Nat → Int} (h : BytesAt w a n f) (hn : n ≤ 2000) :
    RdQ (w.alloc (.cells #[.slice a n cap, .int .i64 0] 84)) w.heap.size (w.heap.size + 1) 0 := by
  obtain ⟨h1, h2⟩ := h
  have hb : Below w.heap.size w (w.alloc (.cells #[.slice a n cap, .int .i64 0] 84)) := (by repeat (first | exact Below.refl _ _ | refine Below.alloc ?_ (by first | exact Nat.le_refl _ | (simp; done) | (simp; omega)) _ | refine Below.drew ?_ | refine Below.setCell ?_ (by first | exact Nat.le_refl _ | (simp; done) | (simp; omega)) _))
  rcases h2 with h2 | ⟨b, off, rfl, hbl, hc⟩
  · subst h2
    exact ⟨a, 0, 0, 0, cap, f, 0, ⟨by simp [go_sem], by simp [go_sem], by simp [go_sem], by omega, by omega, h1, by omega, by omega⟩, by omega, by omega, by omega⟩
  · exact ⟨_, b, off, n, cap, f, 0, ⟨by simp [go_sem], by simp [go_sem], by simp [go_sem], fun _ => rfl, fun i hi => keepc hb (hc i hi), h1, fun _ => by omega, hn⟩, by omega, by omega, by omega⟩

theorem BytesAt.cut {w : World} {a : Option Addr} {n m : Nat} {f : Nat → Int} (h : BytesAt w a n f) (hm : m ≤ n) : BytesAt w a m f := by
  obtain ⟨h1, h2⟩ := h
  refine ⟨h1, ?_⟩
  rcases h2 with h2 | ⟨b, off, rfl, hbl, hc⟩
  · exact Or.inl (by omega)
  · exact Or.inr ⟨b, off, rfl, hbl, fun i hi => hc i (by omega)⟩

set_option maxHeartbeats 400000 in
theorem l6Open_any (a : Option Addr) (n cap : Nat) (f : Nat → Int) (w : World) (h : BytesAt w a n f) (hn : n ≤ 1048576) (hcap : n ≤ cap) (hc2 : cap ≤ 9223372036854775807) :
    Calls Try.prog 34 #[.slice a n cap] w fun e w' => e = .returned (.pointer (some ⟨w.heap.size, 0, none⟩)) ∧ RdQ w' w.heap.size (w.heap.size + 1) 0 ∧ Below w.heap.size w w' := by
  by_cases h2 : n ≤ 2000
  · go_enter Try.func34, Try.ntmps34
    go_wp2
    go_ret
    exact ⟨rfl, open_rd h h2, (by repeat (first | exact Below.refl _ _ | refine Below.alloc ?_ (by first | exact Nat.le_refl _ | (simp; done) | (simp; omega)) _ | refine Below.drew ?_ | refine Below.setCell ?_ (by first | exact Nat.le_refl _ | (simp; done) | (simp; omega)) _))⟩
  · have hB := h.2
    rcases hB with hB | ⟨b, off, rfl, hbl, hc⟩
    · omega
    go_enter Try.func34, Try.ntmps34
    go_wp2
    go_ret
    exact ⟨rfl, open_rd (h.cut (m := 2000) (by omega)) (by omega), (by repeat (first | exact Below.refl _ _ | refine Below.alloc ?_ (by first | exact Nat.le_refl _ | (simp; done) | (simp; omega)) _ | refine Below.drew ?_ | refine Below.setCell ?_ (by first | exact Nat.le_refl _ | (simp; done) | (simp; omega)) _))⟩

end Go.Proofs.Ytankkkiccokggaa
