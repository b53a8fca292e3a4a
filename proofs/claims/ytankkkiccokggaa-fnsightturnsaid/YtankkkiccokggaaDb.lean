/-
  Cells that are drawn: l6Open opens a reader over bytes that came in; l71Cell draws a cell that is ok, l71Off some cell.
-/
import Derived.Test.YtankkkiccokggaaDa
namespace Go.Proofs.Ytankkkiccokggaa
open Go.RowKit
set_option linter.unusedVariables false

/-- A reader at rb that has read at most P bytes; it and its bytes lie below L. -/
def RdQ (w : World) (rb L P : Nat) : Prop := ∃ a b off n cap f p, Rd w rb a b off n cap f p ∧ p ≤ P ∧ rb < L ∧ (0 < n → b < L)

theorem RdQ.below {w w' : World} {rb L P : Nat} (h : RdQ w rb L P) (hb : Below L w w') : RdQ w' rb L P := by
  obtain ⟨a, b, off, n, cap, f, p, h, hp, h1, h2⟩ := h
  exact ⟨a, b, off, n, cap, f, p, ⟨(hb.cell (p := ⟨rb, 0, none⟩) h1).trans h.c0, (hb.cell (p := ⟨rb, 1, none⟩) h1).trans h.c1, (hb.frozen (p := ⟨rb, 1, none⟩) h1).trans h.fr, h.ha, fun i hi => (hb.cell (p := ⟨b, _, none⟩) (h2 (by omega))).trans (h.bytes i hi), h.range, h.ne, h.hn⟩, hp, h1, h2⟩
theorem RdQ.more {w : World} {rb L P P' : Nat} (h : RdQ w rb L P) (hp : P ≤ P') : RdQ w rb L P' := by
  obtain ⟨a, b, off, n, cap, f, p, h, hq, h1, h2⟩ := h
  exact ⟨a, b, off, n, cap, f, p, h, by omega, h1, h2⟩
theorem RdQ.lt {w : World} {rb L P : Nat} (h : RdQ w rb L P) : rb < L ∧ rb < w.heap.size := by
  obtain ⟨a, b, off, n, cap, f, p, h, hq, h1, h2⟩ := h
  exact ⟨h1, World.block_lt_of_cell? w _ h.c0⟩
theorem pickQ (m : Int) (w : World) (rb L P : Nat) (h : RdQ w rb L P) (hp : P ≤ 1000000) (hm : 1 ≤ m ∧ m ≤ 1000000) :
    Calls Try.prog 53 #[.pointer (some ⟨rb, 0, none⟩), .int .i64 m] w fun e w' => ∃ v : Int, e = .returned (.int .i64 v) ∧ 0 ≤ v ∧ v < m ∧ RdQ w' rb L (P + 1) ∧ w.grownBy w' (some rb) := by
  obtain ⟨a, b, off, n, cap, f, p, h, hq, h1, h2⟩ := h
  refine (pick_any m w rb a b off n cap f p h (by omega) hm).mono ?_
  rintro e w' ⟨v, rfl, hv1, hv2, hr, hg⟩
  exact ⟨v, rfl, hv1, hv2, ⟨a, b, off, n, cap, f, p + 1, hr, by omega, h1, h2⟩, hg⟩

theorem gcell {w w' : World} {rb b o : Nat} {v : Value} (hg : w.grownBy w' (some rb)) (hne : b ≠ rb) (h : w.cell? ⟨b, o, none⟩ = some v) : w'.cell? ⟨b, o, none⟩ = some v := hg.cell h (by simpa using hne)
theorem gfroz {w w' : World} {rb b o : Nat} {v : Value} {c : Bool} (hg : w.grownBy w' (some rb)) (hne : b ≠ rb) (h : w.cell? ⟨b, o, none⟩ = some v) (hf : w.frozen? ⟨b, o, none⟩ = c) : w'.frozen? ⟨b, o, none⟩ = c :=
  (World.frozen?_of_block (a := ⟨b, o, none⟩) (hg.block b (World.block_lt_of_cell? w _ h) (by simpa using hne))).trans hf
/-- A store into a block that is not old. -/
theorem gset {w w' : World} {rb : Nat} (hg : w.grownBy w' (some rb)) {p : Addr} (hp : w.heap.size ≤ p.block) (u : Value) : w.grownBy (w'.setCell p u) (some rb) :=
  ⟨hg.os, hg.tape, hg.output, by simpa [World.setCell] using hg.size, fun k hk hne => (Below.heap_setCell w' p u k (by omega)).trans (hg.block k hk hne)⟩
theorem galloc {w w' : World} {rb : Nat} (hg : w.grownBy w' (some rb)) (o : Obj) : w.grownBy (w'.alloc o) (some rb) := picksB hg ((Below.refl _ _).alloc (Nat.le_refl _) o)

set_option maxHeartbeats 1000000 in
theorem l71Cell_any (w : World) (rb L P : Nat) (h : RdQ w rb L P) (hp : P ≤ 999000) (hL : L ≤ w.heap.size) :
    Calls Try.prog 77 #[.pointer (some ⟨rb, 0, none⟩)] w fun e w' => ∃ k l : Int, e = .returned (.agg #[.int .i64 k, .int .i64 l]) ∧ okC k l = true ∧ RdQ w' rb L (P + 2) ∧ w.grownBy w' (some rb) := by
  have hrb := h.lt
  have hbX : Below w.heap.size w (w.alloc (.cells #[.int .i64 0, .int .i64 0] 78)) := (by repeat (first | exact Below.refl _ _ | refine Below.alloc ?_ (by first | exact Nat.le_refl _ | (simp; done) | (simp; omega)) _ | refine Below.drew ?_ | refine Below.setCell ?_ (by first | exact Nat.le_refl _ | (simp; done) | (simp; omega)) _))
  have hX := h.below (hbX.mono hL)
  go_enter Try.func77, Try.ntmps77
  go_wp2_with fail
  refine (pickQ 12 _ rb L P hX (by omega) (by omega)).mono ?_
  rintro e w1 ⟨v, rfl, hv1, hv2, hr1, hg1'⟩
  have hne : w.heap.size ≠ rb := by omega
  have q0 : w1.cell? ⟨w.heap.size, 0, none⟩ = some (.int .i64 0) := gcell hg1' hne (by simp [go_sem])
  have q1 : w1.cell? ⟨w.heap.size, 1, none⟩ = some (.int .i64 0) := gcell hg1' hne (by simp [go_sem])
  have f0 : w1.frozen? ⟨w.heap.size, 0, none⟩ = false := gfroz hg1' hne (v := .int .i64 0) (by simp [go_sem]) (by simp [go_sem])
  have f1 : w1.frozen? ⟨w.heap.size, 1, none⟩ = false := gfroz hg1' hne (v := .int .i64 0) (by simp [go_sem]) (by simp [go_sem])
  have hg1 : w.grownBy w1 (some rb) := picks (belowP hbX) hg1'
  have hr2 := hr1.more (P' := P + 2) (by omega)
  have fin : ∀ k l : Int, RdQ ((w1.setCell ⟨w.heap.size, 0, none⟩ (.int .i64 k)).setCell ⟨w.heap.size, 1, none⟩ (.int .i64 l)) rb L (P + 2) ∧ w.grownBy ((w1.setCell ⟨w.heap.size, 0, none⟩ (.int .i64 k)).setCell ⟨w.heap.size, 1, none⟩ (.int .i64 l)) (some rb) := fun k l =>
    ⟨hr2.below (((Below.refl _ _).setCell (p := ⟨w.heap.size, 0, none⟩) hL _).setCell (p := ⟨w.heap.size, 1, none⟩) hL _), gset (gset hg1 (p := ⟨w.heap.size, 0, none⟩) (Nat.le_refl _) _) (p := ⟨w.heap.size, 1, none⟩) (Nat.le_refl _) _⟩
  have FIN : Hid (∀ k l : Int, RdQ ((w1.setCell ⟨w.heap.size, 0, none⟩ (.int .i64 k)).setCell ⟨w.heap.size, 1, none⟩ (.int .i64 l)) rb L (P + 2) ∧ w.grownBy ((w1.setCell ⟨w.heap.size, 0, none⟩ (.int .i64 k)).setCell ⟨w.heap.size, 1, none⟩ (.int .i64 l)) (some rb)) := fin
  clear fin
  rcases (show v = 0 ∨ v = 1 ∨ v = 2 ∨ v = 3 ∨ v = 4 ∨ v = 5 ∨ v = 6 ∨ v = 7 ∨ v = 8 ∨ 9 ≤ v by omega) with rfl | rfl | rfl | rfl | rfl | rfl | rfl | rfl | rfl | h9
  · go_wp2
    exact bodyPost_ret (v := .agg #[.int .i64 1, .int .i64 0]) (by simp [results, Try.results77, go_sem, q0, q1]) rfl ⟨1, 0, rfl, by simp [okC], (FIN.out 1 0)⟩
  · go_wp2
    exact bodyPost_ret (v := .agg #[.int .i64 2, .int .i64 0]) (by simp [results, Try.results77, go_sem, q0, q1]) rfl ⟨2, 0, rfl, by simp [okC], (FIN.out 2 0)⟩
  · go_wp2
    exact bodyPost_ret (v := .agg #[.int .i64 2, .int .i64 0]) (by simp [results, Try.results77, go_sem, q0, q1]) rfl ⟨2, 0, rfl, by simp [okC], (FIN.out 2 0)⟩
  · go_wp2
    exact bodyPost_ret (v := .agg #[.int .i64 3, .int .i64 0]) (by simp [results, Try.results77, go_sem, q0, q1]) rfl ⟨3, 0, rfl, by simp [okC], (FIN.out 3 0)⟩
  · go_wp2
    exact bodyPost_ret (v := .agg #[.int .i64 3, .int .i64 0]) (by simp [results, Try.results77, go_sem, q0, q1]) rfl ⟨3, 0, rfl, by simp [okC], (FIN.out 3 0)⟩
  · go_wp2
    exact bodyPost_ret (v := .agg #[.int .i64 4, .int .i64 0]) (by simp [results, Try.results77, go_sem, q0, q1]) rfl ⟨4, 0, rfl, by simp [okC], (FIN.out 4 0)⟩
  · go_wp2
    exact bodyPost_ret (v := .agg #[.int .i64 5, .int .i64 0]) (by simp [results, Try.results77, go_sem, q0, q1]) rfl ⟨5, 0, rfl, by simp [okC], (FIN.out 5 0)⟩
  · go_wp2
    exact bodyPost_ret (v := .agg #[.int .i64 6, .int .i64 0]) (by simp [results, Try.results77, go_sem, q0, q1]) rfl ⟨6, 0, rfl, by simp [okC], (FIN.out 6 0)⟩
  · go_wp2_with fail
    refine (pickQ 9 _ rb L (P + 1) hr1 (by omega) (by omega)).mono ?_
    rintro e w2 ⟨u, rfl, hu1, hu2, hr3, hg2⟩
    replace f0 := gfroz hg2 hne q0 f0
    replace f1 := gfroz hg2 hne q1 f1
    replace q0 := gcell hg2 hne q0
    replace q1 := gcell hg2 hne q1
    have hg3 := picks hg1 hg2
    go_wp2
    refine bodyPost_ret (v := .agg #[.int .i64 7, .int .i64 (1 + u)]) (by simp [results, Try.results77, go_sem, q0, q1]) rfl ⟨7, 1 + u, rfl, by simp [okC]; omega, ?_, ?_⟩
    · exact hr3.below (((Below.refl _ _).setCell (p := ⟨w.heap.size, 0, none⟩) hL _).setCell (p := ⟨w.heap.size, 1, none⟩) hL _)
    · exact gset (gset hg3 (p := ⟨w.heap.size, 0, none⟩) (Nat.le_refl _) _) (p := ⟨w.heap.size, 1, none⟩) (Nat.le_refl _) _
  · go_wp2
    exact bodyPost_ret (v := .agg #[.int .i64 0, .int .i64 0]) (by simp [results, Try.results77, go_sem, q0, q1]) rfl ⟨0, 0, rfl, by simp [okC], (FIN.out 0 0)⟩

end Go.Proofs.Ytankkkiccokggaa
