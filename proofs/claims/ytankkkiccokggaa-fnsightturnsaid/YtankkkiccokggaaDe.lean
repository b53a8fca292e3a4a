/-
  l71Some draws a grid, seldom spoilt: whatever it draws lies in memory, at most 31 cells, and nothing but the reader is turned.
-/
import Derived.Test.YtankkkiccokggaaDd
namespace Go.Proofs.Ytankkkiccokggaa
open Go.RowKit
set_option linter.unusedVariables false
attribute [local go_sem ↓] Go.wp_at_zero Go.wp_at_succ

/-- What stands behind the first draws: the answer's box, the grid's box at ob, its cells, the reader. -/
structure SomeInv (w wr : World) (rb L P ob : Nat) (wd : Int) (v : Value) : Prop where
  g : w.grownBy wr (some rb)
  rd : RdQ wr rb L P
  p4 : wr.cell? ⟨w.heap.size, 0, none⟩ = some (.int .i64 0)
  p5 : wr.cell? ⟨w.heap.size, 1, none⟩ = some (.slice none 0 0)
  f4 : wr.frozen? ⟨w.heap.size, 0, none⟩ = false
  f5 : wr.frozen? ⟨w.heap.size, 1, none⟩ = false
  o0 : wr.cell? ⟨ob, 0, none⟩ = some (.int .i64 wd)
  o1 : wr.cell? ⟨ob, 1, none⟩ = some v
  fo0 : wr.frozen? ⟨ob, 0, none⟩ = false
  fo1 : wr.frozen? ⟨ob, 1, none⟩ = false
  hL : L ≤ w.heap.size ∧ w.heap.size < ob ∧ rb < L

theorem SomeInv.call {w wr w2 : World} {rb L P P' ob : Nat} {wd : Int} {v : Value} (h : SomeInv w wr rb L P ob wd v) (hg : wr.grownBy w2 (some rb)) (hr : RdQ w2 rb L P') : SomeInv w w2 rb L P' ob wd v := by
  have hL := h.hL
  have n1 : w.heap.size ≠ rb := by omega
  have n2 : ob ≠ rb := by omega
  exact ⟨picks h.g hg, hr, gcell hg n1 h.p4, gcell hg n1 h.p5, gfroz hg n1 h.p4 h.f4, gfroz hg n1 h.p5 h.f5, gcell hg n2 h.o0, gcell hg n2 h.o1, gfroz hg n2 h.o0 h.fo0, gfroz hg n2 h.o1 h.fo1, hL⟩
theorem SomeInv.below {w wr w2 : World} {rb L P ob : Nat} {wd : Int} {v : Value} (h : SomeInv w wr rb L P ob wd v) (hb : Below wr.heap.size wr w2) : SomeInv w w2 rb L P ob wd v := by
  have hL := h.hL
  have hz := h.g.size
  exact ⟨picksB h.g hb, h.rd.below (hb.mono (by omega)), keepc hb h.p4, keepc hb h.p5, keepf hb h.p4 h.f4, keepf hb h.p5 h.f5, keepc hb h.o0, keepc hb h.o1, keepf hb h.o0 h.fo0, keepf hb h.o1 h.fo1, hL⟩
theorem SomeInv.set1 {w wr : World} {rb L P ob : Nat} {wd : Int} {v : Value} (h : SomeInv w wr rb L P ob wd v) (v' : Value) : SomeInv w (wr.setCell ⟨ob, 1, none⟩ v') rb L P ob wd v' := by
  have hL := h.hL
  have n1 : w.heap.size ≠ ob := by omega
  refine ⟨gset h.g (p := ⟨ob, 1, none⟩) (by show w.heap.size ≤ ob; omega) _, h.rd.below ((Below.refl _ _).setCell (p := ⟨ob, 1, none⟩) (by show L ≤ ob; omega) _), setc n1 h.p4, setc n1 h.p5, setf n1 h.f4, setf n1 h.f5, ?_, World.cell?_setCell_same _ _ _ h.o1, ?_, ?_, hL⟩
  · rw [World.cell?_setCell_other _ _ _ _ (by simp)]; exact h.o0
  · rw [World.frozen?_setCell]; exact h.fo0
  · rw [World.frozen?_setCell]; exact h.fo1
theorem SomeInv.set0 {w wr : World} {rb L P ob : Nat} {wd : Int} {v : Value} (h : SomeInv w wr rb L P ob wd v) (x : Int) : SomeInv w (wr.setCell ⟨ob, 0, none⟩ (.int .i64 x)) rb L P ob x v := by
  have hL := h.hL
  have n1 : w.heap.size ≠ ob := by omega
  refine ⟨gset h.g (p := ⟨ob, 0, none⟩) (by show w.heap.size ≤ ob; omega) _, h.rd.below ((Below.refl _ _).setCell (p := ⟨ob, 0, none⟩) (by show L ≤ ob; omega) _), setc n1 h.p4, setc n1 h.p5, setf n1 h.f4, setf n1 h.f5, World.cell?_setCell_same _ _ _ h.o0, ?_, ?_, ?_, hL⟩
  · rw [World.cell?_setCell_other _ _ _ _ (by simp)]; exact h.o1
  · rw [World.frozen?_setCell]; exact h.fo0
  · rw [World.frozen?_setCell]; exact h.fo1
theorem SomeInv.setG {w wr : World} {rb L P ob : Nat} {wd : Int} {v : Value} (h : SomeInv w wr rb L P ob wd v) {g j : Nat} (h1 : w.heap.size < g) (h2 : g ≠ ob) (u : Value) : SomeInv w (wr.setCell ⟨g, j, none⟩ u) rb L P ob wd v := by
  have hL := h.hL
  have n1 : w.heap.size ≠ g := by omega
  have n2 : ob ≠ g := fun e => h2 e.symm
  exact ⟨gset h.g (p := ⟨g, j, none⟩) (by show w.heap.size ≤ g; omega) _, h.rd.below ((Below.refl _ _).setCell (p := ⟨g, j, none⟩) (by show L ≤ g; omega) _), setc n1 h.p4, setc n1 h.p5, setf n1 h.f4, setf n1 h.f5, setc n2 h.o0, setc n2 h.o1, setf n2 h.fo0, setf n2 h.fo1, hL⟩
theorem SomeInv.far {w wr w6 : World} {rb L P ob : Nat} {wd : Int} {v : Value} {o : Obj} (h : SomeInv w wr rb L P ob wd v) {g : Nat} (hg : (wr.alloc o).grownBy w6 (some g)) (h1 : w.heap.size < g) (h2 : g ≠ ob) : SomeInv w w6 rb L P ob wd v := by
  have h0 := h.below (w2 := wr.alloc o) ((Below.refl _ _).alloc (Nat.le_refl _) o)
  have hL := h.hL
  have n1 : w.heap.size ≠ g := by omega
  have n2 : ob ≠ g := fun e => h2 e.symm
  have hz := h0.g.size
  have hgg : w.grownBy w6 (some rb) :=
    ⟨hg.os.trans h0.g.os, hg.tape.trans h0.g.tape, hg.output.trans h0.g.output, Nat.le_trans hz hg.size, fun k hk hne => (hg.block k (by omega) (by simp; omega)).trans (h0.g.block k hk hne)⟩
  have hB : Below L (wr.alloc o) w6 := (Below.refl _ _).grown hg (by omega) (fun k hk => by simp only [Option.some.injEq] at hk; omega)
  exact ⟨hgg, h0.rd.below hB, gcell hg n1 h0.p4, gcell hg n1 h0.p5, gfroz hg n1 h0.p4 h0.f4, gfroz hg n1 h0.p5 h0.f5, gcell hg n2 h0.o0, gcell hg n2 h0.o1, gfroz hg n2 h0.o0 h0.fo0, gfroz hg n2 h0.o1 h0.fo1, hL⟩
/-- The answer is written into its box. -/
theorem SomeInv.out {w wr : World} {rb L P ob : Nat} {wd : Int} {v : Value} (h : SomeInv w wr rb L P ob wd v) (x y : Value) :
    RdQ ((wr.setCell ⟨w.heap.size, 0, none⟩ x).setCell ⟨w.heap.size, 1, none⟩ y) rb L P ∧ w.grownBy ((wr.setCell ⟨w.heap.size, 0, none⟩ x).setCell ⟨w.heap.size, 1, none⟩ y) (some rb) := by
  have hL := h.hL
  exact ⟨h.rd.below (((Below.refl _ _).setCell (p := ⟨w.heap.size, 0, none⟩) (by show L ≤ w.heap.size; omega) _).setCell (p := ⟨w.heap.size, 1, none⟩) (by show L ≤ w.heap.size; omega) _), gset (gset h.g (p := ⟨w.heap.size, 0, none⟩) (Nat.le_refl _) _) (p := ⟨w.heap.size, 1, none⟩) (Nat.le_refl _) _⟩
/-- Cells that lie elsewhere stay when a box is written. -/
theorem CellsAt.set {w : World} {a : Option Addr} {cs : List (Int × Int)} (h : CellsAt w a cs) {bb j : Nat} (hne : ∀ b off, a = some ⟨b, off, none⟩ → b ≠ bb) (u : Value) : CellsAt (w.setCell ⟨bb, j, none⟩ u) a cs := by
  rcases h with h | ⟨b, off, rfl, hbl, hc⟩
  · exact Or.inl h
  · refine Or.inr ⟨b, off, rfl, by simpa [World.setCell] using hbl, fun i hi => ?_⟩
    have := hne b off rfl
    exact ⟨setc this (hc i hi).1, setc this (hc i hi).2⟩
theorem CellsAt.grown {w w' : World} {a : Option Addr} {cs : List (Int × Int)} {rb : Nat} (h : CellsAt w a cs) (hg : w.grownBy w' (some rb)) (hne : ∀ b off, a = some ⟨b, off, none⟩ → b ≠ rb) : CellsAt w' a cs := by
  rcases h with h | ⟨b, off, rfl, hbl, hc⟩
  · exact Or.inl h
  · refine Or.inr ⟨b, off, rfl, Nat.lt_of_lt_of_le hbl hg.size, fun i hi => ?_⟩
    have := hne b off rfl
    exact ⟨gcell hg this (hc i hi).1, gcell hg this (hc i hi).2⟩

theorem okG_lenD (wd : Int) (cs : List (Int × Int)) (h : okG wd cs = true) : 1 ≤ wd ∧ wd ≤ 5 ∧ 1 ≤ cs.length ∧ cs.length ≤ 25 := by
  simp only [okG, sizeG, Bool.and_eq_true, decide_eq_true_eq] at h
  obtain ⟨⟨h1, h2, h3, h4, h5⟩, _⟩ := h
  have hd := Int.emod_add_mul_ediv (cs.length : Int) wd
  rw [h3] at hd
  rcases (show wd = 1 ∨ wd = 2 ∨ wd = 3 ∨ wd = 4 ∨ wd = 5 by omega) with rfl | rfl | rfl | rfl | rfl <;> omega
/-- How long the slice in a cell is. -/
def slen : Option Value → Nat | some (.slice _ n _) => n | _ => 0
theorem newAt {g off : Nat} {B : Nat} (h : B ≤ g) : ∀ b o, (some (⟨g, off, none⟩ : Addr)) = some ⟨b, o, none⟩ → B ≤ b := by
  intro b o e
  simp only [Option.some.injEq, Addr.mk.injEq, and_true] at e
  omega
theorem own_cap {w : World} {B g n cap : Nat} {cs : List (Int × Int)} (h : Own w B (.slice (some ⟨g, 0, none⟩) n cap) cs) : n ≤ cap ∧ cap ≤ maxLen := by
  rcases h.2 with ⟨h0, _⟩ | ⟨g', cap', cur, hv, hB, hg, h1, h2, _⟩
  · simp at h0
  · simp only [Value.slice.injEq] at hv
    obtain ⟨_, rfl, rfl⟩ := hv
    exact ⟨h1, h2⟩
theorem tail_cells {w : World} {g off : Nat} {cs : List (Int × Int)} (h : CellsAt w (some ⟨g, off, none⟩) cs) : CellsAt w (some ⟨g, off + 2, none⟩) cs.tail := by
  rcases h with h | ⟨b, off', e, hbl, hc⟩
  · subst h; exact Or.inl rfl
  · simp only [Option.some.injEq, Addr.mk.injEq, and_true] at e
    obtain ⟨rfl, rfl⟩ := e
    refine Or.inr ⟨g, off + 2, rfl, hbl, fun i hi => ?_⟩
    have := hc (i + 1) (by rw [List.length_tail] at hi; omega)
    rw [show off + 2 + i * 2 = off + (i + 1) * 2 by omega]
    simpa [List.getD] using this
theorem own_cellsD {w : World} {B g cap : Nat} {cs : List (Int × Int)} (h : Own w B (.slice (some ⟨g, 0, none⟩) cs.length cap) cs) : CellsAt w (some ⟨g, 0, none⟩) cs := by
  obtain ⟨a, c, e, hC⟩ := h.slice
  simp only [Value.slice.injEq] at e
  rw [e.1]
  exact hC

set_option maxHeartbeats 4000000 in
theorem l71Some_any (w : World) (rb L P : Nat) (h : RdQ w rb L P) (hp : P ≤ 800000) (hL : L ≤ w.heap.size) :
    Calls Try.prog 35 #[.pointer (some ⟨rb, 0, none⟩)] w fun e w' => ∃ (wd : Int) (a : Option Addr) (c : Nat) (xs : List (Int × Int)), e = .returned (.agg #[.int .i64 wd, .slice a xs.length c]) ∧ (CellsAt w' a xs ∧ ∀ b off, a = some ⟨b, off, none⟩ → w.heap.size ≤ b) ∧ xs.length ≤ 31 ∧ RdQ w' rb L (P + 70) ∧ w.grownBy w' (some rb) := by
  obtain ⟨i0, hi, iz0, iz1, iz2⟩ := info_parts infoCell
  have hrb := h.lt
  have hbX : Below w.heap.size w (w.alloc (.cells #[.int .i64 0, .slice none 0 0] 25)) := (by repeat (first | exact Below.refl _ _ | refine Below.alloc ?_ (by first | exact Nat.le_refl _ | (simp; done) | (simp; omega)) _ | refine Below.drew ?_ | refine Below.setCell ?_ (by first | exact Nat.le_refl _ | (simp; done) | (simp; omega)) _))
  have hX := h.below (hbX.mono hL)
  go_enter Try.func35, Try.ntmps35
  go_wp2_with fail
  refine (l71Grid_any _ rb L P hX (by omega) (by simp; omega)).mono ?_
  rintro e w1 ⟨W, g, c, xs, rfl, hok, hO1, hr1, hg1'⟩
  have hne : w.heap.size ≠ rb := by omega
  have hz1 := hg1'.size
  simp at hz1
  have hxl : xs.length ≤ 25 ∧ 1 ≤ xs.length ∧ 1 ≤ W ∧ W ≤ 5 := by have := okG_lenD _ _ hok; omega
  have q0 : w1.cell? ⟨w.heap.size, 0, none⟩ = some (.int .i64 0) := gcell hg1' hne (by simp [go_sem])
  have q1 : w1.cell? ⟨w.heap.size, 1, none⟩ = some (.slice none 0 0) := gcell hg1' hne (by simp [go_sem])
  have f0 : w1.frozen? ⟨w.heap.size, 0, none⟩ = false := gfroz hg1' hne (v := .int .i64 0) (by simp [go_sem]) (by simp [go_sem])
  have f1 : w1.frozen? ⟨w.heap.size, 1, none⟩ = false := gfroz hg1' hne (v := .slice none 0 0) (by simp [go_sem]) (by simp [go_sem])
  have hg1 : w.grownBy w1 (some rb) := picks (belowP hbX) hg1'
  have hbY : Below w1.heap.size w1 (w1.alloc (.cells #[.int .i64 (W : Int), .slice (some ⟨g, 0, none⟩) xs.length c] 25)) := (by repeat (first | exact Below.refl _ _ | refine Below.alloc ?_ (by first | exact Nat.le_refl _ | (simp; done) | (simp; omega)) _ | refine Below.drew ?_ | refine Below.setCell ?_ (by first | exact Nat.le_refl _ | (simp; done) | (simp; omega)) _))
  have hI1 : SomeInv w (w1.alloc (.cells #[.int .i64 (W : Int), .slice (some ⟨g, 0, none⟩) xs.length c] 25)) rb L (P + 60) w1.heap.size (W : Int) (.slice (some ⟨g, 0, none⟩) xs.length c) :=
    ⟨picksB hg1 hbY, hr1.below (hbY.mono (by omega)), keepc hbY q0, keepc hbY q1, keepf hbY q0 f0, keepf hbY q1 f1, by simp [go_sem], by simp [go_sem], by simp [go_sem], by simp [go_sem], by omega⟩
  have hgr := hO1.lt
  simp at hgr
  have hO := hO1.below hbY
  clear hX hbX hg1' hr1 q0 q1 f0 f1 hg1 hbY hO1
  go_wp2_with fail
  refine (pickQ 24 _ rb L (P + 60) hI1.rd (by omega) (by omega)).mono ?_
  rintro e w2 ⟨u, rfl, hu1, hu2, hr2, hg2⟩
  have hI2 := hI1.call hg2 hr2
  have hO2 : Own w2 (w.heap.size + 1) (.slice (some ⟨g, 0, none⟩) xs.length c) xs := World.ownsRow.kept (hO.mono (by simp)) hg2 (Or.inr (by simp [Value.ownBlock]; omega))
  clear hI1 hO hg2 hr2
  by_cases hu : 0 < u
  · obtain ⟨p4, p5, f4, f5, o0, o1⟩ := And.intro hI2.p4 (And.intro hI2.p5 (And.intro hI2.f4 (And.intro hI2.f5 (And.intro hI2.o0 hI2.o1))))
    go_wp2
    refine bodyPost_ret (v := .agg #[.int .i64 (W : Int), .slice (some ⟨g, 0, none⟩) xs.length c]) (by simp [results, Try.results35, go_sem, p4, p5]) rfl ⟨(W : Int), some ⟨g, 0, none⟩, c, xs, rfl, ?_, by omega, ?_⟩
    · exact ⟨own_cellsD (ownOther (ownOther hO2 (p := ⟨w.heap.size, 0, none⟩) (by show g ≠ w.heap.size; omega) _) (p := ⟨w.heap.size, 1, none⟩) (by show g ≠ w.heap.size; omega) _), newAt (by omega)⟩
    · exact ⟨(hI2.out _ _).1.more (by omega), (hI2.out _ _).2⟩
  have hu0 : u = 0 := by omega
  subst hu0
  go_wp2_with fail
  refine (pickQ 5 _ rb L (P + 61) hI2.rd (by omega) (by omega)).mono ?_
  rintro e w3 ⟨v, rfl, hv1, hv2, hr3, hg3⟩
  have hI3 := hI2.call hg3 hr3
  have hO3 : Own w3 (w.heap.size + 1) (.slice (some ⟨g, 0, none⟩) xs.length c) xs := World.ownsRow.kept hO2 hg3 (Or.inr (by simp [Value.ownBlock]; omega))
  have hz3 := hI3.g.size
  have so3 := World.block_lt_of_cell? _ _ hI3.o1
  simp only at so3
  clear hI2 hO2 hg3 hr3
  rcases (show v = 0 ∨ v = 1 ∨ v = 2 ∨ v = 3 ∨ v = 4 by omega) with rfl | rfl | rfl | rfl | rfl
  · have hbZ : Below w3.heap.size w3 (w3.alloc (.cells #[.int .i64 0, .int .i64 (-1), .int .i64 6] 3)) := (by repeat (first | exact Below.refl _ _ | refine Below.alloc ?_ (by first | exact Nat.le_refl _ | (simp; done) | (simp; omega)) _ | refine Below.drew ?_ | refine Below.setCell ?_ (by first | exact Nat.le_refl _ | (simp; done) | (simp; omega)) _))
    have hI4 := hI3.below hbZ
    have hO4 := hO3.below hbZ
    go_wp2_with fail
    refine (pickQ 3 _ rb L (P + 62) hI4.rd (by omega) (by omega)).mono ?_
    rintro e w5 ⟨u, rfl, hu1', hu2', hr5, hg5⟩
    have hI5 := hI4.call hg5 hr5
    have hO5 : Own w5 (w.heap.size + 1) (.slice (some ⟨g, 0, none⟩) xs.length c) xs := World.ownsRow.kept hO4 hg5 (Or.inr (by simp [Value.ownBlock]; omega))
    have nz : w3.heap.size ≠ rb := by omega
    have z0 : w5.cell? ⟨w3.heap.size, 0, none⟩ = some (.int .i64 0) := gcell hg5 nz (by simp [go_sem])
    have z1 : w5.cell? ⟨w3.heap.size, 1, none⟩ = some (.int .i64 (-1)) := gcell hg5 nz (by simp [go_sem])
    have z2 : w5.cell? ⟨w3.heap.size, 2, none⟩ = some (.int .i64 6) := gcell hg5 nz (by simp [go_sem])
    obtain ⟨p4, p5, f4, f5, o0, o1, fo0⟩ := And.intro hI5.p4 (And.intro hI5.p5 (And.intro hI5.f4 (And.intro hI5.f5 (And.intro hI5.o0 (And.intro hI5.o1 hI5.fo0)))))
    have n1 : w.heap.size ≠ w1.heap.size := by omega
    have FIN : Hid (∀ x : Int, (CellsAt (((w5.setCell ⟨w1.heap.size, 0, none⟩ (.int .i64 x)).setCell ⟨w.heap.size, 0, none⟩ (.int .i64 x)).setCell ⟨w.heap.size, 1, none⟩ (.slice (some ⟨g, 0, none⟩) xs.length c)) (some ⟨g, 0, none⟩) xs ∧ ∀ b off, (some ⟨g, 0, none⟩ : Option Addr) = some ⟨b, off, none⟩ → w.heap.size ≤ b) ∧ xs.length ≤ 31 ∧ RdQ (((w5.setCell ⟨w1.heap.size, 0, none⟩ (.int .i64 x)).setCell ⟨w.heap.size, 0, none⟩ (.int .i64 x)).setCell ⟨w.heap.size, 1, none⟩ (.slice (some ⟨g, 0, none⟩) xs.length c)) rb L (P + 70) ∧ w.grownBy (((w5.setCell ⟨w1.heap.size, 0, none⟩ (.int .i64 x)).setCell ⟨w.heap.size, 0, none⟩ (.int .i64 x)).setCell ⟨w.heap.size, 1, none⟩ (.slice (some ⟨g, 0, none⟩) xs.length c)) (some rb)) := fun x =>
      ⟨⟨own_cellsD (ownOther (ownOther (ownOther hO5 (p := ⟨w1.heap.size, 0, none⟩) (by show g ≠ w1.heap.size; omega) _) (p := ⟨w.heap.size, 0, none⟩) (by show g ≠ w.heap.size; omega) _) (p := ⟨w.heap.size, 1, none⟩) (by show g ≠ w.heap.size; omega) _), newAt (by omega)⟩, by omega, ((hI5.set0 x).out _ _).1.more (by omega), ((hI5.set0 x).out _ _).2⟩
    clear hI3 hI4 hO3 hO4 hbZ hg5 hr5 hI5 hO5
    rcases (show u = 0 ∨ u = 1 ∨ u = 2 by omega) with rfl | rfl | rfl
    · go_wp2
      exact bodyPost_ret (v := .agg #[.int .i64 0, .slice (some ⟨g, 0, none⟩) xs.length c]) (by simp [results, Try.results35, go_sem, p4, p5]) rfl ⟨0, some ⟨g, 0, none⟩, c, xs, rfl, FIN.out 0⟩
    · go_wp2
      exact bodyPost_ret (v := .agg #[.int .i64 (-1), .slice (some ⟨g, 0, none⟩) xs.length c]) (by simp [results, Try.results35, go_sem, p4, p5]) rfl ⟨-1, some ⟨g, 0, none⟩, c, xs, rfl, FIN.out (-1)⟩
    · go_wp2
      exact bodyPost_ret (v := .agg #[.int .i64 6, .slice (some ⟨g, 0, none⟩) xs.length c]) (by simp [results, Try.results35, go_sem, p4, p5]) rfl ⟨6, some ⟨g, 0, none⟩, c, xs, rfl, FIN.out 6⟩
  · obtain ⟨p4, p5, f4, f5, o0, o1, fo1⟩ := And.intro hI3.p4 (And.intro hI3.p5 (And.intro hI3.f4 (And.intro hI3.f5 (And.intro hI3.o0 (And.intro hI3.o1 hI3.fo1)))))
    have n1 : w.heap.size ≠ w1.heap.size := by omega
    have hcap := own_cap hO3
    have i1 : (1 : Int) ≤ (xs.length : Int) := by omega
    have i2 : (xs.length : Int) ≤ (c : Int) := by omega
    have i3 : (c : Int) ≤ 9223372036854775807 := by have := hcap.2; unfold maxLen at this; omega
    have hT := tail_cells (own_cellsD hO3)
    have ng : ∀ b off, some (⟨g, 0 + 2, none⟩ : Addr) = some ⟨b, off, none⟩ → b ≠ w1.heap.size ∧ b ≠ w.heap.size := by
      intro b off e
      simp only [Option.some.injEq, Addr.mk.injEq, and_true] at e
      omega
    by_cases hc1 : c = 1
    · subst hc1
      have hI4 := hI3.set1 (.slice (some ⟨g, 0, none⟩) 0 0)
      have ht : xs.length - 1 = 0 := by omega
      go_wp2
      refine bodyPost_ret (v := .agg #[.int .i64 (W : Int), .slice (some ⟨g, 0, none⟩) 0 0]) (by simp [results, Try.results35, go_sem, p4, p5]) rfl ⟨(W : Int), some ⟨g, 0, none⟩, 0, [], rfl, ⟨Or.inl rfl, newAt (by omega)⟩, by simp, ?_⟩
      exact ⟨(hI4.out _ _).1.more (by omega), (hI4.out _ _).2⟩
    · have hI4 := hI3.set1 (.slice (some ⟨g, 2, none⟩) (xs.length - 1) (c - 1))
      have i4 : (2 : Int) ≤ (c : Int) := by omega
      go_wp2
      refine bodyPost_ret (v := .agg #[.int .i64 (W : Int), .slice (some ⟨g, 2, none⟩) (xs.length - 1) (c - 1)]) (by simp [results, Try.results35, go_sem, p4, p5]) rfl ⟨(W : Int), some ⟨g, 2, none⟩, c - 1, xs.tail, by rw [List.length_tail], ?_, by rw [List.length_tail]; omega, ?_⟩
      · exact ⟨((hT.set (bb := w1.heap.size) (fun b off e => (ng b off e).1) _).set (bb := w.heap.size) (fun b off e => (ng b off e).2) _).set (bb := w.heap.size) (fun b off e => (ng b off e).2) _, newAt (by omega)⟩
      · exact ⟨(hI4.out _ _).1.more (by omega), (hI4.out _ _).2⟩
  · obtain ⟨p4, p5, f4, f5, o0, o1, fo1⟩ := And.intro hI3.p4 (And.intro hI3.p5 (And.intro hI3.f4 (And.intro hI3.f5 (And.intro hI3.o0 (And.intro hI3.o1 hI3.fo1)))))
    have n1 : w.heap.size ≠ w1.heap.size := by omega
    have i1 : (1 : Int) ≤ (xs.length : Int) := by omega
    go_wp2
    go_region_held3 (fun w' => w'.cell? ⟨w1.heap.size, 1, none⟩ = some (.slice (some ⟨g, 0, none⟩) xs.length c))
      (first | exact setc ngo (setc ngo hI6.o1) | exact hI6.o1 | exact hI5.o1 | go_keep)
      (first
        | (go_at_call 53; refine (pickQ (xs.length : Int) _ rb L (P + 62) (by first | exact hI3.rd | exact hI3.rd.below (Below.refl _ _).drew) (by omega) (by omega)).mono ?_; rintro e w5 ⟨u, rfl, hu1', hu2', hr5, hg5'⟩; have hg5 : w3.grownBy w5 (some rb) := (by first | exact hg5' | exact gdrew hg5'); have hI5 := hI3.call hg5 hr5; obtain ⟨U, rfl⟩ := Int.eq_ofNat_of_zero_le hu1')
        | (go_at_call 66; refine (l71Off_any _ rb L (P + 63) hI5.rd (by omega) (by have := hI5.g.size; omega)).mono ?_; rintro e w6 ⟨kx, lx, rfl, hr6, hg6⟩; have hI6 := hI5.call hg6 hr6; have hO6 : Own w6 (w.heap.size + 1) (.slice (some ⟨g, 0, none⟩) xs.length c) xs := World.ownsRow.kept (World.ownsRow.kept hO3 hg5 (Or.inr (by simp [Value.ownBlock]; omega))) hg6 (Or.inr (by simp [Value.ownBlock]; omega)); have hU : U < xs.length := (by omega); obtain ⟨c1, c2, g1, g2⟩ := hO6.cell rfl U hU; have ngo : w1.heap.size ≠ g := (by omega)))
    all_goals
      have HS := hO6.set rfl U kx lx hU
      have hI7 := (hI6.setG (g := g) (j := U * 2) (by omega) (by omega) (.int .i64 kx)).setG (g := g) (j := U * 2 + 1) (by omega) (by omega) (.int .i64 lx)
      have hl : (xs.set U (kx, lx)).length = xs.length := by simp
      obtain ⟨p4, p5, f4, f5, o0, o1⟩ := And.intro hI7.p4 (And.intro hI7.p5 (And.intro hI7.f4 (And.intro hI7.f5 (And.intro hI7.o0 hI7.o1))))
      go_wp2
      refine bodyPost_ret (v := .agg #[.int .i64 (W : Int), .slice (some ⟨g, 0, none⟩) xs.length c]) (by simp [results, Try.results35, go_sem, p4, p5]) rfl ⟨(W : Int), some ⟨g, 0, none⟩, c, xs.set U (kx, lx), by rw [hl], ?_, by rw [hl]; omega, ?_⟩
      · rw [← hl] at HS
        have := ownOther (ownOther HS (p := ⟨w.heap.size, 0, none⟩) (by show g ≠ w.heap.size; omega) (.int .i64 (W : Int))) (p := ⟨w.heap.size, 1, none⟩) (by show g ≠ w.heap.size; omega) (.slice (some ⟨g, 0, none⟩) xs.length c)
        exact ⟨own_cellsD this, newAt (by omega)⟩
      · exact ⟨(hI7.out _ _).1.more (P' := P + 70) (by omega), (hI7.out _ _).2⟩
  · clear hv1 hv2
    have hW5 : (W : Int) * 5 ≤ 25 := by omega
    go_wp2
    go_loopw [] (fun wr => ∃ (ys : List (Int × Int)) (g c : Nat), ys.length ≤ 26 ∧ 1 ≤ ys.length ∧ SomeInv w wr rb L (P + 62) w1.heap.size (W : Int) (.slice (some ⟨g, 0, none⟩) ys.length c) ∧ Own wr (w.heap.size + 1) (.slice (some ⟨g, 0, none⟩) ys.length c) ys ∧ g ≠ w1.heap.size) (fun wr => 30 - slen (wr.cell? ⟨w1.heap.size, 1, none⟩))
    case atStart => exact ⟨xs, g, c, by omega, by omega, hI3, hO3, by omega⟩
    case round =>
      clear hI3 hO3
      obtain ⟨ys, g, c, hy1, hy2, hI, hO, hgo⟩ := hrel
      have hLL := hI.hL
      have hgl := hO.lt
      have so := World.block_lt_of_cell? _ _ hI.o1
      simp only at so
      obtain ⟨p4, p5, f4, f5, o0, o1, fo1⟩ := And.intro hI.p4 (And.intro hI.p5 (And.intro hI.f4 (And.intro hI.f5 (And.intro hI.o0 (And.intro hI.o1 hI.fo1)))))
      by_cases hlt : (ys.length : Int) ≤ (W : Int) * 5
      · go_wp2_with (at_builtin; refine wpList_append_lies _ rfl _ _ _ rfl (w.heap.size + 1) 78 i0 (.agg #[.int .i64 0, .int .i64 0]) 2 16 Try.underlying23 hi iz0 iz1 iz2 rfl (by omega) (.slice (some ⟨g, 0, none⟩) ys.length c) ys.length (flat ys) rfl (hO.alloc _) ⟨wr.heap.size, 0, none⟩ 1 1 [.int .i64 0, .int .i64 0] rfl rfl (World.news_of_block (cs := #[.int .i64 0, .int .i64 0]) (t := 78) (fr := (0, 0)) (heap_alloc_new wr _)) (by simp [Value.oneCell']) (by omega) (by unfold maxLen; omega) (by omega) (by simp; omega) (wr.heap.size + 1) (by simp) ?_)
        intro g6 k6 w6 hO6 hg6 hat6 hlt6
        have hI6 := hI.far (g := g) hg6 (by omega) hgo
        have hgn : g6 ≠ w1.heap.size := by
          rcases hat6 with e | e
          · simp only [Value.ownBlock, Option.some.injEq] at e; omega
          · omega
        have hI7 := hI6.set1 (.slice (some ⟨g6, 0, none⟩) (ys.length + 1) k6)
        have o6 := hI6.o1
        have fo6 := hI6.fo1
        have hl : (ys ++ [((0 : Int), (0 : Int))]).length = ys.length + 1 := by simp
        have hO7 : Own (w6.setCell ⟨w1.heap.size, 1, none⟩ (.slice (some ⟨g6, 0, none⟩) (ys.length + 1) k6)) (w.heap.size + 1) (.slice (some ⟨g6, 0, none⟩) (ys.length + 1) k6) (ys ++ [(0, 0)]) := by
          refine ownOther ?_ hgn _
          unfold Own
          rw [hl, flat_append]
          exact hO6
        clear hI hO hg6 hO6 p4 p5 f4 f5 hI6
        go_wp2
        go_roundw
        case rel => exact ⟨ys ++ [(0, 0)], g6, k6, by rw [hl]; omega, by rw [hl]; omega, by rw [hl]; exact hI7, by rw [hl]; exact hO7, hgn⟩
        case measure =>
          rw [World.cell?_setCell_same _ _ _ o6, o1]
          simp only [slen]
          omega
      · have hT := own_cellsD hO
        go_wp2
        refine bodyPost_ret (v := .agg #[.int .i64 (W : Int), .slice (some ⟨g, 0, none⟩) ys.length c]) (by simp [results, Try.results35, go_sem, p4, p5]) rfl ⟨(W : Int), some ⟨g, 0, none⟩, c, ys, rfl, ?_, by omega, ?_⟩
        · exact ⟨own_cellsD (ownOther (ownOther hO (p := ⟨w.heap.size, 0, none⟩) (by show g ≠ w.heap.size; omega) _) (p := ⟨w.heap.size, 1, none⟩) (by show g ≠ w.heap.size; omega) _), newAt (by omega)⟩
        · exact ⟨(hI.out _ _).1.more (P' := P + 70) (by omega), (hI.out _ _).2⟩
  · obtain ⟨p4, p5, f4, f5, o0, o1, fo1⟩ := And.intro hI3.p4 (And.intro hI3.p5 (And.intro hI3.f4 (And.intro hI3.f5 (And.intro hI3.o0 (And.intro hI3.o1 hI3.fo1)))))
    have n1 : w.heap.size ≠ w1.heap.size := by omega
    have hI4 := hI3.set1 (.slice none 0 0)
    go_wp2
    refine bodyPost_ret (v := .agg #[.int .i64 (W : Int), .slice none 0 0]) (by simp [results, Try.results35, go_sem, p4, p5]) rfl ⟨(W : Int), none, 0, [], rfl, ⟨Or.inl rfl, fun _ _ e => by cases e⟩, by simp, ?_⟩
    exact ⟨(hI4.out _ _).1.more (by omega), (hI4.out _ _).2⟩

end Go.Proofs.Ytankkkiccokggaa
