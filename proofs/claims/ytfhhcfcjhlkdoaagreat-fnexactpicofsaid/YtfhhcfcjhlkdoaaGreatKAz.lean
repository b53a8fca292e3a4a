/-
  Texts of the proof: PJr, PJs, PDy, PDz.
-/
import Derived.Test.YtfhhcfcjhlkdoaaGreatChecked
import Derived.Deep.QuietTactic
import Derived.BigQuiet
import Derived.Laws.Bits64
import Derived.Deep.RegionHeld3
import Derived.Deep.RegionLaw
import Derived.Deep.AppendLies
import Derived.Deep.DrawnRows
import Derived.Calls
import Derived.Laws.Sem
import Derived.WalkKit
import Derived.WalkLawsBesides
import Derived.Below
import Derived.Deep.Draws
import Derived.Laws.EntriesVeiled
import Derived.Deep.DeepCutAuto
import Derived.Laws.CopyOwn
import Derived.Deep.WholeRow
import Derived.LoopN
import Derived.Laws.Rows
import Derived.Test.YtfhhcfcjhlkdoaaGreatKAa
import Derived.Test.YtfhhcfcjhlkdoaaGreatKAb
import Derived.Test.YtfhhcfcjhlkdoaaGreatKAc
import Derived.Test.YtfhhcfcjhlkdoaaGreatKAp
import Derived.Test.YtfhhcfcjhlkdoaaGreatKAq
import Derived.Test.YtfhhcfcjhlkdoaaGreatKAr
import Derived.Test.YtfhhcfcjhlkdoaaGreatKAs
import Derived.Test.YtfhhcfcjhlkdoaaGreatKAt
import Derived.Test.YtfhhcfcjhlkdoaaGreatKAu
import Derived.Test.YtfhhcfcjhlkdoaaGreatKAv
import Derived.Test.YtfhhcfcjhlkdoaaGreatKAw
import Derived.Test.YtfhhcfcjhlkdoaaGreatKAx
import Derived.Test.YtfhhcfcjhlkdoaaGreatKAy

namespace Go.Proofs.YtfhhcfcjhlkdoaaGreat.Sp
open Go.RowKit
set_option linter.unusedVariables false

/-- A reader at block rb: its bytes (n of them, f gives them), and how many were read. -/
structure Rd (w : World) (rb : Nat) (a : Option Addr) (b off n cap : Nat) (f : Nat → Int) (p : Nat) : Prop where
  c0 : w.cell? ⟨rb, 0, none⟩ = some (.slice a n cap)
  c1 : w.cell? ⟨rb, 1, none⟩ = some (.int .i64 (p : Int))
  fr : w.frozen? ⟨rb, 1, none⟩ = false
  ha : 0 < n → a = some ⟨b, off, none⟩
  bytes : ∀ i, i < n → w.cell? ⟨b, off + i, none⟩ = some (.int .u8 (f i))
  range : ∀ i, 0 ≤ f i ∧ f i ≤ 255
  ne : 0 < n → b ≠ rb
  hn : n ≤ 2000

theorem Rd.kept {w w' : World} {rb : Nat} {a : Option Addr} {b off n cap : Nat} {f : Nat → Int} {p : Nat} (h : Rd w rb a b off n cap f p) (hb : Below w.heap.size w w') : Rd w' rb a b off n cap f p :=
  ⟨keepc hb h.c0, keepc hb h.c1, keepf hb h.c1 h.fr, h.ha, fun i hi => keepc hb (h.bytes i hi), h.range, h.ne, h.hn⟩
theorem picks {w w' w2 : World} {rb : Nat} (h : w.grownBy w' (some rb)) (h2 : w'.grownBy w2 (some rb)) : w.grownBy w2 (some rb) :=
  ⟨h2.os.trans h.os, h2.tape.trans h.tape, h2.output.trans h.output, Nat.le_trans h.size h2.size, fun k hk hne => (h2.block k (Nat.lt_of_lt_of_le hk h.size) hne).trans (h.block k hk hne)⟩
theorem picksB {w w' w2 : World} {rb : Nat} (h : w.grownBy w' (some rb)) (h2 : Below w'.heap.size w' w2) : w.grownBy w2 (some rb) :=
  ⟨h2.os.trans h.os, h2.tape.trans h.tape, h2.output.trans h.output, Nat.le_trans h.size h2.size, fun k hk hne => (h2.block k (Nat.lt_of_lt_of_le hk h.size)).trans (h.block k hk hne)⟩
end Go.Proofs.YtfhhcfcjhlkdoaaGreat.Sp

namespace Go.Proofs.YtfhhcfcjhlkdoaaGreat.Sp
open Go.RowKit
set_option linter.unusedVariables false

/-- A reader at rb that has read at most P bytes; it and its bytes lie below L. -/
def RdQ (w : World) (rb L P : Nat) : Prop := ∃ a b off n cap f p, Rd w rb a b off n cap f p ∧ p ≤ P ∧ rb < L ∧ (0 < n → b < L)

theorem RdQ.below {w w' : World} {rb L P : Nat} (h : RdQ w rb L P) (hb : Below L w w') : RdQ w' rb L P := by
  obtain ⟨a, b, off, n, cap, f, p, h, hp, h1, h2⟩ := h
  exact ⟨a, b, off, n, cap, f, p, ⟨(hb.cell (p := ⟨rb, 0, none⟩) h1).trans h.c0, (hb.cell (p := ⟨rb, 1, none⟩) h1).trans h.c1, (hb.frozen (p := ⟨rb, 1, none⟩) h1).trans h.fr, h.ha, fun i hi => (hb.cell (p := ⟨b, _, none⟩) (h2 (by omega))).trans (h.bytes i hi), h.range, h.ne, h.hn⟩, hp, h1, h2⟩
theorem RdQ.more {w : World} {rb L P P' : Nat} (h : RdQ w rb L P) (hp : P ≤ P') : RdQ w rb L P' := by
  obtain ⟨a, b, off, n, cap, f, p, h, hq, h1, h2⟩ := h
  exact ⟨a, b, off, n, cap, f, p, h, by omega, h1, h2⟩
theorem RdQ.lt {w : World} {rb L P : Nat} (h : RdQ w rb L P) : rb < L ∧ rb < w.heap.size := by
  obtain ⟨a, b, off, n, cap, f, p, h, hq, h1, h2⟩ := h
  exact ⟨h1, World.block_lt_of_cell? w _ h.c0⟩
theorem gcell {w w' : World} {rb b o : Nat} {v : Value} (hg : w.grownBy w' (some rb)) (hne : b ≠ rb) (h : w.cell? ⟨b, o, none⟩ = some v) : w'.cell? ⟨b, o, none⟩ = some v := hg.cell h (by simpa using hne)
theorem gfroz {w w' : World} {rb b o : Nat} {v : Value} {c : Bool} (hg : w.grownBy w' (some rb)) (hne : b ≠ rb) (h : w.cell? ⟨b, o, none⟩ = some v) (hf : w.frozen? ⟨b, o, none⟩ = c) : w'.frozen? ⟨b, o, none⟩ = c :=
  (World.frozen?_of_block (a := ⟨b, o, none⟩) (hg.block b (World.block_lt_of_cell? w _ h) (by simpa using hne))).trans hf
/-- A store into a block that is not old. -/
theorem gset {w w' : World} {rb : Nat} (hg : w.grownBy w' (some rb)) {p : Addr} (hp : w.heap.size ≤ p.block) (u : Value) : w.grownBy (w'.setCell p u) (some rb) :=
  ⟨hg.os, hg.tape, hg.output, by simpa [World.setCell] using hg.size, fun k hk hne => (Below.heap_setCell w' p u k (by omega)).trans (hg.block k hk hne)⟩
end Go.Proofs.YtfhhcfcjhlkdoaaGreat.Sp

namespace Go.Proofs.YtfhhcfcjhlkdoaaGreat.Sp
open Go.RowKit
set_option linter.unusedVariables false
attribute [local go_sem ↓] Go.wp_at_zero Go.wp_at_succ

/-- Bytes that came in: n of them, f gives them. -/
def BytesAt (w : World) (a : Option Addr) (n : Nat) (f : Nat → Int) : Prop :=
  (∀ i, 0 ≤ f i ∧ f i ≤ 255) ∧ (n = 0 ∨ ∃ b off, a = some ⟨b, off, none⟩ ∧ b < w.heap.size ∧ ∀ i, i < n → w.cell? ⟨b, off + i, none⟩ = some (.int .u8 (f i)))

theorem BytesAt.below {w w' : World} {a : Option Addr} {n : Nat} {f : Nat → Int} (h : BytesAt w a n f) (hb : Below w.heap.size w w') : BytesAt w' a n f := by
  obtain ⟨h1, h2⟩ := h
  refine ⟨h1, ?_⟩
  rcases h2 with h2 | ⟨b, off, rfl, hbl, hc⟩
  · exact Or.inl h2
  · exact Or.inr ⟨b, off, rfl, Nat.lt_of_lt_of_le hbl hb.size, fun i hi => keepc hb (hc i hi)⟩

end Go.Proofs.YtfhhcfcjhlkdoaaGreat.Sp

namespace Go.Proofs.YtfhhcfcjhlkdoaaGreat.Sp
open Go.RowKit
set_option linter.unusedVariables false
attribute [local go_sem ↓] Go.wp_at_zero Go.wp_at_succ

/-- What the loop keeps: the answer's box, the grid's box at ob, the cells so far, the reader. -/
structure DrawInv (w wr : World) (rb L P W ob : Nat) (xs : List (Int × Int)) (a : Option Addr) (c : Nat) : Prop where
  g : w.grownBy wr (some rb)
  rd : RdQ wr rb L P
  p4 : wr.cell? ⟨w.heap.size, 0, none⟩ = some (.int .i64 0)
  p5 : wr.cell? ⟨w.heap.size, 1, none⟩ = some (.slice none 0 0)
  f4 : wr.frozen? ⟨w.heap.size, 0, none⟩ = false
  f5 : wr.frozen? ⟨w.heap.size, 1, none⟩ = false
  o0 : wr.cell? ⟨ob, 0, none⟩ = some (.int .i64 (W : Int))
  o1 : wr.cell? ⟨ob, 1, none⟩ = some (.slice a xs.length c)
  fo : wr.frozen? ⟨ob, 1, none⟩ = false
  own : Own wr (ob + 1) (.slice a xs.length c) xs
  ok : (xs.all fun c => okC c.1 c.2) = true
  hL : L ≤ w.heap.size ∧ w.heap.size < ob ∧ rb < L

theorem DrawInv.call {w wr w2 : World} {rb L P P' W ob : Nat} {xs : List (Int × Int)} {a : Option Addr} {c : Nat} (h : DrawInv w wr rb L P W ob xs a c) (hg : wr.grownBy w2 (some rb)) (hr : RdQ w2 rb L P') : DrawInv w w2 rb L P' W ob xs a c := by
  have hL := h.hL
  have n1 : w.heap.size ≠ rb := by omega
  have n2 : ob ≠ rb := by omega
  refine ⟨picks h.g hg, hr, gcell hg n1 h.p4, gcell hg n1 h.p5, gfroz hg n1 h.p4 h.f4, gfroz hg n1 h.p5 h.f5, gcell hg n2 h.o0, gcell hg n2 h.o1, gfroz hg n2 h.o1 h.fo, ?_, h.ok, hL⟩
  refine World.ownsRow.kept h.own hg ?_
  cases hv : (Value.slice a xs.length c).ownBlock with
  | none => exact Or.inl rfl
  | some k =>
    have := World.ownsRow.lt h.own k hv
    refine Or.inr ?_
    simp only [ne_eq, Option.some.injEq]
    omega

theorem DrawInv.push {w w5 w6 : World} {rb L P W ob : Nat} {xs : List (Int × Int)} {a : Option Addr} {c g6 k6 : Nat} {x y : Int} {o : Obj} (h : DrawInv w w5 rb L P W ob xs a c) (hg : (w5.alloc o).grownBy w6 (Value.slice a xs.length c).ownBlock)
    (hO : w6.ownsRow (ob + 1) 38 2 (.slice (some ⟨g6, 0, none⟩) (xs.length + 1) k6) (xs.length + 1) (flat xs ++ [.int .i64 x, .int .i64 y])) (hok : okC x y = true) :
    DrawInv w (w6.setCell ⟨ob, 1, none⟩ (.slice (some ⟨g6, 0, none⟩) (xs.length + 1) k6)) rb L P W ob (xs ++ [(x, y)]) (some ⟨g6, 0, none⟩) k6 ∧ w6.cell? ⟨ob, 1, none⟩ = some (.slice a xs.length c) ∧ w6.frozen? ⟨ob, 1, none⟩ = false := by
  have hL := h.hL
  have hz := h.g.size
  have rg := World.ownsRow.lt h.own
  have rg6 := World.ownsRow.lt hO g6 rfl
  have hblk : ∀ b, b ≤ ob → some b ≠ (Value.slice a xs.length c).ownBlock := by
    intro b hb e
    have := rg b e.symm
    omega
  have kp : ∀ {bb oo : Nat} {v : Value}, bb ≤ ob → w5.cell? ⟨bb, oo, none⟩ = some v → w6.cell? ⟨bb, oo, none⟩ = some v := fun {bb oo v} hb hc =>
    hg.cell ((World.cell?_alloc_past _ _ _ (World.block_lt_of_cell? w5 _ hc)).trans hc) (hblk bb hb)
  have kf : ∀ {bb oo : Nat} {v : Value} {t : Bool}, bb ≤ ob → w5.cell? ⟨bb, oo, none⟩ = some v → w5.frozen? ⟨bb, oo, none⟩ = t → w6.frozen? ⟨bb, oo, none⟩ = t := fun {bb oo v t} hb hc hf => by
    have hl := World.block_lt_of_cell? w5 _ hc
    simp only at hl
    rw [World.frozen?_of_block (w := w5.alloc o) (a := ⟨bb, oo, none⟩) (hg.block bb (by simp; omega) (hblk bb hb)), World.frozen?_of_block (w := w5) (a := ⟨bb, oo, none⟩) (Below.heap_alloc w5 o bb hl)]
    exact hf
  have hl : (xs ++ [(x, y)]).length = xs.length + 1 := by simp
  have so := World.block_lt_of_cell? w5 _ h.o1
  simp only at so
  have hB : Below (ob + 1) w5 w6 := by
    refine ((Below.refl _ _).alloc (by omega) o).grown hg (by simp; omega) (fun k hk => ?_)
    exact (rg k hk).1
  have hgg : w.grownBy w6 (some rb) :=
    ⟨hB.os.trans h.g.os, hB.tape.trans h.g.tape, hB.output.trans h.g.output, Nat.le_trans hz hB.size, fun k hk hne => (hB.block k (by omega)).trans (h.g.block k hk hne)⟩
  have n1 : w.heap.size ≠ ob := by omega
  refine ⟨⟨gset hgg (p := ⟨ob, 1, none⟩) (by show w.heap.size ≤ ob; omega) _, (h.rd.below (hB.mono (by omega))).below ((Below.refl _ _).setCell (p := ⟨ob, 1, none⟩) (by show L ≤ ob; omega) _), setc n1 (kp (by omega) h.p4), setc n1 (kp (by omega) h.p5), setf n1 (kf (by omega) h.p4 h.f4), setf n1 (kf (by omega) h.p5 h.f5), ?_, ?_, ?_, ?_, ?_, hL⟩, kp (Nat.le_refl _) h.o1, kf (Nat.le_refl _) h.o1 h.fo⟩
  · rw [World.cell?_setCell_other _ _ _ _ (by simp)]
    exact kp (Nat.le_refl _) h.o0
  · rw [hl]
    exact World.cell?_setCell_same _ _ _ (kp (Nat.le_refl _) h.o1)
  · rw [World.frozen?_setCell]
    exact kf (Nat.le_refl _) h.o1 h.fo
  · rw [hl]
    have : w6.ownsRow (ob + 1) 38 2 (.slice (some ⟨g6, 0, none⟩) (xs.length + 1) k6) (xs ++ [(x, y)]).length (flat (xs ++ [(x, y)])) := by rw [hl, flat_append]; exact hO
    exact ownsRow_setCell_below this (by simp) _
  · rw [List.all_append, h.ok]
    simp [hok]

end Go.Proofs.YtfhhcfcjhlkdoaaGreat.Sp

namespace Go.Proofs.YtfhhcfcjhlkdoaaGreat.Sp
open Go.RowKit
set_option linter.unusedVariables false
attribute [local go_sem ↓] Go.wp_at_zero Go.wp_at_succ

/-- What stands behind the first draws: the answer's box, the grid's box at ob, its cells, the reader. -/
structure SomeInv (w wr : World) (rb L P ob : Nat) (wd : Int) (v : Value) : Prop where
  g : w.grownBy wr (some rb)
  rd : RdQ wr rb L P
  p4 : wr.cell? ⟨w.heap.size, 0, none⟩ = some (.int .i64 0)
  p5 : wr.cell? ⟨w.heap.size, 1, none⟩ = some (.slice none 0 0)
  f4 : wr.frozen? ⟨w.heap.size, 0, none⟩ = false
  f5 : wr.frozen? ⟨w.heap.size, 1, none⟩ = false
  o0 : wr.cell? ⟨ob, 0, none⟩ = some (.int .i64 wd)
  o1 : wr.cell? ⟨ob, 1, none⟩ = some v
  fo0 : wr.frozen? ⟨ob, 0, none⟩ = false
  fo1 : wr.frozen? ⟨ob, 1, none⟩ = false
  hL : L ≤ w.heap.size ∧ w.heap.size < ob ∧ rb < L

theorem SomeInv.call {w wr w2 : World} {rb L P P' ob : Nat} {wd : Int} {v : Value} (h : SomeInv w wr rb L P ob wd v) (hg : wr.grownBy w2 (some rb)) (hr : RdQ w2 rb L P') : SomeInv w w2 rb L P' ob wd v := by
  have hL := h.hL
  have n1 : w.heap.size ≠ rb := by omega
  have n2 : ob ≠ rb := by omega
  exact ⟨picks h.g hg, hr, gcell hg n1 h.p4, gcell hg n1 h.p5, gfroz hg n1 h.p4 h.f4, gfroz hg n1 h.p5 h.f5, gcell hg n2 h.o0, gcell hg n2 h.o1, gfroz hg n2 h.o0 h.fo0, gfroz hg n2 h.o1 h.fo1, hL⟩
theorem SomeInv.below {w wr w2 : World} {rb L P ob : Nat} {wd : Int} {v : Value} (h : SomeInv w wr rb L P ob wd v) (hb : Below wr.heap.size wr w2) : SomeInv w w2 rb L P ob wd v := by
  have hL := h.hL
  have hz := h.g.size
  exact ⟨picksB h.g hb, h.rd.below (hb.mono (by omega)), keepc hb h.p4, keepc hb h.p5, keepf hb h.p4 h.f4, keepf hb h.p5 h.f5, keepc hb h.o0, keepc hb h.o1, keepf hb h.o0 h.fo0, keepf hb h.o1 h.fo1, hL⟩
theorem SomeInv.far {w wr w6 : World} {rb L P ob : Nat} {wd : Int} {v : Value} {o : Obj} (h : SomeInv w wr rb L P ob wd v) {g : Nat} (hg : (wr.alloc o).grownBy w6 (some g)) (h1 : w.heap.size < g) (h2 : g ≠ ob) : SomeInv w w6 rb L P ob wd v := by
  have h0 := h.below (w2 := wr.alloc o) ((Below.refl _ _).alloc (Nat.le_refl _) o)
  have hL := h.hL
  have n1 : w.heap.size ≠ g := by omega
  have n2 : ob ≠ g := fun e => h2 e.symm
  have hz := h0.g.size
  have hgg : w.grownBy w6 (some rb) :=
    ⟨hg.os.trans h0.g.os, hg.tape.trans h0.g.tape, hg.output.trans h0.g.output, Nat.le_trans hz hg.size, fun k hk hne => (hg.block k (by omega) (by simp; omega)).trans (h0.g.block k hk hne)⟩
  have hB : Below L (wr.alloc o) w6 := (Below.refl _ _).grown hg (by omega) (fun k hk => by simp only [Option.some.injEq] at hk; omega)
  exact ⟨hgg, h0.rd.below hB, gcell hg n1 h0.p4, gcell hg n1 h0.p5, gfroz hg n1 h0.p4 h0.f4, gfroz hg n1 h0.p5 h0.f5, gcell hg n2 h0.o0, gcell hg n2 h0.o1, gfroz hg n2 h0.o0 h0.fo0, gfroz hg n2 h0.o1 h0.fo1, hL⟩
/-- The answer is written into its box. -/
theorem SomeInv.out {w wr : World} {rb L P ob : Nat} {wd : Int} {v : Value} (h : SomeInv w wr rb L P ob wd v) (x y : Value) :
    RdQ ((wr.setCell ⟨w.heap.size, 0, none⟩ x).setCell ⟨w.heap.size, 1, none⟩ y) rb L P ∧ w.grownBy ((wr.setCell ⟨w.heap.size, 0, none⟩ x).setCell ⟨w.heap.size, 1, none⟩ y) (some rb) := by
  have hL := h.hL
  exact ⟨h.rd.below (((Below.refl _ _).setCell (p := ⟨w.heap.size, 0, none⟩) (by show L ≤ w.heap.size; omega) _).setCell (p := ⟨w.heap.size, 1, none⟩) (by show L ≤ w.heap.size; omega) _), gset (gset h.g (p := ⟨w.heap.size, 0, none⟩) (Nat.le_refl _) _) (p := ⟨w.heap.size, 1, none⟩) (Nat.le_refl _) _⟩
/-- Cells that lie elsewhere stay when a box is written. -/
theorem CellsAt.grown {w w' : World} {a : Option Addr} {cs : List (Int × Int)} {rb : Nat} (h : CellsAt w a cs) (hg : w.grownBy w' (some rb)) (hne : ∀ b off, a = some ⟨b, off, none⟩ → b ≠ rb) : CellsAt w' a cs := by
  rcases h with h | ⟨b, off, rfl, hbl, hc⟩
  · exact Or.inl h
  · refine Or.inr ⟨b, off, rfl, Nat.lt_of_lt_of_le hbl hg.size, fun i hi => ?_⟩
    have := hne b off rfl
    exact ⟨gcell hg this (hc i hi).1, gcell hg this (hc i hi).2⟩
end Go.Proofs.YtfhhcfcjhlkdoaaGreat.Sp

namespace Go.Proofs.YtfhhcfcjhlkdoaaGreat.Sp
open Go.RowKit
set_option linter.unusedVariables false
attribute [local go_sem ↓] Go.wp_at_zero Go.wp_at_succ

end Go.Proofs.YtfhhcfcjhlkdoaaGreat.Sp

namespace Go.Proofs.YtfhhcfcjhlkdoaaGreat.Sp
open Go.RowKit
set_option linter.unusedVariables false
attribute [local go_sem ↓] Go.wp_at_zero Go.wp_at_succ

/-- What stands while DrawSightRay draws: the box of the answer, the grid's box gb. -/
structure SigInv (w wr : World) (gb : Nat) (wd : Int) (v : Value) : Prop where
  hb : Below w.heap.size w wr
  p0 : wr.cell? ⟨w.heap.size, 0, none⟩ = some (.int .i64 0)
  p1 : wr.cell? ⟨w.heap.size, 1, none⟩ = some (.slice none 0 0)
  fp0 : wr.frozen? ⟨w.heap.size, 0, none⟩ = false
  fp1 : wr.frozen? ⟨w.heap.size, 1, none⟩ = false
  g0 : wr.cell? ⟨gb, 0, none⟩ = some (.int .i64 wd)
  g1 : wr.cell? ⟨gb, 1, none⟩ = some v
  sz : w.heap.size + 2 ≤ gb ∧ gb < wr.heap.size
theorem SigInv.call {w wr w2 : World} {gb : Nat} {wd : Int} {v : Value} (h : SigInv w wr gb wd v) (hg : wr.grownBy w2 (some (w.heap.size + 1))) : SigInv w w2 gb wd v := by
  obtain ⟨s1, s2⟩ := h.sz
  have hz := hg.size
  have n1 : w.heap.size ≠ w.heap.size + 1 := by omega
  have n3 : gb ≠ w.heap.size + 1 := by omega
  exact ⟨⟨hg.os.trans h.hb.os, hg.tape.trans h.hb.tape, hg.output.trans h.hb.output, Nat.le_trans h.hb.size hg.size, fun k hk => (hg.block k (by omega) (by simp; omega)).trans (h.hb.block k hk)⟩,
    gcell hg n1 h.p0, gcell hg n1 h.p1, gfroz hg n1 h.p0 h.fp0, gfroz hg n1 h.p1 h.fp1, gcell hg n3 h.g0, gcell hg n3 h.g1, by omega⟩

end Go.Proofs.YtfhhcfcjhlkdoaaGreat.Sp

namespace Go.Proofs.YtfhhcfcjhlkdoaaGreat.Sp
open Go.RowKit
set_option linter.unusedVariables false
attribute [local go_sem ↓] Go.wp_at_zero Go.wp_at_succ

end Go.Proofs.YtfhhcfcjhlkdoaaGreat.Sp

namespace Go.Proofs.YtfhhcfcjhlkdoaaGreat.Sp
open Go.RowKit
set_option linter.unusedVariables false
attribute [local go_sem ↓] Go.wp_at_zero Go.wp_at_succ

/-- Cells that may be written. -/
def UnF (w : World) (a : Option Addr) (xs : List (Int × Int)) : Prop := ∀ b off, a = some ⟨b, off, none⟩ → ∀ i, i < xs.length → w.frozen? ⟨b, off + i * 2, none⟩ = false ∧ w.frozen? ⟨b, off + i * 2 + 1, none⟩ = false
theorem UnF.set {w : World} {a : Option Addr} {xs : List (Int × Int)} (h : UnF w a xs) {p : Addr} {u : Value} : UnF (w.setCell p u) a xs := by
  intro b off e i hi
  obtain ⟨h1, h2⟩ := h b off e i hi
  rw [World.frozen?_setCell, World.frozen?_setCell]
  exact ⟨h1, h2⟩
theorem UnF.below {w w' : World} {a : Option Addr} {xs : List (Int × Int)} (h : UnF w a xs) (hC : CellsAt w a xs) (hb : Below w.heap.size w w') : UnF w' a xs := by
  intro b off e i hi
  obtain ⟨h1, h2⟩ := h b off e i hi
  rcases hC with q | ⟨b', off', e', hbl, hc⟩
  · rw [q] at hi; simp at hi
  · rw [e] at e'
    simp only [Option.some.injEq, Addr.mk.injEq, and_true] at e'
    obtain ⟨rfl, rfl⟩ := e'
    exact ⟨keepf hb (hc i hi).1 h1, keepf hb (hc i hi).2 h2⟩
theorem UnF.grown {w w' : World} {a : Option Addr} {xs : List (Int × Int)} {rb : Nat} (h : UnF w a xs) (hC : CellsAt w a xs) (hg : w.grownBy w' (some rb)) (hne : ∀ b off, a = some ⟨b, off, none⟩ → b ≠ rb) : UnF w' a xs := by
  intro b off e i hi
  obtain ⟨h1, h2⟩ := h b off e i hi
  have hn := hne b off e
  rcases hC with q | ⟨b', off', e', hbl, hc⟩
  · rw [q] at hi; simp at hi
  · rw [e] at e'
    simp only [Option.some.injEq, Addr.mk.injEq, and_true] at e'
    obtain ⟨rfl, rfl⟩ := e'
    exact ⟨gfroz hg hn (hc i hi).1 h1, gfroz hg hn (hc i hi).2 h2⟩
end Go.Proofs.YtfhhcfcjhlkdoaaGreat.Sp

namespace Go.Proofs.YtfhhcfcjhlkdoaaGreat.Sp
open Go.RowKit
set_option linter.unusedVariables false
attribute [local go_sem ↓] Go.wp_at_zero Go.wp_at_succ

theorem SigInv.below {w wr w2 : World} {gb : Nat} {wd : Int} {v : Value} (h : SigInv w wr gb wd v) (hb : Below wr.heap.size wr w2) : SigInv w w2 gb wd v := by
  obtain ⟨s1, s2⟩ := h.sz
  have hz := hb.size
  exact ⟨bcall h.hb h.hb.size hb, keepc hb h.p0, keepc hb h.p1, keepf hb h.p0 h.fp0, keepf hb h.p1 h.fp1, keepc hb h.g0, keepc hb h.g1, by omega⟩
theorem SigInv.set {w wr : World} {gb : Nat} {wd : Int} {v : Value} (h : SigInv w wr gb wd v) {b j : Nat} (h1 : w.heap.size < b) (h2 : b ≠ gb) (u : Value) : SigInv w (wr.setCell ⟨b, j, none⟩ u) gb wd v := by
  have n1 : w.heap.size ≠ b := by omega
  have n2 : gb ≠ b := fun e => h2 e.symm
  exact ⟨h.hb.setCell (p := ⟨b, j, none⟩) (by show w.heap.size ≤ b; omega) _, setc n1 h.p0, setc n1 h.p1, setf n1 h.fp0, setf n1 h.fp1, setc n2 h.g0, setc n2 h.g1, by simpa using h.sz⟩

/-- What stands while a grid is drawn and written. -/
structure DI (w wr : World) (gb : Nat) (wd : Int) (a : Option Addr) (c : Nat) (xs : List (Int × Int)) (P : Nat) : Prop where
  sig : SigInv w wr gb wd (.slice a xs.length c)
  rd : RdQ wr (w.heap.size + 1) (w.heap.size + 1 + 1) P
  cells : CellsAt wr a xs
  unf : UnF wr a xs
  new : ∀ b off, a = some ⟨b, off, none⟩ → xs ≠ [] → w.heap.size + 2 ≤ b ∧ b ≠ gb
theorem DI.lt {w wr : World} {gb : Nat} {wd : Int} {a : Option Addr} {c : Nat} {xs : List (Int × Int)} {P : Nat} (h : DI w wr gb wd a c xs P) : w.heap.size + 1 + 1 ≤ wr.heap.size := by have := h.sig.sz; omega
theorem DI.more {w wr : World} {gb : Nat} {wd : Int} {a : Option Addr} {c : Nat} {xs : List (Int × Int)} {P P' : Nat} (h : DI w wr gb wd a c xs P) (hp : P ≤ P') : DI w wr gb wd a c xs P' := ⟨h.sig, h.rd.more hp, h.cells, h.unf, h.new⟩
theorem DI.call {w wr w2 : World} {gb : Nat} {wd : Int} {a : Option Addr} {c : Nat} {xs : List (Int × Int)} {P P' : Nat} (h : DI w wr gb wd a c xs P) (hg : wr.grownBy w2 (some (w.heap.size + 1))) (hr : RdQ w2 (w.heap.size + 1) (w.heap.size + 1 + 1) P') : DI w w2 gb wd a c xs P' :=
  ⟨h.sig.call hg, hr, by
    by_cases hx : xs = []
    · exact Or.inl hx
    · exact h.cells.grown hg (fun b off e => by have := h.new b off e hx; omega), by
    by_cases hx : xs = []
    · intro b off e i hi; rw [hx] at hi; simp at hi
    · exact h.unf.grown h.cells hg (fun b off e => by have := h.new b off e hx; omega), h.new⟩
theorem DI.below {w wr w2 : World} {gb : Nat} {wd : Int} {a : Option Addr} {c : Nat} {xs : List (Int × Int)} {P : Nat} (h : DI w wr gb wd a c xs P) (hb : Below wr.heap.size wr w2) : DI w w2 gb wd a c xs P :=
  ⟨h.sig.below hb, h.rd.below (hb.mono h.lt), h.cells.below hb, h.unf.below h.cells hb, h.new⟩
/-- A cell is put. -/
theorem DI.put {w wr : World} {gb : Nat} {wd : Int} {b off : Nat} {c : Nat} {xs : List (Int × Int)} {P : Nat} (h : DI w wr gb wd (some ⟨b, off, none⟩) c xs P) (i : Nat) (hi : i < xs.length) (k l : Int) :
    DI w ((wr.setCell ⟨b, off + i * 2, none⟩ (.int .i64 k)).setCell ⟨b, off + i * 2 + 1, none⟩ (.int .i64 l)) gb wd (some ⟨b, off, none⟩) c (xs.set i (k, l)) P := by
  have hx : xs ≠ [] := by intro q; rw [q] at hi; simp at hi
  obtain ⟨n1, n2⟩ := h.new b off rfl hx
  have hlen : (xs.set i (k, l)).length = xs.length := by simp
  have hb2 : Below (w.heap.size + 1 + 1) wr ((wr.setCell ⟨b, off + i * 2, none⟩ (.int .i64 k)).setCell ⟨b, off + i * 2 + 1, none⟩ (.int .i64 l)) :=
    ((Below.refl _ _).setCell (p := ⟨b, off + i * 2, none⟩) (by show w.heap.size + 1 + 1 ≤ b; omega) _).setCell (p := ⟨b, off + i * 2 + 1, none⟩) (by show w.heap.size + 1 + 1 ≤ b; omega) _
  refine ⟨?_, h.rd.below hb2, ?_, ?_, fun b' off' e _ => h.new b' off' e hx⟩
  · rw [hlen]
    exact (h.sig.set (by omega) n2 _).set (by omega) n2 _
  · rcases h.cells with q | ⟨b', off', e, hbl, hc⟩
    · rw [q] at hi; simp at hi
    · simp only [Option.some.injEq, Addr.mk.injEq, and_true] at e
      obtain ⟨rfl, rfl⟩ := e
      refine Or.inr ⟨b, off, rfl, by simpa using hbl, fun j hj => ?_⟩
      rw [hlen] at hj
      by_cases e : j = i
      · subst e
        have g : (xs.set j (k, l)).getD j (0, 0) = (k, l) := by simp [hj]
        rw [g]
        refine ⟨?_, ?_⟩
        · exact setO (by omega) (World.cell?_setCell_same _ _ _ (by rw [(hc j hj).1]))
        · exact World.cell?_setCell_same _ _ _ (by rw [setO (show off + j * 2 + 1 ≠ off + j * 2 by omega) (hc j hj).2])
      · have g : (xs.set i (k, l)).getD j (0, 0) = xs.getD j (0, 0) := by simp [Ne.symm e]
        rw [g]
        exact ⟨setO (by omega) (setO (by omega) (hc j hj).1), setO (by omega) (setO (by omega) (hc j hj).2)⟩
  · intro b' off' e j hj
    rw [hlen] at hj
    exact h.unf.set.set b' off' e j hj
/-- The cell at a place. -/
theorem DI.at {w wr : World} {gb : Nat} {wd : Int} {a : Option Addr} {c : Nat} {xs : List (Int × Int)} {P : Nat} (h : DI w wr gb wd a c xs P) (i : Nat) (hi : i < xs.length) :
    ∃ b off, a = some ⟨b, off, none⟩ ∧ (∃ u, wr.cell? ⟨b, off + i * 2, none⟩ = some (.int .i64 u)) ∧ (∃ u, wr.cell? ⟨b, off + i * 2 + 1, none⟩ = some (.int .i64 u)) ∧ wr.frozen? ⟨b, off + i * 2, none⟩ = false ∧ wr.frozen? ⟨b, off + i * 2 + 1, none⟩ = false := by
  rcases h.cells with q | ⟨b, off, e, hbl, hc⟩
  · rw [q] at hi; simp at hi
  · obtain ⟨f1, f2⟩ := h.unf b off e i hi
    exact ⟨b, off, e, ⟨_, (hc i hi).1⟩, ⟨_, (hc i hi).2⟩, f1, f2⟩

end Go.Proofs.YtfhhcfcjhlkdoaaGreat.Sp
