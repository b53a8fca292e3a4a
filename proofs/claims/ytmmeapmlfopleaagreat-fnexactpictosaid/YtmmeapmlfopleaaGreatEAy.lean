/- Of the proof: PJr, PJs, PDy, PDz -/
import Derived.Deep.QuietTactic
import Derived.Laws.Bits64
import Derived.Deep.RegionLaw
import Derived.Deep.DrawnRows
import Derived.Test.YtmmeapmlfopleaaGreatEAw
set_option linter.unusedVariables false
namespace Go.Proofs.YtmmeapmlfopleaaGreat
namespace Sp
open Go.RowKit
structure Rd (w : World) (rb : Nat) (a : Option Addr) (b off n cap : Nat) (f : Nat -> Int) (p : Nat) : Prop where
 c0 : w.cell? ⟨rb, 0, none⟩ = some (.slice a n cap)
 c1 : w.cell? ⟨rb, 1, none⟩ = some (.int .i64 (p : Int))
 fr : w.frozen? ⟨rb, 1, none⟩ = false
 ha : 0 < n -> a = some ⟨b, off, none⟩
 bytes : ∀ i, i < n -> w.cell? ⟨b, off + i, none⟩ = some (.int .u8 (f i))
 range : ∀ i, 0 <= f i /\ f i <= 255
 ne : 0 < n -> b ≠ rb
 hn : n <= 2000
theorem Rd.kept {w w' : World} {rb : Nat} {a : Option Addr} {b off n cap : Nat} {f : Nat -> Int} {p : Nat} (h : Rd w rb a b off n cap f p) (hb : Below w.heap.size w w') : Rd w' rb a b off n cap f p :=
 ⟨keepc hb h.c0, keepc hb h.c1, keepf hb h.c1 h.fr, h.ha, fun i hi => keepc hb (h.bytes i hi), h.range, h.ne, h.hn⟩
theorem picks {w w' w2 : World} {rb : Nat} (h : w.grownBy w' (some rb)) (h2 : w'.grownBy w2 (some rb)) : w.grownBy w2 (some rb) :=
 ⟨h2.os.trans h.os, h2.tape.trans h.tape, h2.output.trans h.output, Nat.le_trans h.size h2.size, fun k hk hne => (h2.block k (Nat.lt_of_lt_of_le hk h.size) hne).trans (h.block k hk hne)⟩
theorem picksB {w w' w2 : World} {rb : Nat} (h : w.grownBy w' (some rb)) (h2 : Below w'.heap.size w' w2) : w.grownBy w2 (some rb) :=
 ⟨h2.os.trans h.os, h2.tape.trans h.tape, h2.output.trans h.output, Nat.le_trans h.size h2.size, fun k hk hne => (h2.block k (Nat.lt_of_lt_of_le hk h.size)).trans (h.block k hk hne)⟩
end Sp
namespace Sp
open Go.RowKit
def RdQ (w : World) (rb L P : Nat) : Prop := ∃ a b off n cap f p, Rd w rb a b off n cap f p /\ p <= P /\ rb < L /\ (0 < n -> b < L)
theorem RdQ.below {w w' : World} {rb L P : Nat} (h : RdQ w rb L P) (hb : Below L w w') : RdQ w' rb L P := by
 obtain ⟨a, b, off, n, cap, f, p, h, hp, h1, h2⟩ := h
 exact ⟨a, b, off, n, cap, f, p, ⟨(hb.cell (p := ⟨rb, 0, none⟩) h1).trans h.c0, (hb.cell (p := ⟨rb, 1, none⟩) h1).trans h.c1, (hb.frozen (p := ⟨rb, 1, none⟩) h1).trans h.fr, h.ha, fun i hi => (hb.cell (p := ⟨b, _, none⟩) (h2 (by omega))).trans (h.bytes i hi), h.range, h.ne, h.hn⟩, hp, h1, h2⟩
theorem RdQ.more {w : World} {rb L P P' : Nat} (h : RdQ w rb L P) (hp : P <= P') : RdQ w rb L P' := by
 obtain ⟨a, b, off, n, cap, f, p, h, hq, h1, h2⟩ := h
 exact ⟨a, b, off, n, cap, f, p, h, by omega, h1, h2⟩
theorem RdQ.lt {w : World} {rb L P : Nat} (h : RdQ w rb L P) : rb < L /\ rb < w.heap.size := by
 obtain ⟨a, b, off, n, cap, f, p, h, hq, h1, h2⟩ := h
 exact ⟨h1, World.block_lt_of_cell? w _ h.c0⟩
theorem gcell {w w' : World} {rb b o : Nat} {v : Value} (hg : w.grownBy w' (some rb)) (hne : b ≠ rb) (h : w.cell? ⟨b, o, none⟩ = some v) : w'.cell? ⟨b, o, none⟩ = some v := hg.cell h (by simpa using hne)
theorem gfroz {w w' : World} {rb b o : Nat} {v : Value} {c : Bool} (hg : w.grownBy w' (some rb)) (hne : b ≠ rb) (h : w.cell? ⟨b, o, none⟩ = some v) (hf : w.frozen? ⟨b, o, none⟩ = c) : w'.frozen? ⟨b, o, none⟩ = c :=
 (World.frozen?_of_block (a := ⟨b, o, none⟩) (hg.block b (World.block_lt_of_cell? w _ h) (by simpa using hne))).trans hf
end Sp
namespace Sp
open Go.RowKit
attribute [local go_sem ↓] Go.wp_at_zero Go.wp_at_succ
def BytesAt (w : World) (a : Option Addr) (n : Nat) (f : Nat -> Int) : Prop :=
 (∀ i, 0 <= f i /\ f i <= 255) /\ (n = 0 \/ ∃ b off, a = some ⟨b, off, none⟩ /\ b < w.heap.size /\ ∀ i, i < n -> w.cell? ⟨b, off + i, none⟩ = some (.int .u8 (f i)))
theorem BytesAt.below {w w' : World} {a : Option Addr} {n : Nat} {f : Nat -> Int} (h : BytesAt w a n f) (hb : Below w.heap.size w w') : BytesAt w' a n f := by
 obtain ⟨h1, h2⟩ := h
 refine ⟨h1, ?_⟩
 rcases h2 with h2 | ⟨b, off, rfl, hbl, hc⟩
 ·exact Or.inl h2
 ·exact Or.inr ⟨b, off, rfl, Nat.lt_of_lt_of_le hbl hb.size, fun i hi => keepc hb (hc i hi)⟩
end Sp
namespace Sp
open Go.RowKit
attribute [local go_sem ↓] Go.wp_at_zero Go.wp_at_succ
theorem own_form' {w : World} {B : Nat} {e : TypeId} {size : Nat} {v : Value} {n : Nat} {xs : List Value} (h : w.ownsRow B e size v n xs) (hn : 0 < n) : ∃ g cap, v = .slice (some ⟨g, 0, none⟩) n cap /\ B <= g /\ g < w.heap.size := by
 rcases h.2 with ⟨_, h0⟩ | ⟨g, cap, cur, hv, hB, hg, _⟩
 ·omega
 ·exact ⟨g, cap, hv, hB, (Array.getElem?_eq_some_iff.1 hg).1⟩
end Sp
namespace Sp
open Go.RowKit
attribute [local go_sem ↓] Go.wp_at_zero Go.wp_at_succ
structure SomeInv (w wr : World) (rb L P ob : Nat) (wd : Int) (v : Value) : Prop where
 g : w.grownBy wr (some rb)
 rd : RdQ wr rb L P
 p4 : wr.cell? ⟨w.heap.size, 0, none⟩ = some (.int .i64 0)
 p5 : wr.cell? ⟨w.heap.size, 1, none⟩ = some (.slice none 0 0)
 f4 : wr.frozen? ⟨w.heap.size, 0, none⟩ = false
 f5 : wr.frozen? ⟨w.heap.size, 1, none⟩ = false
 o0 : wr.cell? ⟨ob, 0, none⟩ = some (.int .i64 wd)
 o1 : wr.cell? ⟨ob, 1, none⟩ = some v
 fo0 : wr.frozen? ⟨ob, 0, none⟩ = false
 fo1 : wr.frozen? ⟨ob, 1, none⟩ = false
 hL : L <= w.heap.size /\ w.heap.size < ob /\ rb < L
theorem SomeInv.call {w wr w2 : World} {rb L P P' ob : Nat} {wd : Int} {v : Value} (h : SomeInv w wr rb L P ob wd v) (hg : wr.grownBy w2 (some rb)) (hr : RdQ w2 rb L P') : SomeInv w w2 rb L P' ob wd v := by
 have hL := h.hL
 have n1 : w.heap.size ≠ rb := by omega
 have n2 : ob ≠ rb := by omega
 exact ⟨picks h.g hg, hr, gcell hg n1 h.p4, gcell hg n1 h.p5, gfroz hg n1 h.p4 h.f4, gfroz hg n1 h.p5 h.f5, gcell hg n2 h.o0, gcell hg n2 h.o1, gfroz hg n2 h.o0 h.fo0, gfroz hg n2 h.o1 h.fo1, hL⟩
theorem SomeInv.below {w wr w2 : World} {rb L P ob : Nat} {wd : Int} {v : Value} (h : SomeInv w wr rb L P ob wd v) (hb : Below wr.heap.size wr w2) : SomeInv w w2 rb L P ob wd v := by
 have hL := h.hL
 have hz := h.g.size
 exact ⟨picksB h.g hb, h.rd.below (hb.mono (by omega)), keepc hb h.p4, keepc hb h.p5, keepf hb h.p4 h.f4, keepf hb h.p5 h.f5, keepc hb h.o0, keepc hb h.o1, keepf hb h.o0 h.fo0, keepf hb h.o1 h.fo1, hL⟩
theorem CellsAt.grown {w w' : World} {a : Option Addr} {cs : List (Int × Int)} {rb : Nat} (h : CellsAt w a cs) (hg : w.grownBy w' (some rb)) (hne : ∀ b off, a = some ⟨b, off, none⟩ -> b ≠ rb) : CellsAt w' a cs := by
 rcases h with h | ⟨b, off, rfl, hbl, hc⟩
 ·exact Or.inl h
 ·refine Or.inr ⟨b, off, rfl, Nat.lt_of_lt_of_le hbl hg.size, fun i hi => ?_⟩
  have := hne b off rfl
  exact ⟨gcell hg this (hc i hi).1, gcell hg this (hc i hi).2⟩
end Sp
namespace Sp
open Go.RowKit
attribute [local go_sem ↓] Go.wp_at_zero Go.wp_at_succ
end Sp
namespace Sp
open Go.RowKit
attribute [local go_sem ↓] Go.wp_at_zero Go.wp_at_succ
structure SigInv (w wr : World) (gb : Nat) (wd : Int) (v : Value) : Prop where
 hb : Below w.heap.size w wr
 p0 : wr.cell? ⟨w.heap.size, 0, none⟩ = some (.int .i64 0)
 p1 : wr.cell? ⟨w.heap.size, 1, none⟩ = some (.slice none 0 0)
 fp0 : wr.frozen? ⟨w.heap.size, 0, none⟩ = false
 fp1 : wr.frozen? ⟨w.heap.size, 1, none⟩ = false
 g0 : wr.cell? ⟨gb, 0, none⟩ = some (.int .i64 wd)
 g1 : wr.cell? ⟨gb, 1, none⟩ = some v
 sz : w.heap.size + 2 <= gb /\ gb < wr.heap.size
theorem SigInv.call {w wr w2 : World} {gb : Nat} {wd : Int} {v : Value} (h : SigInv w wr gb wd v) (hg : wr.grownBy w2 (some (w.heap.size + 1))) : SigInv w w2 gb wd v := by
 obtain ⟨s1, s2⟩ := h.sz
 have hz := hg.size
 have n1 : w.heap.size ≠ w.heap.size + 1 := by omega
 have n3 : gb ≠ w.heap.size + 1 := by omega
 exact ⟨⟨hg.os.trans h.hb.os, hg.tape.trans h.hb.tape, hg.output.trans h.hb.output, Nat.le_trans h.hb.size hg.size, fun k hk => (hg.block k (by omega) (by simp; omega)).trans (h.hb.block k hk)⟩,
  gcell hg n1 h.p0, gcell hg n1 h.p1, gfroz hg n1 h.p0 h.fp0, gfroz hg n1 h.p1 h.fp1, gcell hg n3 h.g0, gcell hg n3 h.g1, by omega⟩
end Sp
namespace Sp
open Go.RowKit
attribute [local go_sem ↓] Go.wp_at_zero Go.wp_at_succ
end Sp
namespace Sp
open Go.RowKit
attribute [local go_sem ↓] Go.wp_at_zero Go.wp_at_succ
def UnF (w : World) (a : Option Addr) (xs : List (Int × Int)) : Prop := ∀ b off, a = some ⟨b, off, none⟩ -> ∀ i, i < xs.length -> w.frozen? ⟨b, off + i * 2, none⟩ = false /\ w.frozen? ⟨b, off + i * 2 + 1, none⟩ = false
theorem UnF.set {w : World} {a : Option Addr} {xs : List (Int × Int)} (h : UnF w a xs) {p : Addr} {u : Value} : UnF (w.setCell p u) a xs := by
 intro b off e i hi
 obtain ⟨h1, h2⟩ := h b off e i hi
 rw [World.frozen?_setCell, World.frozen?_setCell]
 exact ⟨h1, h2⟩
theorem UnF.below {w w' : World} {a : Option Addr} {xs : List (Int × Int)} (h : UnF w a xs) (hC : CellsAt w a xs) (hb : Below w.heap.size w w') : UnF w' a xs := by
 intro b off e i hi
 obtain ⟨h1, h2⟩ := h b off e i hi
 rcases hC with q | ⟨b', off', e', hbl, hc⟩
 ·rw [q] at hi; simp at hi
 ·rw [e] at e'
  simp only [Option.some.injEq, Addr.mk.injEq, and_true] at e'
  obtain ⟨rfl, rfl⟩ := e'
  exact ⟨keepf hb (hc i hi).1 h1, keepf hb (hc i hi).2 h2⟩
theorem UnF.grown {w w' : World} {a : Option Addr} {xs : List (Int × Int)} {rb : Nat} (h : UnF w a xs) (hC : CellsAt w a xs) (hg : w.grownBy w' (some rb)) (hne : ∀ b off, a = some ⟨b, off, none⟩ -> b ≠ rb) : UnF w' a xs := by
 intro b off e i hi
 obtain ⟨h1, h2⟩ := h b off e i hi
 have hn := hne b off e
 rcases hC with q | ⟨b', off', e', hbl, hc⟩
 ·rw [q] at hi; simp at hi
 ·rw [e] at e'
  simp only [Option.some.injEq, Addr.mk.injEq, and_true] at e'
  obtain ⟨rfl, rfl⟩ := e'
  exact ⟨gfroz hg hn (hc i hi).1 h1, gfroz hg hn (hc i hi).2 h2⟩
end Sp
namespace Sp
open Go.RowKit
attribute [local go_sem ↓] Go.wp_at_zero Go.wp_at_succ
theorem SigInv.below {w wr w2 : World} {gb : Nat} {wd : Int} {v : Value} (h : SigInv w wr gb wd v) (hb : Below wr.heap.size wr w2) : SigInv w w2 gb wd v := by
 obtain ⟨s1, s2⟩ := h.sz
 have hz := hb.size
 exact ⟨bcall h.hb h.hb.size hb, keepc hb h.p0, keepc hb h.p1, keepf hb h.p0 h.fp0, keepf hb h.p1 h.fp1, keepc hb h.g0, keepc hb h.g1, by omega⟩
theorem SigInv.set {w wr : World} {gb : Nat} {wd : Int} {v : Value} (h : SigInv w wr gb wd v) {b j : Nat} (h1 : w.heap.size < b) (h2 : b ≠ gb) (u : Value) : SigInv w (wr.setCell ⟨b, j, none⟩ u) gb wd v := by
 have n1 : w.heap.size ≠ b := by omega
 have n2 : gb ≠ b := fun e => h2 e.symm
 exact ⟨h.hb.setCell (p := ⟨b, j, none⟩) (by show w.heap.size <= b; omega) _, setc n1 h.p0, setc n1 h.p1, setf n1 h.fp0, setf n1 h.fp1, setc n2 h.g0, setc n2 h.g1, by simpa using h.sz⟩
structure DI (w wr : World) (gb : Nat) (wd : Int) (a : Option Addr) (c : Nat) (xs : List (Int × Int)) (P : Nat) : Prop where
 sig : SigInv w wr gb wd (.slice a xs.length c)
 rd : RdQ wr (w.heap.size + 1) (w.heap.size + 1 + 1) P
 cells : CellsAt wr a xs
 unf : UnF wr a xs
 new : ∀ b off, a = some ⟨b, off, none⟩ -> xs ≠ [] -> w.heap.size + 2 <= b /\ b ≠ gb
theorem DI.lt {w wr : World} {gb : Nat} {wd : Int} {a : Option Addr} {c : Nat} {xs : List (Int × Int)} {P : Nat} (h : DI w wr gb wd a c xs P) : w.heap.size + 1 + 1 <= wr.heap.size := by have := h.sig.sz; omega
theorem DI.more {w wr : World} {gb : Nat} {wd : Int} {a : Option Addr} {c : Nat} {xs : List (Int × Int)} {P P' : Nat} (h : DI w wr gb wd a c xs P) (hp : P <= P') : DI w wr gb wd a c xs P' := ⟨h.sig, h.rd.more hp, h.cells, h.unf, h.new⟩
theorem DI.call {w wr w2 : World} {gb : Nat} {wd : Int} {a : Option Addr} {c : Nat} {xs : List (Int × Int)} {P P' : Nat} (h : DI w wr gb wd a c xs P) (hg : wr.grownBy w2 (some (w.heap.size + 1))) (hr : RdQ w2 (w.heap.size + 1) (w.heap.size + 1 + 1) P') : DI w w2 gb wd a c xs P' :=
 ⟨h.sig.call hg, hr, by
  by_cases hx : xs = []
  ·exact Or.inl hx
  ·exact h.cells.grown hg (fun b off e => by have := h.new b off e hx; omega), by
  by_cases hx : xs = []
  ·intro b off e i hi; rw [hx] at hi; simp at hi
  ·exact h.unf.grown h.cells hg (fun b off e => by have := h.new b off e hx; omega), h.new⟩
theorem DI.below {w wr w2 : World} {gb : Nat} {wd : Int} {a : Option Addr} {c : Nat} {xs : List (Int × Int)} {P : Nat} (h : DI w wr gb wd a c xs P) (hb : Below wr.heap.size wr w2) : DI w w2 gb wd a c xs P :=
 ⟨h.sig.below hb, h.rd.below (hb.mono h.lt), h.cells.below hb, h.unf.below h.cells hb, h.new⟩
end Sp
end Go.Proofs.YtmmeapmlfopleaaGreat
