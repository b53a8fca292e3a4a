/-
  DrawTrailLight draws a grid and a sight: the cells lie in new memory, at most 31, the sight from -1 to 20.
-/
import Derived.Test.YtnochicpkcjjlaaDoorDy
import Derived.Test.YtnochicpkcjjlaaDoorJp
import Derived.Test.YtnochicpkcjjlaaDoorJk
import Derived.Deep.DeepCutAuto
namespace Go.Proofs.YtnochicpkcjjlaaDoor
open Go.RowKit
set_option linter.unusedVariables false
attribute [local go_sem ↓] Go.wp_at_zero Go.wp_at_succ

theorem SigInv.below {w wr w2 : World} {gb : Nat} {wd : Int} {v : Value} (h : SigInv w wr gb wd v) (hb : Below wr.heap.size wr w2) : SigInv w w2 gb wd v := by
  obtain ⟨s1, s2⟩ := h.sz
  have hz := hb.size
  exact ⟨bcall h.hb h.hb.size hb, keepc hb h.p0, keepc hb h.p1, keepf hb h.p0 h.fp0, keepf hb h.p1 h.fp1, keepc hb h.g0, keepc hb h.g1, by omega⟩
theorem SigInv.set {w wr : World} {gb : Nat} {wd : Int} {v : Value} (h : SigInv w wr gb wd v) {b j : Nat} (h1 : w.heap.size < b) (h2 : b ≠ gb) (u : Value) : SigInv w (wr.setCell ⟨b, j, none⟩ u) gb wd v := by
  have n1 : w.heap.size ≠ b := by omega
  have n2 : gb ≠ b := fun e => h2 e.symm
  exact ⟨h.hb.setCell (p := ⟨b, j, none⟩) (by show w.heap.size ≤ b; omega) _, setc n1 h.p0, setc n1 h.p1, setf n1 h.fp0, setf n1 h.fp1, setc n2 h.g0, setc n2 h.g1, by simpa using h.sz⟩

/-- What stands while a grid is drawn and written. -/
structure DI (w wr : World) (gb : Nat) (wd : Int) (a : Option Addr) (c : Nat) (xs : List (Int × Int)) (P : Nat) : Prop where
  sig : SigInv w wr gb wd (.slice a xs.length c)
  rd : RdQ wr (w.heap.size + 1) (w.heap.size + 1 + 1) P
  cells : CellsAt wr a xs
  unf : UnF wr a xs
  new : ∀ b off, a = some ⟨b, off, none⟩ → xs ≠ [] → w.heap.size + 2 ≤ b ∧ b ≠ gb
theorem DI.lt {w wr : World} {gb : Nat} {wd : Int} {a : Option Addr} {c : Nat} {xs : List (Int × Int)} {P : Nat} (h : DI w wr gb wd a c xs P) : w.heap.size + 1 + 1 ≤ wr.heap.size := by have := h.sig.sz; omega
theorem DI.more {w wr : World} {gb : Nat} {wd : Int} {a : Option Addr} {c : Nat} {xs : List (Int × Int)} {P P' : Nat} (h : DI w wr gb wd a c xs P) (hp : P ≤ P') : DI w wr gb wd a c xs P' := ⟨h.sig, h.rd.more hp, h.cells, h.unf, h.new⟩
theorem DI.call {w wr w2 : World} {gb : Nat} {wd : Int} {a : Option Addr} {c : Nat} {xs : List (Int × Int)} {P P' : Nat} (h : DI w wr gb wd a c xs P) (hg : wr.grownBy w2 (some (w.heap.size + 1))) (hr : RdQ w2 (w.heap.size + 1) (w.heap.size + 1 + 1) P') : DI w w2 gb wd a c xs P' :=
  ⟨h.sig.call hg, hr, by
    by_cases hx : xs = []
    · exact Or.inl hx
    · exact h.cells.grown hg (fun b off e => by have := h.new b off e hx; omega), by
    by_cases hx : xs = []
    · intro b off e i hi; rw [hx] at hi; simp at hi
    · exact h.unf.grown h.cells hg (fun b off e => by have := h.new b off e hx; omega), h.new⟩
theorem DI.below {w wr w2 : World} {gb : Nat} {wd : Int} {a : Option Addr} {c : Nat} {xs : List (Int × Int)} {P : Nat} (h : DI w wr gb wd a c xs P) (hb : Below wr.heap.size wr w2) : DI w w2 gb wd a c xs P :=
  ⟨h.sig.below hb, h.rd.below (hb.mono h.lt), h.cells.below hb, h.unf.below h.cells hb, h.new⟩
/-- A cell is put. -/
theorem DI.put {w wr : World} {gb : Nat} {wd : Int} {b off : Nat} {c : Nat} {xs : List (Int × Int)} {P : Nat} (h : DI w wr gb wd (some ⟨b, off, none⟩) c xs P) (i : Nat) (hi : i < xs.length) (k l : Int) :
    DI w ((wr.setCell ⟨b, off + i * 2, none⟩ (.int .i64 k)).setCell ⟨b, off + i * 2 + 1, none⟩ (.int .i64 l)) gb wd (some ⟨b, off, none⟩) c (xs.set i (k, l)) P := by
  have hx : xs ≠ [] := by intro q; rw [q] at hi; simp at hi
  obtain ⟨n1, n2⟩ := h.new b off rfl hx
  have hlen : (xs.set i (k, l)).length = xs.length := by simp
  have hb2 : Below (w.heap.size + 1 + 1) wr ((wr.setCell ⟨b, off + i * 2, none⟩ (.int .i64 k)).setCell ⟨b, off + i * 2 + 1, none⟩ (.int .i64 l)) :=
    ((Below.refl _ _).setCell (p := ⟨b, off + i * 2, none⟩) (by show w.heap.size + 1 + 1 ≤ b; omega) _).setCell (p := ⟨b, off + i * 2 + 1, none⟩) (by show w.heap.size + 1 + 1 ≤ b; omega) _
  refine ⟨?_, h.rd.below hb2, ?_, ?_, fun b' off' e _ => h.new b' off' e hx⟩
  · rw [hlen]
    exact (h.sig.set (by omega) n2 _).set (by omega) n2 _
  · rcases h.cells with q | ⟨b', off', e, hbl, hc⟩
    · rw [q] at hi; simp at hi
    · simp only [Option.some.injEq, Addr.mk.injEq, and_true] at e
      obtain ⟨rfl, rfl⟩ := e
      refine Or.inr ⟨b, off, rfl, by simpa using hbl, fun j hj => ?_⟩
      rw [hlen] at hj
      by_cases e : j = i
      · subst e
        have g : (xs.set j (k, l)).getD j (0, 0) = (k, l) := by simp [hj]
        rw [g]
        refine ⟨?_, ?_⟩
        · exact setO (by omega) (World.cell?_setCell_same _ _ _ (by rw [(hc j hj).1]))
        · exact World.cell?_setCell_same _ _ _ (by rw [setO (show off + j * 2 + 1 ≠ off + j * 2 by omega) (hc j hj).2])
      · have g : (xs.set i (k, l)).getD j (0, 0) = xs.getD j (0, 0) := by simp [Ne.symm e]
        rw [g]
        exact ⟨setO (by omega) (setO (by omega) (hc j hj).1), setO (by omega) (setO (by omega) (hc j hj).2)⟩
  · intro b' off' e j hj
    rw [hlen] at hj
    exact h.unf.set.set b' off' e j hj
/-- The cell at a place. -/
theorem DI.at {w wr : World} {gb : Nat} {wd : Int} {a : Option Addr} {c : Nat} {xs : List (Int × Int)} {P : Nat} (h : DI w wr gb wd a c xs P) (i : Nat) (hi : i < xs.length) :
    ∃ b off, a = some ⟨b, off, none⟩ ∧ (∃ u, wr.cell? ⟨b, off + i * 2, none⟩ = some (.int .i64 u)) ∧ (∃ u, wr.cell? ⟨b, off + i * 2 + 1, none⟩ = some (.int .i64 u)) ∧ wr.frozen? ⟨b, off + i * 2, none⟩ = false ∧ wr.frozen? ⟨b, off + i * 2 + 1, none⟩ = false := by
  rcases h.cells with q | ⟨b, off, e, hbl, hc⟩
  · rw [q] at hi; simp at hi
  · obtain ⟨f1, f2⟩ := h.unf b off e i hi
    exact ⟨b, off, e, ⟨_, (hc i hi).1⟩, ⟨_, (hc i hi).2⟩, f1, f2⟩

end Go.Proofs.YtnochicpkcjjlaaDoor
