/-
  Rows of cells that a call owns: what lies in them, that they stay behind other calls, and what a store makes of them.
-/
import Derived.Test.YtankkkiccokggaaGa
namespace Go.Proofs.Ytankkkiccokggaa
open Go.RowKit

theorem infoCell : (Try.prog.info? 78).map (fun i => (i.zero, i.size, i.bytes)) = some (some (.agg #[.int .i64 0, .int .i64 0]), 2, 16) := by kernel_rfl

/-- Cells as words, two each. -/
def flat (cs : List (Int × Int)) : List Value := cs.flatMap fun c => [.int .i64 c.1, .int .i64 c.2]

/-- The slice value v owns the cells cs, in a block from B on. -/
def Own (w : World) (B : Nat) (v : Value) (cs : List (Int × Int)) : Prop := w.ownsRow B 78 2 v cs.length (flat cs)

theorem flat_len (cs : List (Int × Int)) : (flat cs).length = cs.length * 2 := by
  induction cs with
  | nil => rfl
  | cons c r ih => simp only [flat, List.flatMap_cons, List.length_append, List.length_cons, List.length_nil] at ih ⊢; omega
theorem flat_cons (c : Int × Int) (r : List (Int × Int)) : flat (c :: r) = .int .i64 c.1 :: .int .i64 c.2 :: flat r := rfl
theorem flat_append (a b : List (Int × Int)) : flat (a ++ b) = flat a ++ flat b := by simp [flat]
theorem flat_at (cs : List (Int × Int)) : ∀ i, i < cs.length → (flat cs)[i * 2]? = some (.int .i64 (cs.getD i (0, 0)).1) ∧ (flat cs)[i * 2 + 1]? = some (.int .i64 (cs.getD i (0, 0)).2) := by
  induction cs with
  | nil => intro i h; simp at h
  | cons c r ih =>
    intro i h
    cases i with
    | zero => exact ⟨rfl, rfl⟩
    | succ i =>
      have := ih i (by simpa using h)
      rw [flat_cons]
      refine ⟨?_, ?_⟩
      · rw [show (i + 1) * 2 = i * 2 + 1 + 1 by omega]; simpa using this.1
      · rw [show (i + 1) * 2 + 1 = i * 2 + 1 + 1 + 1 by omega]; simpa using this.2
theorem flat_set (cs : List (Int × Int)) : ∀ i (x y : Int), i < cs.length → ((flat cs).set (i * 2) (.int .i64 x)).set (i * 2 + 1) (.int .i64 y) = flat (cs.set i (x, y)) := by
  induction cs with
  | nil => intro i x y h; simp at h
  | cons c r ih =>
    intro i x y h
    cases i with
    | zero => rfl
    | succ i =>
      have := ih i x y (by simpa using h)
      rw [flat_cons, show (i + 1) * 2 = i * 2 + 1 + 1 by omega]
      simp only [List.set_cons_succ, flat_cons]
      rw [this]

theorem Own.below {w w' : World} {B : Nat} {v : Value} {cs : List (Int × Int)} (h : Own w B v cs) (hb : Below w.heap.size w w') : Own w' B v cs := by
  obtain ⟨h1, h2⟩ := h
  refine ⟨h1, ?_⟩
  rcases h2 with h2 | ⟨g, cap, cur, hv, hg, hh, r⟩
  · exact Or.inl h2
  · exact Or.inr ⟨g, cap, cur, hv, hg, by rw [hb.block g (Array.getElem?_eq_some_iff.1 hh).1]; exact hh, r⟩

/-- A slice value and its cells: where they lie, and that they fit. -/
theorem Own.slice {w : World} {B : Nat} {v : Value} {cs : List (Int × Int)} (h : Own w B v cs) : ∃ a cap, v = .slice a cs.length cap ∧ CellsAt w a cs := by
  obtain ⟨h1, h2⟩ := h
  rcases h2 with ⟨rfl, h2⟩ | ⟨g, cap, cur, rfl, hg, hh, r⟩
  · exact ⟨none, 0, by rw [h2], Or.inl (List.length_eq_zero_iff.1 h2)⟩
  · have hO : w.ownsRow B 78 2 (.slice (some ⟨g, 0, none⟩) cs.length cap) cs.length (flat cs) := ⟨h1, Or.inr ⟨g, cap, cur, rfl, hg, hh, r⟩⟩
    refine ⟨_, cap, rfl, Or.inr ⟨g, 0, rfl, (Array.getElem?_eq_some_iff.1 hh).1, fun i hi => ?_⟩⟩
    have := flat_at cs i hi
    rw [hO.cellAt _ (by omega), hO.cellAt _ (by omega), Nat.zero_add]
    exact this

theorem Own.lt {w : World} {B g n cap : Nat} {cs : List (Int × Int)} (h : Own w B (.slice (some ⟨g, 0, none⟩) n cap) cs) : B ≤ g ∧ g < w.heap.size :=
  World.ownsRow.lt h g rfl

theorem Own.cell {w : World} {B g n cap : Nat} {cs : List (Int × Int)} (h : Own w B (.slice (some ⟨g, 0, none⟩) n cap) cs) (hn : cs.length = n) (i : Nat) (hi : i < n) :
    w.cell? ⟨g, i * 2, none⟩ = some (.int .i64 (cs.getD i (0, 0)).1) ∧ w.cell? ⟨g, i * 2 + 1, none⟩ = some (.int .i64 (cs.getD i (0, 0)).2) ∧ w.frozen? ⟨g, i * 2, none⟩ = false ∧ w.frozen? ⟨g, i * 2 + 1, none⟩ = false := by
  subst hn
  have hO : w.ownsRow B 78 2 (.slice (some ⟨g, 0, none⟩) cs.length cap) cs.length (flat cs) := h
  have := flat_at cs i hi
  exact ⟨by rw [hO.cellAt _ (by omega)]; exact this.1, by rw [hO.cellAt _ (by omega)]; exact this.2, hO.frozenAt _, hO.frozenAt _⟩

/-- A store of both words. -/
theorem Own.set {w : World} {B g n cap : Nat} {cs : List (Int × Int)} (h : Own w B (.slice (some ⟨g, 0, none⟩) n cap) cs) (hn : cs.length = n) (i : Nat) (x y : Int) (hi : i < n) :
    Own ((w.setCell ⟨g, i * 2, none⟩ (.int .i64 x)).setCell ⟨g, i * 2 + 1, none⟩ (.int .i64 y)) B (.slice (some ⟨g, 0, none⟩) n cap) (cs.set i (x, y)) := by
  subst hn
  have hO : w.ownsRow B 78 2 (.slice (some ⟨g, 0, none⟩) cs.length cap) cs.length (flat cs) := h
  have h2 := ((hO.stored (i * 2) (.int .i64 x)).1.stored (i * 2 + 1) (.int .i64 y)).1
  rw [flat_set cs i x y hi] at h2
  unfold Own
  rw [List.length_set]
  exact h2

/-- Rows of nought. -/
theorem made_two (n : Nat) : (madeCells #[Value.int .i64 0, Value.int .i64 0] (n * 2)).toList = flat (List.replicate n (0, 0)) := by
  have h : ∀ m, flat (List.replicate m (0, 0)) = List.replicate (m * 2) (Value.int .i64 0) := by
    intro m
    induction m with
    | zero => rfl
    | succ m ih => rw [List.replicate_succ, flat_cons, ih, show (m + 1) * 2 = m * 2 + 1 + 1 by omega]; rfl
  rw [h]
  apply List.ext_getElem?
  intro j
  by_cases hj : j < n * 2
  · have : j % 2 = 0 ∨ j % 2 = 1 := by omega
    rcases this with e | e <;> simp [madeCells, hj, e]
  · simp [madeCells, hj]

theorem Own.alloc {w : World} {B : Nat} {v : Value} {cs : List (Int × Int)} (h : Own w B v cs) (o : Obj) : Own (w.alloc o) B v cs := World.ownsRow.alloc h o
theorem Own.drew {w : World} {B : Nat} {v : Value} {cs : List (Int × Int)} (h : Own w B v cs) : Own w.drew B v cs := h
theorem Own.mono {w : World} {B B' : Nat} {v : Value} {cs : List (Int × Int)} (h : Own w B v cs) (hB : B' ≤ B) : Own w B' v cs := by
  obtain ⟨h1, h2⟩ := h
  refine ⟨h1, ?_⟩
  rcases h2 with h2 | ⟨g, cap, cur, hv, hg, r⟩
  · exact Or.inl h2
  · exact Or.inr ⟨g, cap, cur, hv, by omega, r⟩

theorem CellsAt.below {w w' : World} {a : Option Addr} {cs : List (Int × Int)} (h : CellsAt w a cs) (hb : Below w.heap.size w w') : CellsAt w' a cs := by
  rcases h with h | ⟨b, off, rfl, hbl, hc⟩
  · exact Or.inl h
  · refine Or.inr ⟨b, off, rfl, Nat.lt_of_lt_of_le hbl hb.size, fun i hi => ?_⟩
    rw [hb.cell (p := ⟨b, _, none⟩) hbl, hb.cell (p := ⟨b, _, none⟩) hbl]
    exact hc i hi

theorem set_step (cs : List (Int × Int)) (k : Nat) (h : k < cs.length) : (cs.take k ++ List.replicate (cs.length - k) (0, 0)).set k (cs[k].1, cs[k].2) = cs.take (k + 1) ++ List.replicate (cs.length - (k + 1)) (0, 0) := by
  rw [List.set_append_right _ _ (by simp; omega), List.take_succ_eq_append_getElem h]
  have : (List.take k cs).length = k := by simp; omega
  rw [this, Nat.sub_self, show cs.length - k = (cs.length - (k + 1)) + 1 by omega, List.replicate_succ]
  simp only [List.set_cons_zero, List.append_assoc, List.cons_append, List.nil_append]

end Go.Proofs.Ytankkkiccokggaa
