/-
  Several texts in one: Xj.
-/
import Derived.Test.YtmnninhifiajhaaJl
import Derived.Test.YtmnninhifiajhaaJa

/-
  spec.l11Foot: the places that are visited, ascending, each once, in new memory.
-/
namespace Go.Proofs.Ytmnninhifiajhaa
open Go.RowKit
set_option linter.unusedVariables false

theorem infoIntF : (Try.prog.info? 3).map (fun i => (i.zero, i.size, i.bytes)) = some (some (.int .i64 0), 1, 8) := by kernel_rfl
theorem infoBoolF : (Try.prog.info? 4).map (fun i => (i.zero, i.size, i.bytes)) = some (some (.bool false), 1, 1) := by kernel_rfl
/-- The row at g holds c 0, c 1 and so on, m of them. -/
structure RowV (w : World) (g m : Nat) (c : Nat → Value) : Prop where
  lt : g < w.heap.size
  at' : ∀ i, i < m → w.cell? ⟨g, i, none⟩ = some (c i)
  fz : ∀ i, i < m → w.frozen? ⟨g, i, none⟩ = false
theorem rowV_new (w : World) (m : Nat) (z : Value) (t : TypeId) : RowV (w.alloc (.cells (madeCells #[z] m) t)) w.heap.size m (fun _ => z) := by
  refine ⟨by simp, fun i hi => ?_, fun i hi => ?_⟩
  · rw [World.cell?_alloc_at _ _ _ _ rfl]
    simp [madeCells, hi, Nat.mod_one]
  · simp [go_sem]
theorem RowV.below {w w' : World} {g m : Nat} {c : Nat → Value} (h : RowV w g m c) (hb : Below w.heap.size w w') : RowV w' g m c :=
  ⟨Nat.lt_of_lt_of_le h.lt hb.size, fun i hi => keepc hb (h.at' i hi), fun i hi => keepf hb (h.at' i hi) (h.fz i hi)⟩
theorem RowV.grown {w w' : World} {g m : Nat} {c : Nat → Value} {r : Option Nat} (h : RowV w g m c) (hg : w.grownBy w' r) (hne : some g ≠ r) : RowV w' g m c :=
  ⟨Nat.lt_of_lt_of_le h.lt hg.size, fun i hi => hg.cell (h.at' i hi) hne, fun i hi => (hg.frozen_far ⟨g, i, none⟩ h.lt hne).trans (h.fz i hi)⟩
theorem RowV.put {w : World} {g m : Nat} {c c' : Nat → Value} (h : RowV w g m c) (i : Nat) (v : Value) (hi : i < m) (h1 : c' i = v) (h2 : ∀ j, j < m → j ≠ i → c' j = c j) : RowV (w.setCell ⟨g, i, none⟩ v) g m c' := by
  refine ⟨by simpa using h.lt, fun j hj => ?_, fun j hj => ?_⟩
  · by_cases e : j = i
    · subst e
      rw [World.cell?_setCell_same _ _ _ (by rw [h.at' j hj]), h1]
    · have q : (⟨g, i, none⟩ : Addr) ≠ ⟨g, j, none⟩ := fun z => e (Addr.mk.inj z).2.1.symm
      rw [World.cell?_setCell_other _ _ _ _ q, h2 j hj e]
      exact h.at' j hj
  · simpa using h.fz j hj
theorem RowV.like {w : World} {g m : Nat} {c c' : Nat → Value} (h : RowV w g m c) (h2 : ∀ j, j < m → c' j = c j) : RowV w g m c' :=
  ⟨h.lt, fun j hj => by rw [h2 j hj]; exact h.at' j hj, h.fz⟩

/-- Numbers in memory that is owned. -/
def intsV (xs : List Int) : List Value := xs.map fun x => .int .i64 x
def OwnI (w : World) (B : Nat) (v : Value) (xs : List Int) : Prop := w.ownsRow B 3 1 v xs.length (intsV xs)
theorem ownsRow_mono {w : World} {B B' : Nat} {e : TypeId} {s : Nat} {v : Value} {n : Nat} {xs : List Value} (h : w.ownsRow B e s v n xs) (hB : B' ≤ B) : w.ownsRow B' e s v n xs := by
  obtain ⟨h1, h2⟩ := h
  refine ⟨h1, ?_⟩
  rcases h2 with h2 | ⟨g, cap, cur, hv, hg, r⟩
  · exact Or.inl h2
  · exact Or.inr ⟨g, cap, cur, hv, Nat.le_trans hB hg, r⟩

/-- Whether a place is visited; the places that are, of the first so many. -/
def seenAt (vs : List (Int × Int × Int)) (i : Nat) : Bool := vs.any fun u => u.1 == (i : Int)
def footL (n : Nat) (vs : List (Int × Int × Int)) : List Int := ((List.range n).filter fun i => seenAt vs i).map fun (i : Nat) => (i : Int)
theorem foot_step (vs : List (Int × Int × Int)) (i : Nat) : footL (i + 1) vs = if seenAt vs i = true then footL i vs ++ [(i : Int)] else footL i vs := by
  unfold footL
  rw [List.range_succ, List.filter_append, List.map_append]
  split
  · next h => simp [h]
  · next h => simp [h]
theorem foot_le (n : Nat) (vs : List (Int × Int × Int)) : (footL n vs).length ≤ n := by
  unfold footL
  rw [List.length_map]
  exact Nat.le_trans (List.length_filter_le _ _) (by simp)

end Go.Proofs.Ytmnninhifiajhaa
