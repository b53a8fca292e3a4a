/-
  Rows of records that a call owns, word by word.
-/
import Derived.Test.YtjmdlppakinboaaDoorJq
import Derived.Test.YtjmdlppakinboaaDoorJv
import Derived.Laws.OwnMore
namespace Go.Proofs.YtjmdlppakinboaaDoor
open Go.RowKit
set_option linter.unusedVariables false

/-- The slice value v owns n records of so many words, in a block from B on; F tells the words. -/
def Rec (w : World) (B : Nat) (e : TypeId) (size : Nat) (v : Value) (n : Nat) (F : Nat → Value) : Prop := w.ownsRow B e size v n ((List.range (n * size)).map F)

section
variable {w w' : World} {B : Nat} {e : TypeId} {size : Nat} {v : Value} {n : Nat} {F F' : Nat → Value}
theorem Rec.nil (w : World) (B : Nat) (e : TypeId) (size : Nat) (F : Nat → Value) : Rec w B e size (.slice none 0 0) 0 F := by
  unfold Rec
  simpa using World.ownsRow_nil w B e size
theorem Rec.to (h : Rec w B e size v n F) (q : ∀ j, j < n * size → F' j = F j) : Rec w B e size v n F' := by
  unfold Rec at *
  have : (List.range (n * size)).map F' = (List.range (n * size)).map F := List.map_congr_left fun j hj => q j (List.mem_range.1 hj)
  rw [this]
  exact h
theorem Rec.kept {row : Option Nat} (h : Rec w B e size v n F) (hg : w.grownBy w' row) (hne : ∀ k, v.ownBlock = some k → row ≠ some k) : Rec w' B e size v n F := by
  refine World.ownsRow.kept h hg ?_
  cases hv : v.ownBlock with
  | none => exact Or.inl rfl
  | some k => exact Or.inr (fun e => hne k hv e.symm)
theorem below_grown (hb : Below w.heap.size w w') : w.grownBy w' none := ⟨hb.os, hb.tape, hb.output, hb.size, fun k hk _ => hb.block k hk⟩
theorem Rec.below (h : Rec w B e size v n F) (hb : Below w.heap.size w w') : Rec w' B e size v n F := h.kept (below_grown hb) (fun k _ q => by cases q)
theorem Rec.alloc (h : Rec w B e size v n F) (o : Obj) : Rec (w.alloc o) B e size v n F := World.ownsRow.alloc h o
theorem Rec.range (h : Rec w B e size v n F) : ∀ k, v.ownBlock = some k → B ≤ k ∧ k < w.heap.size := World.ownsRow.lt h
theorem Rec.form (h : Rec w B e size v n F) : (v = .slice none 0 0 ∧ n = 0) ∨ ∃ g cap, v = .slice (some ⟨g, 0, none⟩) n cap ∧ B ≤ g ∧ g < w.heap.size := by
  rcases h.2 with h | ⟨g, cap, cur, hv, hB, hg, _⟩
  · exact Or.inl h
  · exact Or.inr ⟨g, cap, hv, hB, (Array.getElem?_eq_some_iff.1 hg).1⟩
theorem Rec.slice (h : Rec w B e size v n F) : ∃ a cap, v = .slice a n cap := by
  rcases h.form with ⟨rfl, rfl⟩ | ⟨g, cap, rfl, _⟩
  · exact ⟨_, _, rfl⟩
  · exact ⟨_, _, rfl⟩
theorem Rec.cell {g cap : Nat} (h : Rec w B e size (.slice (some ⟨g, 0, none⟩) n cap) n F) (j : Nat) (hj : j < n * size) : w.cell? ⟨g, j, none⟩ = some (F j) := by
  have hO : w.ownsRow B e size (.slice (some ⟨g, 0, none⟩) n cap) n ((List.range (n * size)).map F) := h
  rw [hO.cellAt _ hj]
  simp [hj]
theorem Rec.thaw {g cap : Nat} (h : Rec w B e size (.slice (some ⟨g, 0, none⟩) n cap) n F) (j : Nat) : w.frozen? ⟨g, j, none⟩ = false := by
  have hO : w.ownsRow B e size (.slice (some ⟨g, 0, none⟩) n cap) n ((List.range (n * size)).map F) := h
  exact hO.frozenAt j
theorem Rec.set {g cap : Nat} (h : Rec w B e size (.slice (some ⟨g, 0, none⟩) n cap) n F) (j : Nat) (x : Value) : Rec (w.setCell ⟨g, j, none⟩ x) B e size (.slice (some ⟨g, 0, none⟩) n cap) n (fun i => if i = j then x else F i) := by
  have hO : w.ownsRow B e size (.slice (some ⟨g, 0, none⟩) n cap) n ((List.range (n * size)).map F) := h
  have h2 := (hO.stored j x).1
  unfold Rec
  have : ((List.range (n * size)).map F).set j x = (List.range (n * size)).map (fun i => if i = j then x else F i) := by
    apply List.ext_getElem?
    intro i
    by_cases hi : i < n * size
    · by_cases q : i = j
      · subst q
        rw [List.getElem?_set_self (by simpa using hi)]
        simp [hi]
      · rw [List.getElem?_set_ne (Ne.symm q)]
        simp [hi, q]
    · have e1 : (((List.range (n * size)).map F).set j x)[i]? = none := List.getElem?_eq_none (by simp; omega)
      rw [e1]
      simp [hi]
  rw [this] at h2
  exact h2
theorem Rec.made (w : World) (hb : B ≤ w.heap.size) (z : Array Value) (hn : n ≤ maxLen) (hz : z.size = size) (hF : ∀ j, j < n * size → some (F j) = (madeCells z (n * size))[j]?) :
    Rec (w.alloc (.cells (madeCells z (n * size)) e)) B e size (.slice (some ⟨w.heap.size, 0, none⟩) n n) n F := by
  have h := World.ownsRow_lit (base := B) (e := e) (size := size) w (madeCells z (n * size)) n hb hn (by simp [madeCells])
  unfold Rec
  have q : (List.range (n * size)).map F = (madeCells z (n * size)).toList := by
    apply List.ext_getElem?
    intro i
    by_cases hi : i < n * size
    · have := hF i hi
      simp [hi, this]
    · simp [hi, madeCells]
  rw [q]
  exact h
theorem Rec.push {v' : Value} {news : List Value} (h : w.ownsRow B e size v' (n + 1) ((List.range (n * size)).map F ++ news)) (hl : news.length = size) (q : ∀ j, j < size → some (F' (n * size + j)) = news[j]?) (q0 : ∀ j, j < n * size → F' j = F j) : Rec w B e size v' (n + 1) F' := by
  unfold Rec
  have : (List.range ((n + 1) * size)).map F' = (List.range (n * size)).map F ++ news := by
    apply List.ext_getElem?
    intro i
    have e1 : (n + 1) * size = n * size + size := by rw [Nat.add_mul, Nat.one_mul]
    by_cases hi : i < n * size
    · rw [List.getElem?_append_left (by simpa using hi)]
      simp [hi, q0 i hi, e1, Nat.lt_of_lt_of_le hi (Nat.le_add_right _ _)]
    · rw [List.getElem?_append_right (by simp; omega)]
      simp only [List.length_map, List.length_range]
      by_cases hj : i < n * size + size
      · rw [← q (i - n * size) (by omega), show n * size + (i - n * size) = i by omega]
        simp [e1, hj]
      · rw [List.getElem?_eq_none (l := news) (by omega)]
        simp [e1]; omega
  rw [this]
  exact h
end
end Go.Proofs.YtjmdlppakinboaaDoor
