/-
  A copy of a row of ends, written in place.
-/
import Derived.Test.YtffjogoamobfoaaUx
import Derived.Test.YtffjogoamobfoaaUk
namespace Go.Proofs.Ytffjogoamobfoaa
open Go.RowKit
set_option linter.unusedVariables false

def Own3 (w : World) (B : Nat) (v : Value) (es : List (Int × Int × Int)) : Prop := w.ownsRow B 57 3 v es.length (flat3 es)
theorem flat3_oneY (es : List (Int × Int × Int)) : ∀ v ∈ flat3 es, v.oneCell' = true := by
  intro v hv
  simp only [flat3, List.mem_flatMap, List.mem_cons, List.not_mem_nil, or_false] at hv
  obtain ⟨c, _, rfl | rfl | rfl⟩ := hv <;> rfl
theorem src3_of {w : World} {b off : Nat} {es : List (Int × Int × Int)} (h : R3At w (some ⟨b, off, none⟩) es) : ∀ j v, (flat3 es)[j]? = some v → w.cell? ((⟨b, off, none⟩ : Addr).add j) = some v := by
  intro j v hv
  have hadd : (⟨b, off, none⟩ : Addr).add j = ⟨b, off + j, none⟩ := by unfold Addr.add; split <;> simp_all
  rw [hadd]
  have hj : j < es.length * 3 := by
    rw [← flat3_len]
    exact (List.getElem?_eq_some_iff.1 hv).1
  obtain ⟨i, hi⟩ : ∃ i, j = i * 3 ∨ j = i * 3 + 1 ∨ j = i * 3 + 2 := ⟨j / 3, by omega⟩
  have hl : i < es.length := by omega
  obtain ⟨f1, f2, f3⟩ := flat3_at es i hl
  obtain ⟨b', off', e, g1, g2, g3⟩ := h.at hl
  simp only [Option.some.injEq, Addr.mk.injEq, and_true] at e
  obtain ⟨rfl, rfl⟩ := e
  rcases hi with rfl | rfl | rfl
  · rw [f1] at hv
    rw [g1, ← hv]
  · rw [f2] at hv
    rw [← Nat.add_assoc, g2, ← hv]
  · rw [f3] at hv
    rw [← Nat.add_assoc, g3, ← hv]
theorem own3_emptyY (w : World) (B : Nat) (hB : B ≤ w.heap.size) : (w.alloc (.cells #[] 57)).ownsRow B 57 3 (.slice (some ⟨w.heap.size, 0, none⟩) 0 0) 0 [] :=
  ⟨by simp, Or.inr ⟨w.heap.size, 0, #[], rfl, hB, heap_alloc_new w _, Nat.le_refl _, by unfold maxLen; omega, by simp, by simp⟩⟩
theorem own3_firstY {w : World} {B g c : Nat} {es : List (Int × Int × Int)} (h : w.ownsRow B 57 3 (.slice (some ⟨g, 0, none⟩) (0 + es.length) c) (0 + es.length) ([] ++ flat3 es)) : Own3 w B (.slice (some ⟨g, 0, none⟩) es.length c) es := by
  unfold Own3
  simpa using h
theorem Own3.cell {w : World} {B g n cap : Nat} {es : List (Int × Int × Int)} (h : Own3 w B (.slice (some ⟨g, 0, none⟩) n cap) es) (hn : es.length = n) (i : Nat) (hi : i < n) :
    w.cell? ⟨g, i * 3, none⟩ = some (.int .i64 (es.getD i (0, 0, 0)).1) ∧ w.frozen? ⟨g, i * 3, none⟩ = false := by
  subst hn
  have hO : w.ownsRow B 57 3 (.slice (some ⟨g, 0, none⟩) es.length cap) es.length (flat3 es) := h
  have := flat3_at es i hi
  exact ⟨by rw [hO.cellAt _ (by omega)]; exact this.1, hO.frozenAt _⟩
theorem flat3_set (es : List (Int × Int × Int)) : ∀ i (x : Int), i < es.length → (flat3 es).set (i * 3) (.int .i64 x) = flat3 (es.set i (x, (es.getD i (0, 0, 0)).2)) := by
  induction es with
  | nil => intro i x h; simp at h
  | cons c r ih =>
    intro i x h
    cases i with
    | zero => rfl
    | succ i =>
      have := ih i x (by simpa using h)
      rw [show flat3 (c :: r) = .int .i64 c.1 :: .int .i64 c.2.1 :: .int .i64 c.2.2 :: flat3 r from rfl, show (i + 1) * 3 = i * 3 + 1 + 1 + 1 by omega]
      simp only [List.set_cons_succ, List.getD_cons_succ]
      rw [this]
      rfl
theorem Own3.set {w : World} {B g n cap : Nat} {es : List (Int × Int × Int)} (h : Own3 w B (.slice (some ⟨g, 0, none⟩) n cap) es) (hn : es.length = n) (i : Nat) (x : Int) (hi : i < n) :
    Own3 (w.setCell ⟨g, i * 3, none⟩ (.int .i64 x)) B (.slice (some ⟨g, 0, none⟩) n cap) (es.set i (x, (es.getD i (0, 0, 0)).2)) := by
  subst hn
  have hO : w.ownsRow B 57 3 (.slice (some ⟨g, 0, none⟩) es.length cap) es.length (flat3 es) := h
  have h2 := (hO.stored (i * 3) (.int .i64 x)).1
  rw [flat3_set es i x hi] at h2
  unfold Own3
  rw [List.length_set]
  exact h2
theorem llEnds_sameL (a a2 : Option Addr) (c c2 : Nat) (es : List (Int × Int × Int)) (n : Nat) (hn : n = es.length) (w : World) (h : R3At w a es) (h2 : R3At w a2 es) (hm : es.length ≤ 1000000) :
    Calls Try.prog 24 #[.slice a es.length c, .slice a2 n c2] w fun e w' => e = .returned (.bool true) ∧ Below w.heap.size w w' := by
  subst hn
  exact llEnds_same a a2 c c2 es w h h2 hm
end Go.Proofs.Ytffjogoamobfoaa
