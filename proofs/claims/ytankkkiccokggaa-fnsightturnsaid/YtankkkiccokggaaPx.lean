/-
  Small facts on grids and on slices of cells.
-/
import Derived.Test.YtankkkiccokggaaOb
import Derived.Test.YtankkkiccokggaaGb
namespace Go.Proofs.Ytankkkiccokggaa
open Go.RowKit

theorem okG_len (wd : Int) (cs : List (Int × Int)) (h : okG wd cs = true) : 1 ≤ wd ∧ wd ≤ 5 ∧ (cs.length : Int) % wd = 0 ∧ 1 ≤ (cs.length : Int) / wd ∧ (cs.length : Int) / wd ≤ 5 ∧ 1 ≤ cs.length ∧ cs.length ≤ 25 := by
  simp only [okG, sizeG, Bool.and_eq_true, decide_eq_true_eq] at h
  obtain ⟨⟨h1, h2, h3, h4, h5⟩, _⟩ := h
  have hd := Int.emod_add_mul_ediv (cs.length : Int) wd
  rw [h3] at hd
  rcases (show wd = 1 ∨ wd = 2 ∨ wd = 3 ∨ wd = 4 ∨ wd = 5 by omega) with rfl | rfl | rfl | rfl | rfl <;> omega

/-- A store into another block. -/
theorem Own.other {w : World} {B g n cap : Nat} {cs : List (Int × Int)} (h : Own w B (.slice (some ⟨g, 0, none⟩) n cap) cs) {p : Addr} (hne : g ≠ p.block) (u : Value) : Own (w.setCell p u) B (.slice (some ⟨g, 0, none⟩) n cap) cs := by
  obtain ⟨h1, h2⟩ := h
  refine ⟨h1, ?_⟩
  rcases h2 with ⟨h2, _⟩ | ⟨g', cap', cur, hv, hg, hh, r⟩
  · simp at h2
  · have hv' := hv
    simp only [Value.slice.injEq, Option.some.injEq, Addr.mk.injEq, and_true] at hv'
    exact Or.inr ⟨g', cap', cur, hv, hg, by rw [Below.heap_setCell _ _ _ _ (by rw [← hv'.1]; exact hne)]; exact hh, r⟩
theorem sizeCell : (Try.prog.info? 78).map (·.size) = some 2 := by kernel_rfl
theorem flat_one (cs : List (Int × Int)) : ∀ v ∈ flat cs, v.oneCell' = true := by
  intro v hv
  simp only [flat, List.mem_flatMap, List.mem_cons, List.not_mem_nil, or_false] at hv
  obtain ⟨c, _, rfl | rfl⟩ := hv <;> rfl
theorem cells_src {w : World} {b off : Nat} {cs : List (Int × Int)} (h : ∀ i, i < cs.length → w.cell? ⟨b, off + i * 2, none⟩ = some (.int .i64 (cs.getD i (0, 0)).1) ∧ w.cell? ⟨b, off + i * 2 + 1, none⟩ = some (.int .i64 (cs.getD i (0, 0)).2)) :
    ∀ j v, (flat cs)[j]? = some v → w.cell? ((⟨b, off, none⟩ : Addr).add j) = some v := by
  intro j v hv
  have hadd : (⟨b, off, none⟩ : Addr).add j = ⟨b, off + j, none⟩ := by unfold Addr.add; split <;> simp_all
  rw [hadd]
  have hj : j < cs.length * 2 := by
    rw [← flat_len]
    exact (List.getElem?_eq_some_iff.1 hv).1
  have hi : j / 2 < cs.length := by omega
  have hf := flat_at cs (j / 2) hi
  have hc := h (j / 2) hi
  rcases (show j = j / 2 * 2 ∨ j = j / 2 * 2 + 1 by omega) with e | e
  · rw [← e] at hf hc
    rw [hf.1] at hv
    rw [hc.1]; exact hv
  · rw [← e] at hf
    rw [hf.2] at hv
    rw [Nat.add_assoc, ← e] at hc
    rw [hc.2]; exact hv

end Go.Proofs.Ytankkkiccokggaa
