/-
  What bytes that came in are: opened once into plain numbers and the memory that holds them.
-/
import Derived.Test.YtjlnfcnmlloblaaRows
import Derived.Test.YtjlnfcnmlloblaaJr
import Derived.ProofKit
import Derived.OpenShut
import Derived.Carry
namespace Go.Proofs.Ytjlnfcnmlloblaa
open Go.ChangeShapes Go.WideShapes Go.ChangeAt Go.RowKit

theorem own : ownKnob Try.prog.godebug = none := by kernel_rfl
theorem laidOut : laidOutB Try.prog = true := by kernel_rfl
theorem cellsU8 : Try.prog.cellsOf 5 = 1 := by kernel_rfl

set_option maxRecDepth 20000 in
theorem open_bytes {H : Type} {enc : TypeId × Value → H} {W : World} {base : Nat} {v : Value} {d : DataW H} {p : List MemPlace}
    (hv : Value.okWide Try.prog W .any base 22 v) (h : DataW.Trod enc Try.prog W 0 (fun _ => true) true 22 v d p) :
    ∃ a n cap f, v = .slice a n cap ∧ BytesAt W a n f ∧ (n ≤ cap ∧ cap ≤ 9223372036854775807) := by
  obtain ⟨a0, len, cap, rfl⟩ := okWide_slice Try.underlying22 hv
  obtain ⟨fuel, hf⟩ := h
  rcases open_ints Try.underlying22 Try.underlying5 cellsU8 hf with ⟨hcs, _⟩ | ⟨x, l, c, zs, hcs, _, hl, hm, hz, _, hcell, hwz⟩
  · simp [Value.cells] at hcs
    obtain ⟨rfl, rfl, rfl⟩ := hcs
    exact ⟨none, 0, 0, fun _ => 0, rfl, ⟨fun _ => by simp, Or.inl rfl⟩, by omega⟩
  · simp [Value.cells] at hcs
    obtain ⟨rfl, rfl, rfl⟩ := hcs
    have hzl : zs.length = cap := by simpa using hz
    refine ⟨some x, len, cap, fun i => zs.getD i 0, rfl, ⟨fun i => ?_, ?_⟩, hl, by unfold maxLen at hm; omega⟩
    · by_cases hi : i < zs.length
      · have := hwz zs[i] (List.getElem_mem hi)
        simp [Lit.wf, IntKind.min, IntKind.max, IntKind.signed, IntKind.bits] at this
        simp [hi]
        omega
      · simp [hi]
    · by_cases h0 : len = 0
      · exact Or.inl h0
      · obtain ⟨b, off, spot⟩ := x
        have hs : spot = none := by simpa [Addr.add] using World.cell?_spot (hcell 0 (by omega))
        subst hs
        have hadd : ∀ j, (⟨b, off, none⟩ : Addr).add j = ⟨b, off + j, none⟩ := by intro j; unfold Addr.add; split <;> simp_all
        refine Or.inr ⟨b, off, rfl, ?_, fun i hi => ?_⟩
        · have h1 := hcell 0 (by omega)
          rw [hadd] at h1
          exact World.block_lt_of_cell? W _ h1
        · have h1 := hcell i (by omega)
          rw [hadd] at h1
          exact h1

end Go.Proofs.Ytjlnfcnmlloblaa
