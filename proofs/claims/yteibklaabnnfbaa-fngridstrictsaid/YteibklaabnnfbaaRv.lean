/-
  What both readings of a text answer: the same, in plain values.
-/
import Derived.Test.YteibklaabnnfbaaRu
import Derived.Test.YteibklaabnnfbaaRw
namespace Go.Proofs.Yteibklaabnnfbaa
open Go.RowKit
set_option linter.unusedVariables false

theorem own_noneR (w : World) (B : Nat) : Own w B (.slice none 0 0) [] := ⟨by simp [flat], Or.inl ⟨rfl, rfl⟩⟩
theorem read_val (t : List UInt8) : ∃ (tw : Int) (tc : List (Int × Int)) (tb : Bool), tc.length ≤ 25 ∧ (tb = true → okG tw tc = true ∧ textG tw tc = t) ∧ ∀ (e : Ending) (w' : World) (B : Nat), ReadAs t e w' B → ∃ v, e = .returned (.tuple #[.agg #[.int .i64 tw, v], .bool tb]) ∧ Own w' B v tc := by
  by_cases h : ∃ wd cs, okG wd cs = true ∧ textG wd cs = t
  · obtain ⟨wd, cs, h1, h2⟩ := h
    refine ⟨wd, cs, true, (okG_lenD wd cs h1).2.2.2, fun _ => ⟨h1, h2⟩, ?_⟩
    rintro e w' B (⟨wd2, v, ds, k1, k2, rfl, hO⟩ | ⟨k, _⟩)
    · obtain ⟨rfl, rfl⟩ := text_inj wd wd2 cs ds h1 k1 (h2.trans k2.symm)
      exact ⟨v, rfl, hO⟩
    · exact absurd h2 (k wd cs h1)
  · refine ⟨0, [], false, by simp, fun q => absurd q (by simp), ?_⟩
    rintro e w' B (⟨wd2, v, ds, k1, k2, rfl, hO⟩ | ⟨_, rfl⟩)
    · exact absurd ⟨wd2, ds, k1, k2⟩ h
    · exact ⟨_, rfl, own_noneR _ _⟩
end Go.Proofs.Yteibklaabnnfbaa
