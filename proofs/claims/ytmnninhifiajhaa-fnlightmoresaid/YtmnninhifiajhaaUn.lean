/-
  Plain facts on trails: what does not end at a sight ends where light came.
-/
import Derived.Test.YtmnninhifiajhaaUm
namespace Go.Proofs.Ytmnninhifiajhaa
open Go.RowKit
set_option linter.unusedVariables false

def SeenT (x : Int) (t : Tr) : Prop := ∀ u ∈ t.2, u.1 ≠ 0 → u.2.1 = x ∨ ∃ v ∈ t.1, v.1 = u.2.1
theorem seenT_app {x : Int} {a b : Tr} (ha : SeenT x a) (hb : SeenT x b) : SeenT x (tapp a b) := by
  intro u hu h0
  simp only [tapp, List.mem_append] at hu ⊢
  rcases hu with q | q
  · rcases ha u q h0 with z | ⟨v, hv, e⟩
    · exact Or.inl z
    · exact Or.inr ⟨v, Or.inl hv, e⟩
  · rcases hb u q h0 with z | ⟨v, hv, e⟩
    · exact Or.inl z
    · exact Or.inr ⟨v, Or.inr hv, e⟩
theorem seenT_end (k x : Int) (n : Nat) : SeenT x (endT k x n) := by
  intro u hu h0
  unfold endT at hu
  by_cases h : n = 0
  · simp [h] at hu
  · simp only [h, if_false, List.mem_singleton] at hu
    subst hu
    exact Or.inl rfl
theorem seenT_lv {wd : Int} {cs : List (Int × Int)} {f : Nat} (ih : ∀ x d wt, ∀ u ∈ (comeT wd cs f x d wt).2, u.1 ≠ 0 → ∃ v ∈ (comeT wd cs f x d wt).1, v.1 = u.2.1) (y x e : Int) (n : Nat) : SeenT y (lvT wd cs (comeT wd cs f) x e n) := by
  unfold lvT
  by_cases h0 : n = 0
  · rw [if_pos h0]; intro u hu; simp at hu
  · rw [if_neg h0]
    split
    · intro u hu hk; exact Or.inr (ih _ _ _ u hu hk)
    · intro u hu hk
      unfold endT at hu
      simp only [h0, if_false, List.mem_singleton] at hu
      subst hu
      exact absurd rfl hk
theorem ends_seen (wd : Int) (cs : List (Int × Int)) : ∀ f x d wt, ∀ u ∈ (comeT wd cs f x d wt).2, u.1 ≠ 0 → ∃ v ∈ (comeT wd cs f x d wt).1, v.1 = u.2.1 := by
  intro f
  induction f with
  | zero => intro x d wt u hu; simp [comeT] at hu
  | succ f ih =>
    intro x d wt u hu hk
    by_cases h0 : wt = 0
    · subst h0; rw [comeT_zero] at hu; simp at hu
    · simp only [comeT] at hu ⊢
      rw [if_neg h0] at hu ⊢
      have hI : SeenT x (inCell wd cs (comeT wd cs f) x d wt) := by
        unfold inCell
        split
        · exact seenT_end _ _ _
        split
        · exact seenT_end _ _ _
        split
        · exact seenT_app (seenT_end _ _ _) (seenT_lv ih _ _ _ _)
        split
        · exact seenT_app (seenT_end _ _ _) (seenT_app (seenT_lv ih _ _ _ _) (seenT_lv ih _ _ _ _))
        · exact seenT_lv ih _ _ _ _
      simp only [tapp, List.nil_append] at hu
      rcases hI u hu hk with z | ⟨v, hv, e⟩
      · exact ⟨(x, d, (wt : Int)), by simp [tapp], z.symm⟩
      · exact ⟨v, by simp only [tapp, List.mem_append]; exact Or.inr hv, e⟩
theorem end_foot {wd : Int} {cs : List (Int × Int)} {k : Int} {u : Int × Int × Int} (hu : u ∈ (trailT wd cs k).2) (hk : u.1 ≠ 0) : u.2.1 ∈ footN wd cs k := by
  have q : ∃ v ∈ (trailT wd cs k).1, v.1 = u.2.1 := by
    unfold trailT at hu ⊢
    split at hu
    · next hs => rw [if_pos hs]; exact ends_seen wd cs 707 _ _ 64 u hu hk
    · simp at hu
  obtain ⟨v, hv, e⟩ := q
  rw [← e]
  exact mem_foot hv
end Go.Proofs.Ytmnninhifiajhaa
