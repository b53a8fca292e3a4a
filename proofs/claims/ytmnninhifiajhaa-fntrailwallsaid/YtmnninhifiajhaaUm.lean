/-
  Plain facts on trails, as the laws want them: the first visit, the foot, what a visit comes from, no cell twice.
-/
import Derived.Test.YtmnninhifiajhaaUk
import Derived.Test.YtmnninhifiajhaaJp
namespace Go.Proofs.Ytmnninhifiajhaa
open Go.RowKit
set_option linter.unusedVariables false

/-- Light comes in where it is seen. -/
theorem trail_first {wd : Int} {cs : List (Int × Int)} {k x d : Int} (hs : inS wd cs k = true) (hr : inRay wd cs k = (x, d, true)) : ∃ l, (trailT wd cs k).1 = (x, d, 64) :: l := by
  rw [trail_at hs hr, come_unf (enough_sight hr).2 (by omega)]
  exact ⟨_, rfl⟩

theorem foot_mem {wd : Int} {cs : List (Int × Int)} {k x : Int} (h : x ∈ footN wd cs k) : ∃ u ∈ (trailT wd cs k).1, u.1 = x := by
  unfold footN footL at h
  simp only [List.mem_map, List.mem_filter, List.mem_range] at h
  obtain ⟨i, ⟨_, h2⟩, rfl⟩ := h
  unfold seenAt at h2
  simp only [List.any_eq_true, beq_iff_eq] at h2
  exact h2
theorem mem_foot {wd : Int} {cs : List (Int × Int)} {k : Int} {u : Int × Int × Int} (hu : u ∈ (trailT wd cs k).1) : u.1 ∈ footN wd cs k := by
  obtain ⟨h1, _, _, _⟩ := visits_known (rfl : trailT wd cs k = trailT wd cs k)
  have hx := h1 u hu
  unfold footN footL
  simp only [List.mem_map, List.mem_filter, List.mem_range]
  refine ⟨u.1.toNat, ⟨by omega, ?_⟩, by omega⟩
  unfold seenAt
  simp only [List.any_eq_true, beq_iff_eq]
  exact ⟨u, hu, by omega⟩
theorem foot_asc (wd : Int) (cs : List (Int × Int)) (k : Int) : (footN wd cs k).Pairwise (· < ·) := by
  unfold footN footL
  rw [List.pairwise_map]
  refine List.Pairwise.imp (R := (· < ·)) (fun h => by omega) ?_
  exact List.Pairwise.sublist List.filter_sublist List.pairwise_lt_range
theorem pair_at {xs : List Int} (h : xs.Pairwise (· < ·)) {i : Nat} (hi : i + 1 < xs.length) : xs.getD i 0 < xs.getD (i + 1) 0 := by
  have := List.pairwise_iff_getElem.1 h i (i + 1) (by omega) hi (by omega)
  simpa [List.getElem?_eq_getElem hi, List.getElem?_eq_getElem (show i < xs.length by omega)] using this
theorem foot_len (wd : Int) (cs : List (Int × Int)) (k : Int) (hn : cs.length ≤ 31) : (footN wd cs k).length ≤ 31 := Nat.le_trans (foot_le _ _) hn

/-- What a visit comes from. -/
theorem trail_par {wd : Int} {cs : List (Int × Int)} {k : Int} {VS : List (Int × Int × Int)} (e : (trailT wd cs k).1 = VS) {i : Nat} (hi : i + 1 < VS.length) : ∃ n, n < i + 1 ∧ par wd cs (VS.getD n (0, 0, 0)) (VS.getD (i + 1) (0, 0, 0)) := by
  have hp : OPar wd cs VS := by
    rw [← e]
    unfold trailT
    split
    · exact come_par 707 _ _ 64
    · intro a v b q; simp at q
  have hv : VS.getD (i + 1) (0, 0, 0) = VS[i + 1] := by simp [List.getElem?_eq_getElem hi]
  have hsp : VS = VS.take (i + 1) ++ VS[i + 1] :: VS.drop (i + 2) := by
    rw [← List.drop_eq_getElem_cons hi, List.take_append_drop]
  rcases hp _ _ _ hsp with q | ⟨u, hu, q⟩
  · have := congrArg List.length q
    simp only [List.length_take, List.length_nil] at this
    omega
  · obtain ⟨n, hn, eu⟩ := List.mem_iff_getElem.1 hu
    simp only [List.length_take] at hn
    rw [List.getElem_take] at eu
    refine ⟨n, by omega, ?_⟩
    rw [hv]
    have : VS.getD n (0, 0, 0) = VS[n]'(by omega) := by simp [List.getElem?_eq_getElem (show n < VS.length by omega)]
    rw [this, eu]
    exact q

/-- In a clear grid light ends once, and comes nowhere twice the same way. -/
theorem trail_clear {wd : Int} {cs : List (Int × Int)} {k : Int} (hs : inS wd cs k = true) (hc : clearG cs) : (∃ t, (trailT wd cs k).2 = [t] ∧ t.2.2 = 64 ∧ t.1 ≠ 3) ∧
    ∀ i j, i < j → j < (trailT wd cs k).1.length → ¬ (((trailT wd cs k).1.getD i (0, 0, 0)).1 = ((trailT wd cs k).1.getD j (0, 0, 0)).1 ∧ ((trailT wd cs k).1.getD i (0, 0, 0)).2.1 = ((trailT wd cs k).1.getD j (0, 0, 0)).2.1) := by
  obtain ⟨x, d, hr⟩ := inS_ray' hs
  obtain ⟨hok, hE⟩ := enough_sight hr
  obtain ⟨⟨t, e1, e2, e3⟩, m, em, ha⟩ := clear_come hc 707 (x, d) 64 (by omega) hok hE
  have hT := trail_at hs hr
  have hf : fresh wd cs x d := by
    obtain ⟨_, q, _⟩ := back_fact hr
    exact Or.inl (by rw [q])
  refine ⟨⟨t, by rw [hT]; exact e1, by rw [e2]; rfl, by omega⟩, ?_⟩
  have hap := it_apart (wd := wd) (cs := cs) (s := (x, d)) hok hf m ha
  simp only at em
  rw [hT, em]
  intro i j hij hj
  simp only [List.length_map, List.length_range] at hj
  have g : ∀ n, n < m + 1 → ((List.range (m + 1)).map (fun i => ((itS wd cs (x, d) i).1, (itS wd cs (x, d) i).2, ((64 : Nat) : Int)))).getD n (0, 0, 0) = ((itS wd cs (x, d) n).1, (itS wd cs (x, d) n).2, ((64 : Nat) : Int)) := by
    intro n hn
    simp [hn]
  rw [g i (by omega), g j hj]
  rintro ⟨q1, q2⟩
  exact hap i j hij (by omega) (Prod.ext q1 q2)
end Go.Proofs.Ytmnninhifiajhaa
