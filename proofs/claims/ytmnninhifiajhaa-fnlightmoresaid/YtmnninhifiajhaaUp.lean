/-
  Plain facts on trails in a grid with one cell put anew: a wall, what dims, a lamp that is brighter, what is not seen.
-/
import Derived.Test.YtmnninhifiajhaaUn
import Derived.Test.YtmnninhifiajhaaMp
namespace Go.Proofs.Ytmnninhifiajhaa
open Go.RowKit
set_option linter.unusedVariables false

theorem kd_put {cs : List (Int × Int)} {X : Nat} (hX : X < cs.length) (c : Int × Int) {x : Int} (hx : 0 ≤ x) : kd (cs.set X c) x = if x = (X : Int) then c.1 else kd cs x := by
  obtain ⟨Y, rfl⟩ := Int.eq_ofNat_of_zero_le hx
  unfold kd
  simp only [Int.toNat_natCast]
  by_cases e : Y = X
  · subst e
    rw [if_pos rfl]
    simp [hX]
  · rw [if_neg (by omega)]
    simp [Ne.symm e]
/-- All that a put cell leaves. -/
theorem put_same {wd : Int} {cs : List (Int × Int)} {X : Nat} (hX : X < cs.length) (hok : okG wd cs = true) {c : Int × Int} (hc : okC c.1 c.2 = true) : okG wd (cs.set X c) = true ∧ (cs.set X c).length = cs.length ∧ (∀ k, inS wd (cs.set X c) k = inS wd cs k) ∧ (∀ k, inRay wd (cs.set X c) k = inRay wd cs k) ∧ (∀ x d, rayN wd (cs.set X c) x d = rayN wd cs x d) ∧ (∀ x d, outOf wd (cs.set X c) x d = outOf wd cs x d) := by
  have h1 := okG_set wd cs X c hok hc
  have h2 : (cs.set X c).length = cs.length := by simp
  exact ⟨h1, h2, inS_same hok h1 h2, inRay_same hok h1 h2, rayN_same hok h1 h2, outOf_same hok h1 h2⟩

/-- A wall where light comes in. -/
theorem put_wall {wd : Int} {cs : List (Int × Int)} {k x d : Int} {X : Nat} (hs : inS wd cs k = true) (hr : inRay wd cs k = (x, d, true)) (hx : x = (X : Int)) (hX : X < cs.length) :
    (trailT wd (cs.set X (1, 0)) k).2 = [(1, x, 64)] ∧ ∀ i, inS wd cs i = true → toN wd (cs.set X (1, 0)) i k = 0 := by
  obtain ⟨h1, h2, h3, h4, _, _⟩ := put_same hX (inS_ok hs) (c := (1, 0)) (by decide)
  have hk : kd (cs.set X (1, 0)) x = 1 := by rw [kd_put hX _ (by omega), if_pos hx]
  have hs' := (h3 k).trans hs
  have hr' := (h4 k).trans hr
  refine ⟨by rw [wall_ends hs' hr' hk], fun i hi => wall_none hs' hr' hk ((h3 i).trans hi)⟩

/-- What is not seen changes nothing. -/
theorem put_unseen {wd : Int} {cs : List (Int × Int)} {k : Int} {X : Nat} (hX : X < cs.length) (hok : okG wd cs = true) {c : Int × Int} (hc : okC c.1 c.2 = true) (hn : ¬ (X : Int) ∈ footN wd cs k) : trailT wd (cs.set X c) k = trailT wd cs k := by
  obtain ⟨h1, h2, _⟩ := put_same hX hok hc
  refine trail_same hok h1 h2 k (fun u hu => ?_)
  have hx := (visits_known (rfl : trailT wd cs k = trailT wd cs k)).1 u hu
  rw [kd_put hX _ hx.1, if_neg]
  intro e
  exact hn (e ▸ mem_foot hu)

/-- How much ends in a lamp. -/
def sumAt (X : Int) : List (Int × Int × Int) → Int
  | [] => 0
  | t :: r => (if t.1 = 2 ∧ t.2.1 = X then t.2.2 else 0) + sumAt X r
theorem sumAt_append (X : Int) (a b : List (Int × Int × Int)) : sumAt X (a ++ b) = sumAt X a + sumAt X b := by
  induction a with
  | nil => simp [sumAt]
  | cons t r ih => simp only [List.cons_append, sumAt, ih]; omega
theorem ltC_put {cs : List (Int × Int)} {X : Nat} (hX : X < cs.length) (c : Int × Int) {x : Int} (hx : 0 ≤ x) : ltC (cs.set X c) x = if x = (X : Int) then c.2 else ltC cs x := by
  obtain ⟨Y, rfl⟩ := Int.eq_ofNat_of_zero_le hx
  unfold ltC
  simp only [Int.toNat_natCast]
  by_cases e : Y = X
  · subst e
    rw [if_pos rfl]
    simp [hX]
  · rw [if_neg (by omega)]
    simp [Ne.symm e]
theorem sumL_more {cs : List (Int × Int)} {X : Nat} {l : Int} (hX : X < cs.length) (hl : ltC cs (X : Int) = l) : ∀ es : List (Int × Int × Int), (∀ u ∈ es, u.1 = 2 → 0 ≤ u.2.1) → sumL (cs.set X (7, l + 1)) es = sumL cs es + sumAt (X : Int) es := by
  intro es
  induction es with
  | nil => intro _; simp [sumL, sumAt]
  | cons t r ih =>
    intro h
    have h1 := ih (fun u hu => h u (by simp [hu]))
    have h2 := h t (by simp)
    simp only [sumL, sumAt, h1]
    by_cases e2 : t.1 = 2
    · rw [if_pos e2, if_pos e2, ltC_put hX _ (h2 e2)]
      by_cases ex : t.2.1 = (X : Int)
      · rw [if_pos ex, if_pos ⟨e2, ex⟩, ex, hl, Int.mul_add, Int.mul_one]
        omega
      · rw [if_neg ex, if_neg (fun q => ex q.2)]
        omega
    · rw [if_neg e2, if_neg e2, if_neg (fun q => e2 q.1)]
      omega
theorem light_more {wd : Int} {cs : List (Int × Int)} {k : Int} {X : Nat} {l : Int} (hX : X < cs.length) (hok : okG wd cs = true) (hk : cs.getD X (0, 0) = (7, l)) (hl : l < 9) : 1 ≤ l ∧ okC 7 (l + 1) = true ∧ lightN wd (cs.set X (7, l + 1)) k = lightN wd cs k + sumAt (X : Int) (trailT wd cs k).2 := by
  have hk7 : kd cs (X : Int) = 7 := by unfold kd; rw [Int.toNat_natCast, hk]
  have hlt : ltC cs (X : Int) = l := by unfold ltC; rw [Int.toNat_natCast, hk]
  have hl1 : 1 ≤ l := by
    have q := hok
    simp only [okG, Bool.and_eq_true, List.all_eq_true] at q
    have z := q.2 cs[X] (List.getElem_mem hX)
    have e : cs[X] = (7, l) := by rw [← hk]; simp [List.getElem?_eq_getElem hX]
    rw [e] at z
    simp [okC] at z
    exact z.1
  have hc : okC 7 (l + 1) = true := by simp [okC]; omega
  refine ⟨hl1, hc, ?_⟩
  obtain ⟨h1, h2, _⟩ := put_same hX hok (c := (7, l + 1)) hc
  have hT : trailT wd (cs.set X (7, l + 1)) k = trailT wd cs k := by
    refine trail_same hok h1 h2 k (fun u hu => ?_)
    have hx := (visits_known (rfl : trailT wd cs k = trailT wd cs k)).1 u hu
    rw [kd_put hX _ hx.1]
    by_cases e : u.1 = (X : Int)
    · rw [if_pos e, e, hk7]
    · rw [if_neg e]
  unfold lightN
  rw [hT]
  refine sumL_more hX hlt _ (fun u hu h2 => ?_)
  obtain ⟨ke1, _⟩ := ends_known (rfl : trailT wd cs k = trailT wd cs k)
  exact ((lamp_of hok (ke1 u hu)).2 h2).1.1

/-- Where light of half as much comes there comes light of so much. -/
theorem half_lv {wd : Int} {cs : List (Int × Int)} {f : Nat} (ih : ∀ x d wt, ∀ u ∈ (comeT wd cs f x d (wt / 2)).1, ∃ v ∈ (comeT wd cs f x d wt).1, v.1 = u.1) (x e : Int) (n : Nat) : ∀ u ∈ (lvT wd cs (comeT wd cs f) x e (n / 2)).1, ∃ v ∈ (lvT wd cs (comeT wd cs f) x e n).1, v.1 = u.1 := by
  intro u hu
  unfold lvT at hu ⊢
  by_cases h0 : n / 2 = 0
  · rw [if_pos h0] at hu; simp at hu
  · rw [if_neg h0] at hu
    rw [if_neg (by omega)]
    by_cases c : (rayN wd cs x e).2.2 = true
    · rw [if_pos c] at hu ⊢
      exact ih _ _ _ u hu
    · rw [if_neg c] at hu
      simp [endT] at hu
theorem half_come (wd : Int) (cs : List (Int × Int)) : ∀ f x d wt, ∀ u ∈ (comeT wd cs f x d (wt / 2)).1, ∃ v ∈ (comeT wd cs f x d wt).1, v.1 = u.1 := by
  intro f
  induction f with
  | zero => intro x d wt u hu; simp [comeT] at hu
  | succ f ih =>
    intro x d wt u hu
    by_cases h0 : wt / 2 = 0
    · rw [h0, comeT_zero] at hu; simp at hu
    · simp only [comeT] at hu ⊢
      rw [if_neg h0] at hu
      rw [if_neg (show ¬ wt = 0 by omega)]
      simp only [tapp, List.mem_append, List.mem_singleton] at hu ⊢
      rcases hu with rfl | hu
      · exact ⟨_, Or.inl rfl, rfl⟩
      · have key : ∃ v ∈ (inCell wd cs (comeT wd cs f) x d wt).1, v.1 = u.1 := by
          unfold inCell at hu ⊢
          split at hu
          · next q => simp [endT] at hu
          · next q =>
            rw [if_neg q]
            split at hu
            · next q2 => simp [endT] at hu
            · next q2 =>
              rw [if_neg q2]
              split at hu
              · next q3 =>
                rw [if_pos q3]
                simp only [tapp, List.mem_append] at hu ⊢
                rcases hu with hu | hu
                · simp [endT] at hu
                · obtain ⟨v, hv, e⟩ := half_lv ih x d (wt / 2) u hu
                  exact ⟨v, Or.inr hv, e⟩
              · next q3 =>
                rw [if_neg q3]
                split at hu
                · next q4 =>
                  rw [if_pos q4]
                  simp only [tapp, List.mem_append] at hu ⊢
                  rcases hu with hu | hu | hu
                  · simp [endT] at hu
                  · obtain ⟨v, hv, e⟩ := half_lv ih x d (wt / 2) u hu
                    exact ⟨v, Or.inr (Or.inl hv), e⟩
                  · obtain ⟨v, hv, e⟩ := half_lv ih x _ (wt / 2) u hu
                    exact ⟨v, Or.inr (Or.inr hv), e⟩
                · next q4 =>
                  rw [if_neg q4]
                  exact half_lv ih x _ wt u hu
        obtain ⟨v, hv, e⟩ := key
        exact ⟨v, Or.inr hv, e⟩
/-- What dims where light comes in, once, dims all of it. -/
theorem put_dim {wd : Int} {cs : List (Int × Int)} {k x d : Int} {X : Nat} (hs : inS wd cs k = true) (hr : inRay wd cs k = (x, d, true)) (hx : x = (X : Int)) (hX : X < cs.length) (h0 : kd cs x = 0) (hone : ∀ u ∈ (trailT wd cs k).1.tail, u.1 ≠ x) (q : Int) :
    toN wd (cs.set X (6, 0)) k q = sumToH q (trailT wd cs k).2 := by
  obtain ⟨h1, h2, h3, h4, h5, h6⟩ := put_same hX (inS_ok hs) (c := (6, 0)) (by decide)
  have hk : kd (cs.set X (6, 0)) x = 6 := by rw [kd_put hX _ (by omega), if_pos hx]
  have hs' := (h3 k).trans hs
  have hr' := (h4 k).trans hr
  obtain ⟨⟨_, hd⟩, hE⟩ := enough_sight hr
  obtain ⟨_, hE'⟩ := enough_sight hr'
  have e1 : trailT wd cs k = tapp ([(x, d, ((64 : Nat) : Int))], []) (lvT wd cs (comeT wd cs 707) x d 64) := by
    rw [trail_at hs hr, come_unf hE (by omega)]
    unfold inCell
    rw [h0]
    simp only [show ¬ (0 : Int) = 1 by omega, show ¬ (0 : Int) = 7 by omega, show ¬ (0 : Int) = 6 by omega, show ¬ ((0 : Int) = 4 ∨ (0 : Int) = 5) by omega, if_false]
    rw [turnD_free hd]
  have e2 : trailT wd (cs.set X (6, 0)) k = tapp ([(x, d, ((64 : Nat) : Int))], []) (tapp (endT 3 x 32) (lvT wd (cs.set X (6, 0)) (comeT wd (cs.set X (6, 0)) 707) x d 32)) := by
    rw [trail_at hs' hr', come_unf hE' (by omega)]
    unfold inCell
    rw [hk]
    simp only [show ¬ (6 : Int) = 1 by omega, show ¬ (6 : Int) = 7 by omega, if_false, if_true]
  rw [e1] at hone ⊢
  unfold toN
  rw [e2]
  simp only [tapp, List.nil_append, sumTo_append, sumTo_end q 3 x 32 (by omega), Int.zero_add]
  simp only [tapp, List.singleton_append, List.tail_cons] at hone
  unfold lvT at hone ⊢
  rw [if_neg (show ¬ (64 : Nat) = 0 by omega)] at hone ⊢
  rw [if_neg (show ¬ (32 : Nat) = 0 by omega), h5, h6]
  by_cases c : (rayN wd cs x d).2.2 = true
  · rw [if_pos c] at hone ⊢
    rw [if_pos c]
    rw [come_same (inS_ok hs) h1 h2 707 _ d 32 (fun u hu => ?_)]
    · exact (dim_come wd cs q 707 _ d 64).symm
    · obtain ⟨v, hv, e⟩ := half_come wd cs 707 _ d 64 u hu
      have hne := hone v hv
      rw [e] at hne
      have hxx : 0 ≤ u.1 := by
        obtain ⟨hv1, _⟩ := visits_known (rfl : trailT wd cs k = trailT wd cs k)
        have := hv1 v (by rw [e1]; simp only [tapp, List.mem_append]; right; unfold lvT; rw [if_neg (show ¬ (64 : Nat) = 0 by omega), if_pos c]; exact hv)
        omega
      rw [kd_put hX _ hxx, if_neg (by omega)]
  · rw [if_neg c] at hone ⊢
    rw [if_neg c]
    simp only [endT]
    by_cases eq : outOf wd cs x d = q
    · simp [sumTo, sumToH, eq]
    · simp [sumTo, sumToH, eq]
end Go.Proofs.Ytmnninhifiajhaa
