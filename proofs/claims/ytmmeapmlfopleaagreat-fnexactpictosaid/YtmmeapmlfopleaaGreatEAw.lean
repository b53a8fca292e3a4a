/- Of the proof: PJl, PJn -/
import Derived.Test.YtmmeapmlfopleaaGreatEAv
set_option linter.unusedVariables false
namespace Go.Proofs.YtmmeapmlfopleaaGreat
namespace Sp
open Go.RowKit
def sumW : List (Int × Int × Int) -> Int
 | [] => 0
 | t :: r => t.2.2 + sumW r
theorem sumW_append (a b : List (Int × Int × Int)) : sumW (a ++ b) = sumW a + sumW b := by
 induction a with
 | nil => simp [sumW]
 | cons t r ih => simp only [List.cons_append, sumW, ih]; omega
def EndOk (wd : Int) (cs : List (Int × Int)) (t : Int × Int × Int) : Prop :=
 1 <= t.2.2 /\ ((t.1 = 0 /\ 0 <= t.2.1 /\ t.2.1 < manyG wd cs) \/ ((0 <= t.2.1 /\ t.2.1 < (cs.length : Int)) /\ ((t.1 = 1 /\ kd cs t.2.1 = 1) \/ (t.1 = 2 /\ kd cs t.2.1 = 7) \/ (t.1 = 3 /\ (kd cs t.2.1 = 4 \/ kd cs t.2.1 = 5 \/ kd cs t.2.1 = 6)))))
def VisOk (cs : List (Int × Int)) (wt : Nat) (t : Int × Int × Int) : Prop := okS cs (t.1, t.2.1) /\ 1 <= t.2.2 /\ t.2.2 <= (wt : Int)
structure TrOk (wd : Int) (cs : List (Int × Int)) (wt : Nat) (t : Tr) : Prop where
 sum : sumW t.2 = (wt : Int)
 ends : ∀ u ∈ t.2, EndOk wd cs u
 vis : ∀ u ∈ t.1, VisOk cs wt u
theorem trok_app {wd : Int} {cs : List (Int × Int)} {m n wt : Nat} {a b : Tr} (ha : TrOk wd cs m a) (hb : TrOk wd cs n b) (h : m + n = wt) : TrOk wd cs wt (tapp a b) := by
 refine ⟨?_, ?_, ?_⟩
 ·simp only [tapp, sumW_append, ha.sum, hb.sum]; omega
 ·intro u hu
  simp only [tapp, List.mem_append] at hu
  rcases hu with q | q
  ·exact ha.ends u q
  ·exact hb.ends u q
 ·intro u hu
  simp only [tapp, List.mem_append] at hu
  rcases hu with q | q
  ·obtain ⟨h1, h2, h3⟩ := ha.vis u q; exact ⟨h1, h2, by omega⟩
  ·obtain ⟨h1, h2, h3⟩ := hb.vis u q; exact ⟨h1, h2, by omega⟩
theorem trok_nil (wd : Int) (cs : List (Int × Int)) : TrOk wd cs 0 ([], []) := ⟨rfl, by simp, by simp⟩
theorem trok_end {wd : Int} {cs : List (Int × Int)} {k x : Int} {wt : Nat} (h : 0 < wt -> EndOk wd cs (k, x, (wt : Int))) : TrOk wd cs wt (endT k x wt) := by
 unfold endT
 by_cases h0 : wt = 0
 ·subst h0; exact trok_nil wd cs
 ·rw [if_neg h0]
  refine ⟨by simp [sumW], ?_, by simp⟩
  intro u hu
  simp only [List.mem_singleton] at hu
  subst hu
  exact h (by omega)
theorem trok_lv {wd : Int} {cs : List (Int × Int)} {f : Nat} (hok : okG wd cs = true) (ih : ∀ x d wt, okS cs (x, d) -> enough wd cs f x d wt -> TrOk wd cs wt (comeT wd cs f x d wt)) (x e : Int) (h : Nat) (hs : okS cs (x, e)) (hE : lvE wd cs (enough wd cs f) x e h) :
  TrOk wd cs h (lvT wd cs (comeT wd cs f) x e h) := by
 unfold lvT
 by_cases h0 : h = 0
 ·subst h0; rw [if_pos rfl]; exact trok_nil wd cs
 ·rw [if_neg h0]
  by_cases c : (rayN wd cs x e).2.2 = true
  ·rw [if_pos c]
   obtain ⟨r1, r2, _⟩ := rayN_back c
   rcases hE with q | q | q
   ·exact absurd q h0
   ·rw [c] at q; cases q
   ·exact ih _ _ _ ⟨r1, r2⟩ q
  ·rw [if_neg c]
   refine trok_end fun _ => ⟨by simp only; omega, Or.inl ⟨rfl, ?_⟩⟩
   rcases out_fact hok hs.1 hs.2 with ⟨x2, d2, q, _⟩ | ⟨_, q⟩
   ·simp only at q
    rw [q] at c
    exact absurd rfl c
   ·simp only at q
    unfold inRay at q
    split at q
    ·next z => exact z.2
    ·simp at q
theorem trok_come {wd : Int} {cs : List (Int × Int)} (hok : okG wd cs = true) : ∀ f x d wt, okS cs (x, d) -> enough wd cs f x d wt -> TrOk wd cs wt (comeT wd cs f x d wt) := by
 intro f
 induction f with
 | zero =>
  intro x d wt _ hE
  have : wt = 0 := hE
  subst this
  exact trok_nil wd cs
 | succ f ih =>
  intro x d wt hs hE
  by_cases h0 : wt = 0
  ·subst h0; rw [comeT_zero]; exact trok_nil wd cs
  ·simp only [comeT]
   rw [if_neg h0]
   have hst : okS cs (x, turnD (kd cs x) d) := ⟨hs.1, turnD_range hs.2⟩
   have hI : TrOk wd cs wt (inCell wd cs (comeT wd cs f) x d wt) := by
    unfold inCell
    by_cases k1 : kd cs x = 1
    ·rw [if_pos k1]; exact trok_end fun _ => ⟨by simp only; omega, Or.inr ⟨hs.1, Or.inl ⟨rfl, k1⟩⟩⟩
    rw [if_neg k1]
    by_cases k7 : kd cs x = 7
    ·rw [if_pos k7]; exact trok_end fun _ => ⟨by simp only; omega, Or.inr ⟨hs.1, Or.inr (Or.inl ⟨rfl, k7⟩)⟩⟩
    rw [if_neg k7]
    by_cases k6 : kd cs x = 6
    ·rw [if_pos k6]
     have hE1 : lvE wd cs (enough wd cs f) x d (wt / 2) := by
      rcases hE with q | q | ⟨_, q⟩ | ⟨q, _⟩ | ⟨q, _⟩
      ·exact absurd q h0
      ·omega
      ·exact q
      ·omega
      ·exact absurd k6 q.2.2.1
     exact trok_app (trok_end fun q => ⟨by simp only; omega, Or.inr ⟨hs.1, Or.inr (Or.inr ⟨rfl, Or.inr (Or.inr k6)⟩)⟩⟩) (trok_lv hok ih x d _ hs hE1) (by omega)
    rw [if_neg k6]
    by_cases k45 : kd cs x = 4 \/ kd cs x = 5
    ·rw [if_pos k45]
     have hE1 : lvE wd cs (enough wd cs f) x d (wt / 2) /\ lvE wd cs (enough wd cs f) x (turnD (kd cs x) d) (wt / 2) := by
      rcases hE with q | q | ⟨q, _⟩ | ⟨_, q, q2⟩ | ⟨q, _⟩
      ·exact absurd q h0
      ·omega
      ·exact absurd q k6
      ·exact ⟨q, q2⟩
      ·rcases k45 with z | z
       ·exact absurd z q.2.2.2.1
       ·exact absurd z q.2.2.2.2
     refine trok_app (m := wt - 2 * (wt / 2)) (n := wt / 2 + wt / 2) (trok_end fun q => ⟨by simp only; omega, Or.inr ⟨hs.1, Or.inr (Or.inr ⟨rfl, ?_⟩)⟩⟩) (trok_app (trok_lv hok ih x d _ hs hE1.1) (trok_lv hok ih x _ _ hst hE1.2) rfl) (by omega)
     rcases k45 with z | z
     ·exact Or.inl z
     ·exact Or.inr (Or.inl z)
    ·rw [if_neg k45]
     refine trok_lv hok ih x _ _ hst ?_
     rcases hE with q | q | ⟨q, _⟩ | ⟨q, _⟩ | ⟨_, q⟩
     ·exact absurd q h0
     ·omega
     ·exact absurd q k6
     ·exact absurd q k45
     ·exact q
   refine ⟨by simp only [tapp, List.nil_append]; exact hI.sum, by simp only [tapp, List.nil_append]; exact hI.ends, ?_⟩
   intro u hu
   simp only [tapp, List.mem_append, List.mem_singleton] at hu
   rcases hu with q | q
   ·subst q; exact ⟨hs, by simp only; omega, by simp only; omega⟩
   ·exact hI.vis u q
theorem trail_ok {wd : Int} {cs : List (Int × Int)} {k : Int} (h : inS wd cs k = true) : TrOk wd cs 64 (trailT wd cs k) := by
 have hok := inS_ok h
 obtain ⟨W, H, S⟩ := siz_of hok
 have hk := h
 simp only [inS, decide_eq_true_eq, S.em] at hk
 obtain ⟨K, rfl⟩ := Int.eq_ofNat_of_zero_le hk.1
 obtain ⟨x, d, hs⟩ : ∃ x d, sRay (W : Int) (H : Int) (K : Int) = (x, d) := ⟨_, _, rfl⟩
 have hr : inRay wd cs (K : Int) = (x, d, true) := by rw [inRay_at S K (by omega), hs]
 obtain ⟨h1, hE⟩ := enough_sight hr
 unfold trailT
 rw [if_pos h, hr]
 exact trok_come hok 707 x d 64 h1 hE
end Sp
namespace Sp
open Go.RowKit
def R3At (w : World) (a : Option Addr) (es : List (Int × Int × Int)) : Prop := es = [] \/ ∃ b off, a = some ⟨b, off, none⟩ /\ b < w.heap.size /\ ∀ i, i < es.length ->
 w.cell? ⟨b, off + i * 3, none⟩ = some (.int .i64 (es.getD i (0, 0, 0)).1) /\ w.cell? ⟨b, off + i * 3 + 1, none⟩ = some (.int .i64 (es.getD i (0, 0, 0)).2.1) /\ w.cell? ⟨b, off + i * 3 + 2, none⟩ = some (.int .i64 (es.getD i (0, 0, 0)).2.2)
theorem R3At.below {w w' : World} {a : Option Addr} {es : List (Int × Int × Int)} (h : R3At w a es) (hb : Below w.heap.size w w') : R3At w' a es := by
 rcases h with h | ⟨b, off, rfl, hbl, hc⟩
 ·exact Or.inl h
 ·exact Or.inr ⟨b, off, rfl, Nat.lt_of_lt_of_le hbl hb.size, fun i hi => ⟨keepc hb (hc i hi).1, keepc hb (hc i hi).2.1, keepc hb (hc i hi).2.2⟩⟩
theorem flat3_at (es : List (Int × Int × Int)) : ∀ i, i < es.length -> (flat3 es)[i * 3]? = some (.int .i64 (es.getD i (0, 0, 0)).1) /\ (flat3 es)[i * 3 + 1]? = some (.int .i64 (es.getD i (0, 0, 0)).2.1) /\ (flat3 es)[i * 3 + 2]? = some (.int .i64 (es.getD i (0, 0, 0)).2.2) := by
 induction es with
 | nil => intro i h; simp at h
 | cons t r ih =>
  intro i hi
  cases i with
  | zero => exact ⟨rfl, rfl, rfl⟩
  | succ i =>
   have := ih i (by simpa using hi)
   have e : flat3 (t :: r) = .int .i64 t.1 :: .int .i64 t.2.1 :: .int .i64 t.2.2 :: flat3 r := rfl
   rw [e, show (i + 1) * 3 = i * 3 + 3 by omega]
   exact this
theorem row3_at {w : World} {B : Nat} {t : TypeId} {v : Value} {es : List (Int × Int × Int)} (h : w.ownsRow B t 3 v es.length (flat3 es)) : ∃ a cap, v = .slice a es.length cap /\ R3At w a es := by
 obtain ⟨h1, h2⟩ := h
 rcases h2 with ⟨rfl, h2⟩ | ⟨g, cap, cur, rfl, hg, hh, _, _, _, ht⟩
 ·exact ⟨none, 0, by rw [h2], Or.inl (List.length_eq_zero_iff.1 h2)⟩
 ·refine ⟨_, cap, rfl, Or.inr ⟨g, 0, rfl, (Array.getElem?_eq_some_iff.1 hh).1, fun i hi => ?_⟩⟩
  have key : ∀ j, j < es.length * 3 -> w.cell? ⟨g, j, none⟩ = (flat3 es)[j]? := by
   intro j hj
   rw [cell_of_row w g j cur t (0, 0) hh, <- ht, List.getElem?_take_of_lt hj]
   simp
  obtain ⟨q1, q2, q3⟩ := flat3_at es i hi
  simp only [Nat.zero_add]
  exact ⟨by rw [key _ (by omega)]; exact q1, by rw [key _ (by omega)]; exact q2, by rw [key _ (by omega)]; exact q3⟩
def sumTo (q0 : Int) : List (Int × Int × Int) -> Int
 | [] => 0
 | t :: r => (if t.1 = 0 /\ t.2.1 = q0 then t.2.2 else 0) + sumTo q0 r
theorem sumTo_append (q0 : Int) (a b : List (Int × Int × Int)) : sumTo q0 (a ++ b) = sumTo q0 a + sumTo q0 b := by
 induction a with
 | nil => simp [sumTo]
 | cons t r ih => simp only [List.cons_append, sumTo, ih]; omega
theorem sumTo_in (q0 : Int) (l : List (Int × Int × Int)) (h : ∀ u ∈ l, 1 <= u.2.2) : 0 <= sumTo q0 l /\ sumTo q0 l <= sumW l := by
 induction l with
 | nil => simp [sumTo, sumW]
 | cons t r ih =>
  have h1 := h t (by simp)
  have h2 := ih (fun u hu => h u (by simp [hu]))
  simp only [sumTo, sumW]
  split <;> omega
theorem sumW_pos (l : List (Int × Int × Int)) (h : ∀ u ∈ l, 1 <= u.2.2) : 0 <= sumW l := by
 have := sumTo_in 0 l h
 omega
theorem take_one {α : Type} (l : List α) (i : Nat) (z : α) (h : i < l.length) : l.take (i + 1) = l.take i ++ [l.getD i z] := by
 rw [List.take_succ_eq_append_getElem h]
 simp [List.getElem?_eq_getElem h]
theorem sum_take {es : List (Int × Int × Int)} (h : ∀ u ∈ es, 1 <= u.2.2) (i : Nat) : sumW (es.take i) <= sumW es := by
 have e := sumW_append (es.take i) (es.drop i)
 rw [List.take_append_drop] at e
 have := sumW_pos (es.drop i) (fun u hu => h u (List.mem_of_mem_drop hu))
 omega
def toN (wd : Int) (cs : List (Int × Int)) (k q0 : Int) : Int := sumTo q0 (trailT wd cs k).2
end Sp
namespace Sp
open Go.RowKit
structure RowV (w : World) (g m : Nat) (c : Nat -> Value) : Prop where
 lt : g < w.heap.size
 at' : ∀ i, i < m -> w.cell? ⟨g, i, none⟩ = some (c i)
 fz : ∀ i, i < m -> w.frozen? ⟨g, i, none⟩ = false
theorem RowV.below {w w' : World} {g m : Nat} {c : Nat -> Value} (h : RowV w g m c) (hb : Below w.heap.size w w') : RowV w' g m c :=
 ⟨Nat.lt_of_lt_of_le h.lt hb.size, fun i hi => keepc hb (h.at' i hi), fun i hi => keepf hb (h.at' i hi) (h.fz i hi)⟩
theorem RowV.grown {w w' : World} {g m : Nat} {c : Nat -> Value} {r : Option Nat} (h : RowV w g m c) (hg : w.grownBy w' r) (hne : some g ≠ r) : RowV w' g m c :=
 ⟨Nat.lt_of_lt_of_le h.lt hg.size, fun i hi => hg.cell (h.at' i hi) hne, fun i hi => (hg.frozen_far ⟨g, i, none⟩ h.lt hne).trans (h.fz i hi)⟩
theorem RowV.put {w : World} {g m : Nat} {c c' : Nat -> Value} (h : RowV w g m c) (i : Nat) (v : Value) (hi : i < m) (h1 : c' i = v) (h2 : ∀ j, j < m -> j ≠ i -> c' j = c j) : RowV (w.setCell ⟨g, i, none⟩ v) g m c' := by
 refine ⟨by simpa using h.lt, fun j hj => ?_, fun j hj => ?_⟩
 ·by_cases e : j = i
  ·subst e
   rw [World.cell?_setCell_same _ _ _ (by rw [h.at' j hj]), h1]
  ·have q : (⟨g, i, none⟩ : Addr) ≠ ⟨g, j, none⟩ := fun z => e (Addr.mk.inj z).2.1.symm
   rw [World.cell?_setCell_other _ _ _ _ q, h2 j hj e]
   exact h.at' j hj
 ·simpa using h.fz j hj
theorem RowV.like {w : World} {g m : Nat} {c c' : Nat -> Value} (h : RowV w g m c) (h2 : ∀ j, j < m -> c' j = c j) : RowV w g m c' :=
 ⟨h.lt, fun j hj => by rw [h2 j hj]; exact h.at' j hj, h.fz⟩
theorem ownsRow_mono {w : World} {B B' : Nat} {e : TypeId} {s : Nat} {v : Value} {n : Nat} {xs : List Value} (h : w.ownsRow B e s v n xs) (hB : B' <= B) : w.ownsRow B' e s v n xs := by
 obtain ⟨h1, h2⟩ := h
 refine ⟨h1, ?_⟩
 rcases h2 with h2 | ⟨g, cap, cur, hv, hg, r⟩
 ·exact Or.inl h2
 ·exact Or.inr ⟨g, cap, cur, hv, Nat.le_trans hB hg, r⟩
end Sp
end Go.Proofs.YtmmeapmlfopleaaGreat
