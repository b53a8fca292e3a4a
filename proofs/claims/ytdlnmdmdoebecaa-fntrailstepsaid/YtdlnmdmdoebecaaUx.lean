/-
  A copy of a grid's cells in a box of its own, written in place cell by cell; mirrors alone, and walls for lamps.
-/
import Derived.Test.YtdlnmdmdoebecaaUp
import Derived.Test.YtdlnmdmdoebecaaJr
import Derived.Deep.RegionHeldLaw
import Derived.Deep.AppendLies
import Derived.Deep.DrawnRows
import Derived.Deep.DeepCutAuto
namespace Go.Proofs.Ytdlnmdmdoebecaa
open Go.RowKit
set_option linter.unusedVariables false

theorem flat_oneX (cs : List (Int × Int)) : ∀ v ∈ flat cs, v.oneCell' = true := by
  intro v hv
  simp only [flat, List.mem_flatMap, List.mem_cons, List.not_mem_nil, or_false] at hv
  obtain ⟨c, _, rfl | rfl⟩ := hv <;> rfl
def SrcX (w : World) (b off : Nat) (cs : List (Int × Int)) : Prop := ∀ j v, (flat cs)[j]? = some v → w.cell? ((⟨b, off, none⟩ : Addr).add j) = some v
theorem srcX_of {w : World} {b off : Nat} {cs : List (Int × Int)} (h : ∀ i, i < cs.length → w.cell? ⟨b, off + i * 2, none⟩ = some (.int .i64 (cs.getD i (0, 0)).1) ∧ w.cell? ⟨b, off + i * 2 + 1, none⟩ = some (.int .i64 (cs.getD i (0, 0)).2)) : SrcX w b off cs := by
  intro j v hv
  have hadd : (⟨b, off, none⟩ : Addr).add j = ⟨b, off + j, none⟩ := by unfold Addr.add; split <;> simp_all
  rw [hadd]
  have hj : j < cs.length * 2 := by
    rw [← flat_len]
    exact (List.getElem?_eq_some_iff.1 hv).1
  obtain ⟨i, hi⟩ : ∃ i, j = i * 2 ∨ j = i * 2 + 1 := ⟨j / 2, by omega⟩
  have hl : i < cs.length := by omega
  obtain ⟨f1, f2⟩ := flat_at cs i hl
  obtain ⟨g1, g2⟩ := h i hl
  rcases hi with rfl | rfl
  · rw [f1] at hv
    rw [g1, ← hv]
  · rw [f2] at hv
    rw [← Nat.add_assoc, g2, ← hv]
theorem SrcX.below {w v : World} {b off : Nat} {cs : List (Int × Int)} (h : SrcX w b off cs) (hb : Below w.heap.size w v) (hl : b < w.heap.size) : SrcX v b off cs := by
  intro j u hu
  rw [hb.cell (by unfold Addr.add; split <;> exact hl)]
  exact h j u hu
theorem own_emptyX (w : World) (B : Nat) (hB : B ≤ w.heap.size) : (w.alloc (.cells #[] 33)).ownsRow B 33 2 (.slice (some ⟨w.heap.size, 0, none⟩) 0 0) 0 [] :=
  ⟨by simp, Or.inr ⟨w.heap.size, 0, #[], rfl, hB, heap_alloc_new w _, Nat.le_refl _, by unfold maxLen; omega, by simp, by simp⟩⟩
theorem own_firstX {w : World} {B g c : Nat} {cs : List (Int × Int)} (h : w.ownsRow B 33 2 (.slice (some ⟨g, 0, none⟩) (0 + cs.length) c) (0 + cs.length) ([] ++ flat cs)) : Own w B (.slice (some ⟨g, 0, none⟩) cs.length c) cs := by
  unfold Own
  simpa using h
/-- A box that holds a grid whose cells are its own. -/
def BoxX (w : World) (B blk : Nat) (x : Int) (cs : List (Int × Int)) : Prop :=
  ∃ g c : Nat, blk < w.heap.size ∧ w.cell? ⟨blk, 0, none⟩ = some (.int .i64 x) ∧ w.cell? ⟨blk, 1, none⟩ = some (.slice (some ⟨g, 0, none⟩) cs.length c) ∧ Own w B (.slice (some ⟨g, 0, none⟩) cs.length c) cs ∧ g ≠ blk ∧ B ≤ g
theorem own_geX {w : World} {B g c n : Nat} {cs : List (Int × Int)} (h : Own w B (.slice (some ⟨g, 0, none⟩) n c) cs) : B ≤ g ∧ g < w.heap.size := by
  rcases h.2 with ⟨q, _⟩ | ⟨g', cap, cur, e, hg, hh, _⟩
  · exact absurd q (by simp)
  · simp only [Value.slice.injEq, Option.some.injEq, Addr.mk.injEq, and_true] at e
    obtain ⟨rfl, _⟩ := e
    exact ⟨hg, (Array.getElem?_eq_some_iff.1 hh).1⟩
theorem boxX_new {w0 w7 : World} {B g c : Nat} {cs : List (Int × Int)} (hb : Below w0.heap.size w0 w7) (hO : Own w7 B (.slice (some ⟨g, 0, none⟩) cs.length c) cs) (x : Int) :
    BoxX (w7.alloc (.cells #[.int .i64 x, .slice (some ⟨g, 0, none⟩) cs.length c] 25)) B w7.heap.size x cs ∧ Below w0.heap.size w0 (w7.alloc (.cells #[.int .i64 x, .slice (some ⟨g, 0, none⟩) cs.length c] 25)) := by
  have hg := own_geX hO
  exact ⟨⟨_, c, by simp, by simp [go_sem], by simp [go_sem], hO.alloc _, by omega, hg.1⟩, bcall hb hb.size ((Below.refl _ _).alloc (Nat.le_refl _) _)⟩
theorem boxX_set {w0 w7 : World} {B g c zb : Nat} {u0 u1 : Value} {cs : List (Int × Int)} (hb : Below w0.heap.size w0 w7) (h0 : w0.heap.size ≤ zb) (hO : Own w7 B (.slice (some ⟨g, 0, none⟩) cs.length c) cs) (hne : g ≠ zb)
    (z0 : w7.cell? ⟨zb, 0, none⟩ = some u0) (z1 : w7.cell? ⟨zb, 1, none⟩ = some u1) (x : Int) :
    BoxX ((w7.setCell ⟨zb, 0, none⟩ (.int .i64 x)).setCell ⟨zb, 1, none⟩ (.slice (some ⟨g, 0, none⟩) cs.length c)) B zb x cs ∧ Below w0.heap.size w0 ((w7.setCell ⟨zb, 0, none⟩ (.int .i64 x)).setCell ⟨zb, 1, none⟩ (.slice (some ⟨g, 0, none⟩) cs.length c)) := by
  have hz := World.block_lt_of_cell? w7 _ z0
  have hg := own_geX hO
  refine ⟨⟨_, c, by simpa using hz, ?_, ?_, ownOther (p := ⟨zb, 1, none⟩) (ownOther (p := ⟨zb, 0, none⟩) hO hne _) hne _, hne, hg.1⟩, (hb.setCell (p := ⟨zb, 0, none⟩) h0 _).setCell (p := ⟨zb, 1, none⟩) h0 _⟩
  · rw [World.cell?_setCell_other _ _ _ _ (by simp)]
    exact World.cell?_setCell_same _ _ _ z0
  · exact World.cell?_setCell_same _ _ _ (by rw [World.cell?_setCell_other _ _ _ _ (by simp)]; exact z1)

/-- A row whose first i are written. -/
def partX {α : Type} (p : α → α) (cs : List α) (i : Nat) : List α := (cs.take i).map p ++ cs.drop i
theorem partX_zero {α : Type} (p : α → α) (cs : List α) : partX p cs 0 = cs := by simp [partX]
theorem partX_len {α : Type} (p : α → α) (cs : List α) (i : Nat) : (partX p cs i).length = cs.length := by simp [partX]; omega
theorem partX_end {α : Type} (p : α → α) (cs : List α) {i : Nat} (h : cs.length ≤ i) : partX p cs i = cs.map p := by
  unfold partX
  rw [List.take_of_length_le h, List.drop_eq_nil_of_le h, List.append_nil]
theorem partX_at {α : Type} (p : α → α) (cs : List α) (z : α) {i : Nat} (h : i < cs.length) : (partX p cs i).getD i z = cs.getD i z := by
  unfold partX
  rw [List.getD_eq_getElem?_getD, List.getD_eq_getElem?_getD, List.getElem?_append_right (by simp; omega)]
  simp only [List.length_map, List.length_take, Nat.min_eq_left (Nat.le_of_lt h), Nat.sub_self, List.getElem?_drop, Nat.add_zero]
theorem partX_set {α : Type} (p : α → α) (cs : List α) (z : α) {i : Nat} (h : i < cs.length) : (partX p cs i).set i (p (cs.getD i z)) = partX p cs (i + 1) := by
  have e : cs.getD i z = cs[i] := by rw [List.getD_eq_getElem?_getD, List.getElem?_eq_getElem h, Option.getD_some]
  rw [e]
  unfold partX
  rw [List.take_add_one, List.getElem?_eq_getElem h, List.drop_eq_getElem_cons h, List.map_append, List.set_append_right _ _ (by simp; omega)]
  simp only [List.length_map, List.length_take, Nat.min_eq_left (Nat.le_of_lt h), Nat.sub_self, List.set_cons_zero, Option.toList_some, List.map_cons, List.map_nil, List.append_assoc, List.singleton_append]
theorem partX_same {α : Type} (p : α → α) (cs : List α) (z : α) {i : Nat} (h : i < cs.length) (hp : p (cs.getD i z) = cs.getD i z) : partX p cs i = partX p cs (i + 1) := by
  rw [← partX_set p cs z h, hp, ← partX_at p cs z h]
  have hl : i < (partX p cs i).length := by rw [partX_len]; exact h
  rw [List.getD_eq_getElem?_getD, List.getElem?_eq_getElem hl, Option.getD_some, List.set_getElem_self]

theorem kd_map {cs : List (Int × Int)} (p : Int × Int → Int × Int) (x : Int) (hx : 0 ≤ x ∧ x < (cs.length : Int)) : kd (cs.map p) x = (p (cs.getD x.toNat (0, 0))).1 := by
  obtain ⟨X, rfl⟩ := Int.eq_ofNat_of_zero_le hx.1
  have hX : X < cs.length := by omega
  unfold kd
  simp only [Int.toNat_natCast]
  rw [List.getD_eq_getElem?_getD, List.getD_eq_getElem?_getD, List.getElem?_map, List.getElem?_eq_getElem hX]
  rfl
theorem okG_map {wd : Int} {cs : List (Int × Int)} (p : Int × Int → Int × Int) (h : okG wd cs = true) (hp : ∀ c ∈ cs, okC (p c).1 (p c).2 = true) : okG wd (cs.map p) = true := by
  simp only [okG, Bool.and_eq_true, List.all_eq_true, List.length_map] at h ⊢
  refine ⟨h.1, fun c hc => ?_⟩
  obtain ⟨d, hd, rfl⟩ := List.mem_map.1 hc
  exact hp d hd
/-- Mirrors alone are left. -/
def mirX (c : Int × Int) : Int × Int := if c.1 = 2 ∨ c.1 = 3 then c else (0, 0)
theorem mirX_pairs {wd : Int} {cs : List (Int × Int)} {k : Int} (hs : inS wd cs k = true) : ∃ q, (trailT wd (cs.map mirX) k).2 = [(0, q, 64)] ∧ q ≠ k ∧ (trailT wd (cs.map mirX) q).2 = [(0, k, 64)] := by
  have hok := inS_ok hs
  have hok' : okG wd (cs.map mirX) = true := okG_map mirX hok (fun c hc => by
    unfold mirX
    split
    · simp only [okG, Bool.and_eq_true, List.all_eq_true] at hok
      exact hok.2 c hc
    · decide)
  have hl : (cs.map mirX).length = cs.length := by simp
  have hk : ∀ x : Int, 0 ≤ x ∧ x < ((cs.map mirX).length : Int) → kd (cs.map mirX) x = 0 ∨ kd (cs.map mirX) x = 2 ∨ kd (cs.map mirX) x = 3 := by
    intro x hx
    rw [hl] at hx
    rw [kd_map mirX x hx]
    unfold mirX
    split
    · rename_i h
      rcases h with h | h
      · exact Or.inr (Or.inl h)
      · exact Or.inr (Or.inr h)
    · simp
  obtain ⟨q, h1, _, h3, h4⟩ := mirror_pairs (wd := wd) (cs := cs.map mirX) (fun x hx => by have := hk x hx; omega) (fun x hx => by have := hk x hx; omega) ((inS_same hok hok' hl k).trans hs)
  exact ⟨q, h1, h3, h4⟩
/-- Walls for lamps. -/
def wallX (c : Int × Int) : Int × Int := if c.1 = 7 then (1, 0) else c
theorem wallX_trail {wd : Int} {cs : List (Int × Int)} {k : Int} (hs : inS wd cs k = true) : trailT wd (cs.map wallX) k = wallT (trailT wd cs k) := by
  have hok := inS_ok hs
  have hok' : okG wd (cs.map wallX) = true := okG_map wallX hok (fun c hc => by
    unfold wallX
    split
    · decide
    · simp only [okG, Bool.and_eq_true, List.all_eq_true] at hok
      exact hok.2 c hc)
  have hl : (cs.map wallX).length = cs.length := by simp
  obtain ⟨x, d, hr⟩ := inS_ray' hs
  have hs' := (inS_same hok hok' hl k).trans hs
  have hr' := (inRay_same hok hok' hl k).trans hr
  rw [trail_at hs hr, trail_at hs' hr']
  refine come_wall hok hok' hl (fun y => ?_) 707 x d 64
  by_cases hy : 0 ≤ y ∧ y < (cs.length : Int)
  · rw [kd_map wallX y hy]
    unfold wallX kd
    split <;> rfl
  · have z : ∀ l : List (Int × Int), l.length = cs.length → kd l y = (l.getD y.toNat (0, 0)).1 := fun l _ => rfl
    rw [z _ hl, z cs rfl]
    by_cases hy0 : 0 ≤ y
    · have e1 : cs.length ≤ y.toNat := by omega
      rw [List.getD_eq_getElem?_getD, List.getD_eq_getElem?_getD, List.getElem?_eq_none (by rw [hl]; exact e1), List.getElem?_eq_none e1]
      simp
    · have e1 : y.toNat = 0 := by omega
      rw [e1, List.getD_eq_getElem?_getD, List.getD_eq_getElem?_getD, List.getElem?_map]
      rcases cs with _ | ⟨c, r⟩
      · simp
      · simp only [List.getElem?_cons_zero, Option.map_some, Option.getD_some]
        unfold wallX
        split <;> rfl
end Go.Proofs.Ytdlnmdmdoebecaa
