/-
  Rows of numbers as the exact laws hold and mark them: visits and ends, three words each, and places, one word each.
-/
import Derived.Test.YtffjogoamobfoaaJt
import Derived.Deep.RegionWith
import Derived.Deep.RegionHeld3
namespace Go.Proofs.Ytffjogoamobfoaa
open Go.RowKit
set_option linter.unusedVariables false
attribute [local go_sem ↓] Go.wp_at_zero Go.wp_at_succ

/-- So many numbers lie in a block of their own, and may be written. -/
def RI (w : World) (a : Option Addr) (m : Nat) (f : Nat → Int) : Prop := m = 0 ∨ ∃ g, a = some ⟨g, 0, none⟩ ∧ g < w.heap.size ∧ ∀ j, j < m → w.cell? ⟨g, j, none⟩ = some (.int .i64 (f j)) ∧ w.frozen? ⟨g, j, none⟩ = false
theorem RI.below {w w' : World} {a : Option Addr} {m : Nat} {f : Nat → Int} (h : RI w a m f) (hb : Below w.heap.size w w') : RI w' a m f := by
  rcases h with h | ⟨g, e, hg, hc⟩
  · exact Or.inl h
  · exact Or.inr ⟨g, e, Nat.lt_of_lt_of_le hg hb.size, fun j hj => ⟨keepc hb (hc j hj).1, keepf hb (hc j hj).1 (hc j hj).2⟩⟩
theorem RI.grown {w w' : World} {a : Option Addr} {m : Nat} {f : Nat → Int} {blk : Option Nat} (h : RI w a m f) (hg : w.grownBy w' blk) (hne : ∀ b off, a = some ⟨b, off, none⟩ → some b ≠ blk) : RI w' a m f := by
  rcases h with h | ⟨g, e, hl, hc⟩
  · exact Or.inl h
  · have hn := hne g 0 e
    exact Or.inr ⟨g, e, Nat.lt_of_lt_of_le hl hg.size, fun j hj => ⟨hg.cell (hc j hj).1 hn, (hg.frozen_far ⟨g, j, none⟩ hl hn).trans (hc j hj).2⟩⟩
theorem RI.like {w : World} {a : Option Addr} {m : Nat} {f f' : Nat → Int} (h : RI w a m f) (e : ∀ j, j < m → f' j = f j) : RI w a m f' := by
  rcases h with h | ⟨g, e1, hl, hc⟩
  · exact Or.inl h
  · exact Or.inr ⟨g, e1, hl, fun j hj => by rw [e j hj]; exact hc j hj⟩
theorem RI.put {w : World} {g m : Nat} {f f' : Nat → Int} (h : RI w (some ⟨g, 0, none⟩) m f) (i : Nat) (v : Int) (hi : i < m) (h1 : f' i = v) (h2 : ∀ j, j < m → j ≠ i → f' j = f j) : RI (w.setCell ⟨g, i, none⟩ (.int .i64 v)) (some ⟨g, 0, none⟩) m f' := by
  rcases h with h | ⟨g', e1, hl, hc⟩
  · omega
  · simp only [Option.some.injEq, Addr.mk.injEq, and_true] at e1
    subst e1
    refine Or.inr ⟨g, rfl, by simpa using hl, fun j hj => ⟨?_, by simpa using (hc j hj).2⟩⟩
    by_cases e : j = i
    · subst e
      rw [World.cell?_setCell_same _ _ _ (by rw [(hc j hj).1]), h1]
    · have q : (⟨g, i, none⟩ : Addr) ≠ ⟨g, j, none⟩ := fun z => e (Addr.mk.inj z).2.1.symm
      rw [World.cell?_setCell_other _ _ _ _ q, h2 j hj e]
      exact (hc j hj).1
theorem RI.at {w : World} {a : Option Addr} {m : Nat} {f : Nat → Int} (h : RI w a m f) (hm : 0 < m) : ∃ g, a = some ⟨g, 0, none⟩ ∧ g < w.heap.size ∧ ∀ j, j < m → w.cell? ⟨g, j, none⟩ = some (.int .i64 (f j)) ∧ w.frozen? ⟨g, j, none⟩ = false := by
  rcases h with h | h
  · omega
  · exact h
theorem own_RI {w : World} {B : Nat} {t : TypeId} {s n : Nat} {v : Value} {xs : List Value} (h : w.ownsRow B t s v n xs) (hx : ∀ u ∈ xs, u = .int .i64 (intOf u)) : ∃ a cap, v = .slice a n cap ∧ RI w a (n * s) (fun j => intOf (xs.getD j (.int .i64 0))) ∧ (∀ b off, a = some ⟨b, off, none⟩ → B ≤ b ∧ b < w.heap.size) ∧ ∀ b, (Value.slice a n cap).ownBlock = some b → B ≤ b := by
  have hlt := h.lt
  obtain ⟨h1, h2⟩ := h
  rcases h2 with ⟨rfl, h2⟩ | ⟨g, cap, cur, rfl, hg, hh, _, _, _, ht⟩
  · exact ⟨none, 0, by rw [h2], Or.inl (by rw [h2]; simp), fun b off e => (by cases e), fun b e => by simp [Value.ownBlock] at e⟩
  · refine ⟨_, cap, rfl, Or.inr ⟨g, rfl, (Array.getElem?_eq_some_iff.1 hh).1, fun j hj => ⟨?_, frozen_of_row _ _ _ _ _ hh⟩⟩, fun b off e => ?_, fun b e => (hlt b e).1⟩
    · have hj2 : j < xs.length := by rw [h1]; exact hj
      have e : xs[j]? = some (.int .i64 (intOf (xs.getD j (.int .i64 0)))) := by
        rw [List.getElem?_eq_getElem hj2]
        have := hx xs[j] (List.getElem_mem hj2)
        have e2 : xs.getD j (.int .i64 0) = xs[j] := by simp [List.getElem?_eq_getElem hj2]
        rw [e2]
        exact congrArg some this
      rw [cell_of_row w g j cur t (0, 0) hh, ← e, ← ht, List.getElem?_take_of_lt hj]
      simp
    · simp only [Option.some.injEq, Addr.mk.injEq, and_true] at e
      obtain ⟨rfl, rfl⟩ := e
      exact hlt g rfl
theorem flat3_int (es : List (Int × Int × Int)) : ∀ u ∈ flat3 es, u = .int .i64 (intOf u) := by
  intro u hu
  unfold flat3 at hu
  simp only [List.mem_flatMap] at hu
  obtain ⟨t, _, hu⟩ := hu
  simp only [List.mem_cons, List.not_mem_nil, or_false] at hu
  rcases hu with rfl | rfl | rfl <;> rfl
theorem ints_int (es : List Int) : ∀ u ∈ intsV es, u = .int .i64 (intOf u) := by
  intro u hu
  unfold intsV at hu
  simp only [List.mem_map] at hu
  obtain ⟨t, _, rfl⟩ := hu
  rfl
/-- An answer that is a row of numbers in new memory. -/
def AnsI (w : World) (n s : Nat) (f : Nat → Int) (r : Ending) (w' : World) : Prop := ∃ a2 c2, r = .returned (.slice a2 n c2) ∧ RI w' a2 (n * s) f ∧ (∀ b off, a2 = some ⟨b, off, none⟩ → w.heap.size ≤ b ∧ b < w'.heap.size) ∧ (∀ b, (Value.slice a2 n c2).ownBlock = some b → w.heap.size ≤ b) ∧ Below w.heap.size w w'

theorem visitsN (wd : Int) (cs : List (Int × Int)) (k : Int) (hm : cs.length ≤ 1048576) : ∃ (n : Nat) (f : Nat → Int), n ≤ 50000 ∧
    (∀ (a : Option Addr) (cap : Nat) (w : World), CellsAt w a cs → Calls Try.prog 16 #[.agg #[.int .i64 wd, .slice a cs.length cap], .int .i64 k] w (AnsI w n 3 f)) ∧
    (∀ (a : Option Addr) (cap : Nat) (w : World), CellsAt w a cs → Calls Try.prog 18 #[.agg #[.int .i64 wd, .slice a cs.length cap], .int .i64 k] w (AnsI w n 3 f)) := by
  refine ⟨(trailT wd cs k).1.length, fun j => intOf ((flat3 (trailT wd cs k).1).getD j (.int .i64 0)), ?_, ?_, ?_⟩
  · have h1 := (visits_known (rfl : trailT wd cs k = trailT wd cs k)).2.1
    have h2 := (ends_known (rfl : trailT wd cs k = trailT wd cs k)).2.2.2.1
    omega
  · intro a cap w h
    refine (implVisits_any wd a cap cs w h hm k).mono ?_
    rintro r w' ⟨a2, c2, rfl, ho, hb⟩
    obtain ⟨a3, c3, e, hR, hn, ho2⟩ := own_RI ho (flat3_int _)
    exact ⟨a3, c3, by rw [e], hR, hn, ho2, hb⟩
  · intro a cap w h
    refine (specVisits_any wd a cap cs w h hm k).mono ?_
    rintro r w' ⟨a2, c2, rfl, ho, hb⟩
    obtain ⟨a3, c3, e, hR, hn, ho2⟩ := own_RI ho (flat3_int _)
    exact ⟨a3, c3, by rw [e], hR, hn, ho2, hb⟩

theorem endsN (wd : Int) (cs : List (Int × Int)) (k : Int) (hm : cs.length ≤ 1048576) : ∃ (n : Nat) (f : Nat → Int), n ≤ 50000 ∧
    (∀ (a : Option Addr) (cap : Nat) (w : World), CellsAt w a cs → Calls Try.prog 25 #[.agg #[.int .i64 wd, .slice a cs.length cap], .int .i64 k] w (AnsI w n 3 f)) ∧
    (∀ (a : Option Addr) (cap : Nat) (w : World), CellsAt w a cs → Calls Try.prog 34 #[.agg #[.int .i64 wd, .slice a cs.length cap], .int .i64 k] w (AnsI w n 3 f)) := by
  refine ⟨(trailT wd cs k).2.length, fun j => intOf ((flat3 (trailT wd cs k).2).getD j (.int .i64 0)), ?_, ?_, ?_⟩
  · have h1 := (visits_known (rfl : trailT wd cs k = trailT wd cs k)).2.1
    have h2 := (ends_known (rfl : trailT wd cs k = trailT wd cs k)).2.2.2.1
    omega
  · intro a cap w h
    refine (implEnds_any wd a cap cs w h hm k).mono ?_
    rintro r w' ⟨a2, c2, rfl, ho, hb⟩
    obtain ⟨a3, c3, e, hR, hn, ho2⟩ := own_RI ho (flat3_int _)
    exact ⟨a3, c3, by rw [e], hR, hn, ho2, hb⟩
  · intro a cap w h
    refine (specEnds_any wd a cap cs w h hm k).mono ?_
    rintro r w' ⟨a2, c2, rfl, ho, hb⟩
    obtain ⟨a3, c3, e, hR, hn, ho2⟩ := own_RI ho (flat3_int _)
    exact ⟨a3, c3, by rw [e], hR, hn, ho2, hb⟩

theorem footNN (wd : Int) (cs : List (Int × Int)) (k : Int) (hm : cs.length ≤ 1048576) : ∃ (n : Nat) (f : Nat → Int), n ≤ 1048576 ∧
    (∀ (a : Option Addr) (cap : Nat) (w : World), CellsAt w a cs → Calls Try.prog 21 #[.agg #[.int .i64 wd, .slice a cs.length cap], .int .i64 k] w (AnsI w n 1 f)) ∧
    (∀ (a : Option Addr) (cap : Nat) (w : World), CellsAt w a cs → Calls Try.prog 50 #[.agg #[.int .i64 wd, .slice a cs.length cap], .int .i64 k] w (AnsI w n 1 f)) := by
  refine ⟨(footN wd cs k).length, fun j => intOf ((intsV (footN wd cs k)).getD j (.int .i64 0)), Nat.le_trans (foot_le _ _) hm, ?_, ?_⟩
  · intro a cap w h
    refine (implFoot_any wd a cap cs w h hm k).mono ?_
    rintro r w' ⟨v, rfl, ho, hb⟩
    obtain ⟨a3, c3, e, hR, hn, ho2⟩ := own_RI ho (ints_int _)
    exact ⟨a3, c3, by rw [e], hR, hn, ho2, hb⟩
  · intro a cap w h
    refine (specFoot_any wd a cap cs w h hm k).mono ?_
    rintro r w' ⟨v, rfl, ho, hb⟩
    obtain ⟨a3, c3, e, hR, hn, ho2⟩ := own_RI ho (ints_int _)
    exact ⟨a3, c3, by rw [e], hR, hn, ho2, hb⟩

set_option maxHeartbeats 400000 in
theorem eqVisit_one (x y z : Int) (w : World) :
    Calls Try.prog 82 #[.agg #[.int .i64 x, .int .i64 y, .int .i64 z], .agg #[.int .i64 x, .int .i64 y, .int .i64 z]] w fun e w' => e = .returned (.bool true) ∧ Below w.heap.size w w' := by
  have b1 : (x != x) = false := by simp
  have b2 : (y != y) = false := by simp
  have b3 : (z != z) = false := by simp
  go_enter Try.func82, Try.ntmps82
  go_wp2
  go_ret
  exact ⟨rfl, (by repeat (first | exact Below.refl _ _ | refine Below.alloc ?_ (by first | exact Nat.le_refl _ | (simp; done) | (simp; omega)) _ | refine Below.drew ?_ | refine Below.setCell ?_ (by first | exact Nat.le_refl _ | (simp; done) | (simp; omega)) _))⟩

set_option maxHeartbeats 1000000 in
theorem eqVisitS_same (a a2 : Option Addr) (c c2 n : Nat) (f : Nat → Int) (w : World) (h : RI w a (n * 3) f) (h2 : RI w a2 (n * 3) f) (hm : n ≤ 1048576) :
    Calls Try.prog 42 #[.slice a n c, .slice a2 n c2] w fun e w' => e = .returned (.bool true) ∧ Below w.heap.size w w' := by
  have bl : ((n : Int) != (n : Int)) = false := by simp
  go_enter Try.func42, Try.ntmps42
  go_wp2_with fail
  go_loopw [5] (fun ii wr => ∃ i : Nat, i ≤ n ∧ ii = .int .i64 i ∧ Below w.heap.size w wr) (fun ii _ => n - (intOf ii).toNat)
  case atStart => exact ⟨0, Nat.zero_le _, rfl, Below.refl _ _⟩
  case round =>
    rename World => wo
    obtain ⟨i, hi, rfl, hb⟩ := hrel
    by_cases hlt : i < n
    · obtain ⟨g, ea, _, hc⟩ := (h.below hb).at (by omega)
      obtain ⟨g2, ea2, _, hc2⟩ := (h2.below hb).at (by omega)
      subst ea
      subst ea2
      have x0 := (hc (i * 3) (by omega)).1
      have x1 := (hc (i * 3 + 1) (by omega)).1
      have x2 := (hc (i * 3 + 2) (by omega)).1
      have y0 := (hc2 (i * 3) (by omega)).1
      have y1 := (hc2 (i * 3 + 1) (by omega)).1
      have y2 := (hc2 (i * 3 + 2) (by omega)).1
      have hil : (i : Int) < (n : Int) := by omega
      have hz := hb.size
      clear h h2 hc hc2
      go_wp2_with fail
      go_region_held3 (fun w' => w'.cell? ⟨g, i * 3, none⟩ = some (.int .i64 (f (i * 3))) ∧ w'.cell? ⟨g, i * 3 + 1, none⟩ = some (.int .i64 (f (i * 3 + 1))) ∧ w'.cell? ⟨g, i * 3 + 2, none⟩ = some (.int .i64 (f (i * 3 + 2))) ∧ w'.cell? ⟨g2, i * 3, none⟩ = some (.int .i64 (f (i * 3))) ∧ w'.cell? ⟨g2, i * 3 + 1, none⟩ = some (.int .i64 (f (i * 3 + 1))) ∧ w'.cell? ⟨g2, i * 3 + 2, none⟩ = some (.int .i64 (f (i * 3 + 2))))
        (first
          | exact ⟨x0, x1, x2, y0, y1, y2⟩
          | exact ⟨keepc hb2 x0, keepc hb2 x1, keepc hb2 x2, keepc hb2 y0, keepc hb2 y1, keepc hb2 y2⟩
          | go_keep)
        (first
          | (go_at_call 82; refine (eqVisit_one _ _ _ _).mono ?_; rintro e w2 ⟨rfl, hb2'⟩; have hb2 : Below wo.heap.size wo w2 := (by first | exact hb2' | exact bdrew hb2'))
          | fail)
      all_goals
        have hb3 := bcall hb hb.size hb2
        go_wp2_with fail
        go_roundw
        case rel => exact ⟨i + 1, by omega, by go_num, hb3⟩
        case measure => simp [intOf]; omega
    · go_wp2_with fail
      go_ret
      exact ⟨rfl, hb⟩

set_option maxHeartbeats 400000 in
theorem eqEnd_one (x y z : Int) (w : World) :
    Calls Try.prog 85 #[.agg #[.int .i64 x, .int .i64 y, .int .i64 z], .agg #[.int .i64 x, .int .i64 y, .int .i64 z]] w fun e w' => e = .returned (.bool true) ∧ Below w.heap.size w w' := by
  have b1 : (x != x) = false := by simp
  have b2 : (y != y) = false := by simp
  have b3 : (z != z) = false := by simp
  go_enter Try.func85, Try.ntmps85
  go_wp2
  go_ret
  exact ⟨rfl, (by repeat (first | exact Below.refl _ _ | refine Below.alloc ?_ (by first | exact Nat.le_refl _ | (simp; done) | (simp; omega)) _ | refine Below.drew ?_ | refine Below.setCell ?_ (by first | exact Nat.le_refl _ | (simp; done) | (simp; omega)) _))⟩

set_option maxHeartbeats 1000000 in
theorem eqEndS_same (a a2 : Option Addr) (c c2 n : Nat) (f : Nat → Int) (w : World) (h : RI w a (n * 3) f) (h2 : RI w a2 (n * 3) f) (hm : n ≤ 1048576) :
    Calls Try.prog 47 #[.slice a n c, .slice a2 n c2] w fun e w' => e = .returned (.bool true) ∧ Below w.heap.size w w' := by
  have bl : ((n : Int) != (n : Int)) = false := by simp
  go_enter Try.func47, Try.ntmps47
  go_wp2_with fail
  go_loopw [5] (fun ii wr => ∃ i : Nat, i ≤ n ∧ ii = .int .i64 i ∧ Below w.heap.size w wr) (fun ii _ => n - (intOf ii).toNat)
  case atStart => exact ⟨0, Nat.zero_le _, rfl, Below.refl _ _⟩
  case round =>
    rename World => wo
    obtain ⟨i, hi, rfl, hb⟩ := hrel
    by_cases hlt : i < n
    · obtain ⟨g, ea, _, hc⟩ := (h.below hb).at (by omega)
      obtain ⟨g2, ea2, _, hc2⟩ := (h2.below hb).at (by omega)
      subst ea
      subst ea2
      have x0 := (hc (i * 3) (by omega)).1
      have x1 := (hc (i * 3 + 1) (by omega)).1
      have x2 := (hc (i * 3 + 2) (by omega)).1
      have y0 := (hc2 (i * 3) (by omega)).1
      have y1 := (hc2 (i * 3 + 1) (by omega)).1
      have y2 := (hc2 (i * 3 + 2) (by omega)).1
      have hil : (i : Int) < (n : Int) := by omega
      have hz := hb.size
      clear h h2 hc hc2
      go_wp2_with fail
      go_region_held3 (fun w' => w'.cell? ⟨g, i * 3, none⟩ = some (.int .i64 (f (i * 3))) ∧ w'.cell? ⟨g, i * 3 + 1, none⟩ = some (.int .i64 (f (i * 3 + 1))) ∧ w'.cell? ⟨g, i * 3 + 2, none⟩ = some (.int .i64 (f (i * 3 + 2))) ∧ w'.cell? ⟨g2, i * 3, none⟩ = some (.int .i64 (f (i * 3))) ∧ w'.cell? ⟨g2, i * 3 + 1, none⟩ = some (.int .i64 (f (i * 3 + 1))) ∧ w'.cell? ⟨g2, i * 3 + 2, none⟩ = some (.int .i64 (f (i * 3 + 2))))
        (first
          | exact ⟨x0, x1, x2, y0, y1, y2⟩
          | exact ⟨keepc hb2 x0, keepc hb2 x1, keepc hb2 x2, keepc hb2 y0, keepc hb2 y1, keepc hb2 y2⟩
          | go_keep)
        (first
          | (go_at_call 85; refine (eqEnd_one _ _ _ _).mono ?_; rintro e w2 ⟨rfl, hb2'⟩; have hb2 : Below wo.heap.size wo w2 := (by first | exact hb2' | exact bdrew hb2'))
          | fail)
      all_goals
        have hb3 := bcall hb hb.size hb2
        go_wp2_with fail
        go_roundw
        case rel => exact ⟨i + 1, by omega, by go_num, hb3⟩
        case measure => simp [intOf]; omega
    · go_wp2_with fail
      go_ret
      exact ⟨rfl, hb⟩

set_option maxHeartbeats 1000000 in
theorem eqIntS_same (a a2 : Option Addr) (c c2 n : Nat) (f : Nat → Int) (w : World) (h : RI w a (n * 1) f) (h2 : RI w a2 (n * 1) f) (hm : n ≤ 1048576) :
    Calls Try.prog 51 #[.slice a n c, .slice a2 n c2] w fun e w' => e = .returned (.bool true) ∧ Below w.heap.size w w' := by
  have bl : ((n : Int) != (n : Int)) = false := by simp
  go_enter Try.func51, Try.ntmps51
  go_wp2_with fail
  go_loopw [5] (fun ii wr => ∃ i : Nat, i ≤ n ∧ ii = .int .i64 i ∧ Below w.heap.size w wr) (fun ii _ => n - (intOf ii).toNat)
  case atStart => exact ⟨0, Nat.zero_le _, rfl, Below.refl _ _⟩
  case round =>
    rename World => wo
    obtain ⟨i, hi, rfl, hb⟩ := hrel
    by_cases hlt : i < n
    · obtain ⟨g, ea, _, hc⟩ := (h.below hb).at (by omega)
      obtain ⟨g2, ea2, _, hc2⟩ := (h2.below hb).at (by omega)
      subst ea
      subst ea2
      have x0 := (hc i (by omega)).1
      have y0 := (hc2 i (by omega)).1
      have hil : (i : Int) < (n : Int) := by omega
      have hne : (f i != f i) = false := by simp
      clear h h2 hc hc2
      go_wp2_with fail
      go_quiet (fail)
      have hbq : Below w.heap.size w (wo.drewN nq) := ⟨hb.os, hb.tape, hb.output, hb.size, hb.block⟩
      go_wp2_with fail
      go_roundw
      case rel => exact ⟨i + 1, by omega, by go_num, hbq⟩
      case measure => simp [intOf]; omega
    · go_wp2_with fail
      go_ret
      exact ⟨rfl, hb⟩

set_option maxHeartbeats 1000000 in
theorem markVisitS_any (k0 : Int) (a : Option Addr) (n cap : Nat) (f : Nat → Int) (w : World) (h : RI w a (n * 3) f) (hm : n ≤ 1048576) (hk0 : 0 ≤ k0 ∧ k0 ≤ 1099511627776) :
    Calls Try.prog 45 #[.slice a n cap, .int .i64 k0] w fun e w' => e = .returned (.int .i64 (k0 + 3 * (n : Int))) ∧ RI w' a (n * 3) (fun j => k0 + (j : Int)) ∧ w.grownBy w' (Value.slice a n cap).ownBlock := by
  go_enter Try.func45, Try.ntmps45
  go_wp2_with fail
  go_loopw [1, 5] (fun v ii wr => ∃ i : Nat, i ≤ n ∧ ii = .int .i64 i ∧ v = .int .i64 (k0 + 3 * (i : Int)) ∧ RI wr a (n * 3) (fun j => if j < i * 3 then k0 + (j : Int) else f j) ∧ w.grownBy wr (Value.slice a n cap).ownBlock) (fun _ ii _ => n - (intOf ii).toNat)
  case atStart => exact ⟨0, Nat.zero_le _, rfl, by simp, h.like (fun j _ => by simp), World.grownBy.refl _ _⟩
  case round =>
    rename World => wo
    obtain ⟨i, hi, rfl, rfl, hR, hg⟩ := hrel
    by_cases hlt : i < n
    · obtain ⟨g, ea, hgl, hc⟩ := hR.at (by omega)
      subst ea
      have hil : (i : Int) < (n : Int) := by omega
      obtain ⟨c0, z0⟩ := hc (i * 3) (by omega)
      obtain ⟨u0, eu0⟩ : ∃ u, (if i * 3 < i * 3 then k0 + ((i * 3 : Nat) : Int) else f (i * 3)) = u := ⟨_, rfl⟩
      simp only [eu0] at c0
      obtain ⟨c1, z1⟩ := hc (i * 3 + 1) (by omega)
      obtain ⟨u1, eu1⟩ : ∃ u, (if i * 3 + 1 < i * 3 then k0 + ((i * 3 + 1 : Nat) : Int) else f (i * 3 + 1)) = u := ⟨_, rfl⟩
      simp only [eu1] at c1
      obtain ⟨c2, z2⟩ := hc (i * 3 + 2) (by omega)
      obtain ⟨u2, eu2⟩ : ∃ u, (if i * 3 + 2 < i * 3 then k0 + ((i * 3 + 2 : Nat) : Int) else f (i * 3 + 2)) = u := ⟨_, rfl⟩
      simp only [eu2] at c2
      have hR0 : RI (wo.setCell ⟨g, i * 3, none⟩ (.int .i64 (k0 + 3 * (i : Int)))) (some ⟨g, 0, none⟩) (n * 3) (fun j => if j < i * 3 + 1 then k0 + (j : Int) else f j) := hR.put (i * 3) (k0 + 3 * (i : Int)) (by omega) (by rw [if_pos (by omega)]; try omega) (fun j hj hne => by by_cases z : j < i * 3; rw [if_pos (by omega), if_pos (by omega)]; rw [if_neg (by omega), if_neg (by omega)])
      have hR1 : RI ((wo.setCell ⟨g, i * 3, none⟩ (.int .i64 (k0 + 3 * (i : Int)))).setCell ⟨g, i * 3 + 1, none⟩ (.int .i64 (k0 + 3 * (i : Int) + 1))) (some ⟨g, 0, none⟩) (n * 3) (fun j => if j < i * 3 + 2 then k0 + (j : Int) else f j) := hR0.put (i * 3 + 1) (k0 + 3 * (i : Int) + 1) (by omega) (by rw [if_pos (by omega)]; try omega) (fun j hj hne => by by_cases z : j < i * 3 + 1; rw [if_pos (by omega), if_pos (by omega)]; rw [if_neg (by omega), if_neg (by omega)])
      have hR2 : RI (((wo.setCell ⟨g, i * 3, none⟩ (.int .i64 (k0 + 3 * (i : Int)))).setCell ⟨g, i * 3 + 1, none⟩ (.int .i64 (k0 + 3 * (i : Int) + 1))).setCell ⟨g, i * 3 + 2, none⟩ (.int .i64 (k0 + 3 * (i : Int) + 1 + 1))) (some ⟨g, 0, none⟩) (n * 3) (fun j => if j < i * 3 + 3 then k0 + (j : Int) else f j) := hR1.put (i * 3 + 2) (k0 + 3 * (i : Int) + 1 + 1) (by omega) (by rw [if_pos (by omega)]; try omega) (fun j hj hne => by by_cases z : j < i * 3 + 2; rw [if_pos (by omega), if_pos (by omega)]; rw [if_neg (by omega), if_neg (by omega)])
      have hg2 : w.grownBy (((wo.setCell ⟨g, i * 3, none⟩ (.int .i64 (k0 + 3 * (i : Int)))).setCell ⟨g, i * 3 + 1, none⟩ (.int .i64 (k0 + 3 * (i : Int) + 1))).setCell ⟨g, i * 3 + 2, none⟩ (.int .i64 (k0 + 3 * (i : Int) + 1 + 1))) (Value.slice (some ⟨g, 0, none⟩) n cap).ownBlock := ⟨hg.os, hg.tape, hg.output, by simpa using hg.size, fun j hj hne => by
        have hjg : j ≠ g := fun e => hne (by simp [Value.ownBlock, e])
        rw [Below.heap_setCell _ _ _ _ hjg, Below.heap_setCell _ _ _ _ hjg, Below.heap_setCell _ _ _ _ hjg]
        exact hg.block j hj hne⟩
      have HF : Hid (RI (((wo.setCell ⟨g, i * 3, none⟩ (.int .i64 (k0 + 3 * (i : Int)))).setCell ⟨g, i * 3 + 1, none⟩ (.int .i64 (k0 + 3 * (i : Int) + 1))).setCell ⟨g, i * 3 + 2, none⟩ (.int .i64 (k0 + 3 * (i : Int) + 1 + 1))) (some ⟨g, 0, none⟩) (n * 3) (fun j => if j < (i + 1) * 3 then k0 + (j : Int) else f j)) := hR2.like (fun j _ => by rw [show (i + 1) * 3 = i * 3 + 3 by omega])
      clear hc hR hR0 hR1 hR2 eu0 eu1 eu2
      go_wp2_with fail
      go_roundw
      case rel => exact ⟨i + 1, by omega, by go_num, by go_num, HF.out, hg2⟩
      case measure => simp [intOf]; omega
    · have hin : i = n := by omega
      subst hin
      go_wp2_with fail
      go_ret
      exact ⟨rfl, hR.like (fun j hj => by rw [if_pos hj]), hg⟩

set_option maxHeartbeats 1000000 in
theorem heldVisitS_any (k0 : Int) (a : Option Addr) (n cap : Nat) (w : World) (h : RI w a (n * 3) (fun j => k0 + (j : Int))) (hm : n ≤ 1048576) (hk0 : 0 ≤ k0 ∧ k0 ≤ 1099511627776) :
    Calls Try.prog 46 #[.slice a n cap, .int .i64 k0] w fun e w' => e = .returned (.int .i64 (k0 + 3 * (n : Int))) ∧ w' = w := by
  go_enter Try.func46, Try.ntmps46
  go_wp2_with fail
  go_loopw [1, 5] (fun v ii wr => ∃ i : Nat, i ≤ n ∧ ii = .int .i64 i ∧ v = .int .i64 (k0 + 3 * (i : Int)) ∧ wr = w) (fun _ ii _ => n - (intOf ii).toNat)
  case atStart => exact ⟨0, Nat.zero_le _, rfl, by simp, rfl⟩
  case round =>
    obtain ⟨i, hi, rfl, rfl, rfl⟩ := hrel
    by_cases hlt : i < n
    · obtain ⟨g, ea, hgl, hc⟩ := h.at (by omega)
      subst ea
      have hil : (i : Int) < (n : Int) := by omega
      have c0 : wr.cell? ⟨g, i * 3, none⟩ = some (.int .i64 (k0 + 3 * (i : Int))) := by rw [(hc (i * 3) (by omega)).1]; congr 2; omega
      have b0 : (k0 + 3 * (i : Int) != k0 + 3 * (i : Int)) = false := by simp
      have c1 : wr.cell? ⟨g, i * 3 + 1, none⟩ = some (.int .i64 (k0 + 3 * (i : Int) + 1)) := by rw [(hc (i * 3 + 1) (by omega)).1]; congr 2; omega
      have b1 : (k0 + 3 * (i : Int) + 1 != k0 + 3 * (i : Int) + 1) = false := by simp
      have c2 : wr.cell? ⟨g, i * 3 + 2, none⟩ = some (.int .i64 (k0 + 3 * (i : Int) + 1 + 1)) := by rw [(hc (i * 3 + 2) (by omega)).1]; congr 2; omega
      have b2 : (k0 + 3 * (i : Int) + 1 + 1 != k0 + 3 * (i : Int) + 1 + 1) = false := by simp
      clear hc h
      go_wp2_with fail
      go_roundw
      case rel => exact ⟨i + 1, by omega, by go_num, by go_num, by first | trivial | rfl⟩
      case measure => simp [intOf]; omega
    · have hin : i = n := by omega
      subst hin
      go_wp2_with fail
      go_ret
      exact ⟨rfl, rfl⟩

set_option maxHeartbeats 1000000 in
theorem markEndS_any (k0 : Int) (a : Option Addr) (n cap : Nat) (f : Nat → Int) (w : World) (h : RI w a (n * 3) f) (hm : n ≤ 1048576) (hk0 : 0 ≤ k0 ∧ k0 ≤ 1099511627776) :
    Calls Try.prog 48 #[.slice a n cap, .int .i64 k0] w fun e w' => e = .returned (.int .i64 (k0 + 3 * (n : Int))) ∧ RI w' a (n * 3) (fun j => k0 + (j : Int)) ∧ w.grownBy w' (Value.slice a n cap).ownBlock := by
  go_enter Try.func48, Try.ntmps48
  go_wp2_with fail
  go_loopw [1, 5] (fun v ii wr => ∃ i : Nat, i ≤ n ∧ ii = .int .i64 i ∧ v = .int .i64 (k0 + 3 * (i : Int)) ∧ RI wr a (n * 3) (fun j => if j < i * 3 then k0 + (j : Int) else f j) ∧ w.grownBy wr (Value.slice a n cap).ownBlock) (fun _ ii _ => n - (intOf ii).toNat)
  case atStart => exact ⟨0, Nat.zero_le _, rfl, by simp, h.like (fun j _ => by simp), World.grownBy.refl _ _⟩
  case round =>
    rename World => wo
    obtain ⟨i, hi, rfl, rfl, hR, hg⟩ := hrel
    by_cases hlt : i < n
    · obtain ⟨g, ea, hgl, hc⟩ := hR.at (by omega)
      subst ea
      have hil : (i : Int) < (n : Int) := by omega
      obtain ⟨c0, z0⟩ := hc (i * 3) (by omega)
      obtain ⟨u0, eu0⟩ : ∃ u, (if i * 3 < i * 3 then k0 + ((i * 3 : Nat) : Int) else f (i * 3)) = u := ⟨_, rfl⟩
      simp only [eu0] at c0
      obtain ⟨c1, z1⟩ := hc (i * 3 + 1) (by omega)
      obtain ⟨u1, eu1⟩ : ∃ u, (if i * 3 + 1 < i * 3 then k0 + ((i * 3 + 1 : Nat) : Int) else f (i * 3 + 1)) = u := ⟨_, rfl⟩
      simp only [eu1] at c1
      obtain ⟨c2, z2⟩ := hc (i * 3 + 2) (by omega)
      obtain ⟨u2, eu2⟩ : ∃ u, (if i * 3 + 2 < i * 3 then k0 + ((i * 3 + 2 : Nat) : Int) else f (i * 3 + 2)) = u := ⟨_, rfl⟩
      simp only [eu2] at c2
      have hR0 : RI (wo.setCell ⟨g, i * 3, none⟩ (.int .i64 (k0 + 3 * (i : Int)))) (some ⟨g, 0, none⟩) (n * 3) (fun j => if j < i * 3 + 1 then k0 + (j : Int) else f j) := hR.put (i * 3) (k0 + 3 * (i : Int)) (by omega) (by rw [if_pos (by omega)]; try omega) (fun j hj hne => by by_cases z : j < i * 3; rw [if_pos (by omega), if_pos (by omega)]; rw [if_neg (by omega), if_neg (by omega)])
      have hR1 : RI ((wo.setCell ⟨g, i * 3, none⟩ (.int .i64 (k0 + 3 * (i : Int)))).setCell ⟨g, i * 3 + 1, none⟩ (.int .i64 (k0 + 3 * (i : Int) + 1))) (some ⟨g, 0, none⟩) (n * 3) (fun j => if j < i * 3 + 2 then k0 + (j : Int) else f j) := hR0.put (i * 3 + 1) (k0 + 3 * (i : Int) + 1) (by omega) (by rw [if_pos (by omega)]; try omega) (fun j hj hne => by by_cases z : j < i * 3 + 1; rw [if_pos (by omega), if_pos (by omega)]; rw [if_neg (by omega), if_neg (by omega)])
      have hR2 : RI (((wo.setCell ⟨g, i * 3, none⟩ (.int .i64 (k0 + 3 * (i : Int)))).setCell ⟨g, i * 3 + 1, none⟩ (.int .i64 (k0 + 3 * (i : Int) + 1))).setCell ⟨g, i * 3 + 2, none⟩ (.int .i64 (k0 + 3 * (i : Int) + 1 + 1))) (some ⟨g, 0, none⟩) (n * 3) (fun j => if j < i * 3 + 3 then k0 + (j : Int) else f j) := hR1.put (i * 3 + 2) (k0 + 3 * (i : Int) + 1 + 1) (by omega) (by rw [if_pos (by omega)]; try omega) (fun j hj hne => by by_cases z : j < i * 3 + 2; rw [if_pos (by omega), if_pos (by omega)]; rw [if_neg (by omega), if_neg (by omega)])
      have hg2 : w.grownBy (((wo.setCell ⟨g, i * 3, none⟩ (.int .i64 (k0 + 3 * (i : Int)))).setCell ⟨g, i * 3 + 1, none⟩ (.int .i64 (k0 + 3 * (i : Int) + 1))).setCell ⟨g, i * 3 + 2, none⟩ (.int .i64 (k0 + 3 * (i : Int) + 1 + 1))) (Value.slice (some ⟨g, 0, none⟩) n cap).ownBlock := ⟨hg.os, hg.tape, hg.output, by simpa using hg.size, fun j hj hne => by
        have hjg : j ≠ g := fun e => hne (by simp [Value.ownBlock, e])
        rw [Below.heap_setCell _ _ _ _ hjg, Below.heap_setCell _ _ _ _ hjg, Below.heap_setCell _ _ _ _ hjg]
        exact hg.block j hj hne⟩
      have HF : Hid (RI (((wo.setCell ⟨g, i * 3, none⟩ (.int .i64 (k0 + 3 * (i : Int)))).setCell ⟨g, i * 3 + 1, none⟩ (.int .i64 (k0 + 3 * (i : Int) + 1))).setCell ⟨g, i * 3 + 2, none⟩ (.int .i64 (k0 + 3 * (i : Int) + 1 + 1))) (some ⟨g, 0, none⟩) (n * 3) (fun j => if j < (i + 1) * 3 then k0 + (j : Int) else f j)) := hR2.like (fun j _ => by rw [show (i + 1) * 3 = i * 3 + 3 by omega])
      clear hc hR hR0 hR1 hR2 eu0 eu1 eu2
      go_wp2_with fail
      go_roundw
      case rel => exact ⟨i + 1, by omega, by go_num, by go_num, HF.out, hg2⟩
      case measure => simp [intOf]; omega
    · have hin : i = n := by omega
      subst hin
      go_wp2_with fail
      go_ret
      exact ⟨rfl, hR.like (fun j hj => by rw [if_pos hj]), hg⟩

set_option maxHeartbeats 1000000 in
theorem heldEndS_any (k0 : Int) (a : Option Addr) (n cap : Nat) (w : World) (h : RI w a (n * 3) (fun j => k0 + (j : Int))) (hm : n ≤ 1048576) (hk0 : 0 ≤ k0 ∧ k0 ≤ 1099511627776) :
    Calls Try.prog 49 #[.slice a n cap, .int .i64 k0] w fun e w' => e = .returned (.int .i64 (k0 + 3 * (n : Int))) ∧ w' = w := by
  go_enter Try.func49, Try.ntmps49
  go_wp2_with fail
  go_loopw [1, 5] (fun v ii wr => ∃ i : Nat, i ≤ n ∧ ii = .int .i64 i ∧ v = .int .i64 (k0 + 3 * (i : Int)) ∧ wr = w) (fun _ ii _ => n - (intOf ii).toNat)
  case atStart => exact ⟨0, Nat.zero_le _, rfl, by simp, rfl⟩
  case round =>
    obtain ⟨i, hi, rfl, rfl, rfl⟩ := hrel
    by_cases hlt : i < n
    · obtain ⟨g, ea, hgl, hc⟩ := h.at (by omega)
      subst ea
      have hil : (i : Int) < (n : Int) := by omega
      have c0 : wr.cell? ⟨g, i * 3, none⟩ = some (.int .i64 (k0 + 3 * (i : Int))) := by rw [(hc (i * 3) (by omega)).1]; congr 2; omega
      have b0 : (k0 + 3 * (i : Int) != k0 + 3 * (i : Int)) = false := by simp
      have c1 : wr.cell? ⟨g, i * 3 + 1, none⟩ = some (.int .i64 (k0 + 3 * (i : Int) + 1)) := by rw [(hc (i * 3 + 1) (by omega)).1]; congr 2; omega
      have b1 : (k0 + 3 * (i : Int) + 1 != k0 + 3 * (i : Int) + 1) = false := by simp
      have c2 : wr.cell? ⟨g, i * 3 + 2, none⟩ = some (.int .i64 (k0 + 3 * (i : Int) + 1 + 1)) := by rw [(hc (i * 3 + 2) (by omega)).1]; congr 2; omega
      have b2 : (k0 + 3 * (i : Int) + 1 + 1 != k0 + 3 * (i : Int) + 1 + 1) = false := by simp
      clear hc h
      go_wp2_with fail
      go_roundw
      case rel => exact ⟨i + 1, by omega, by go_num, by go_num, by first | trivial | rfl⟩
      case measure => simp [intOf]; omega
    · have hin : i = n := by omega
      subst hin
      go_wp2_with fail
      go_ret
      exact ⟨rfl, rfl⟩

set_option maxHeartbeats 1000000 in
theorem markIntS_any (k0 : Int) (a : Option Addr) (n cap : Nat) (f : Nat → Int) (w : World) (h : RI w a (n * 1) f) (hm : n ≤ 1048576) (hk0 : 0 ≤ k0 ∧ k0 ≤ 1099511627776) :
    Calls Try.prog 52 #[.slice a n cap, .int .i64 k0] w fun e w' => e = .returned (.int .i64 (k0 + 1 * (n : Int))) ∧ RI w' a (n * 1) (fun j => k0 + (j : Int)) ∧ w.grownBy w' (Value.slice a n cap).ownBlock := by
  go_enter Try.func52, Try.ntmps52
  go_wp2_with fail
  go_loopw [1, 5] (fun v ii wr => ∃ i : Nat, i ≤ n ∧ ii = .int .i64 i ∧ v = .int .i64 (k0 + 1 * (i : Int)) ∧ RI wr a (n * 1) (fun j => if j < i * 1 then k0 + (j : Int) else f j) ∧ w.grownBy wr (Value.slice a n cap).ownBlock) (fun _ ii _ => n - (intOf ii).toNat)
  case atStart => exact ⟨0, Nat.zero_le _, rfl, by simp, h.like (fun j _ => by simp), World.grownBy.refl _ _⟩
  case round =>
    rename World => wo
    obtain ⟨i, hi, rfl, rfl, hR, hg⟩ := hrel
    by_cases hlt : i < n
    · obtain ⟨g, ea, hgl, hc⟩ := hR.at (by omega)
      subst ea
      have hil : (i : Int) < (n : Int) := by omega
      obtain ⟨c0, z0⟩ := hc (i) (by omega)
      obtain ⟨u0, eu0⟩ : ∃ u, (if i < i * 1 then k0 + ((i : Nat) : Int) else f (i)) = u := ⟨_, rfl⟩
      simp only [eu0] at c0
      have hR0 : RI (wo.setCell ⟨g, i, none⟩ (.int .i64 (k0 + (i : Int)))) (some ⟨g, 0, none⟩) (n * 1) (fun j => if j < i * 1 + 1 then k0 + (j : Int) else f j) := hR.put (i) (k0 + (i : Int)) (by omega) (by rw [if_pos (by omega)]; try omega) (fun j hj hne => by by_cases z : j < i * 1; rw [if_pos (by omega), if_pos (by omega)]; rw [if_neg (by omega), if_neg (by omega)])
      have hg2 : w.grownBy (wo.setCell ⟨g, i, none⟩ (.int .i64 (k0 + (i : Int)))) (Value.slice (some ⟨g, 0, none⟩) n cap).ownBlock := ⟨hg.os, hg.tape, hg.output, by simpa using hg.size, fun j hj hne => by
        have hjg : j ≠ g := fun e => hne (by simp [Value.ownBlock, e])
        rw [Below.heap_setCell _ _ _ _ hjg]
        exact hg.block j hj hne⟩
      have HF : Hid (RI (wo.setCell ⟨g, i, none⟩ (.int .i64 (k0 + (i : Int)))) (some ⟨g, 0, none⟩) (n * 1) (fun j => if j < (i + 1) * 1 then k0 + (j : Int) else f j)) := hR0.like (fun j _ => by rw [show (i + 1) * 1 = i * 1 + 1 by omega])
      clear hc hR hR0 eu0
      go_wp2_with fail
      go_roundw
      case rel => exact ⟨i + 1, by omega, by go_num, by go_num, HF.out, hg2⟩
      case measure => simp [intOf]; omega
    · have hin : i = n := by omega
      subst hin
      go_wp2_with fail
      go_ret
      exact ⟨rfl, hR.like (fun j hj => by rw [if_pos hj]), hg⟩

set_option maxHeartbeats 1000000 in
theorem heldIntS_any (k0 : Int) (a : Option Addr) (n cap : Nat) (w : World) (h : RI w a (n * 1) (fun j => k0 + (j : Int))) (hm : n ≤ 1048576) (hk0 : 0 ≤ k0 ∧ k0 ≤ 1099511627776) :
    Calls Try.prog 53 #[.slice a n cap, .int .i64 k0] w fun e w' => e = .returned (.int .i64 (k0 + 1 * (n : Int))) ∧ w' = w := by
  go_enter Try.func53, Try.ntmps53
  go_wp2_with fail
  go_loopw [1, 5] (fun v ii wr => ∃ i : Nat, i ≤ n ∧ ii = .int .i64 i ∧ v = .int .i64 (k0 + 1 * (i : Int)) ∧ wr = w) (fun _ ii _ => n - (intOf ii).toNat)
  case atStart => exact ⟨0, Nat.zero_le _, rfl, by simp, rfl⟩
  case round =>
    obtain ⟨i, hi, rfl, rfl, rfl⟩ := hrel
    by_cases hlt : i < n
    · obtain ⟨g, ea, hgl, hc⟩ := h.at (by omega)
      subst ea
      have hil : (i : Int) < (n : Int) := by omega
      have c0 : wr.cell? ⟨g, i, none⟩ = some (.int .i64 (k0 + (i : Int))) := by rw [(hc (i) (by omega)).1]
      have b0 : (k0 + (i : Int) != k0 + (i : Int)) = false := by simp
      clear hc h
      go_wp2_with fail
      go_roundw
      case rel => exact ⟨i + 1, by omega, by go_num, by go_num, by first | trivial | rfl⟩
      case measure => simp [intOf]; omega
    · have hin : i = n := by omega
      subst hin
      go_wp2_with fail
      go_ret
      exact ⟨rfl, rfl⟩

end Go.Proofs.Ytffjogoamobfoaa
