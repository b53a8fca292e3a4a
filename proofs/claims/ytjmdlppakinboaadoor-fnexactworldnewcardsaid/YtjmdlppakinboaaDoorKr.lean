/-
  Painters that have nothing, as the exact laws hold and mark them.
-/
import Derived.Test.YtjmdlppakinboaaDoorKn
import Derived.Test.YtjmdlppakinboaaDoorKl
namespace Go.Proofs.YtjmdlppakinboaaDoor
open Go.RowKit
set_option linter.unusedVariables false
set_option linter.unusedSimpArgs false

/-- What lies in so many painters: seven words each, the last three rows of none. -/
def PaintF (F : Nat → Value) (n : Nat) (b c : Nat → Bool) (x y : Nat → Int) : Prop := ∀ i, i < n → F (i * 7) = .bool (b i) ∧ F (i * 7 + 1) = .bool (c i) ∧ F (i * 7 + 2) = .int .i64 (x i) ∧ F (i * 7 + 3) = .int .i64 (y i) ∧ F (i * 7 + 4) = .slice none 0 0 ∧ F (i * 7 + 5) = .slice none 0 0 ∧ F (i * 7 + 6) = .slice none 0 0
def PaintAt (w : World) (B : Nat) (v : Value) (n : Nat) (b c : Nat → Bool) (x y : Nat → Int) : Prop := ∃ F, Rec w B 75 7 v n F ∧ PaintF F n b c x y
section
variable {w w' : World} {B : Nat} {v : Value} {n : Nat} {b c : Nat → Bool} {x y : Nat → Int}
theorem PaintAt.nil (w : World) (B : Nat) (b c : Nat → Bool) (x y : Nat → Int) : PaintAt w B (.slice none 0 0) 0 b c x y := ⟨fun _ => .bool true, Rec.nil _ _ _ _ _, fun i hi => by omega⟩
theorem PaintAt.below (h : PaintAt w B v n b c x y) (hb : Below w.heap.size w w') : PaintAt w' B v n b c x y := by
  obtain ⟨F, h1, h2⟩ := h
  exact ⟨F, h1.below hb, h2⟩
theorem PaintAt.kept {row : Option Nat} (h : PaintAt w B v n b c x y) (hg : w.grownBy w' row) (hne : ∀ k, v.ownBlock = some k → row ≠ some k) : PaintAt w' B v n b c x y := by
  obtain ⟨F, h1, h2⟩ := h
  exact ⟨F, h1.kept hg hne, h2⟩
theorem PaintAt.range (h : PaintAt w B v n b c x y) : ∀ k, v.ownBlock = some k → B ≤ k ∧ k < w.heap.size := by
  obtain ⟨F, hR, _⟩ := h
  exact hR.range
theorem PaintAt.slice (h : PaintAt w B v n b c x y) : ∃ a cap, v = .slice a n cap := by
  obtain ⟨F, hR, _⟩ := h
  exact hR.slice
end
theorem infoPainter : (Tryd.prog.info? 75).map (fun i => (i.zero, i.size, i.bytes)) = some (some (.agg #[.bool false, .bool false, .int .i64 0, .int .i64 0, .slice none 0 0, .slice none 0 0, .slice none 0 0]), 7, 96) := by kernel_rfl

set_option maxHeartbeats 1000000 in
theorem eqScene_none (y : Int) (w : World) :
    Calls Tryd.prog 66 #[.agg #[.int .i64 y, .slice none 0 0, .slice none 0 0, .slice none 0 0], .agg #[.int .i64 y, .slice none 0 0, .slice none 0 0, .slice none 0 0]] w fun e w' => e = .returned (.bool true) ∧ Below w.heap.size w w' := by
  have heq : eqG y y [] [] = true := by simp [eqG]
  have hbX : Below w.heap.size w ((w.alloc (.cells #[.int .i64 y, .slice none 0 0, .slice none 0 0, .slice none 0 0] 73)).alloc (.cells #[.int .i64 y, .slice none 0 0, .slice none 0 0, .slice none 0 0] 73)) := (by repeat (first | exact Below.refl _ _ | refine Below.alloc ?_ (by first | exact Nat.le_refl _ | (simp; done) | (simp; omega)) _ | refine Below.drew ?_ | refine Below.setCell ?_ (by first | exact Nat.le_refl _ | (simp; done) | (simp; omega)) _))
  go_enter Tryd.func66, Tryd.ntmps66
  go_wp2_with fail
  refine (eqGrid_any y y none none 0 0 [] [] _ (Or.inl rfl) (Or.inl rfl) (by simp) (by simp)).mono ?_
  rintro e w1 ⟨rfl, hb1⟩
  rw [heq]
  have hB1 := bcall hbX hbX.size hb1
  have p2 : w1.cell? ⟨w.heap.size, 2, none⟩ = some (.slice none 0 0) := keepc hb1 (by simp [go_sem])
  have p3 : w1.cell? ⟨w.heap.size, 3, none⟩ = some (.slice none 0 0) := keepc hb1 (by simp [go_sem])
  have q2 : w1.cell? ⟨w.heap.size + 1, 2, none⟩ = some (.slice none 0 0) := keepc hb1 (by simp [go_sem])
  have q3 : w1.cell? ⟨w.heap.size + 1, 3, none⟩ = some (.slice none 0 0) := keepc hb1 (by simp [go_sem])
  clear hb1 hbX
  go_wp2_with fail
  refine (eqIntS_none _ _ _ _ _).mono ?_
  rintro e w2 ⟨rfl, rfl⟩
  go_wp2_with fail
  refine (eqIntSS_none _ _ _ _ _).mono ?_
  rintro e w3 ⟨rfl, rfl⟩
  go_wp2
  go_ret
  exact ⟨rfl, hB1⟩

set_option maxHeartbeats 1000000 in
theorem eqPainter_same (b c : Bool) (x y : Int) (w : World) :
    Calls Tryd.prog 56 #[.agg #[.bool b, .bool c, .int .i64 x, .int .i64 y, .slice none 0 0, .slice none 0 0, .slice none 0 0], .agg #[.bool b, .bool c, .int .i64 x, .int .i64 y, .slice none 0 0, .slice none 0 0, .slice none 0 0]] w fun e w' => e = .returned (.bool true) ∧ Below w.heap.size w w' := by
  have e1 : (b != b) = false := by simp
  have e2 : (c != c) = false := by simp
  have hbX : Below w.heap.size w ((w.alloc (.cells #[.bool b, .bool c, .int .i64 x, .int .i64 y, .slice none 0 0, .slice none 0 0, .slice none 0 0] 75)).alloc (.cells #[.bool b, .bool c, .int .i64 x, .int .i64 y, .slice none 0 0, .slice none 0 0, .slice none 0 0] 75)) := (by repeat (first | exact Below.refl _ _ | refine Below.alloc ?_ (by first | exact Nat.le_refl _ | (simp; done) | (simp; omega)) _ | refine Below.drew ?_ | refine Below.setCell ?_ (by first | exact Nat.le_refl _ | (simp; done) | (simp; omega)) _))
  go_enter Tryd.func56, Tryd.ntmps56
  go_wp2_with fail
  refine (eqScene_none _ _).mono ?_
  rintro e w1 ⟨rfl, hb1⟩
  have hB1 := bcall hbX hbX.size hb1
  clear hb1 hbX
  go_wp2
  go_ret
  exact ⟨rfl, hB1⟩

set_option maxHeartbeats 1000000 in
theorem eqPainterS_same (v v2 : Value) (B B2 n : Nat) (b c : Nat → Bool) (x y : Nat → Int) (w : World) (h : PaintAt w B v n b c x y) (h2 : PaintAt w B2 v2 n b c x y) (hn : n ≤ 1048576) :
    Calls Tryd.prog 38 #[v, v2] w fun e w' => e = .returned (.bool true) ∧ Below w.heap.size w w' := by
  obtain ⟨F, hR, hF⟩ := h
  obtain ⟨F2, hR2, hF2⟩ := h2
  obtain ⟨a, c, rfl⟩ := hR.slice
  obtain ⟨a2, c2, rfl⟩ := hR2.slice
  have bl : ((n : Int) != (n : Int)) = false := by simp
  go_enter Tryd.func38, Tryd.ntmps38
  go_wp2_with fail
  go_loopw [5] (fun ii wr => ∃ i : Nat, i ≤ n ∧ ii = .int .i64 i ∧ Below w.heap.size w wr) (fun ii _ => n - (intOf ii).toNat)
  case atStart => exact ⟨0, Nat.zero_le _, rfl, Below.refl _ _⟩
  case round =>
    rename World => wo
    obtain ⟨i, hi, rfl, hb⟩ := hrel
    have hzo := hb.size
    by_cases hlt : i < n
    · have hRo := hR.below hb
      have hRo2 := hR2.below hb
      rcases hRo.form with ⟨_, q⟩ | ⟨g, cap, q, _, _⟩
      · omega
      simp only [Value.slice.injEq] at q
      obtain ⟨rfl, _, rfl⟩ := q
      rcases hRo2.form with ⟨_, q⟩ | ⟨g2, cap2, q, _, _⟩
      · omega
      simp only [Value.slice.injEq] at q
      obtain ⟨rfl, _, rfl⟩ := q
      obtain ⟨e0, e1, e2, e3, e4, e5, e6⟩ := hF i hlt
      obtain ⟨d0, d1, d2, d3, d4, d5, d6⟩ := hF2 i hlt
      have x0 := hRo.cell (i * 7) (by omega)
      have x1 := hRo.cell (i * 7 + 1) (by omega)
      have x2 := hRo.cell (i * 7 + 2) (by omega)
      have x3 := hRo.cell (i * 7 + 3) (by omega)
      have x4 := hRo.cell (i * 7 + 4) (by omega)
      have x5 := hRo.cell (i * 7 + 5) (by omega)
      have x6 := hRo.cell (i * 7 + 6) (by omega)
      have y0 := hRo2.cell (i * 7) (by omega)
      have y1 := hRo2.cell (i * 7 + 1) (by omega)
      have y2 := hRo2.cell (i * 7 + 2) (by omega)
      have y3 := hRo2.cell (i * 7 + 3) (by omega)
      have y4 := hRo2.cell (i * 7 + 4) (by omega)
      have y5 := hRo2.cell (i * 7 + 5) (by omega)
      have y6 := hRo2.cell (i * 7 + 6) (by omega)
      rw [e0] at x0; rw [d0] at y0
      rw [e1] at x1; rw [d1] at y1
      rw [e2] at x2; rw [d2] at y2
      rw [e3] at x3; rw [d3] at y3
      rw [e4] at x4; rw [d4] at y4
      rw [e5] at x5; rw [d5] at y5
      rw [e6] at x6; rw [d6] at y6
      have hltI : (i : Int) < (n : Int) := by omega
      have wk : IntKind.i64.wrap ((i : Int) + 1) = (i : Int) + 1 := IntWalk.i64_in _ (by omega)
      clear hR hR2 hRo hRo2 hF hF2 e0 e1 e2 e3 e4 e5 e6 d0 d1 d2 d3 d4 d5 d6
      go_wp2
      go_region_with (go_at_call 56; refine (eqPainter_same _ _ _ _ _).mono ?_; rintro e w2 ⟨rfl, hb2⟩)
      all_goals
        go_wp2_with fail
        go_roundw
        case rel => exact ⟨i + 1, by omega, by go_num, bcall hb.drew hzo hb2⟩
        case measure => simp [intOf]; omega
    · have hnl : ¬ (i : Int) < (n : Int) := by omega
      go_wp2_with fail
      go_ret
      exact ⟨rfl, hb⟩
end Go.Proofs.YtjmdlppakinboaaDoor
