/-
  impl.KeepNew: a keeper at its beginning, in new memory, or nothing.
-/
import Derived.Test.YtjmdlppakinboaaDoorKg
import Derived.Deep.DrawnRows
namespace Go.Proofs.YtjmdlppakinboaaDoor
open Go.RowKit
set_option linter.unusedVariables false
set_option linter.unusedSimpArgs false

/-- What lies in so many parts: three words each, the last a row of none. -/
def PartF (F : Nat → Value) (n : Nat) (b : Nat → Bool) (x : Nat → Int) : Prop := ∀ i, i < n → F (i * 3) = .bool (b i) ∧ F (i * 3 + 1) = .int .i64 (x i) ∧ ∃ a c, F (i * 3 + 2) = .slice a 0 c
def PartsAt (w : World) (B : Nat) (v : Value) (n : Nat) (b : Nat → Bool) (x : Nat → Int) : Prop := ∃ F, Rec w B 56 3 v n F ∧ PartF F n b x
theorem PartsAt.nil (w : World) (B : Nat) (b : Nat → Bool) (x : Nat → Int) : PartsAt w B (.slice none 0 0) 0 b x := ⟨fun _ => .bool true, Rec.nil _ _ _ _ _, fun i hi => by omega⟩
theorem PartsAt.below {w w' : World} {B : Nat} {v : Value} {n : Nat} {b : Nat → Bool} {x : Nat → Int} (h : PartsAt w B v n b x) (hb : Below w.heap.size w w') : PartsAt w' B v n b x := by
  obtain ⟨F, h1, h2⟩ := h
  exact ⟨F, h1.below hb, h2⟩
theorem PartsAt.kept {w w' : World} {B : Nat} {v : Value} {n : Nat} {b : Nat → Bool} {x : Nat → Int} {row : Option Nat} (h : PartsAt w B v n b x) (hg : w.grownBy w' row) (hne : ∀ k, v.ownBlock = some k → row ≠ some k) : PartsAt w' B v n b x := by
  obtain ⟨F, h1, h2⟩ := h
  exact ⟨F, h1.kept hg hne, h2⟩
theorem grown_trans {w w1 w2 : World} {row : Option Nat} (h : w.grownBy w1 row) (h2 : w1.grownBy w2 row) : w.grownBy w2 row :=
  ⟨h2.os.trans h.os, h2.tape.trans h.tape, h2.output.trans h.output, Nat.le_trans h.size h2.size, fun k hk hne => (h2.block k (Nat.lt_of_lt_of_le hk h.size) hne).trans (h.block k hk hne)⟩
theorem grown_set (w : World) (g o : Nat) (u : Value) : w.grownBy (w.setCell ⟨g, o, none⟩ u) (some g) :=
  ⟨rfl, rfl, rfl, by simp, fun k hk hne => Below.heap_setCell _ _ _ _ (fun e => hne (by simp [e]))⟩
theorem grown_five (w : World) (g : Nat) (u0 u1 u2 u3 u4 : Value) : w.grownBy (((((w.setCell ⟨g, 0, none⟩ u0).setCell ⟨g, 1, none⟩ u1).setCell ⟨g, 2, none⟩ u2).setCell ⟨g, 3, none⟩ u3).setCell ⟨g, 4, none⟩ u4) (some g) :=
  grown_trans (grown_trans (grown_trans (grown_trans (grown_set _ _ _ _) (grown_set _ _ _ _)) (grown_set _ _ _ _)) (grown_set _ _ _ _)) (grown_set _ _ _ _)
theorem infoPart : (Tryd.prog.info? 56).map (fun i => (i.zero, i.size, i.bytes)) = some (some (.agg #[.bool false, .int .i64 0, .slice none 0 0]), 3, 40) := by kernel_rfl
theorem make_parts (n : Nat) (hn : n ≤ 1048576) (w : World) : (Instr.makeSlice 30 (.int .i64 (n : Int)) (.int .i64 (n : Int))).run Tryd.prog w = .ok (.slice (some ⟨w.heap.size, 0, none⟩) n n) (w.alloc (.cells (madeCells #[.bool false, .int .i64 0, .slice none 0 0] (n * 3)) 56)) := by
  obtain ⟨i0, hi, iz0, iz1, iz2⟩ := info_parts infoPart
  have := run_make (P := Tryd.prog) w 30 56 i0 (.agg #[.bool false, .int .i64 0, .slice none 0 0]) Tryd.underlying30 hi iz0 .i64 .i64 (n : Int) (n : Int) (by omega) (by omega) (by rw [iz2]; omega) (by omega)
  rw [iz1] at this
  simpa [Value.cells] using this
theorem parts_made (w : World) (B n : Nat) (hB : B ≤ w.heap.size) (hn : n ≤ 1048576) : PartsAt (w.alloc (.cells (madeCells #[.bool false, .int .i64 0, .slice none 0 0] (n * 3)) 56)) B (.slice (some ⟨w.heap.size, 0, none⟩) n n) n (fun _ => false) (fun _ => 0) := by
  refine ⟨fun j => if j % 3 = 0 then .bool false else if j % 3 = 1 then .int .i64 0 else .slice none 0 0, Rec.made w hB _ (by unfold maxLen; omega) rfl ?_, ?_⟩
  · intro j hj
    have : j % 3 = 0 ∨ j % 3 = 1 ∨ j % 3 = 2 := by omega
    rcases this with e | e | e <;> simp [madeCells, hj, e]
  · intro i hi
    have e1 : i * 3 % 3 = 0 := by omega
    have e2 : (i * 3 + 1) % 3 = 1 := by omega
    have e3 : (i * 3 + 2) % 3 = 2 := by omega
    refine ⟨by simp [e1], by simp [e2], none, 0, by simp [e3]⟩

/-- A keeper: its grid, no edits, so many parts, nothing shown; its rows lie from B on, apart. -/
structure Kp (w : World) (B : Nat) (v : Value) (wd : Int) (cs : List (Int × Int)) (n : Nat) (b : Nat → Bool) (x : Nat → Int) (vc vp : Value) (a2 a4 : Option Addr) (k2 k4 : Nat) : Prop where
  form : v = .agg #[.int .i64 wd, vc, .slice a2 0 k2, vp, .slice a4 0 k4]
  own : Own w B vc cs
  parts : PartsAt w B vp n b x
  apart : ∀ k, vc.ownBlock = some k → vp.ownBlock ≠ some k
theorem Kp.below {w w' : World} {B : Nat} {v : Value} {wd : Int} {cs : List (Int × Int)} {n : Nat} {b : Nat → Bool} {x : Nat → Int} {vc vp : Value} {a2 a4 : Option Addr} {k2 k4 : Nat} (h : Kp w B v wd cs n b x vc vp a2 a4 k2 k4) (hb : Below w.heap.size w w') : Kp w' B v wd cs n b x vc vp a2 a4 k2 k4 :=
  ⟨h.form, h.own.below hb, h.parts.below hb, h.apart⟩
theorem Kp.kept {w w' : World} {B : Nat} {v : Value} {wd : Int} {cs : List (Int × Int)} {n : Nat} {b : Nat → Bool} {x : Nat → Int} {vc vp : Value} {a2 a4 : Option Addr} {k2 k4 : Nat} {row : Option Nat} (h : Kp w B v wd cs n b x vc vp a2 a4 k2 k4) (hg : w.grownBy w' row) (h1 : ∀ k, vc.ownBlock = some k → row ≠ some k) (h2 : ∀ k, vp.ownBlock = some k → row ≠ some k) : Kp w' B v wd cs n b x vc vp a2 a4 k2 k4 :=
  ⟨h.form, h.own.keptg hg h1, h.parts.kept hg h2, h.apart⟩

set_option maxHeartbeats 1000000 in
theorem newKeeper_no (wd : Int) (a : Option Addr) (cap : Nat) (cs : List (Int × Int)) (many : Int) (w : World) (hC : CellsAt w a cs) (hm : cs.length ≤ 1048576) (hno : startOk wd cs many = false) :
    Calls Tryd.prog 25 #[.agg #[.int .i64 wd, .slice a cs.length cap], .int .i64 many] w fun e w' => (∃ s, e = .returned (.tuple #[.agg #[.int .i64 0, .slice none 0 0, .slice none 0 0, .slice none 0 0, .slice none 0 0], .iface 86 (.agg #[.string s])])) ∧ Below w.heap.size w w' := by
  go_enter Tryd.func25, Tryd.ntmps25
  go_wp2_with fail
  refine (checkStart_any wd a cap cs many _ (hC.below (by repeat (first | exact Below.refl _ _ | refine Below.alloc ?_ (by first | exact Nat.le_refl _ | (simp; done) | (simp; omega)) _ | refine Below.drew ?_ | refine Below.setCell ?_ (by first | exact Nat.le_refl _ | (simp; done) | (simp; omega)) _))) hm).mono ?_
  rintro e w1 ⟨⟨v, rfl, h⟩, hb1⟩
  rw [hno] at h
  obtain ⟨s, rfl⟩ : ∃ s, v = .iface 86 (.agg #[.string s]) := by
    rcases h with ⟨q, _⟩ | ⟨_, s, q⟩
    · cases q
    · exact ⟨s, q⟩
  have hz1 := hb1.size
  simp at hz1
  have q0 : w1.cell? ⟨w.heap.size + 1, 0, none⟩ = some (.int .i64 0) := keepc hb1 (by simp [go_sem])
  have q1 : w1.cell? ⟨w.heap.size + 1, 1, none⟩ = some (.slice none 0 0) := keepc hb1 (by simp [go_sem])
  have q2 : w1.cell? ⟨w.heap.size + 1, 2, none⟩ = some (.slice none 0 0) := keepc hb1 (by simp [go_sem])
  have q3 : w1.cell? ⟨w.heap.size + 1, 3, none⟩ = some (.slice none 0 0) := keepc hb1 (by simp [go_sem])
  have q4 : w1.cell? ⟨w.heap.size + 1, 4, none⟩ = some (.slice none 0 0) := keepc hb1 (by simp [go_sem])
  have f0 : w1.frozen? ⟨w.heap.size + 1, 0, none⟩ = false := keepf hb1 (v := .int .i64 0) (by simp [go_sem]) (by simp [go_sem])
  have f1 : w1.frozen? ⟨w.heap.size + 1, 1, none⟩ = false := keepf hb1 (v := .slice none 0 0) (by simp [go_sem]) (by simp [go_sem])
  have f2 : w1.frozen? ⟨w.heap.size + 1, 2, none⟩ = false := keepf hb1 (v := .slice none 0 0) (by simp [go_sem]) (by simp [go_sem])
  have f3 : w1.frozen? ⟨w.heap.size + 1, 3, none⟩ = false := keepf hb1 (v := .slice none 0 0) (by simp [go_sem]) (by simp [go_sem])
  have f4 : w1.frozen? ⟨w.heap.size + 1, 4, none⟩ = false := keepf hb1 (v := .slice none 0 0) (by simp [go_sem]) (by simp [go_sem])
  have hB1 : Below w.heap.size w w1 := bcall (by repeat (first | exact Below.refl _ _ | refine Below.alloc ?_ (by first | exact Nat.le_refl _ | (simp; done) | (simp; omega)) _ | refine Below.drew ?_ | refine Below.setCell ?_ (by first | exact Nat.le_refl _ | (simp; done) | (simp; omega)) _)) (by simp; omega) hb1
  clear hb1 h
  go_wp2
  refine bodyPost_ret (v := .tuple #[.agg #[.int .i64 0, .slice none 0 0, .slice none 0 0, .slice none 0 0, .slice none 0 0], .iface 86 (.agg #[.string s])]) (by simp [results, Tryd.results25, go_sem, q0, q1, q2, q3, q4]) rfl ⟨⟨s, rfl⟩, ?_⟩
  exact ((((hB1.setCell (by simp) _).setCell (by simp) _).setCell (by simp) _).setCell (by simp) _).setCell (by simp) _
end Go.Proofs.YtjmdlppakinboaaDoor
