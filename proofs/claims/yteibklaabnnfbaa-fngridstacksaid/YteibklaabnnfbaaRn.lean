/-
  Helps for reading a grid: new rows, a piece of a string as bytes, a byte of a string.
-/
import Derived.Test.YteibklaabnnfbaaRm
import Derived.Laws.DeepStrings4
namespace Go.Proofs.Yteibklaabnnfbaa
open Go.RowKit
set_option linter.unusedVariables false

theorem make_zeroC (n : Nat) (hn : n ≤ 1048576) (w : World) : (Instr.makeSlice 24 (.int .i64 0) (.int .i64 (n : Int))).run Try.prog w = .ok (.slice (some ⟨w.heap.size, 0, none⟩) 0 n) (w.alloc (.cells (madeCells #[.int .i64 0, .int .i64 0] (n * 2)) 44)) := by
  obtain ⟨i0, hi, iz0, iz1, iz2⟩ := info_parts infoCell
  have := run_make (P := Try.prog) w 24 44 i0 (.agg #[.int .i64 0, .int .i64 0]) Try.underlying24 hi iz0 .i64 .i64 0 (n : Int) (by omega) (by omega) (by rw [iz2]; omega) (by omega)
  rw [iz1] at this
  simpa [Value.cells] using this
theorem made_ownC (n : Nat) (hn : n ≤ 1048576) (w : World) (B : Nat) (hB : B ≤ w.heap.size) : Own (w.alloc (.cells (madeCells #[.int .i64 0, .int .i64 0] (n * 2)) 44)) B (.slice (some ⟨w.heap.size, 0, none⟩) 0 n) [] := by
  obtain ⟨i0, hi, iz0, iz1, iz2⟩ := info_parts infoCell
  obtain ⟨w', hr, ho, hg⟩ := run_make_own (P := Try.prog) w B 24 44 i0 (.agg #[.int .i64 0, .int .i64 0]) 2 Try.underlying24 hi iz0 iz1 .i64 .i64 n (by rw [iz2]; omega) (by unfold maxLen; omega) hB
  rw [make_zeroC n hn w] at hr
  simp only [Result.ok.injEq, true_and] at hr
  rw [hr]
  exact ho
theorem str_extract (t : List UInt8) (i j : Nat) : (str t).extract i j = str ((t.drop i).take (j - i)) := by
  apply ByteArray.ext
  rw [ByteArray.data_extract]
  simp only [str]
  rw [List.extract_toArray, List.extract_eq_take_drop]
theorem slice_str (t : List UInt8) (i j : Nat) (hij : i ≤ j) (hj : j ≤ t.length) (w : World) : (Instr.slice 9 (.string (str t)) (some (.int .i64 (i : Int))) (some (.int .i64 (j : Int))) none).run Try.prog w = .ok (.string (str ((t.drop i).take (j - i)))) w := by
  rw [run_slice_string_if w 9 (str t) .i64 .i64 i j Try.underlying9, if_pos ⟨by omega, by rw [str_size]; omega⟩, if_pos (by omega)]
  simp only [Int.toNat_natCast, str_extract]
theorem idx_str (t : List UInt8) (i : Nat) (b : UInt8) (h : t[i]? = some b) (w : World) : Sem.run Try.prog (Instr.index 9 (.string (str t)) (.int .i64 (i : Int))) w = .ok (.int .u8 (b.toNat : Int)) w := by
  obtain ⟨hi, e⟩ := List.getElem?_eq_some_iff.1 h
  have h2 : i < (str t).size := by rw [str_size]; exact hi
  have e2 : (str t)[i]? = some b := by rw [getElem?_pos (str t) i h2, ← e]; rfl
  have h3 : (0 : Int) ≤ (i : Int) := by omega
  simp [Instr.index, run_underlying Try.underlying9, go_sem, e2]
theorem conv_bytes (row : List UInt8) (w : World) : ∃ (wx : World) (cx : Nat), (convert 9 22 (.string (str row))).run Try.prog w = .ok (.slice (some ⟨w.heap.size, 0, none⟩) row.length cx) wx ∧ Below w.heap.size w wx ∧ w.heap.size < wx.heap.size ∧
    ∀ (j : Nat) (hj : j < row.length), wx.cell? ⟨w.heap.size, j, none⟩ = some (.int .u8 (row[j].toNat : Int)) := by
  have := run_bytes_of_string (P := Try.prog) w 9 22 5 (str row) Try.underlying9 Try.underlying22 Try.underlying5
  rw [str_size] at this
  refine ⟨_, _, this, ((Below.refl _ _).drew).alloc (Nat.le_refl _) _, by simp, fun j hj => ?_⟩
  have hm := World.cell?_alloc_mark w.drew (bytesRow (str row) (grownCap w row.length 0 5)) 5 ((bytesRow (str row) (grownCap w row.length 0 5)).size, (bytesRow (str row) (grownCap w row.length 0 5)).size + 1) j
  refine Eq.trans hm ?_
  rw [bytesRow_at (str row) _ j (by simpa [str] using hj)]
  simp [str]

/-- What reading a text answers. -/
def ReadAs (t : List UInt8) (e : Ending) (w' : World) (B : Nat) : Prop :=
  (∃ (wd : Int) (v : Value) (cs : List (Int × Int)), okG wd cs = true ∧ textG wd cs = t ∧ e = .returned (.tuple #[.agg #[.int .i64 wd, v], .bool true]) ∧ Own w' B v cs) ∨
  ((∀ wd cs, okG wd cs = true → textG wd cs ≠ t) ∧ e = .returned (.tuple #[.agg #[.int .i64 0, .slice none 0 0], .bool false]))

end Go.Proofs.Yteibklaabnnfbaa
