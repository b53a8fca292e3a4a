/-
  strings.IndexByte, and where the first line of a text ends.
-/
import Derived.Test.YteibklaabnnfbaaSf
import Derived.Laws.Externs
namespace Go.Proofs.Yteibklaabnnfbaa
open Go.RowKit
set_option linter.unusedVariables false

theorem liteIndexByte_any (s : ByteArray) (c : Int) (w : World) :
    Calls Try.prog 35 #[.string s, .int .u8 c] w fun e w' => e = .returned (.int .i64 (firstIdx s c.toNat.toUInt8)) ∧ w' = w := by
  have hd : ∀ w : World, (callFunc 42 #[.string s, .int .u8 c]).run Try.prog w = .ok (.value (.int .i64 (firstIdx s c.toNat.toUInt8))) w := fun w => by
    rw [run_callFunc_extern Try.func42 (by kernel_rfl) (by kernel_rfl) (by kernel_rfl) (e := Extern.BytealgIndexByte.indexByte) (by kernel_rfl), run_indexByte_string]
    rfl
  go_enter Try.func35, Try.ntmps35
  go_wp2
  go_ret
  exact ⟨rfl, rfl⟩
theorem indexByte_any (s : ByteArray) (c : Int) (w : World) :
    Calls Try.prog 22 #[.string s, .int .u8 c] w fun e w' => e = .returned (.int .i64 (firstIdx s c.toNat.toUInt8)) ∧ w' = w := by
  go_enter Try.func22, Try.ntmps22
  go_wp2_with fail
  refine (liteIndexByte_any s c _).mono ?_
  rintro e w1 ⟨rfl, rfl⟩
  go_wp2
  go_ret
  exact ⟨rfl, rfl⟩

theorem str_at (t : List UInt8) (i : Nat) (h : i < t.length) : (str t)[i]! = t[i] := by
  have h2 : i < (str t).size := by rw [str_size]; exact h
  rw [getElem!_pos (str t) i h2]
  rfl
theorem first_spec (t : List UInt8) : (firstIdx (str t) 10 = -1 ∧ 10 ∉ t) ∨ ∃ pre rest : List UInt8, t = pre ++ 10 :: rest ∧ 10 ∉ pre ∧ firstIdx (str t) 10 = (pre.length : Int) := by
  unfold firstIdx
  rw [str_size]
  cases hf : (List.range t.length).find? fun i => (str t)[i]! == 10 with
  | none =>
    left
    refine ⟨rfl, fun hm => ?_⟩
    obtain ⟨i, hi, e⟩ := List.getElem_of_mem hm
    have := List.find?_eq_none.1 hf i (List.mem_range.2 hi)
    rw [str_at t i hi, e] at this
    simp at this
  | some i =>
    right
    rw [List.find?_range_eq_some] at hf
    obtain ⟨h1, h2, h3⟩ := hf
    have hi : i < t.length := List.mem_range.1 h2
    rw [str_at t i hi] at h1
    have e : t[i] = 10 := by simpa using h1
    refine ⟨t.take i, t.drop (i + 1), ?_, fun hm => ?_, by simp; omega⟩
    · have hd := List.drop_eq_getElem_cons hi
      rw [e] at hd
      rw [← hd, List.take_append_drop]
    · obtain ⟨j, hj, ej⟩ := List.getElem_of_mem hm
      simp only [List.length_take] at hj
      rw [List.getElem_take] at ej
      have := h3 j (by omega)
      rw [str_at t j (by omega), ej] at this
      simp at this

end Go.Proofs.Yteibklaabnnfbaa
