/-
  Strings of Go as rows of bytes.
-/
import Derived.Test.YtnochicpkcjjlaaDoorJa
import Derived.Laws.IdiomStrings
namespace Go.Proofs.YtnochicpkcjjlaaDoor
open Go.RowKit
set_option linter.unusedVariables false

/-- Bytes as a string of Go. -/
def str (l : List UInt8) : ByteArray := ⟨l.toArray⟩
theorem str_append (x y : List UInt8) : str x ++ str y = str (x ++ y) := by
  apply ByteArray.ext
  simp [str]
theorem str_size (x : List UInt8) : (str x).size = x.length := by simp [str, ByteArray.size]
theorem str_inj (x y : List UInt8) : str x = str y ↔ x = y := by
  constructor
  · intro h
    simp only [str, ByteArray.mk.injEq] at h
    simpa using h
  · intro h; rw [h]

theorem conv_one (w : World) (b : UInt8) : (convert 22 9 (.slice (some ⟨w.heap.size, 0, none⟩) 1 1)).run Tryd.prog (w.alloc (.cells #[.int .u8 (b.toNat : Int)] 5)) = .ok (.string (str [b])) (w.alloc (.cells #[.int .u8 (b.toNat : Int)] 5)) := by
  have := run_convert_bytes_back (P := Tryd.prog) (w.alloc (.cells #[.int .u8 (b.toNat : Int)] 5)) 22 9 5 ⟨w.heap.size, 0, none⟩ 1 [b] Tryd.underlying22 Tryd.underlying5 Tryd.underlying9
    (fun j hj => by
      have : j = 0 := by simpa using hj
      subst this
      simp [go_sem])
  exact this
theorem conv_at (w : World) (b : UInt8) (blk : Nat) (h : w.cell? ⟨blk, 0, none⟩ = some (.int .u8 (b.toNat : Int))) : (convert 22 9 (.slice (some ⟨blk, 0, none⟩) 1 1)).run Tryd.prog w = .ok (.string (str [b])) w := by
  have := run_convert_bytes_back (P := Tryd.prog) w 22 9 5 ⟨blk, 0, none⟩ 1 [b] Tryd.underlying22 Tryd.underlying5 Tryd.underlying9
    (fun j hj => by
      have : j = 0 := by simpa using hj
      subst this
      simpa [go_sem] using h)
  exact this
theorem idx_str (t : List UInt8) (i : Nat) (b : UInt8) (h : t[i]? = some b) (w : World) : Sem.run Tryd.prog (Instr.index 9 (.string (str t)) (.int .i64 (i : Int))) w = .ok (.int .u8 (b.toNat : Int)) w := by
  obtain ⟨hi, e⟩ := List.getElem?_eq_some_iff.1 h
  have h2 : i < (str t).size := by rw [str_size]; exact hi
  have e2 : (str t)[i]? = some b := by rw [getElem?_pos (str t) i h2, ← e]; rfl
  have h3 : (0 : Int) ≤ (i : Int) := by omega
  simp [Instr.index, run_underlying Tryd.underlying9, go_sem, e2]
end Go.Proofs.YtnochicpkcjjlaaDoor
