/-
  The contracts of GridText by the text's name, and when strings are the same.
-/
import Derived.Test.YteibklaabnnfbaaSe
import Derived.Test.YteibklaabnnfbaaDt
namespace Go.Proofs.Yteibklaabnnfbaa
open Go.RowKit
set_option linter.unusedVariables false

theorem text_impl {wd : Int} {cs : List (Int × Int)} {tx : List UInt8} (hx : textG wd cs = tx) (a : Option Addr) (cap : Nat) (w : World) (h : CellsAt w a cs) (hm : cs.length ≤ 1048576) :
    Calls Try.prog 11 #[.agg #[.int .i64 wd, .slice a cs.length cap]] w fun e w' => e = .returned (.string (str tx)) ∧ Below w.heap.size w w' := by
  have := implGridText_any wd a cap cs w h hm
  rw [hx] at this
  exact this
theorem text_spec {wd : Int} {cs : List (Int × Int)} {tx : List UInt8} (hx : textG wd cs = tx) (a : Option Addr) (cap : Nat) (w : World) (h : CellsAt w a cs) (hm : cs.length ≤ 1048576) :
    Calls Try.prog 13 #[.agg #[.int .i64 wd, .slice a cs.length cap]] w fun e w' => e = .returned (.string (str tx)) ∧ Below w.heap.size w w' := by
  have := specGridText_any wd a cap cs w h hm
  rw [hx] at this
  exact this
theorem str_toList (x : List UInt8) : (str x).toList = x := by
  rw [ByteArray.toList_eq]
  simp [str]
theorem str_beq (x y : List UInt8) : ((str x).toList == (str y).toList) = decide (x = y) := by
  rw [str_toList, str_toList]
  by_cases h : x = y <;> simp [h]
theorem str_none (x : List UInt8) : ((str x).toList == (ByteArray.mk #[]).toList) = decide (x = []) := str_beq x []

theorem str_empty (x : List UInt8) : (str x).toList.isEmpty = decide (x = []) := by
  rw [str_toList]
  cases x <;> simp

end Go.Proofs.Yteibklaabnnfbaa
