/-
  llGrid says whether two grids are the same.
-/
import Derived.Test.YtffjogoamobfoaaJr
import Derived.Laws.StructEq
namespace Go.Proofs.Ytffjogoamobfoaa
open Go.RowKit
set_option linter.unusedVariables false
attribute [local go_sem ↓] Go.wp_at_zero Go.wp_at_succ

theorem grown_below {w w1 w2 : World} (hb : Below w.heap.size w w1) (hz : w.heap.size ≤ w1.heap.size) (hg : w1.grownBy w2 (some w.heap.size)) : Below w.heap.size w w2 :=
  ⟨hg.os.trans hb.os, hg.tape.trans hb.tape, hg.output.trans hb.output, Nat.le_trans hz hg.size, fun k hk => (hg.block k (by omega) (by simp; omega)).trans (hb.block k hk)⟩

theorem stU : Try.prog.underlying 29 = some (.struct (Try.prog.fieldsOf 29)) := by kernel_rfl
theorem stH : Try.prog.stoodInHeld 29 = false := by kernel_rfl
theorem stG : Try.prog.eqGuardType Try.prog.depth 29 = false := by kernel_rfl
theorem neqCell (k l k2 l2 : Int) (w : World) : Sem.run Try.prog (binOp .neq 29 (.agg #[.int .i64 k, .int .i64 l]) (.agg #[.int .i64 k2, .int .i64 l2])) w = .ok (.bool (!(decide (k = k2 ∧ l = l2)))) w := by
  rw [run_neq_struct, run_equalIn_agg _ _ _ _ _ stU stH]
  simp [Op.eqFields, go_sem]
  by_cases h1 : k = k2 <;> by_cases h2 : l = l2 <;> simp [h1, h2]

def eqL (wd wd2 : Int) (cs ds : List (Int × Int)) : Bool := decide (wd = wd2 ∧ cs = ds)

end Go.Proofs.Ytffjogoamobfoaa
