/-
  The text of a grid: impl.GridText.
-/
import Derived.Test.YteibklaabnnfbaaSb
import Derived.Laws.MakeOwn
import Derived.Deep.AppendLies
import Derived.Deep.QuietTactic
namespace Go.Proofs.Yteibklaabnnfbaa
open Go.RowKit
set_option linter.unusedVariables false
attribute [local go_sem ↓] Go.wp_at_zero Go.wp_at_succ

theorem infoByte : (Try.prog.info? 5).map (fun i => (i.zero, i.size, i.bytes)) = some (some (.int .u8 0), 1, 1) := by kernel_rfl

/-- Bytes as cells. -/
def bytesV (l : List UInt8) : List Value := l.map fun b => .int .u8 (b.toNat : Int)
/-- A slice that owns its bytes. -/
def OwnB (w : World) (B : Nat) (v : Value) (l : List UInt8) : Prop := w.ownsRow B 5 1 v l.length (bytesV l)

theorem owns_below {w w' : World} {B : Nat} {e : TypeId} {s : Nat} {v : Value} {n : Nat} {xs : List Value} (h : w.ownsRow B e s v n xs) (hb : Below w.heap.size w w') : w'.ownsRow B e s v n xs := by
  refine ⟨h.1, ?_⟩
  rcases h.2 with hn | ⟨g, cap, cur, hv, hB, hg, rest⟩
  · exact .inl hn
  · exact .inr ⟨g, cap, cur, hv, hB, by rw [hb.block g (Array.getElem?_eq_some_iff.1 hg).1]; exact hg, rest⟩

theorem make_zero (n : Nat) (hn : n ≤ 1048576) (w : World) : (Instr.makeSlice 22 (.int .i64 0) (.int .i64 (n : Int))).run Try.prog w = .ok (.slice (some ⟨w.heap.size, 0, none⟩) 0 n) (w.alloc (.cells (madeCells #[.int .u8 0] n) 5)) := by
  obtain ⟨i0, hi, iz0, iz1, iz2⟩ := info_parts infoByte
  have := run_make (P := Try.prog) w 22 5 i0 (.int .u8 0) Try.underlying22 hi iz0 .i64 .i64 0 (n : Int) (by omega) (by omega) (by rw [iz2]; omega) (by omega)
  rw [iz1] at this
  simpa [Value.cells] using this
theorem made_own (n : Nat) (hn : n ≤ 1048576) (w : World) (B : Nat) (hB : B ≤ w.heap.size) : OwnB (w.alloc (.cells (madeCells #[.int .u8 0] n) 5)) B (.slice (some ⟨w.heap.size, 0, none⟩) 0 n) [] := by
  obtain ⟨i0, hi, iz0, iz1, iz2⟩ := info_parts infoByte
  obtain ⟨w', hr, ho, hg⟩ := run_make_own (P := Try.prog) w B 22 5 i0 (.int .u8 0) 1 Try.underlying22 hi iz0 iz1 .i64 .i64 n (by rw [iz2]; omega) (by unfold maxLen; omega) hB
  rw [make_zero n hn w] at hr
  simp only [Result.ok.injEq, true_and] at hr
  rw [hr]
  exact ho

set_option maxHeartbeats 400000 in
theorem rows_any (wd q : Int) (a : Option Addr) (n cap : Nat) (w : World) (hn : n ≤ 1048576) (h0 : (wd == 0) = false) (hq : IntKind.i64.wrap ((n : Int) / wd) = q) (h1 : 1 ≤ wd) :
    Calls Try.prog 24 #[.agg #[.int .i64 wd, .slice a n cap]] w fun e w' => e = .returned (.int .i64 q) ∧ Below w.heap.size w w' := by
  go_enter Try.func24, Try.ntmps24
  go_wp2
  go_ret
  exact ⟨rfl, (by repeat (first | exact Below.refl _ _ | refine Below.alloc ?_ (by first | exact Nat.le_refl _ | (simp; done) | (simp; omega)) _ | refine Below.drew ?_ | refine Below.setCell ?_ (by first | exact Nat.le_refl _ | (simp; done) | (simp; omega)) _))⟩

end Go.Proofs.Yteibklaabnnfbaa
