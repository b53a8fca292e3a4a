/-
  impl.lineOf: the numbers of one side, with blanks between them, and a new line.
-/
import Derived.Test.YtnochicpkcjjlaaDoorHr
import Derived.Test.YtnochicpkcjjlaaDoorSt
import Derived.Test.YtnochicpkcjjlaaDoorShelf
import Derived.Lib.ItoaLen
import Derived.Lib.AppendIntMem
namespace Go.Proofs.YtnochicpkcjjlaaDoor
open Go.RowKit
set_option linter.unusedVariables false

/-- The table of powers of ten reads as its text lays it. -/
def Tab (w : World) : Prop := Lib.TabIs Tryd.prog w "internal/strconv.uint64pow10" .u64 Lib.pow10Tab
theorem Tab.below {w w' : World} (h : Tab w) (hb : Below w.heap.size w w') : Tab w' := Lib.tabBelow_of_tabIs h w' hb
theorem below_grow (w : World) (k : Nat) (os : Array Obj) : Below w.heap.size w (Go.Sort.grow (w.drewN k) os) := by
  refine ⟨rfl, rfl, rfl, by simp [Go.Sort.grow, World.drewN], fun i hi => ?_⟩
  simp only [Go.Sort.grow, World.drewN]
  exact Array.getElem?_append_left hi
theorem itoa_st (n : Int) (h : -9223372036854775808 ≤ n ∧ n ≤ 9223372036854775807) (w : World) (ht : Tab w) :
    Calls Tryd.prog 40 #[.int .i64 n] w fun e w' => e = .returned (.string (str (Lib.itoa n))) ∧ Below w.heap.size w w' :=
  (Tryd.strconv_Itoa n h.1 h.2 w ht).mono fun e w' ⟨he, k, os, hw⟩ => ⟨he, by rw [hw]; exact below_grow w k os⟩

theorem infoStr : (Tryd.prog.info? 9).map (fun i => (i.zero, i.size, i.bytes)) = some (some (.string ⟨#[]⟩), 1, 16) := by kernel_rfl
def strsV (xs : List (List UInt8)) : List Value := xs.map fun x => .string (str x)
/-- A row of strings of the call's own. -/
def OwnS (w : World) (B : Nat) (v : Value) (xs : List (List UInt8)) : Prop := w.ownsRow B 9 1 v xs.length (strsV xs)
theorem make_str (n : Nat) (hn : n ≤ 1048576) (w : World) : (Instr.makeSlice 67 (.int .i64 0) (.int .i64 (n : Int))).run Tryd.prog w = .ok (.slice (some ⟨w.heap.size, 0, none⟩) 0 n) (w.alloc (.cells (madeCells #[.string ⟨#[]⟩] n) 9)) := by
  obtain ⟨i0, hi, iz0, iz1, iz2⟩ := info_parts infoStr
  have := run_make (P := Tryd.prog) w 67 9 i0 (.string ⟨#[]⟩) Tryd.underlying67 hi iz0 .i64 .i64 0 (n : Int) (by omega) (by omega) (by rw [iz2]; omega) (by omega)
  rw [iz1] at this
  simpa [Value.cells] using this
theorem made_str (n : Nat) (hn : n ≤ 1048576) (w : World) (B : Nat) (hB : B ≤ w.heap.size) : OwnS (w.alloc (.cells (madeCells #[.string ⟨#[]⟩] n) 9)) B (.slice (some ⟨w.heap.size, 0, none⟩) 0 n) [] := by
  obtain ⟨i0, hi, iz0, iz1, iz2⟩ := info_parts infoStr
  obtain ⟨w', hr, ho, hg⟩ := run_make_own (P := Tryd.prog) w B 67 9 i0 (.string ⟨#[]⟩) 1 Tryd.underlying67 hi iz0 iz1 .i64 .i64 n (by rw [iz2]; omega) (by unfold maxLen; omega) hB
  rw [make_str n hn w] at hr
  simp only [Result.ok.injEq, true_and] at hr
  rw [hr]
  exact ho
theorem ownsS_below {w w' : World} {B : Nat} {e : TypeId} {s : Nat} {v : Value} {n : Nat} {xs : List Value} (h : w.ownsRow B e s v n xs) (hb : Below w.heap.size w w') : w'.ownsRow B e s v n xs := by
  refine ⟨h.1, ?_⟩
  rcases h.2 with hn | ⟨g, cap, cur, hv, hB, hg, rest⟩
  · exact .inl hn
  · exact .inr ⟨g, cap, cur, hv, hB, by rw [hb.block g (Array.getElem?_eq_some_iff.1 hg).1]; exact hg, rest⟩

/-- The line of numbers. -/
def lineL (xs : List Int) : List UInt8 := Lib.join (xs.map Lib.itoa) [32] ++ [10]
theorem join_len (l : List (List UInt8)) (h : ∀ x ∈ l, x.length ≤ 21) : (Lib.join l [32]).length ≤ 22 * l.length := by
  unfold Lib.join List.intercalate
  induction l with
  | nil => simp
  | cons x r ih =>
    have h1 := h x (by simp)
    have h2 := ih (fun y hy => h y (by simp [hy]))
    cases r with
    | nil => simp; omega
    | cons y s =>
      simp only [List.intersperse_cons_cons, List.flatten_cons, List.length_append, List.length_cons, List.length_nil] at h2 ⊢
      omega
theorem unstr (l : List (List UInt8)) : (l.map str).map (fun x => x.data.toList) = l := by
  simp [str, Function.comp_def]
theorem own_capS {w : World} {B : Nat} {e : TypeId} {g n c : Nat} {xs : List Value} (h : w.ownsRow B e 1 (.slice (some ⟨g, 0, none⟩) n c) n xs) : n ≤ c := by
  rcases h.2 with ⟨hn, _⟩ | ⟨g', cap, cur, hv, _, _, hc, _⟩
  · cases hn
  · simp only [Value.slice.injEq, Option.some.injEq] at hv
    rw [hv.2.2]
    exact hc
end Go.Proofs.YtnochicpkcjjlaaDoor
