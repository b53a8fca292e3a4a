/- Of the proof: PJg -/
import Derived.Deep.RegionHeld3
import Derived.Laws.CopyOwn
import Derived.Deep.WholeRow
import Derived.Test.YtdhopelplokehaaGreatLAc
set_option maxHeartbeats 4000000
set_option linter.unusedVariables false
namespace Go.Proofs.YtdhopelplokehaaGreat
namespace Sp
open Go.RowKit
end Sp
namespace Sp
open Go.RowKit
def sidesA (W H n : Int) : Array Value := #[.int .i64 (0), .int .i64 (W), .int .i64 (0), .int .i64 (1), .int .i64 (2), .int .i64 (0), .int .i64 (W), .int .i64 (H), .int .i64 (W - 1), .int .i64 (W), .int .i64 (3), .int .i64 (1), .int .i64 (W + H), .int .i64 (W), .int .i64 (n - 1), .int .i64 (-1), .int .i64 (0), .int .i64 (2), .int .i64 (W + H + W), .int .i64 (H), .int .i64 (n - 1 - W + 1), .int .i64 (-W), .int .i64 (1), .int .i64 (3)]
theorem infoSides : (SqP.prog.info? 95).map (·.size) = some 24 := by kernel_rfl
theorem underSides : SqP.prog.underlying 95 = some (.array 4 65) := by kernel_rfl
theorem sidesA_size (W H n : Int) : (sidesA W H n).size = 24 := rfl
theorem sidesA_one (W H n : Int) : (sidesA W H n).all (·.oneCell') = true := by kernel_rfl
theorem load_sides (W H n : Int) (w : World) (g : Nat) (hg : w.heap[g]? = some (.cells (sidesA W H n) 95 (0, 0))) :
  Sem.run SqP.prog (loadVar 95 ⟨g, 0, none⟩) w = .ok (.agg (sidesA W H n)) w :=
 run_loadVar_row w g 95 95 (sidesA W H n) (0, 0) _ hg underSides rfl (by rw [infoSides, sidesA_size])
theorem store_whole {P : Program} {w : World} {ops : Array Oper} {rest : List Oper} {o : Oper} {a : Act} {Q : Exit -> Act -> World -> Prop} (hgd : o.guard = none) (ty : TypeId) (x y : Operand) (ho : o.op = .store ty x y)
  (g : Nat) (cells : Array Value) (hx : a.eval x = .pointer (some ⟨g, 0, none⟩)) (hy : a.eval y = .agg cells)
  (t : TypeId) (old : Array Value) (hg : w.heap[g]? = some (.cells old t (0, 0))) (hi : (P.info? ty).map (·.size) = some cells.size)
  (hold : old.size = cells.size) (h1 : cells.all (·.oneCell') = true)
  (h : ∀ w', w'.heap[g]? = some (.cells cells t (0, 0)) -> (∀ B w0, Below B w0 w -> B <= g -> Below B w0 w') -> wpList P ops Q rest (a.put o.dst undef) w') : wpList P ops Q (o :: rest) a w :=
 wpList_plain hgd fun _ hK => wp_store_row ty x y ho g cells hx hy t old hg hi hold h1 (hK _ _ (h _ (setRow_heap w g old cells t (0, 0) hg) (fun _ _ hb hB => below_setRow hb hB cells)))
set_option maxRecDepth 4000 in
theorem sidesOf_any (W H : Nat) (a : Option Addr) (n cap : Nat) (w : World) (hW : 1 <= W /\ W <= 5) (hH5 : 1 <= H /\ H <= 5) (hn : n <= 25) (hH : n / W = H) :
  Calls SqP.prog 60 #[.agg #[.int .i64 (W : Int), .slice a n cap]] w fun e w' => e = .returned (.agg (sidesA W H n)) /\ Below w.heap.size w w' := by
 have HH : Hid (n / W = H) := hH
 have hWa := hW.1
 have hWb := hW.2
 have hHb := hH5.2
 obtain ⟨w0, hw0⟩ : ∃ w0, w0 = (w.alloc (.cells #[.int .i64 (W : Int), .slice a n cap] 25)).alloc (.cells #[.int .i64 0, .int .i64 0, .int .i64 0, .int .i64 0, .int .i64 0, .int .i64 0, .int .i64 0, .int .i64 0, .int .i64 0, .int .i64 0, .int .i64 0, .int .i64 0, .int .i64 0, .int .i64 0, .int .i64 0, .int .i64 0, .int .i64 0, .int .i64 0, .int .i64 0, .int .i64 0, .int .i64 0, .int .i64 0, .int .i64 0, .int .i64 0] 95) := ⟨_, rfl⟩
 have hbB : Below w.heap.size w w0 := by rw [hw0]; exact bel
 have g0 : w0.cell? ⟨w.heap.size, 0, none⟩ = some (.int .i64 (W : Int)) := by rw [hw0]; simp [go_sem]
 have g1 : w0.cell? ⟨w.heap.size, 1, none⟩ = some (.slice a n cap) := by rw [hw0]; simp [go_sem]
 have hz0 : w0.heap.size = w.heap.size + 2 := by rw [hw0]; simp [go_sem]
 have hh0 : w0.heap[w.heap.size + 1]? = some (.cells #[.int .i64 0, .int .i64 0, .int .i64 0, .int .i64 0, .int .i64 0, .int .i64 0, .int .i64 0, .int .i64 0, .int .i64 0, .int .i64 0, .int .i64 0, .int .i64 0, .int .i64 0, .int .i64 0, .int .i64 0, .int .i64 0, .int .i64 0, .int .i64 0, .int .i64 0, .int .i64 0, .int .i64 0, .int .i64 0, .int .i64 0, .int .i64 0] 95 (0, 0)) := by
  rw [hw0]
  have := heap_alloc_last (w.alloc (.cells #[.int .i64 (W : Int), .slice a n cap] 25)) (.cells #[.int .i64 0, .int .i64 0, .int .i64 0, .int .i64 0, .int .i64 0, .int .i64 0, .int .i64 0, .int .i64 0, .int .i64 0, .int .i64 0, .int .i64 0, .int .i64 0, .int .i64 0, .int .i64 0, .int .i64 0, .int .i64 0, .int .i64 0, .int .i64 0, .int .i64 0, .int .i64 0, .int .i64 0, .int .i64 0, .int .i64 0, .int .i64 0] 95)
  rwa [show (w.alloc (.cells #[.int .i64 (W : Int), .slice a n cap] 25)).heap.size = w.heap.size + 1 by simp [go_sem]] at this
 have HH0 : Hid (w0.heap[w.heap.size + 1]? = some (.cells #[.int .i64 0, .int .i64 0, .int .i64 0, .int .i64 0, .int .i64 0, .int .i64 0, .int .i64 0, .int .i64 0, .int .i64 0, .int .i64 0, .int .i64 0, .int .i64 0, .int .i64 0, .int .i64 0, .int .i64 0, .int .i64 0, .int .i64 0, .int .i64 0, .int .i64 0, .int .i64 0, .int .i64 0, .int .i64 0, .int .i64 0, .int .i64 0] 95 (0, 0))) := hh0
 have HZ0 : Hid (w0.heap.size = w.heap.size + 2) := hz0
 clear hH hh0 hz0
 go_enter SqP.func60, Tryz.ntmps60
 go_wp2
 rw [<- hw0]
 clear hw0
 go_region_held3 (fun w' => w'.cell? ⟨w.heap.size, 0, none⟩ = some (.int .i64 (W : Int)) /\ w'.cell? ⟨w.heap.size, 1, none⟩ = some (.slice a n cap))
  (first
   | with_reducible exact ⟨keepc hbC g0, keepc hbC g1⟩
   | go_keep)
  (first
   | (go_at_call 45; refine (rowsI_any W H _ _ _ _ hW.1 (by omega) HH.out).mono ?_; rintro e x0 ⟨rfl, hbC'⟩; have hbC : Below w0.heap.size w0 x0 := (by first | with_reducible exact hbC' | with_reducible exact bdrew hbC'))
   | fail)
 have hx0 : x0.heap[w.heap.size + 1]? = some (.cells #[.int .i64 0, .int .i64 0, .int .i64 0, .int .i64 0, .int .i64 0, .int .i64 0, .int .i64 0, .int .i64 0, .int .i64 0, .int .i64 0, .int .i64 0, .int .i64 0, .int .i64 0, .int .i64 0, .int .i64 0, .int .i64 0, .int .i64 0, .int .i64 0, .int .i64 0, .int .i64 0, .int .i64 0, .int .i64 0, .int .i64 0, .int .i64 0] 95 (0, 0)) := (hbC.block _ (by rw [HZ0.out]; omega)).trans HH0.out
 have hb0 := bcall hbB hbB.size hbC
 clear hbB hbC hbC' g0 g1 HH0 HZ0 HH hW hH5
 have HX : Hid (x0.heap[w.heap.size + 1]? = some (.cells #[.int .i64 0, .int .i64 0, .int .i64 0, .int .i64 0, .int .i64 0, .int .i64 0, .int .i64 0, .int .i64 0, .int .i64 0, .int .i64 0, .int .i64 0, .int .i64 0, .int .i64 0, .int .i64 0, .int .i64 0, .int .i64 0, .int .i64 0, .int .i64 0, .int .i64 0, .int .i64 0, .int .i64 0, .int .i64 0, .int .i64 0, .int .i64 0] 95 (0, 0))) := hx0
 clear hx0
 go_wp2_with (refine store_whole rfl 95 (.tmp 2) (.tmp 41) rfl (w.heap.size + 1) (sidesA (W : Int) (H : Int) (n : Int)) rfl rfl 95 _ HX.out infoSides rfl (sidesA_one _ _ _) ?_)
 intro x1 hx1 hbf
 have hb1 := hbf _ _ hb0 (by omega)
 go_wp2
 have hld := load_sides (W : Int) (H : Int) (n : Int) x1 (w.heap.size + 1) hx1
 refine bodyPost_ret (v := .agg (sidesA (W : Int) (H : Int) (n : Int))) ?_ rfl ⟨rfl, hb1⟩
 simp [results, Tryz.results60, asAddr, hld]
end Sp
namespace Sp
open Go.RowKit
def sa (f s o x : Int) : Nat -> Int
 | 0 => -1
 | n + 1 => if sa f s o x n ≠ -1 then sa f s o x n else if s + (n : Int) * o = x then f + n else -1
theorem sa_hit (f s o x : Int) (hf : 0 <= f) (k : Nat) (h0 : sa f s o x k = -1) (h1 : s + (k : Int) * o = x) (m : Nat) (hm : k < m) : sa f s o x m = f + k := by
 induction m with
 | zero => omega
 | succ m ih =>
  simp only [sa]
  by_cases e : k = m
  ·subst e
   rw [if_neg (by simp [h0]), if_pos h1]
  ·rw [ih (by omega), if_pos (by omega)]
theorem sa_miss (f s o x : Int) (k : Nat) (h0 : sa f s o x k = -1) (h1 : ¬ s + (k : Int) * o = x) : sa f s o x (k + 1) = -1 := by
 simp only [sa]
 rw [if_neg (by simp [h0]), if_neg h1]
end Sp
namespace Sp
open Go.RowKit
theorem tellMany_any (q f m s o i u : Int) (hq : 0 <= q /\ q <= 100) (hm : 0 <= m /\ m <= 100) (w : World) :
  Calls SqP.prog 43 #[.int .i64 q, .agg #[.int .i64 f, .int .i64 m, .int .i64 s, .int .i64 o, .int .i64 i, .int .i64 u]] w fun e w' => e = .returned (.int .i64 (q + m)) /\ Below w.heap.size w w' := by
 go_enter SqP.func43, Tryz.ntmps43
 go_wp2
 go_ret
 exact ⟨rfl, bel⟩
end Sp
end Go.Proofs.YtdhopelplokehaaGreat
