/- Of the proof: PJg -/
import Derived.Deep.RegionHeld3
import Derived.Laws.CopyOwn
import Derived.Deep.WholeRow
import Derived.Test.YtdhopelplokehaaGreatDAc
set_option linter.unusedVariables false
namespace Go.Proofs.YtdhopelplokehaaGreat
namespace Sp
open Go.RowKit
end Sp
namespace Sp
open Go.RowKit
def sidesA (W H n:Int):Array Value:=#[.int .i64 (0),.int .i64 (W),.int .i64 (0),.int .i64 (1),.int .i64 (2),.int .i64 (0),.int .i64 (W),.int .i64 (H),.int .i64 (W - 1),.int .i64 (W),.int .i64 (3),.int .i64 (1),.int .i64 (W + H),.int .i64 (W),.int .i64 (n - 1),.int .i64 (-1),.int .i64 (0),.int .i64 (2),.int .i64 (W + H + W),.int .i64 (H),.int .i64 (n - 1 - W + 1),.int .i64 (-W),.int .i64 (1),.int .i64 (3)]
theorem sidesA_size (W H n:Int):(sidesA W H n).size=24:=rfl
theorem sidesA_one (W H n:Int):(sidesA W H n).all (·.oneCell')=true:=by kernel_rfl
theorem store_whole {P:Program} {w:World} {ops:Array Oper} {rest:List Oper} {o:Oper} {a:Act} {Q:Exit->Act->World->Prop} (hgd:o.guard=none) (ty:TypeId) (x y:Operand) (ho:o.op=.store ty x y)
  (g:Nat) (cells:Array Value) (hx:a.eval x=.pointer (some ⟨g,0,none⟩)) (hy:a.eval y=.agg cells)
  (t:TypeId) (old:Array Value) (hg:w.heap[g]?=some (.cells old t (0,0))) (hi:(P.info? ty).map (·.size)=some cells.size)
  (hold:old.size=cells.size) (h1:cells.all (·.oneCell')=true)
  (h:∀ w',w'.heap[g]?=some (.cells cells t (0,0))->(∀ B w0,Below B w0 w->B<=g->Below B w0 w')->wpList P ops Q rest (a.put o.dst undef) w'):wpList P ops Q (o :: rest) a w :=
 wpList_plain hgd fun _ hK=>wp_store_row ty x y ho g cells hx hy t old hg hi hold h1 (hK _ _ (h _ (setRow_heap w g old cells t (0,0) hg) (fun _ _ hb hB=>below_setRow hb hB cells)))
end Sp
namespace Sp
open Go.RowKit
def sa (f s o x:Int):Nat->Int
 | 0=>-1
 | n + 1=>if sa f s o x n ≠ -1 then sa f s o x n else if s + (n:Int) * o=x then f + n else -1
theorem sa_hit (f s o x:Int) (hf:0<=f) (k:Nat) (h0:sa f s o x k=-1) (h1:s + (k:Int) * o=x) (m:Nat) (hm:k < m):sa f s o x m=f + k:=by
 induction m with
 | zero=>omega
 | succ m ih =>
  simp only [sa]
  by_cases e:k=m
  ·subst e
   rw [if_neg (by simp [h0]),if_pos h1]
  ·rw [ih (by omega),if_pos (by omega)]
theorem sa_miss (f s o x:Int) (k:Nat) (h0:sa f s o x k=-1) (h1:¬ s + (k:Int) * o=x):sa f s o x (k + 1)=-1:=by
 simp only [sa]
 rw [if_neg (by simp [h0]),if_neg h1]
end Sp
namespace Sp
open Go.RowKit
end Sp
end Go.Proofs.YtdhopelplokehaaGreat
