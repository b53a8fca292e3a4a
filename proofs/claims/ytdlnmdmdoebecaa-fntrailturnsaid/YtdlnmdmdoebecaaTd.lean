/-
  The contract of spec.GridTurn: the turned grid in new memory, or an empty one; it turns no memory that was there.
-/
import Derived.Test.YtdlnmdmdoebecaaTz
import Derived.Test.YtdlnmdmdoebecaaTc
import Derived.Test.YtdlnmdmdoebecaaJu
import Derived.Deep.RegionHeld3
import Derived.Deep.AppendLies
import Derived.Deep.DrawnRows
namespace Go.Proofs.Ytdlnmdmdoebecaa
open Go.RowKit
set_option linter.unusedVariables false
attribute [local go_sem ↓] Go.wp_at_zero Go.wp_at_succ

set_option maxHeartbeats 400000 in
theorem l1High_any (W H : Nat) (a : Option Addr) (n cap : Nat) (w : World) (hW : 1 ≤ W) (hn : n ≤ 1048576) (hH : n / W = H) :
    Calls Try.prog 71 #[.agg #[.int .i64 (W : Int), .slice a n cap]] w fun e w' => e = .returned (.int .i64 (H : Int)) ∧ Below w.heap.size w w' := by
  have h0 : (0 : Int) ≤ (n : Int) / (W : Int) := Int.ediv_nonneg (by omega) (by omega)
  have h1 : (n : Int) / (W : Int) ≤ n := Int.ediv_le_self _ (by omega)
  have hw : (1 : Int) ≤ (W : Int) := by omega
  have HH : Hid ((n : Int) / (W : Int) = (H : Int)) := by show _ = _; rw [← hH]; simp
  clear hH
  go_enter Try.func71, Try.ntmps71
  go_wp2
  go_ret
  exact ⟨by rw [← HH.out]; rfl, (by repeat (first | exact Below.refl _ _ | refine Below.alloc ?_ (by first | exact Nat.le_refl _ | (simp; done) | (simp; omega)) _ | refine Below.drew ?_ | refine Below.setCell ?_ (by first | exact Nat.le_refl _ | (simp; done) | (simp; omega)) _))⟩

/-- A call of a function by its contract, as one step of a region that draws its order. -/
theorem step_call1 {P : Program} {ops : Array Oper} {o : Oper} {a : Act} {w : World} {K : Act → World → Prop} {Q : Exit → Act → World → Prop} {E : Prop}
    (hgd : o.guard = none) (f : FuncId) (x : Operand) (at_ : TypeId) (ho : o.op = .call { callee := .value (.func f), args := #[x], argTypes := #[at_] }) (u : Value) (hv : a.eval x = u)
    (hrun : Sem.run P (callFunc f #[u]) w = .ok (.enter f #[u]) w) (hc : Calls P f #[u] w fun e w'' => ∃ v, e = .returned v ∧ K (a.put o.dst v) w'') :
    if Region.wanted o (yielded ops a.tmps) = true then Oper.wp P o a w K Q else E := by
  have hw : Region.wanted o (yielded ops a.tmps) = true := by simp [Region.wanted, hgd]
  rw [if_pos hw]
  unfold Oper.wp
  have he : execOp a.eval o = callFunc f #[u] := by
    subst hv
    obtain ⟨dst, op, ty, pos, after, guard⟩ := o
    simp only at ho
    subst ho
    rw [execOp_call_go]
    simp
  rw [he, hrun, Oper.upon_enter]
  refine hc.mono ?_
  rintro e w'' ⟨v, rfl, hk⟩
  exact hk
/-- What the loops keep: the grid's own box, the answer's, the box of what is made, and the row that it owns so far. -/
structure TurnInv (w wr : World) (W H b off n cap ob : Nat) (xs : List (Int × Int)) (g c : Nat) : Prop where
  below : Below w.heap.size w wr
  p0 : wr.cell? ⟨w.heap.size, 0, none⟩ = some (.int .i64 (W : Int))
  p1 : wr.cell? ⟨w.heap.size, 1, none⟩ = some (.slice (some ⟨b, off, none⟩) n cap)
  p4 : wr.cell? ⟨w.heap.size + 1, 0, none⟩ = some (.int .i64 0)
  p5 : wr.cell? ⟨w.heap.size + 1, 1, none⟩ = some (.slice none 0 0)
  f4 : wr.frozen? ⟨w.heap.size + 1, 0, none⟩ = false
  f5 : wr.frozen? ⟨w.heap.size + 1, 1, none⟩ = false
  o0 : wr.cell? ⟨ob, 0, none⟩ = some (.int .i64 (H : Int))
  o1 : wr.cell? ⟨ob, 1, none⟩ = some (.slice (some ⟨g, 0, none⟩) xs.length c)
  fo : wr.frozen? ⟨ob, 1, none⟩ = false
  own : Own wr (w.heap.size + 1 + 1) (.slice (some ⟨g, 0, none⟩) xs.length c) xs
  ne : g ≠ ob
  bw : b < w.heap.size ∧ w.heap.size + 1 < ob
  bo : w.heap.size ≤ ob

theorem TurnInv.call {w wr w2 : World} {W H b off n cap ob : Nat} {xs : List (Int × Int)} {g c : Nat} (h : TurnInv w wr W H b off n cap ob xs g c) (hb : Below wr.heap.size wr w2) : TurnInv w w2 W H b off n cap ob xs g c :=
  ⟨bcall h.below h.below.size hb, keepc hb h.p0, keepc hb h.p1, keepc hb h.p4, keepc hb h.p5, keepf hb h.p4 h.f4, keepf hb h.p5 h.f5, keepc hb h.o0, keepc hb h.o1, keepf hb h.o1 h.fo, h.own.below hb, h.ne, h.bw, h.bo⟩

theorem TurnInv.push {w w5 w6 : World} {W H b off n cap ob : Nat} {xs : List (Int × Int)} {g c g6 k6 : Nat} {x y : Int} {o : Obj} (h : TurnInv w w5 W H b off n cap ob xs g c) (hg : (w5.alloc o).grownBy w6 (some g))
    (hO : w6.ownsRow (w.heap.size + 1 + 1) 33 2 (.slice (some ⟨g6, 0, none⟩) (xs.length + 1) k6) (xs.length + 1) (flat xs ++ [.int .i64 x, .int .i64 y])) (hat : some g = some g6 ∨ g6 = w5.heap.size + 1) :
    TurnInv w (w6.setCell ⟨ob, 1, none⟩ (.slice (some ⟨g6, 0, none⟩) (xs.length + 1) k6)) W H b off n cap ob (xs ++ [(x, y)]) g6 k6 := by
  have sl := h.own.lt
  have so := World.block_lt_of_cell? w5 _ h.o1
  have hne := h.ne
  simp only at so
  have hz := h.below.size
  have hg' : g6 ≠ ob := by
    rcases hat with e | e
    · simp only [Option.some.injEq] at e; omega
    · omega
  have kp : ∀ {bb oo : Nat} {v : Value}, w5.cell? ⟨bb, oo, none⟩ = some v → bb ≠ g → w6.cell? ⟨bb, oo, none⟩ = some v := fun {bb oo v} hc hn =>
    hg.cell ((World.cell?_alloc_past _ _ _ (World.block_lt_of_cell? w5 _ hc)).trans hc) (by simp only [ne_eq, Option.some.injEq]; exact hn)
  have kf : ∀ {bb oo : Nat} {v : Value} {t : Bool}, w5.cell? ⟨bb, oo, none⟩ = some v → w5.frozen? ⟨bb, oo, none⟩ = t → bb ≠ g → w6.frozen? ⟨bb, oo, none⟩ = t := fun {bb oo v t} hc hf hn => by
    have hl := World.block_lt_of_cell? w5 _ hc
    simp only at hl
    rw [World.frozen?_of_block (w := w5.alloc o) (a := ⟨bb, oo, none⟩) (hg.block bb (by simp; omega) (by simp only [ne_eq, Option.some.injEq]; exact hn)), World.frozen?_of_block (w := w5) (a := ⟨bb, oo, none⟩) (Below.heap_alloc w5 o bb hl)]
    exact hf
  have hB : Below w.heap.size w w6 := (h.below.alloc hz o).grown hg (by simp; omega) (fun k hk => by simp only [Option.some.injEq] at hk; omega)
  have ho1 : ob ≠ g := fun e => hne e.symm
  have hobw : w.heap.size ≠ ob ∧ w.heap.size + 1 ≠ ob := by
    have e0 := h.p0
    have e5 := h.p5
    have eo := h.o0
    have eo1 := h.o1
    refine ⟨fun e => ?_, fun e => ?_⟩
    · have f := h.below
      rw [← e] at eo1
      rw [h.p1] at eo1
      simp only [Option.some.injEq, Value.slice.injEq] at eo1
      have := h.bw
      omega
    · rw [← e] at eo1
      rw [h.p5] at eo1
      simp at eo1
  have hl : (xs ++ [(x, y)]).length = xs.length + 1 := by simp
  refine ⟨hB.setCell (p := ⟨ob, 1, none⟩) h.bo _, setc hobw.1 (kp h.p0 (by omega)), setc hobw.1 (kp h.p1 (by omega)), setc hobw.2 (kp h.p4 (by omega)), setc hobw.2 (kp h.p5 (by omega)), setf hobw.2 (kf h.p4 h.f4 (by omega)), setf hobw.2 (kf h.p5 h.f5 (by omega)), ?_, ?_, ?_, ?_, hg', h.bw, h.bo⟩
  · rw [World.cell?_setCell_other _ _ _ _ (by simp)]
    exact kp h.o0 ho1
  · rw [hl]
    exact World.cell?_setCell_same _ _ _ (kp h.o1 ho1)
  · rw [World.frozen?_setCell]
    exact kf h.o1 h.fo ho1
  · rw [hl]
    refine Own.other ?_ hg' _
    unfold Own
    rw [hl, flat_append]
    exact hO
theorem TurnInv.far {w w5 w6 : World} {W H b off n cap ob : Nat} {xs : List (Int × Int)} {g c : Nat} {o : Obj} (h : TurnInv w w5 W H b off n cap ob xs g c) (hg : (w5.alloc o).grownBy w6 (some g)) {bb oo : Nat} {v : Value}
    (hc : w5.cell? ⟨bb, oo, none⟩ = some v) (hn : bb < w.heap.size + 1 + 1 ∨ bb = ob) : w6.cell? ⟨bb, oo, none⟩ = some v := by
  have sl := h.own.lt
  have hne := h.ne
  exact hg.cell ((World.cell?_alloc_past _ _ _ (World.block_lt_of_cell? w5 _ hc)).trans hc) (by simp only [ne_eq, Option.some.injEq]; omega)
theorem TurnInv.farf {w w5 w6 : World} {W H b off n cap ob : Nat} {xs : List (Int × Int)} {g c : Nat} {o : Obj} (h : TurnInv w w5 W H b off n cap ob xs g c) (hg : (w5.alloc o).grownBy w6 (some g)) {bb oo : Nat} {v : Value} {t : Bool}
    (hc : w5.cell? ⟨bb, oo, none⟩ = some v) (hf : w5.frozen? ⟨bb, oo, none⟩ = t) (hn : bb < w.heap.size + 1 + 1 ∨ bb = ob) : w6.frozen? ⟨bb, oo, none⟩ = t := by
  have sl := h.own.lt
  have hne := h.ne
  have hl := World.block_lt_of_cell? w5 _ hc
  simp only at hl
  rw [World.frozen?_of_block (w := w5.alloc o) (a := ⟨bb, oo, none⟩) (hg.block bb (by simp; omega) (by simp only [ne_eq, Option.some.injEq]; omega)), World.frozen?_of_block (w := w5) (a := ⟨bb, oo, none⟩) (Below.heap_alloc w5 o bb hl)]
  exact hf
theorem turn_step (W H c t R : Nat) (hW : 1 ≤ W ∧ W ≤ 5) (hH : 1 ≤ H ∧ H ≤ 5) (hc : c < W) (hR : R + t + 1 = H) : turnAt W H (c * H + t) = R * W + c ∧ c * H + t < W * H ∧ R * W + c < W * H := by
  have h1 : (c * H + t) % H = t := by rw [Nat.add_comm, Nat.add_mul_mod_self_right]; exact Nat.mod_eq_of_lt (by omega)
  have h2 : (c * H + t) / H = c := by rw [Nat.add_comm, Nat.add_mul_div_right _ _ (by omega), Nat.div_eq_of_lt (by omega)]; omega
  have h3 : H - 1 - t = R := by omega
  refine ⟨by unfold turnAt; rw [h1, h2, h3], ?_, ?_⟩
  · have : (c + 1) * H ≤ W * H := Nat.mul_le_mul_right H hc
    rw [Nat.add_mul] at this
    omega
  · have : (R + 1) * W ≤ H * W := Nat.mul_le_mul_right W (by omega)
    rw [Nat.add_mul] at this
    rw [Nat.mul_comm W H]
    omega
theorem turnC_step (W H : Nat) (cs : List (Int × Int)) (m p : Nat) (hm : m < cs.length) (hp : turnAt W H m = p) : (turnC W H cs).take (m + 1) = (turnC W H cs).take m ++ [other (cs.getD p (0, 0))] := by
  have hl : m < (turnC W H cs).length := by simp [turnC, hm]
  rw [List.take_succ_eq_append_getElem hl]
  simp only [turnC, List.getElem_map, List.getElem_range, hp]

end Go.Proofs.Ytdlnmdmdoebecaa
