/-
  What spec.GridRead has read of the first bytes of a text, and what stands in memory meanwhile.
-/
import Derived.Test.YteibklaabnnfbaaRs
import Derived.Test.YteibklaabnnfbaaRn
import Derived.Deep.RegionHeld3
import Derived.Deep.RegionLaw
import Derived.Deep.AppendLies
import Derived.Deep.DrawnRows
namespace Go.Proofs.Yteibklaabnnfbaa
open Go.RowKit
set_option linter.unusedVariables false

/-- The cells of the first i bytes. -/
def rdC (t : List UInt8) (i : Nat) : List (Int × Int) := ((t.take i).filter (· != 10)).map fun b => cellI (b.toNat : Int)
/-- Where the first line ends, of the first i bytes. -/
def rdW (t : List UInt8) : Nat → Int
  | 0 => 0
  | i + 1 => if t[i]? = some 10 ∧ rdW t i = 0 then (i : Int) else rdW t i
theorem rdC_zero (t : List UInt8) : rdC t 0 = [] := by simp [rdC]
theorem rdC_cell (t : List UInt8) (i : Nat) (b : UInt8) (h : t[i]? = some b) (hb : b ≠ 10) : rdC t (i + 1) = rdC t i ++ [cellI (b.toNat : Int)] := by
  obtain ⟨hi, e⟩ := List.getElem?_eq_some_iff.1 h
  unfold rdC
  rw [List.take_succ_eq_append_getElem hi, List.filter_append, List.map_append, e]
  simp [hb]
theorem rdC_line (t : List UInt8) (i : Nat) (h : t[i]? = some 10) : rdC t (i + 1) = rdC t i := by
  obtain ⟨hi, e⟩ := List.getElem?_eq_some_iff.1 h
  unfold rdC
  rw [List.take_succ_eq_append_getElem hi, List.filter_append, List.map_append, e]
  simp
theorem rdC_len (t : List UInt8) (i : Nat) : (rdC t i).length ≤ i := by
  unfold rdC
  rw [List.length_map]
  exact Nat.le_trans (List.length_filter_le _ _) (by simp; omega)
theorem rdW_cell (t : List UInt8) (i : Nat) (b : UInt8) (h : t[i]? = some b) (hb : b ≠ 10) : rdW t (i + 1) = rdW t i := by
  simp only [rdW, h, Option.some.injEq]
  rw [if_neg (fun q => hb q.1)]
theorem rdW_first (t : List UInt8) (i : Nat) (h : t[i]? = some 10) (h0 : rdW t i = 0) : rdW t (i + 1) = (i : Int) := by
  simp only [rdW]
  rw [if_pos ⟨h, h0⟩]
theorem rdW_later (t : List UInt8) (i : Nat) (h0 : rdW t i ≠ 0) : rdW t (i + 1) = rdW t i := by
  simp only [rdW]
  rw [if_neg (fun q => h0 q.2)]
theorem rdW_in (t : List UInt8) (i : Nat) : 0 ≤ rdW t i ∧ rdW t i ≤ (i : Int) := by
  induction i with
  | zero => simp [rdW]
  | succ i ih => simp only [rdW]; split <;> omega
theorem rdW_pre (pre rest : List UInt8) (hn : 10 ∉ pre) (i : Nat) (hi : i ≤ pre.length) : rdW (pre ++ 10 :: rest) i = 0 := by
  induction i with
  | zero => rfl
  | succ i ih =>
    have hl : i < pre.length := by omega
    have e : (pre ++ 10 :: rest)[i]? = some pre[i] := by rw [List.getElem?_append_left hl]; simp [hl]
    rw [rdW_cell _ i pre[i] e (fun x => hn (x ▸ List.getElem_mem hl))]
    exact ih (by omega)
theorem rdW_text (pre rest : List UInt8) (hn : 10 ∉ pre) (h1 : 1 ≤ pre.length) (i : Nat) (hi : pre.length < i) : rdW (pre ++ 10 :: rest) i = (pre.length : Int) := by
  induction i with
  | zero => omega
  | succ i ih =>
    by_cases h : pre.length < i
    · rw [rdW_later _ i (by rw [ih h]; omega), ih h]
    · obtain rfl : i = pre.length := by omega
      exact rdW_first _ _ (by rw [List.getElem?_append_right (Nat.le_refl _)]; simp) (rdW_pre pre rest hn _ (Nat.le_refl _))
/-- The text of an ok grid is read so. -/
theorem read_all (t : List UInt8) (wd : Int) (cs : List (Int × Int)) (hok : okG wd cs = true) (e : textG wd cs = t) : rdW t t.length = wd ∧ rdC t t.length = cs ∧ t.length ≤ 30 ∧ t ≠ [] := by
  have hne := text_ne wd cs hok
  obtain ⟨W, H, ew, h1, h2, h3, h4, h5, h6, _⟩ := read_shape t wd cs hok e
  subst ew
  have hall := okG_all _ _ hok
  obtain ⟨r, e2, q1, q2⟩ := text_open W cs hok
  have hl : ((cs.take W).map signB).length = W := by simp; omega
  have hn : 10 ∉ (cs.take W).map signB := by
    intro hm
    obtain ⟨c, hc, e3⟩ := List.mem_map.1 hm
    rw [List.all_eq_true] at hall
    exact signB_no10 c (hall c (List.mem_of_mem_take hc)) e3
  refine ⟨?_, ?_, ?_, by rw [← e]; exact hne⟩
  · have := rdW_text ((cs.take W).map signB) r hn (by omega) t.length (by rw [hl, h6]; have := Nat.mul_le_mul_left (W + 1) h3; omega)
    rw [hl, ← e2, e] at this
    exact this
  · have ht : t = textN W cs cs.length := by rw [← e]; simp [textG, hok]
    unfold rdC
    rw [List.take_of_length_le (Nat.le_refl _), ht, textN_filter W cs hall cs.length (Nat.le_refl _), List.take_of_length_le (Nat.le_refl _), List.map_map]
    conv => rhs; rw [← List.map_id cs]
    apply List.map_congr_left
    intro c hc
    rw [List.all_eq_true] at hall
    have hk := hall c hc
    show cellI ((signB c).toNat : Int) = c
    rw [signB_val c.1 c.2 hk, cellI_sign c.1 c.2 hk]
  · rw [h6]
    exact Nat.le_trans (Nat.mul_le_mul (show W + 1 ≤ 6 by omega) h4) (by omega)

theorem Own.otherR {w : World} {B g n cap : Nat} {cs : List (Int × Int)} (h : Own w B (.slice (some ⟨g, 0, none⟩) n cap) cs) {p : Addr} (hne : g ≠ p.block) (u : Value) : Own (w.setCell p u) B (.slice (some ⟨g, 0, none⟩) n cap) cs := by
  obtain ⟨h1, h2⟩ := h
  refine ⟨h1, ?_⟩
  rcases h2 with ⟨h2, _⟩ | ⟨g', cap', cur, hv, hg, hh, r⟩
  · simp at h2
  · have hv' := hv
    simp only [Value.slice.injEq, Option.some.injEq, Addr.mk.injEq, and_true] at hv'
    exact Or.inr ⟨g', cap', cur, hv, hg, by rw [Below.heap_setCell _ _ _ _ (by rw [← hv'.1]; exact hne)]; exact hh, r⟩
theorem own_emptyR (w : World) (B : Nat) (hB : B ≤ w.heap.size) : Own (w.alloc (.cells #[] 44)) B (.slice (some ⟨w.heap.size, 0, none⟩) 0 0) [] :=
  ⟨by simp [flat], Or.inr ⟨w.heap.size, 0, #[], rfl, hB, heap_alloc_new w _, Nat.le_refl _, by unfold maxLen; omega, by simp, by simp [flat]⟩⟩
theorem step_callR {P : Program} {ops : Array Oper} {o : Oper} {a : Act} {w : World} {K : Act → World → Prop} {Q : Exit → Act → World → Prop} {E : Prop}
    (hgd : o.guard = none) (f : FuncId) (x : Operand) (at_ : TypeId) (ho : o.op = .call { callee := .value (.func f), args := #[x], argTypes := #[at_] }) (u : Value) (hv : a.eval x = u)
    (hrun : Sem.run P (callFunc f #[u]) w = .ok (.enter f #[u]) w) (hc : Calls P f #[u] w fun e w'' => ∃ v, e = .returned v ∧ K (a.put o.dst v) w'') :
    if Region.wanted o (yielded ops a.tmps) = true then Oper.wp P o a w K Q else E := by
  have hw : Region.wanted o (yielded ops a.tmps) = true := by simp [Region.wanted, hgd]
  rw [if_pos hw]
  unfold Oper.wp
  have he : execOp a.eval o = callFunc f #[u] := by
    subst hv
    obtain ⟨dst, op, ty, pos, after, guard⟩ := o
    simp only at ho
    subst ho
    rw [execOp_call_go]
    simp
  rw [he, hrun, Oper.upon_enter]
  refine hc.mono ?_
  rintro e w'' ⟨v, rfl, hk⟩
  exact hk
theorem enterL1Cell (v : Value) (w : World) : Sem.run Try.prog (callFunc 21 #[v]) w = .ok (.enter 21 #[v]) w := by kernel_rfl

/-- What the loop keeps: the box of the answer, the box of what is read, and the row that it owns so far. -/
structure ReadInv (w wr : World) (x : Int) (xs : List (Int × Int)) (g c : Nat) : Prop where
  below : Below w.heap.size w wr
  p0 : wr.cell? ⟨w.heap.size, 0, none⟩ = some (.int .i64 0)
  p1 : wr.cell? ⟨w.heap.size, 1, none⟩ = some (.slice none 0 0)
  f0 : wr.frozen? ⟨w.heap.size, 0, none⟩ = false
  f1 : wr.frozen? ⟨w.heap.size, 1, none⟩ = false
  o0 : wr.cell? ⟨w.heap.size + 1 + 1, 0, none⟩ = some (.int .i64 x)
  o1 : wr.cell? ⟨w.heap.size + 1 + 1, 1, none⟩ = some (.slice (some ⟨g, 0, none⟩) xs.length c)
  fo0 : wr.frozen? ⟨w.heap.size + 1 + 1, 0, none⟩ = false
  fo1 : wr.frozen? ⟨w.heap.size + 1 + 1, 1, none⟩ = false
  own : Own wr (w.heap.size + 1) (.slice (some ⟨g, 0, none⟩) xs.length c) xs
  ne : g ≠ w.heap.size + 1 + 1
theorem ReadInv.call {w wr w2 : World} {x : Int} {xs : List (Int × Int)} {g c : Nat} (h : ReadInv w wr x xs g c) (hb : Below wr.heap.size wr w2) : ReadInv w w2 x xs g c :=
  ⟨bcall h.below h.below.size hb, keepc hb h.p0, keepc hb h.p1, keepf hb h.p0 h.f0, keepf hb h.p1 h.f1, keepc hb h.o0, keepc hb h.o1, keepf hb h.o0 h.fo0, keepf hb h.o1 h.fo1, h.own.below hb, h.ne⟩
theorem ReadInv.wide {w wr : World} {x : Int} {xs : List (Int × Int)} {g c : Nat} (h : ReadInv w wr x xs g c) (y : Int) : ReadInv w (wr.setCell ⟨w.heap.size + 1 + 1, 0, none⟩ (.int .i64 y)) y xs g c := by
  have n1 : w.heap.size ≠ w.heap.size + 1 + 1 := by omega
  refine ⟨h.below.setCell (p := ⟨w.heap.size + 1 + 1, 0, none⟩) (by show w.heap.size ≤ w.heap.size + 1 + 1; omega) _, setc n1 h.p0, setc n1 h.p1, setf n1 h.f0, setf n1 h.f1, World.cell?_setCell_same _ _ _ h.o0, ?_, ?_, ?_, h.own.otherR h.ne _, h.ne⟩
  · rw [World.cell?_setCell_other _ _ _ _ (by simp)]; exact h.o1
  · rw [World.frozen?_setCell]; exact h.fo0
  · rw [World.frozen?_setCell]; exact h.fo1
theorem ReadInv.far {w w5 w6 : World} {x : Int} {xs : List (Int × Int)} {g c : Nat} {o : Obj} (h : ReadInv w w5 x xs g c) (hg : (w5.alloc o).grownBy w6 (some g)) {bb oo : Nat} {v : Value}
    (hc : w5.cell? ⟨bb, oo, none⟩ = some v) (hn : bb = w.heap.size ∨ bb = w.heap.size + 1 + 1) : w6.cell? ⟨bb, oo, none⟩ = some v := by
  have sl := h.own.lt
  have hne := h.ne
  exact hg.cell ((World.cell?_alloc_past _ _ _ (World.block_lt_of_cell? w5 _ hc)).trans hc) (by simp only [ne_eq, Option.some.injEq]; omega)
theorem ReadInv.farf {w w5 w6 : World} {x : Int} {xs : List (Int × Int)} {g c : Nat} {o : Obj} (h : ReadInv w w5 x xs g c) (hg : (w5.alloc o).grownBy w6 (some g)) {bb oo : Nat} {v : Value} {t : Bool}
    (hc : w5.cell? ⟨bb, oo, none⟩ = some v) (hf : w5.frozen? ⟨bb, oo, none⟩ = t) (hn : bb = w.heap.size ∨ bb = w.heap.size + 1 + 1) : w6.frozen? ⟨bb, oo, none⟩ = t := by
  have sl := h.own.lt
  have hne := h.ne
  have hl := World.block_lt_of_cell? w5 _ hc
  simp only at hl
  rw [World.frozen?_of_block (w := w5.alloc o) (a := ⟨bb, oo, none⟩) (hg.block bb (by simp; omega) (by simp only [ne_eq, Option.some.injEq]; omega)), World.frozen?_of_block (w := w5) (a := ⟨bb, oo, none⟩) (Below.heap_alloc w5 o bb hl)]
  exact hf
theorem ReadInv.push {w w5 w6 : World} {x : Int} {xs : List (Int × Int)} {g c g6 k6 : Nat} {k l : Int} {o : Obj} (h : ReadInv w w5 x xs g c) (hg : (w5.alloc o).grownBy w6 (some g))
    (hO : w6.ownsRow (w.heap.size + 1) 44 2 (.slice (some ⟨g6, 0, none⟩) (xs.length + 1) k6) (xs.length + 1) (flat xs ++ [.int .i64 k, .int .i64 l])) (hat : some g = some g6 ∨ g6 = w5.heap.size + 1) :
    ReadInv w (w6.setCell ⟨w.heap.size + 1 + 1, 1, none⟩ (.slice (some ⟨g6, 0, none⟩) (xs.length + 1) k6)) x (xs ++ [(k, l)]) g6 k6 := by
  have sl := h.own.lt
  have so := World.block_lt_of_cell? w5 _ h.o1
  have hne := h.ne
  simp only at so
  have hz := h.below.size
  have hg' : g6 ≠ w.heap.size + 1 + 1 := by
    rcases hat with e | e
    · simp only [Option.some.injEq] at e; omega
    · omega
  have hB : Below w.heap.size w w6 := (h.below.alloc hz o).grown hg (by simp; omega) (fun k hk => by simp only [Option.some.injEq] at hk; omega)
  have n1 : w.heap.size ≠ w.heap.size + 1 + 1 := by omega
  have hl : (xs ++ [(k, l)]).length = xs.length + 1 := by simp
  refine ⟨hB.setCell (p := ⟨w.heap.size + 1 + 1, 1, none⟩) (by show w.heap.size ≤ w.heap.size + 1 + 1; omega) _, setc n1 (h.far hg h.p0 (Or.inl rfl)), setc n1 (h.far hg h.p1 (Or.inl rfl)), setf n1 (h.farf hg h.p0 h.f0 (Or.inl rfl)), setf n1 (h.farf hg h.p1 h.f1 (Or.inl rfl)), ?_, ?_, ?_, ?_, ?_, hg'⟩
  · rw [World.cell?_setCell_other _ _ _ _ (by simp)]; exact h.far hg h.o0 (Or.inr rfl)
  · rw [hl]; exact World.cell?_setCell_same _ _ _ (h.far hg h.o1 (Or.inr rfl))
  · rw [World.frozen?_setCell]; exact h.farf hg h.o0 h.fo0 (Or.inr rfl)
  · rw [World.frozen?_setCell]; exact h.farf hg h.o1 h.fo1 (Or.inr rfl)
  · rw [hl]
    refine Own.otherR ?_ hg' _
    unfold Own
    rw [hl, flat_append]
    exact hO
end Go.Proofs.Yteibklaabnnfbaa
