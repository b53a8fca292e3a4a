/-
  The contract of spec.GridTurn: the turned grid in new memory, or an empty one; it turns no memory that was there.
-/
import Derived.Test.YtmnninhifiajhaaTz
import Derived.Test.YtmnninhifiajhaaTc
import Derived.Test.YtmnninhifiajhaaJv
import Derived.Deep.RegionHeld3
import Derived.Deep.AppendLies
import Derived.Deep.DrawnRows
namespace Go.Proofs.Ytmnninhifiajhaa
open Go.RowKit
set_option linter.unusedVariables false
set_option maxRecDepth 20000
attribute [local go_sem ↓] Go.wp_at_zero Go.wp_at_succ

set_option maxHeartbeats 400000 in
theorem l1High_any (W H : Nat) (a : Option Addr) (n cap : Nat) (w : World) (hW : 1 ≤ W) (hn : n ≤ 1048576) (hH : n / W = H) :
    Calls Try.prog 60 #[.agg #[.int .i64 (W : Int), .slice a n cap]] w fun e w' => e = .returned (.int .i64 (H : Int)) ∧ Below w.heap.size w w' := by
  have h0 : (0 : Int) ≤ (n : Int) / (W : Int) := Int.ediv_nonneg (by omega) (by omega)
  have h1 : (n : Int) / (W : Int) ≤ n := Int.ediv_le_self _ (by omega)
  have hw : (1 : Int) ≤ (W : Int) := by omega
  have HH : Hid ((n : Int) / (W : Int) = (H : Int)) := by show _ = _; rw [← hH]; simp
  clear hH
  go_enter Try.func60, Try.ntmps60
  go_wp2
  go_ret
  exact ⟨by rw [← HH.out]; rfl, (by repeat (first | exact Below.refl _ _ | refine Below.alloc ?_ (by first | exact Nat.le_refl _ | (simp; done) | (simp; omega)) _ | refine Below.drew ?_ | refine Below.setCell ?_ (by first | exact Nat.le_refl _ | (simp; done) | (simp; omega)) _))⟩

/-- A call of a function by its contract, as one step of a region that draws its order. -/
theorem step_call1 {P : Program} {ops : Array Oper} {o : Oper} {a : Act} {w : World} {K : Act → World → Prop} {Q : Exit → Act → World → Prop} {E : Prop}
    (hgd : o.guard = none) (f : FuncId) (x : Operand) (at_ : TypeId) (ho : o.op = .call { callee := .value (.func f), args := #[x], argTypes := #[at_] }) (u : Value) (hv : a.eval x = u)
    (hrun : Sem.run P (callFunc f #[u]) w = .ok (.enter f #[u]) w) (hc : Calls P f #[u] w fun e w'' => ∃ v, e = .returned v ∧ K (a.put o.dst v) w'') :
    if Region.wanted o (yielded ops a.tmps) = true then Oper.wp P o a w K Q else E := by
  have hw : Region.wanted o (yielded ops a.tmps) = true := by simp [Region.wanted, hgd]
  rw [if_pos hw]
  unfold Oper.wp
  have he : execOp a.eval o = callFunc f #[u] := by
    subst hv
    obtain ⟨dst, op, ty, pos, after, guard⟩ := o
    simp only at ho
    subst ho
    rw [execOp_call_go]
    simp
  rw [he, hrun, Oper.upon_enter]
  refine hc.mono ?_
  rintro e w'' ⟨v, rfl, hk⟩
  exact hk
theorem enterOther (v : Value) (w : World) : Sem.run Try.prog (callFunc 61 #[v]) w = .ok (.enter 61 #[v]) w := by kernel_rfl

/-- What the loops keep: the grid's own box, the answer's, the box of what is made, and the row that it owns so far. -/
structure TurnInv (w wr : World) (W H b off n cap ob : Nat) (xs : List (Int × Int)) (g c : Nat) : Prop where
  below : Below w.heap.size w wr
  p0 : wr.cell? ⟨w.heap.size, 0, none⟩ = some (.int .i64 (W : Int))
  p1 : wr.cell? ⟨w.heap.size, 1, none⟩ = some (.slice (some ⟨b, off, none⟩) n cap)
  p4 : wr.cell? ⟨w.heap.size + 1, 0, none⟩ = some (.int .i64 0)
  p5 : wr.cell? ⟨w.heap.size + 1, 1, none⟩ = some (.slice none 0 0)
  f4 : wr.frozen? ⟨w.heap.size + 1, 0, none⟩ = false
  f5 : wr.frozen? ⟨w.heap.size + 1, 1, none⟩ = false
  o0 : wr.cell? ⟨ob, 0, none⟩ = some (.int .i64 (H : Int))
  o1 : wr.cell? ⟨ob, 1, none⟩ = some (.slice (some ⟨g, 0, none⟩) xs.length c)
  fo : wr.frozen? ⟨ob, 1, none⟩ = false
  own : Own wr (w.heap.size + 1 + 1) (.slice (some ⟨g, 0, none⟩) xs.length c) xs
  ne : g ≠ ob
  bw : b < w.heap.size ∧ w.heap.size + 1 < ob
  bo : w.heap.size ≤ ob

theorem TurnInv.call {w wr w2 : World} {W H b off n cap ob : Nat} {xs : List (Int × Int)} {g c : Nat} (h : TurnInv w wr W H b off n cap ob xs g c) (hb : Below wr.heap.size wr w2) : TurnInv w w2 W H b off n cap ob xs g c :=
  ⟨bcall h.below h.below.size hb, keepc hb h.p0, keepc hb h.p1, keepc hb h.p4, keepc hb h.p5, keepf hb h.p4 h.f4, keepf hb h.p5 h.f5, keepc hb h.o0, keepc hb h.o1, keepf hb h.o1 h.fo, h.own.below hb, h.ne, h.bw, h.bo⟩

theorem TurnInv.push {w w5 w6 : World} {W H b off n cap ob : Nat} {xs : List (Int × Int)} {g c g6 k6 : Nat} {x y : Int} {o : Obj} (h : TurnInv w w5 W H b off n cap ob xs g c) (hg : (w5.alloc o).grownBy w6 (some g))
    (hO : w6.ownsRow (w.heap.size + 1 + 1) 27 2 (.slice (some ⟨g6, 0, none⟩) (xs.length + 1) k6) (xs.length + 1) (flat xs ++ [.int .i64 x, .int .i64 y])) (hat : some g = some g6 ∨ g6 = w5.heap.size + 1) :
    TurnInv w (w6.setCell ⟨ob, 1, none⟩ (.slice (some ⟨g6, 0, none⟩) (xs.length + 1) k6)) W H b off n cap ob (xs ++ [(x, y)]) g6 k6 := by
  have sl := h.own.lt
  have so := World.block_lt_of_cell? w5 _ h.o1
  have hne := h.ne
  simp only at so
  have hz := h.below.size
  have hg' : g6 ≠ ob := by
    rcases hat with e | e
    · simp only [Option.some.injEq] at e; omega
    · omega
  have kp : ∀ {bb oo : Nat} {v : Value}, w5.cell? ⟨bb, oo, none⟩ = some v → bb ≠ g → w6.cell? ⟨bb, oo, none⟩ = some v := fun {bb oo v} hc hn =>
    hg.cell ((World.cell?_alloc_past _ _ _ (World.block_lt_of_cell? w5 _ hc)).trans hc) (by simp only [ne_eq, Option.some.injEq]; exact hn)
  have kf : ∀ {bb oo : Nat} {v : Value} {t : Bool}, w5.cell? ⟨bb, oo, none⟩ = some v → w5.frozen? ⟨bb, oo, none⟩ = t → bb ≠ g → w6.frozen? ⟨bb, oo, none⟩ = t := fun {bb oo v t} hc hf hn => by
    have hl := World.block_lt_of_cell? w5 _ hc
    simp only at hl
    rw [World.frozen?_of_block (w := w5.alloc o) (a := ⟨bb, oo, none⟩) (hg.block bb (by simp; omega) (by simp only [ne_eq, Option.some.injEq]; exact hn)), World.frozen?_of_block (w := w5) (a := ⟨bb, oo, none⟩) (Below.heap_alloc w5 o bb hl)]
    exact hf
  have hB : Below w.heap.size w w6 := (h.below.alloc hz o).grown hg (by simp; omega) (fun k hk => by simp only [Option.some.injEq] at hk; omega)
  have ho1 : ob ≠ g := fun e => hne e.symm
  have hobw : w.heap.size ≠ ob ∧ w.heap.size + 1 ≠ ob := by
    have e0 := h.p0
    have e5 := h.p5
    have eo := h.o0
    have eo1 := h.o1
    refine ⟨fun e => ?_, fun e => ?_⟩
    · have f := h.below
      rw [← e] at eo1
      rw [h.p1] at eo1
      simp only [Option.some.injEq, Value.slice.injEq] at eo1
      have := h.bw
      omega
    · rw [← e] at eo1
      rw [h.p5] at eo1
      simp at eo1
  have hl : (xs ++ [(x, y)]).length = xs.length + 1 := by simp
  refine ⟨hB.setCell (p := ⟨ob, 1, none⟩) h.bo _, setc hobw.1 (kp h.p0 (by omega)), setc hobw.1 (kp h.p1 (by omega)), setc hobw.2 (kp h.p4 (by omega)), setc hobw.2 (kp h.p5 (by omega)), setf hobw.2 (kf h.p4 h.f4 (by omega)), setf hobw.2 (kf h.p5 h.f5 (by omega)), ?_, ?_, ?_, ?_, hg', h.bw, h.bo⟩
  · rw [World.cell?_setCell_other _ _ _ _ (by simp)]
    exact kp h.o0 ho1
  · rw [hl]
    exact World.cell?_setCell_same _ _ _ (kp h.o1 ho1)
  · rw [World.frozen?_setCell]
    exact kf h.o1 h.fo ho1
  · rw [hl]
    refine Own.other ?_ hg' _
    unfold Own
    rw [hl, flat_append]
    exact hO
theorem TurnInv.far {w w5 w6 : World} {W H b off n cap ob : Nat} {xs : List (Int × Int)} {g c : Nat} {o : Obj} (h : TurnInv w w5 W H b off n cap ob xs g c) (hg : (w5.alloc o).grownBy w6 (some g)) {bb oo : Nat} {v : Value}
    (hc : w5.cell? ⟨bb, oo, none⟩ = some v) (hn : bb < w.heap.size + 1 + 1 ∨ bb = ob) : w6.cell? ⟨bb, oo, none⟩ = some v := by
  have sl := h.own.lt
  have hne := h.ne
  exact hg.cell ((World.cell?_alloc_past _ _ _ (World.block_lt_of_cell? w5 _ hc)).trans hc) (by simp only [ne_eq, Option.some.injEq]; omega)
theorem TurnInv.farf {w w5 w6 : World} {W H b off n cap ob : Nat} {xs : List (Int × Int)} {g c : Nat} {o : Obj} (h : TurnInv w w5 W H b off n cap ob xs g c) (hg : (w5.alloc o).grownBy w6 (some g)) {bb oo : Nat} {v : Value} {t : Bool}
    (hc : w5.cell? ⟨bb, oo, none⟩ = some v) (hf : w5.frozen? ⟨bb, oo, none⟩ = t) (hn : bb < w.heap.size + 1 + 1 ∨ bb = ob) : w6.frozen? ⟨bb, oo, none⟩ = t := by
  have sl := h.own.lt
  have hne := h.ne
  have hl := World.block_lt_of_cell? w5 _ hc
  simp only at hl
  rw [World.frozen?_of_block (w := w5.alloc o) (a := ⟨bb, oo, none⟩) (hg.block bb (by simp; omega) (by simp only [ne_eq, Option.some.injEq]; omega)), World.frozen?_of_block (w := w5) (a := ⟨bb, oo, none⟩) (Below.heap_alloc w5 o bb hl)]
  exact hf
theorem turn_step (W H c t R : Nat) (hW : 1 ≤ W ∧ W ≤ 5) (hH : 1 ≤ H ∧ H ≤ 5) (hc : c < W) (hR : R + t + 1 = H) : turnAt W H (c * H + t) = R * W + c ∧ c * H + t < W * H ∧ R * W + c < W * H := by
  have h1 : (c * H + t) % H = t := by rw [Nat.add_comm, Nat.add_mul_mod_self_right]; exact Nat.mod_eq_of_lt (by omega)
  have h2 : (c * H + t) / H = c := by rw [Nat.add_comm, Nat.add_mul_div_right _ _ (by omega), Nat.div_eq_of_lt (by omega)]; omega
  have h3 : H - 1 - t = R := by omega
  refine ⟨by unfold turnAt; rw [h1, h2, h3], ?_, ?_⟩
  · have : (c + 1) * H ≤ W * H := Nat.mul_le_mul_right H hc
    rw [Nat.add_mul] at this
    omega
  · have : (R + 1) * W ≤ H * W := Nat.mul_le_mul_right W (by omega)
    rw [Nat.add_mul] at this
    rw [Nat.mul_comm W H]
    omega
theorem turnC_step (W H : Nat) (cs : List (Int × Int)) (m p : Nat) (hm : m < cs.length) (hp : turnAt W H m = p) : (turnC W H cs).take (m + 1) = (turnC W H cs).take m ++ [other (cs.getD p (0, 0))] := by
  have hl : m < (turnC W H cs).length := by simp [turnC, hm]
  rw [List.take_succ_eq_append_getElem hl]
  simp only [turnC, List.getElem_map, List.getElem_range, hp]

set_option maxHeartbeats 1000000 in
theorem specGridTurn_yes (W H : Nat) (b off cap : Nat) (cs : List (Int × Int)) (w : World) (hbl : b < w.heap.size)
    (hcell : ∀ i, i < cs.length → w.cell? ⟨b, off + i * 2, none⟩ = some (.int .i64 (cs.getD i (0, 0)).1) ∧ w.cell? ⟨b, off + i * 2 + 1, none⟩ = some (.int .i64 (cs.getD i (0, 0)).2))
    (hok : okG (W : Int) cs = true) (hW : 1 ≤ W ∧ W ≤ 5) (hH : 1 ≤ H ∧ H ≤ 5) (hn : cs.length = W * H) :
    Calls Try.prog 19 #[.agg #[.int .i64 (W : Int), .slice (some ⟨b, off, none⟩) cs.length cap]] w fun e w' => ∃ g cap', e = .returned (.agg #[.int .i64 (H : Int), .slice (some ⟨g, 0, none⟩) cs.length cap']) ∧ Own w' w.heap.size (.slice (some ⟨g, 0, none⟩) cs.length cap') (turnC W H cs) ∧ Below w.heap.size w w' := by
  obtain ⟨i0, hi, iz0, iz1, iz2⟩ := info_parts infoCell
  have hlen : 1 ≤ cs.length ∧ cs.length ≤ 25 := by
    obtain ⟨a1, a2⟩ := hW
    obtain ⟨a3, a4⟩ := hH
    rw [hn]
    rcases (show W = 1 ∨ W = 2 ∨ W = 3 ∨ W = 4 ∨ W = 5 by omega) with rfl | rfl | rfl | rfl | rfl <;> omega
  have hdiv : cs.length / W = H := by rw [hn]; exact Nat.mul_div_cancel_left H (by omega)
  have HN : Hid (cs.length = W * H) := hn
  have HD : Hid (cs.length / W = H) := hdiv
  clear hn hdiv
  go_enter Try.func19, Try.ntmps19
  go_wp2_with fail
  refine (specGridOk_any _ _ _ cs _ (Or.inr ⟨b, off, rfl, by simp; omega, fun i hi => by rw [World.cell?_alloc_past _ _ _ (by simp; omega), World.cell?_alloc_past _ _ _ (by omega), World.cell?_alloc_past _ _ _ (by simp; omega), World.cell?_alloc_past _ _ _ (by omega)]; exact hcell i hi⟩) (by omega)).mono ?_
  rintro e w1 ⟨rfl, hb1⟩
  have hz1 := hb1.size
  simp at hz1
  have hB1 : Below w.heap.size w w1 := bcall (by repeat (first | exact Below.refl _ _ | refine Below.alloc ?_ (by first | exact Nat.le_refl _ | (simp; done) | (simp; omega)) _ | refine Below.drew ?_ | refine Below.setCell ?_ (by first | exact Nat.le_refl _ | (simp; done) | (simp; omega)) _)) (by simp; omega) hb1
  have p0 : w1.cell? ⟨w.heap.size, 0, none⟩ = some (.int .i64 (W : Int)) := keepc hb1 (by simp [go_sem])
  have p1 : w1.cell? ⟨w.heap.size, 1, none⟩ = some (.slice (some ⟨b, off, none⟩) cs.length cap) := keepc hb1 (by simp [go_sem])
  have p4 : w1.cell? ⟨w.heap.size + 1, 0, none⟩ = some (.int .i64 0) := keepc hb1 (by simp [go_sem])
  have p5 : w1.cell? ⟨w.heap.size + 1, 1, none⟩ = some (.slice none 0 0) := keepc hb1 (by simp [go_sem])
  have f4 : w1.frozen? ⟨w.heap.size + 1, 0, none⟩ = false := keepf hb1 (v := .int .i64 0) (by simp [go_sem]) (by simp [go_sem])
  have f5 : w1.frozen? ⟨w.heap.size + 1, 1, none⟩ = false := keepf hb1 (v := .slice none 0 0) (by simp [go_sem]) (by simp [go_sem])
  clear hb1
  go_wp2_with fail
  refine (l1High_any W H _ _ _ _ (by omega) (by omega) HD.out).mono ?_
  rintro e w2 ⟨rfl, hb2⟩
  have hz2 := hb2.size
  have hB2 : Below w.heap.size w w2 := bcall hB1 (by omega) hb2
  replace f4 := keepf hb2 p4 f4; replace f5 := keepf hb2 p5 f5; replace p0 := keepc hb2 p0; replace p1 := keepc hb2 p1; replace p4 := keepc hb2 p4; replace p5 := keepc hb2 p5
  clear hb2
  have hbX : Below w2.heap.size w2 ((w2.alloc (.cells #[] 27)).alloc (.cells #[.int .i64 (H : Int), .slice (some ⟨w2.heap.size, 0, none⟩) 0 0] 25)) := (by repeat (first | exact Below.refl _ _ | refine Below.alloc ?_ (by first | exact Nat.le_refl _ | (simp; done) | (simp; omega)) _ | refine Below.drew ?_ | refine Below.setCell ?_ (by first | exact Nat.le_refl _ | (simp; done) | (simp; omega)) _))
  have hI : TurnInv w ((w2.alloc (.cells #[] 27)).alloc (.cells #[.int .i64 (H : Int), .slice (some ⟨w2.heap.size, 0, none⟩) 0 0] 25)) W H b off cs.length cap (w2.heap.size + 1) [] w2.heap.size 0 :=
    ⟨bcall hB2 (by omega) hbX, keepc hbX p0, keepc hbX p1, keepc hbX p4, keepc hbX p5, keepf hbX p4 f4, keepf hbX p5 f5, by simp [go_sem], by simp [go_sem], by simp [go_sem], (own_emptyP w2 (w.heap.size + 1 + 1) 27 2 (by omega)).alloc _, by omega, by omega, by omega⟩
  clear p0 p1 p4 p5 f4 f5 hbX
  go_wp2
  go_loopw [4] (fun i wr => ∃ c g k : Nat, c ≤ W ∧ i = .int .i64 c ∧ TurnInv w wr W H b off cs.length cap (w2.heap.size + 1) ((turnC W H cs).take (c * H)) g k) (fun i _ => W - (intOf i).toNat)
  case atStart => exact ⟨0, _, _, Nat.zero_le _, rfl, by simpa using hI⟩
  case round =>
    clear hI
    obtain ⟨c, g, k, hc, rfl, hI⟩ := hrel
    by_cases hlt : c < W
    · have hw1 : (1 : Int) ≤ (W : Int) := by omega
      obtain ⟨p0, p1⟩ := And.intro hI.p0 hI.p1
      go_wp2_with fail
      refine (l1High_any W H _ _ _ _ (by omega) (by omega) HD.out).mono ?_
      rintro e w3 ⟨rfl, hb3⟩
      have hI3 := hI.call hb3
      clear hI hb3 p0 p1
      go_wp2
      go_loopw [5] (fun r wq => ∃ t g k : Nat, t ≤ H ∧ r = .int .i64 ((H : Int) - 1 - t) ∧ TurnInv w wq W H b off cs.length cap (w2.heap.size + 1) ((turnC W H cs).take (c * H + t)) g k) (fun r _ => (intOf r + 1).toNat)
      case atStart => exact ⟨0, g, k, Nat.zero_le _, by simp, by simpa using hI3⟩
      case round =>
        clear hI3
        obtain ⟨t, g, k, ht, rfl, hI⟩ := hrel
        by_cases htl : t < H
        · obtain ⟨R, hR⟩ : ∃ R : Nat, (H : Int) - 1 - t = (R : Int) := ⟨H - 1 - t, by omega⟩
          have HR : Hid (R + t + 1 = H) := by show _ = _; omega
          have HR2 : Hid ((H : Int) - 1 - t = (R : Int)) := hR
          have hRb : (R : Int) ≤ 5 := by omega
          rw [hR]
          clear hR
          have hm : turnAt W H (c * H + t) = R * W + c ∧ c * H + t < W * H ∧ R * W + c < W * H := turn_step W H c t R hW hH hlt HR.out
          have i1 : R * W + c < cs.length := by rw [HN.out]; exact hm.2.2
          have e0 : ((R * W : Nat) : Int) = (R : Int) * (W : Int) := by simp
          have e1 : (0 : Int) ≤ (R : Int) * (W : Int) := by omega
          have e2 : (R : Int) * (W : Int) ≤ 25 := by omega
          have i2 : (R : Int) * (W : Int) + (c : Int) < (cs.length : Int) := by omega
          have HX : Hid ((turnC W H cs).take (c * H + t + 1) = (turnC W H cs).take (c * H + t) ++ [other (cs.getD (R * W + c) (0, 0))]) := turnC_step W H cs _ _ (by rw [HN.out]; exact hm.2.1) hm.1
          have hxl : ((turnC W H cs).take (c * H + t)).length ≤ 25 := by
            rw [List.length_take]
            have : (turnC W H cs).length = cs.length := by simp [turnC]
            omega
          generalize (turnC W H cs).take (c * H + t) = xs at *
          obtain ⟨hx, hy⟩ := hcell (R * W + c) i1
          rw [← hI.below.cell (p := ⟨b, _, none⟩) hbl] at hx hy
          obtain ⟨kx, lx, hkl⟩ : ∃ kx lx : Int, cs.getD (R * W + c) (0, 0) = (kx, lx) := ⟨_, _, rfl⟩
          rw [hkl] at hx hy
          have HXX : Hid ((turnC W H cs).take (c * H + t + 1) = xs ++ [(otherK kx, lx)]) := by have := HX.out; rw [hkl] at this; exact this
          clear HX hkl
          have hz := hI.below.size
          have sl := hI.own.lt
          have so := World.block_lt_of_cell? _ _ hI.o1
          have nob1 : w.heap.size ≠ w2.heap.size + 1 := by omega
          have nob2 : b ≠ w2.heap.size + 1 := by omega
          obtain ⟨p0, p1, o1, fo⟩ := And.intro hI.p0 (And.intro hI.p1 (And.intro hI.o1 hI.fo))
          have ib : (0 : Int) ≤ (R : Int) * (W : Int) + (c : Int) := by omega
          have v1 : IntKind.i64.wrap ((R : Int) * (W : Int)) = (R : Int) * (W : Int) := IntWalk.i64_in _ (by omega)
          have v2 : IntKind.i64.wrap ((R : Int) * (W : Int) + (c : Int)) = (R : Int) * (W : Int) + (c : Int) := IntWalk.i64_in _ (by omega)
          have v3 : ((R : Int) * (W : Int) + (c : Int)).toNat = R * W + c := by omega
          clear hm e0
          go_wp2
          go_region_law (first
              | (refine step_call1 rfl 61 (.tmp 38) 27 rfl (.agg #[.int .i64 kx, .int .i64 lx]) rfl (enterOther _ _) ?_; refine (l1Other_any _ _ _).mono ?_; rintro e w5 ⟨rfl, hb5'⟩; refine ⟨_, rfl, ?_⟩; have hb5 : Below wr.heap.size wr w5 := (by first | exact hb5' | exact bdrew hb5'); have hI5 := hI.call hb5; have o5 := hI5.o1; have so5 : w2.heap.size + 1 < w5.heap.size := World.block_lt_of_cell? w5 _ hI5.o1)
              | (refine step_append_lies _ (by rfl) _ _ _ (by rfl) (w.heap.size + 1 + 1) 27 i0 (.agg #[.int .i64 0, .int .i64 0]) 2 16 Try.underlying23 hi iz0 iz1 iz2 rfl (by omega) (.slice (some ⟨g, 0, none⟩) xs.length k) xs.length (flat xs) (by rfl) (by first | exact hI5.own.alloc _ | exact (hI5.own.alloc _).drew) ⟨w5.heap.size, 0, none⟩ 1 1 [.int .i64 (otherK kx), .int .i64 lx] (by rfl) (by rfl) (World.news_of_block (cs := #[.int .i64 (otherK kx), .int .i64 lx]) (t := 27) (fr := (0, 0)) (heap_alloc_new w5 _)) (by simp [Value.oneCell']) (by omega) (by unfold maxLen; omega) (by omega) (by have := hb5.size; simp; omega) (w5.heap.size + 1) (by simp) ?_; intro g6 k6 w6 hO6 hg6 hat6 hlt6; have o6 := hI5.far hg6 hI5.o1 (Or.inr rfl); have fo6 : w6.frozen? ⟨w2.heap.size + 1, 1, none⟩ = false := hI5.farf hg6 hI5.o1 hI5.fo (Or.inr rfl)))
          all_goals
            go_wp2
            have hI6 := hI5.push hg6 hO6 hat6
            rw [← HXX.out] at hI6
            go_roundw
            case rel => exact ⟨t + 1, g6, k6, by omega, valI (by have := HR2.out; omega), by rw [← Nat.add_assoc]; exact hI6⟩
            case measure => simp only [intOf]; omega
        · have htH : t = H := by omega
          subst htH
          go_wp2
          go_roundw
          case rel => exact ⟨c + 1, g, k, by omega, by go_num, by rw [Nat.add_mul, Nat.one_mul]; exact hI⟩
          case measure => simp [intOf]; omega
    · have hcW : c = W := by omega
      subst hcW
      have hT : (turnC c H cs).take (c * H) = turnC c H cs := by rw [← HN.out]; exact List.take_of_length_le (by simp [turnC])
      rw [hT] at hI
      have hTl : (turnC c H cs).length = cs.length := by simp [turnC]
      have hO := hI.own
      have o1 := hI.o1
      have p0 := hI.p0
      rw [hTl] at hO o1
      have sl := hO.lt
      have n1 : g ≠ w.heap.size + 1 := by omega
      obtain ⟨o0, p4, p5, f4, f5, hb⟩ := And.intro hI.o0 (And.intro hI.p4 (And.intro hI.p5 (And.intro hI.f4 (And.intro hI.f5 hI.below))))
      clear hI hT
      go_wp2
      refine bodyPost_ret (v := .agg #[.int .i64 (H : Int), .slice (some ⟨g, 0, none⟩) cs.length k]) (by simp [results, Try.results19, go_sem, p4, p5]) rfl ⟨g, k, rfl, ?_, ?_⟩
      · exact ((hO.mono (B' := w.heap.size) (by omega)).other (p := ⟨w.heap.size + 1, 0, none⟩) n1 _).other (p := ⟨w.heap.size + 1, 1, none⟩) n1 _
      · exact (hb.setCell (p := ⟨w.heap.size + 1, 0, none⟩) (by simp) _).setCell (p := ⟨w.heap.size + 1, 1, none⟩) (by simp) _

end Go.Proofs.Ytmnninhifiajhaa
