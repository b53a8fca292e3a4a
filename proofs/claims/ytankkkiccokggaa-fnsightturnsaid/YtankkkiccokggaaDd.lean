/-
  l71Grid draws a grid that is ok, in new memory, and turns nothing but the reader.
-/
import Derived.Test.YtankkkiccokggaaDc
namespace Go.Proofs.Ytankkkiccokggaa
open Go.RowKit
set_option linter.unusedVariables false
attribute [local go_sem ↓] Go.wp_at_zero Go.wp_at_succ

/-- A call of a function by its contract, as one step of a region that draws its order. -/
theorem stepCall {P : Program} {ops : Array Oper} {o : Oper} {a : Act} {w : World} {K : Act → World → Prop} {Q : Exit → Act → World → Prop} {E : Prop}
    (hgd : o.guard = none) (f : FuncId) (x : Operand) (at_ : TypeId) (ho : o.op = .call { callee := .value (.func f), args := #[x], argTypes := #[at_] }) (u : Value) (hv : a.eval x = u)
    (hrun : Sem.run P (callFunc f #[u]) w = .ok (.enter f #[u]) w) (hc : Calls P f #[u] w fun e w'' => ∃ v, e = .returned v ∧ K (a.put o.dst v) w'') :
    if Region.wanted o (yielded ops a.tmps) = true then Oper.wp P o a w K Q else E := by
  have hw : Region.wanted o (yielded ops a.tmps) = true := by simp [Region.wanted, hgd]
  rw [if_pos hw]
  unfold Oper.wp
  have he : execOp a.eval o = callFunc f #[u] := by
    subst hv
    obtain ⟨dst, op, ty, pos, after, guard⟩ := o
    simp only at ho
    subst ho
    rw [execOp_call_go]
    simp
  rw [he, hrun, Oper.upon_enter]
  refine hc.mono ?_
  rintro e w'' ⟨v, rfl, hk⟩
  exact hk
theorem gdrew {w w' : World} {r : Option Nat} (h : w.drew.grownBy w' r) : w.grownBy w' r := ⟨h.os, h.tape, h.output, h.size, h.block⟩
theorem enterCell (v : Value) (w : World) : Sem.run Try.prog (callFunc 77 #[v]) w = .ok (.enter 77 #[v]) w := by kernel_rfl

/-- What the loop keeps: the answer's box, the grid's box at ob, the cells so far, the reader. -/
structure DrawInv (w wr : World) (rb L P W ob : Nat) (xs : List (Int × Int)) (a : Option Addr) (c : Nat) : Prop where
  g : w.grownBy wr (some rb)
  rd : RdQ wr rb L P
  p4 : wr.cell? ⟨w.heap.size, 0, none⟩ = some (.int .i64 0)
  p5 : wr.cell? ⟨w.heap.size, 1, none⟩ = some (.slice none 0 0)
  f4 : wr.frozen? ⟨w.heap.size, 0, none⟩ = false
  f5 : wr.frozen? ⟨w.heap.size, 1, none⟩ = false
  o0 : wr.cell? ⟨ob, 0, none⟩ = some (.int .i64 (W : Int))
  o1 : wr.cell? ⟨ob, 1, none⟩ = some (.slice a xs.length c)
  fo : wr.frozen? ⟨ob, 1, none⟩ = false
  own : Own wr (ob + 1) (.slice a xs.length c) xs
  ok : (xs.all fun c => okC c.1 c.2) = true
  hL : L ≤ w.heap.size ∧ w.heap.size < ob ∧ rb < L

theorem DrawInv.call {w wr w2 : World} {rb L P P' W ob : Nat} {xs : List (Int × Int)} {a : Option Addr} {c : Nat} (h : DrawInv w wr rb L P W ob xs a c) (hg : wr.grownBy w2 (some rb)) (hr : RdQ w2 rb L P') : DrawInv w w2 rb L P' W ob xs a c := by
  have hL := h.hL
  have n1 : w.heap.size ≠ rb := by omega
  have n2 : ob ≠ rb := by omega
  refine ⟨picks h.g hg, hr, gcell hg n1 h.p4, gcell hg n1 h.p5, gfroz hg n1 h.p4 h.f4, gfroz hg n1 h.p5 h.f5, gcell hg n2 h.o0, gcell hg n2 h.o1, gfroz hg n2 h.o1 h.fo, ?_, h.ok, hL⟩
  refine World.ownsRow.kept h.own hg ?_
  cases hv : (Value.slice a xs.length c).ownBlock with
  | none => exact Or.inl rfl
  | some k =>
    have := World.ownsRow.lt h.own k hv
    refine Or.inr ?_
    simp only [ne_eq, Option.some.injEq]
    omega

theorem DrawInv.push {w w5 w6 : World} {rb L P W ob : Nat} {xs : List (Int × Int)} {a : Option Addr} {c g6 k6 : Nat} {x y : Int} {o : Obj} (h : DrawInv w w5 rb L P W ob xs a c) (hg : (w5.alloc o).grownBy w6 (Value.slice a xs.length c).ownBlock)
    (hO : w6.ownsRow (ob + 1) 78 2 (.slice (some ⟨g6, 0, none⟩) (xs.length + 1) k6) (xs.length + 1) (flat xs ++ [.int .i64 x, .int .i64 y])) (hok : okC x y = true) :
    DrawInv w (w6.setCell ⟨ob, 1, none⟩ (.slice (some ⟨g6, 0, none⟩) (xs.length + 1) k6)) rb L P W ob (xs ++ [(x, y)]) (some ⟨g6, 0, none⟩) k6 ∧ w6.cell? ⟨ob, 1, none⟩ = some (.slice a xs.length c) ∧ w6.frozen? ⟨ob, 1, none⟩ = false := by
  have hL := h.hL
  have hz := h.g.size
  have rg := World.ownsRow.lt h.own
  have rg6 := World.ownsRow.lt hO g6 rfl
  have hblk : ∀ b, b ≤ ob → some b ≠ (Value.slice a xs.length c).ownBlock := by
    intro b hb e
    have := rg b e.symm
    omega
  have kp : ∀ {bb oo : Nat} {v : Value}, bb ≤ ob → w5.cell? ⟨bb, oo, none⟩ = some v → w6.cell? ⟨bb, oo, none⟩ = some v := fun {bb oo v} hb hc =>
    hg.cell ((World.cell?_alloc_past _ _ _ (World.block_lt_of_cell? w5 _ hc)).trans hc) (hblk bb hb)
  have kf : ∀ {bb oo : Nat} {v : Value} {t : Bool}, bb ≤ ob → w5.cell? ⟨bb, oo, none⟩ = some v → w5.frozen? ⟨bb, oo, none⟩ = t → w6.frozen? ⟨bb, oo, none⟩ = t := fun {bb oo v t} hb hc hf => by
    have hl := World.block_lt_of_cell? w5 _ hc
    simp only at hl
    rw [World.frozen?_of_block (w := w5.alloc o) (a := ⟨bb, oo, none⟩) (hg.block bb (by simp; omega) (hblk bb hb)), World.frozen?_of_block (w := w5) (a := ⟨bb, oo, none⟩) (Below.heap_alloc w5 o bb hl)]
    exact hf
  have hl : (xs ++ [(x, y)]).length = xs.length + 1 := by simp
  have so := World.block_lt_of_cell? w5 _ h.o1
  simp only at so
  have hB : Below (ob + 1) w5 w6 := by
    refine ((Below.refl _ _).alloc (by omega) o).grown hg (by simp; omega) (fun k hk => ?_)
    exact (rg k hk).1
  have hgg : w.grownBy w6 (some rb) :=
    ⟨hB.os.trans h.g.os, hB.tape.trans h.g.tape, hB.output.trans h.g.output, Nat.le_trans hz hB.size, fun k hk hne => (hB.block k (by omega)).trans (h.g.block k hk hne)⟩
  have n1 : w.heap.size ≠ ob := by omega
  refine ⟨⟨gset hgg (p := ⟨ob, 1, none⟩) (by show w.heap.size ≤ ob; omega) _, (h.rd.below (hB.mono (by omega))).below ((Below.refl _ _).setCell (p := ⟨ob, 1, none⟩) (by show L ≤ ob; omega) _), setc n1 (kp (by omega) h.p4), setc n1 (kp (by omega) h.p5), setf n1 (kf (by omega) h.p4 h.f4), setf n1 (kf (by omega) h.p5 h.f5), ?_, ?_, ?_, ?_, ?_, hL⟩, kp (Nat.le_refl _) h.o1, kf (Nat.le_refl _) h.o1 h.fo⟩
  · rw [World.cell?_setCell_other _ _ _ _ (by simp)]
    exact kp (Nat.le_refl _) h.o0
  · rw [hl]
    exact World.cell?_setCell_same _ _ _ (kp (Nat.le_refl _) h.o1)
  · rw [World.frozen?_setCell]
    exact kf (Nat.le_refl _) h.o1 h.fo
  · rw [hl]
    have : w6.ownsRow (ob + 1) 78 2 (.slice (some ⟨g6, 0, none⟩) (xs.length + 1) k6) (xs ++ [(x, y)]).length (flat (xs ++ [(x, y)])) := by rw [hl, flat_append]; exact hO
    exact ownsRow_setCell_below this (by simp) _
  · rw [List.all_append, h.ok]
    simp [hok]

theorem ownOther {w : World} {B g n cap : Nat} {cs : List (Int × Int)} (h : Own w B (.slice (some ⟨g, 0, none⟩) n cap) cs) {p : Addr} (hne : g ≠ p.block) (u : Value) : Own (w.setCell p u) B (.slice (some ⟨g, 0, none⟩) n cap) cs := by
  obtain ⟨h1, h2⟩ := h
  refine ⟨h1, ?_⟩
  rcases h2 with ⟨h2, _⟩ | ⟨g', cap', cur, hv, hg, hh, r⟩
  · simp at h2
  · have hv' := hv
    simp only [Value.slice.injEq, Option.some.injEq, Addr.mk.injEq, and_true] at hv'
    exact Or.inr ⟨g', cap', cur, hv, hg, by rw [Below.heap_setCell _ _ _ _ (by rw [← hv'.1]; exact hne)]; exact hh, r⟩
theorem own_form' {w : World} {B : Nat} {e : TypeId} {size : Nat} {v : Value} {n : Nat} {xs : List Value} (h : w.ownsRow B e size v n xs) (hn : 0 < n) : ∃ g cap, v = .slice (some ⟨g, 0, none⟩) n cap ∧ B ≤ g ∧ g < w.heap.size := by
  rcases h.2 with ⟨_, h0⟩ | ⟨g, cap, cur, hv, hB, hg, _⟩
  · omega
  · exact ⟨g, cap, hv, hB, (Array.getElem?_eq_some_iff.1 hg).1⟩
theorem prod_le (V U : Nat) (h1 : V < 5) (h2 : U < 5) : 1 ≤ (1 + V) * (1 + U) ∧ (1 + V) * (1 + U) ≤ 25 := by
  rcases (show V = 0 ∨ V = 1 ∨ V = 2 ∨ V = 3 ∨ V = 4 by omega) with rfl | rfl | rfl | rfl | rfl <;> omega
theorem okG_of (W H : Nat) (xs : List (Int × Int)) (hW : 1 ≤ W ∧ W ≤ 5) (hH : 1 ≤ H ∧ H ≤ 5) (hl : xs.length = W * H) (hok : (xs.all fun c => okC c.1 c.2) = true) : okG (W : Int) xs = true := by
  refine okG_yes _ _ ?_ hok
  simp only [sizeG, decide_eq_true_eq, hl]
  obtain ⟨a, b⟩ := hW
  obtain ⟨c, d⟩ := hH
  rcases (show W = 1 ∨ W = 2 ∨ W = 3 ∨ W = 4 ∨ W = 5 by omega) with rfl | rfl | rfl | rfl | rfl <;> omega

set_option maxHeartbeats 2000000 in
theorem l71Grid_any (w : World) (rb L P : Nat) (h : RdQ w rb L P) (hp : P ≤ 900000) (hL : L ≤ w.heap.size) :
    Calls Try.prog 65 #[.pointer (some ⟨rb, 0, none⟩)] w fun e w' => ∃ (W : Nat) (g c : Nat) (xs : List (Int × Int)), e = .returned (.agg #[.int .i64 (W : Int), .slice (some ⟨g, 0, none⟩) xs.length c]) ∧ okG (W : Int) xs = true ∧ Own w' w.heap.size (.slice (some ⟨g, 0, none⟩) xs.length c) xs ∧ RdQ w' rb L (P + 60) ∧ w.grownBy w' (some rb) := by
  obtain ⟨i0, hi, iz0, iz1, iz2⟩ := info_parts infoCell
  have hrb := h.lt
  have hbX : Below w.heap.size w (w.alloc (.cells #[.int .i64 0, .slice none 0 0] 25)) := (by repeat (first | exact Below.refl _ _ | refine Below.alloc ?_ (by first | exact Nat.le_refl _ | (simp; done) | (simp; omega)) _ | refine Below.drew ?_ | refine Below.setCell ?_ (by first | exact Nat.le_refl _ | (simp; done) | (simp; omega)) _))
  have hX := h.below (hbX.mono hL)
  go_enter Try.func65, Try.ntmps65
  go_wp2_with fail
  refine (pickQ 5 _ rb L P hX (by omega) (by omega)).mono ?_
  rintro e w1 ⟨v, rfl, hv1, hv2, hr1, hg1'⟩
  obtain ⟨V, rfl⟩ := Int.eq_ofNat_of_zero_le hv1
  have hne : w.heap.size ≠ rb := by omega
  have hz1 := hg1'.size
  simp at hz1
  have q0 : w1.cell? ⟨w.heap.size, 0, none⟩ = some (.int .i64 0) := gcell hg1' hne (by simp [go_sem])
  have q1 : w1.cell? ⟨w.heap.size, 1, none⟩ = some (.slice none 0 0) := gcell hg1' hne (by simp [go_sem])
  have f0 : w1.frozen? ⟨w.heap.size, 0, none⟩ = false := gfroz hg1' hne (v := .int .i64 0) (by simp [go_sem]) (by simp [go_sem])
  have f1 : w1.frozen? ⟨w.heap.size, 1, none⟩ = false := gfroz hg1' hne (v := .slice none 0 0) (by simp [go_sem]) (by simp [go_sem])
  have hg1 : w.grownBy w1 (some rb) := picks (belowP hbX) hg1'
  have hbY : Below w1.heap.size w1 (w1.alloc (.cells #[.int .i64 (1 + (V : Int)), .slice none 0 0] 25)) := (by repeat (first | exact Below.refl _ _ | refine Below.alloc ?_ (by first | exact Nat.le_refl _ | (simp; done) | (simp; omega)) _ | refine Below.drew ?_ | refine Below.setCell ?_ (by first | exact Nat.le_refl _ | (simp; done) | (simp; omega)) _))
  have hI : DrawInv w (w1.alloc (.cells #[.int .i64 (1 + (V : Int)), .slice none 0 0] 25)) rb L (P + 1) (1 + V) w1.heap.size [] none 0 :=
    ⟨picksB hg1 hbY, hr1.below (hbY.mono (by omega)), keepc hbY q0, keepc hbY q1, keepf hbY q0 f0, keepf hbY q1 f1, by simp [go_sem], by simp [go_sem], by simp [go_sem], World.ownsRow_nil _ _ _ _, rfl, by omega⟩
  clear hX hbX hg1' hr1 q0 q1 f0 f1 hg1 hbY
  have o0 := hI.o0
  go_wp2
  go_region_held3 (fun w' => w'.cell? ⟨w1.heap.size, 0, none⟩ = some (.int .i64 (1 + (V : Int))))
    (first | exact hI2.o0 | go_keep)
    (first | (go_at_call 53; refine (pickQ 5 _ rb L (P + 1) (by first | exact hI.rd | exact hI.rd.below (Below.refl _ _).drew) (by omega) (by omega)).mono ?_; rintro e w2 ⟨u, rfl, hu1, hu2, hr2, hg2'⟩; have hg2 := gdrew hg2'; have hI2 := hI.call hg2 hr2; obtain ⟨U, rfl⟩ := Int.eq_ofNat_of_zero_le hu1; obtain ⟨N, hN⟩ : ∃ N : Nat, N = (1 + V) * (1 + U) := ⟨_, rfl⟩; have hNi : (1 + (V : Int)) * (1 + (U : Int)) = (N : Int) := (by rw [hN]; simp); have hNb : 1 ≤ N ∧ N ≤ 25 := (by rw [hN]; exact prod_le V U (by omega) (by omega)); have HN : Hid (N = (1 + V) * (1 + U)) := hN; clear hN))
  clear hI o0
  have hN1 : (1 : Int) ≤ (N : Int) := by omega
  have hN2 : (N : Int) ≤ 25 := by omega
  go_wp2
  go_loopw [4] (fun i wr => ∃ (t : Nat) (xs : List (Int × Int)) (a : Option Addr) (c : Nat), t ≤ N ∧ i = .int .i64 ((N : Int) - t) ∧ xs.length = t ∧ DrawInv w wr rb L (P + 2 + 2 * t) (1 + V) w1.heap.size xs a c) (fun i _ => (intOf i).toNat)
  case atStart => exact ⟨0, [], none, 0, Nat.zero_le _, valI (by rw [IntWalk.i64_in (1 + (U : Int)) (by omega), hNi, IntWalk.i64_in _ (by omega)]; simp), rfl, hI2⟩
  case round =>
    clear hI2
    obtain ⟨t, xs, a, c, ht, rfl, hxl, hI⟩ := hrel
    by_cases hlt : t < N
    · have hz := hI.g.size
      have so := World.block_lt_of_cell? _ _ hI.o1
      simp only at so
      have hLL := hI.hL
      obtain ⟨o1, fo⟩ := And.intro hI.o1 hI.fo
      have hxb : xs.length ≤ 25 := by omega
      have HT : Hid (xs.length = t) := hxl
      have hlt2 : (t : Int) < (N : Int) := by omega
      clear hxl
      go_wp2
      go_region_law (first
        | (refine stepCall rfl 77 (.tmp 21) 53 rfl (.pointer (some ⟨rb, 0, none⟩)) rfl (enterCell _ _) ?_; refine (l71Cell_any _ rb L (P + 2 + 2 * t) (by first | exact hI.rd | exact hI.rd.below (Below.refl _ _).drew) (by omega) (by first | omega | (show L ≤ wr.heap.size; omega))).mono ?_; rintro e w5 ⟨kx, lx, rfl, hok5, hr5, hg5'⟩; refine ⟨_, rfl, ?_⟩; have hg5 : wr.grownBy w5 (some rb) := (by first | exact hg5' | exact gdrew hg5'); have hI5 := hI.call hg5 hr5; have o5 := hI5.o1; have so5 : w1.heap.size < w5.heap.size := World.block_lt_of_cell? w5 _ hI5.o1)
        | (refine step_append_lies _ (by rfl) _ _ _ (by rfl) (w1.heap.size + 1) 78 i0 (.agg #[.int .i64 0, .int .i64 0]) 2 16 Try.underlying23 hi iz0 iz1 iz2 rfl (by omega) (.slice a xs.length c) xs.length (flat xs) (by rfl) (by first | exact hI5.own.alloc _ | exact (hI5.own.alloc _).drew) ⟨w5.heap.size, 0, none⟩ 1 1 [.int .i64 kx, .int .i64 lx] (by rfl) (by rfl) (World.news_of_block (cs := #[.int .i64 kx, .int .i64 lx]) (t := 78) (fr := (0, 0)) (heap_alloc_new w5 _)) (by simp [Value.oneCell']) (by omega) (by unfold maxLen; omega) (by omega) (by simp; omega) (w5.heap.size + 1) (by simp) ?_; intro g6 k6 w6 hO6 hg6 hat6 hlt6; obtain ⟨hI6, o6, fo6⟩ := hI5.push hg6 hO6 hok5))
      all_goals
        go_wp2
        go_roundw
        case rel => exact ⟨t + 1, xs ++ [(kx, lx)], some ⟨g6, 0, none⟩, k6, by omega, valI (by omega), by rw [List.length_append, HT.out]; rfl, hI6⟩
        case measure => simp only [intOf]; omega
    · have htN : t = N := by omega
      subst htN
      obtain ⟨a', c', hv, hC⟩ := hI.own.slice
      have hg0 := own_form' hI.own (by omega)
      obtain ⟨g, cg, hv2, hgB, hgl⟩ := hg0
      simp only [Value.slice.injEq] at hv2
      obtain ⟨rfl, _, rfl⟩ := hv2
      have hLL := hI.hL
      have hz := hI.g.size
      have hOK := okG_of (1 + V) (1 + U) xs (by omega) (by omega) (by rw [hxl]; exact HN.out) hI.ok
      have hO := hI.own
      have n1 : g ≠ w.heap.size := by omega
      obtain ⟨p4, p5, f4, f5, o0, o1⟩ := And.intro hI.p4 (And.intro hI.p5 (And.intro hI.f4 (And.intro hI.f5 (And.intro hI.o0 hI.o1))))
      have hg := hI.g
      have hr := hI.rd.more (P' := P + 60) (by omega)
      have HX : Hid (xs.length = t) := hxl
      clear hI hv hxl
      go_wp2
      refine bodyPost_ret (v := .agg #[.int .i64 ((1 + V : Nat) : Int), .slice (some ⟨g, 0, none⟩) xs.length c]) (by simp [results, Try.results65, go_sem, p4, p5]) rfl ⟨1 + V, g, c, xs, rfl, hOK, ?_, ?_, ?_⟩
      · have := hO.mono (B' := w.heap.size) (by omega)
        exact ownOther (ownOther this (p := ⟨w.heap.size, 0, none⟩) n1 _) (p := ⟨w.heap.size, 1, none⟩) n1 _
      · exact hr.below (((Below.refl _ _).setCell (p := ⟨w.heap.size, 0, none⟩) (by show L ≤ w.heap.size; omega) _).setCell (p := ⟨w.heap.size, 1, none⟩) (by show L ≤ w.heap.size; omega) _)
      · exact gset (gset hg (p := ⟨w.heap.size, 0, none⟩) (Nat.le_refl _) _) (p := ⟨w.heap.size, 1, none⟩) (Nat.le_refl _) _

end Go.Proofs.Ytankkkiccokggaa
