/-
  Worlds as the exact laws hold and mark them.
-/
import Derived.Test.YtjmdlppakinboaaDoorKu
namespace Go.Proofs.YtjmdlppakinboaaDoor
open Go.RowKit
set_option linter.unusedVariables false
set_option linter.unusedSimpArgs false

set_option maxHeartbeats 2000000 in
theorem eqWorld_same (wd : Int) (B B2 n : Nat) (cs : List (Int × Int)) (b : Nat → Bool) (x : Nat → Int) (pb pc : Nat → Bool) (px py : Nat → Int) (ac a2 ap a4 aq a6 : Option Addr) (cc k2 cp k4 cq k6 : Nat) (ac' a2' ap' a4' aq' a6' : Option Addr) (cc' k2' cp' k4' cq' k6' : Nat) (w : World) (h : Wp w B (.agg #[.int .i64 wd, .slice ac cs.length cc, .slice a2 0 k2, .slice ap n cp, .slice a4 0 k4, .slice aq n cq, .slice a6 0 k6]) wd cs n b x pb pc px py (.slice ac cs.length cc) (.slice ap n cp) (.slice aq n cq) a2 a4 a6 k2 k4 k6) (h2 : Wp w B2 (.agg #[.int .i64 wd, .slice ac' cs.length cc', .slice a2' 0 k2', .slice ap' n cp', .slice a4' 0 k4', .slice aq' n cq', .slice a6' 0 k6']) wd cs n b x pb pc px py (.slice ac' cs.length cc') (.slice ap' n cp') (.slice aq' n cq') a2' a4' a6' k2' k4' k6') (hm : cs.length ≤ 1048576) (hn : n ≤ 1048576) :
    Calls Tryd.prog 16 #[.agg #[.int .i64 wd, .slice ac cs.length cc, .slice a2 0 k2, .slice ap n cp, .slice a4 0 k4, .slice aq n cq, .slice a6 0 k6], .agg #[.int .i64 wd, .slice ac' cs.length cc', .slice a2' 0 k2', .slice ap' n cp', .slice a4' 0 k4', .slice aq' n cq', .slice a6' 0 k6']] w fun e w' => e = .returned (.bool true) ∧ Below w.heap.size w w' := by
  have hbX : Below w.heap.size w ((w.alloc (.cells #[.int .i64 wd, .slice ac cs.length cc, .slice a2 0 k2, .slice ap n cp, .slice a4 0 k4, .slice aq n cq, .slice a6 0 k6] 45)).alloc (.cells #[.int .i64 wd, .slice ac' cs.length cc', .slice a2' 0 k2', .slice ap' n cp', .slice a4' 0 k4', .slice aq' n cq', .slice a6' 0 k6'] 45)) := (by repeat (first | exact Below.refl _ _ | refine Below.alloc ?_ (by first | exact Nat.le_refl _ | (simp; done) | (simp; omega)) _ | refine Below.drew ?_ | refine Below.setCell ?_ (by first | exact Nat.le_refl _ | (simp; done) | (simp; omega)) _))
  have hX : Box7 ((w.alloc (.cells #[.int .i64 wd, .slice ac cs.length cc, .slice a2 0 k2, .slice ap n cp, .slice a4 0 k4, .slice aq n cq, .slice a6 0 k6] 45)).alloc (.cells #[.int .i64 wd, .slice ac' cs.length cc', .slice a2' 0 k2', .slice ap' n cp', .slice a4' 0 k4', .slice aq' n cq', .slice a6' 0 k6'] 45)) w.heap.size (.int .i64 wd) (.slice ac cs.length cc) (.slice a2 0 k2) (.slice ap n cp) (.slice a4 0 k4) (.slice aq n cq) (.slice a6 0 k6) := (Box7.new w _ _ _ _ _ _ _).below (by repeat (first | exact Below.refl _ _ | refine Below.alloc ?_ (by first | exact Nat.le_refl _ | (simp; done) | (simp; omega)) _ | refine Below.drew ?_ | refine Below.setCell ?_ (by first | exact Nat.le_refl _ | (simp; done) | (simp; omega)) _))
  have hY : Box7 ((w.alloc (.cells #[.int .i64 wd, .slice ac cs.length cc, .slice a2 0 k2, .slice ap n cp, .slice a4 0 k4, .slice aq n cq, .slice a6 0 k6] 45)).alloc (.cells #[.int .i64 wd, .slice ac' cs.length cc', .slice a2' 0 k2', .slice ap' n cp', .slice a4' 0 k4', .slice aq' n cq', .slice a6' 0 k6'] 45)) (w.heap.size + 1) (.int .i64 wd) (.slice ac' cs.length cc') (.slice a2' 0 k2') (.slice ap' n cp') (.slice a4' 0 k4') (.slice aq' n cq') (.slice a6' 0 k6') := by
    have := Box7.new (w.alloc (.cells #[.int .i64 wd, .slice ac cs.length cc, .slice a2 0 k2, .slice ap n cp, .slice a4 0 k4, .slice aq n cq, .slice a6 0 k6] 45)) (.int .i64 wd) (.slice ac' cs.length cc') (.slice a2' 0 k2') (.slice ap' n cp') (.slice a4' 0 k4') (.slice aq' n cq') (.slice a6' 0 k6')
    simpa using this
  go_enter Tryd.func16, Tryd.ntmps16
  go_wp2_with fail
  refine (eqKeeper_same _ _ _ n _ _ _ _ _ _ cs _ _ _ _ _ _ _ _ _ _ _ (h.kp.below hbX) (h2.kp.below hbX) hm hn).mono ?_
  rintro e w1 ⟨rfl, hb1⟩
  have hB1 := bcall hbX hbX.size hb1
  obtain ⟨p0, p1, p2, p3, p4, p5, p6⟩ := (hX.below hb1).cells
  obtain ⟨q0, q1, q2, q3, q4, q5, q6⟩ := (hY.below hb1).cells
  clear hX hY hbX hb1 p0 p1 p2 p3 p4 q0 q1 q2 q3 q4
  go_wp2_with fail
  refine (eqPainterS_same _ _ _ _ n _ _ _ _ _ (h.paint.below hB1) (h2.paint.below hB1) hn).mono ?_
  rintro e w3 ⟨rfl, hb3⟩
  have hB3 := bcall hB1 hB1.size hb3
  replace p6 := keepc hb3 p6; replace q6 := keepc hb3 q6
  clear hb3 p5 q5
  go_wp2_with fail
  refine (eqWordS_none _ _ _ _ _).mono ?_
  rintro e w4 ⟨rfl, rfl⟩
  go_wp2
  go_ret
  exact ⟨rfl, hB3⟩

set_option maxHeartbeats 2000000 in
theorem markWorld_any (wd k0 : Int) (B n : Nat) (cs : List (Int × Int)) (b : Nat → Bool) (x : Nat → Int) (pb pc : Nat → Bool) (px py : Nat → Int) (ac a2 ap a4 aq a6 : Option Addr) (cc k2 cp k4 cq k6 : Nat) (w : World) (h : Wp w B (.agg #[.int .i64 wd, .slice ac cs.length cc, .slice a2 0 k2, .slice ap n cp, .slice a4 0 k4, .slice aq n cq, .slice a6 0 k6]) wd cs n b x pb pc px py (.slice ac cs.length cc) (.slice ap n cp) (.slice aq n cq) a2 a4 a6 k2 k4 k6) (hm : cs.length ≤ 1048576) (hn : n ≤ 1048576) (hk0 : 0 ≤ k0 ∧ k0 ≤ 1000000) :
    Calls Tryd.prog 17 #[.agg #[.int .i64 wd, .slice ac cs.length cc, .slice a2 0 k2, .slice ap n cp, .slice a4 0 k4, .slice aq n cq, .slice a6 0 k6], .int .i64 k0] w fun e w' => e = .returned (.int .i64 (k0 + 2 * cs.length + 2 * n + 4 * n)) ∧ Wp w' B (.agg #[.int .i64 wd, .slice ac cs.length cc, .slice a2 0 k2, .slice ap n cp, .slice a4 0 k4, .slice aq n cq, .slice a6 0 k6]) wd (marks k0 cs.length) n (markB (k0 + 2 * cs.length)) (markX (k0 + 2 * cs.length)) (pMark (k0 + 2 * cs.length + 2 * n) 0) (pMark (k0 + 2 * cs.length + 2 * n) 1) (pNum (k0 + 2 * cs.length + 2 * n) 2) (pNum (k0 + 2 * cs.length + 2 * n) 3) (.slice ac cs.length cc) (.slice ap n cp) (.slice aq n cq) a2 a4 a6 k2 k4 k6 ∧ Ofs (fun k => ((Value.slice ac cs.length cc).ownBlock = some k ∨ (Value.slice ap n cp).ownBlock = some k) ∨ (Value.slice aq n cq).ownBlock = some k) w w' := by
  have hbX : Below w.heap.size w (w.alloc (.cells #[.int .i64 wd, .slice ac cs.length cc, .slice a2 0 k2, .slice ap n cp, .slice a4 0 k4, .slice aq n cq, .slice a6 0 k6] 45)) := (by repeat (first | exact Below.refl _ _ | refine Below.alloc ?_ (by first | exact Nat.le_refl _ | (simp; done) | (simp; omega)) _ | refine Below.drew ?_ | refine Below.setCell ?_ (by first | exact Nat.le_refl _ | (simp; done) | (simp; omega)) _))
  have hX : Box7 (w.alloc (.cells #[.int .i64 wd, .slice ac cs.length cc, .slice a2 0 k2, .slice ap n cp, .slice a4 0 k4, .slice aq n cq, .slice a6 0 k6] 45)) w.heap.size (.int .i64 wd) (.slice ac cs.length cc) (.slice a2 0 k2) (.slice ap n cp) (.slice a4 0 k4) (.slice aq n cq) (.slice a6 0 k6) := Box7.new w _ _ _ _ _ _ _
  have h1 := h.below hbX
  have nc : ∀ k, (Value.slice ac cs.length cc).ownBlock = some k → k < w.heap.size := fun k hk => (h.kp.own.range k hk).2
  have np : ∀ k, (Value.slice ap n cp).ownBlock = some k → k < w.heap.size := fun k hk => (h.kp.parts.range k hk).2
  have nq : ∀ k, (Value.slice aq n cq).ownBlock = some k → k < w.heap.size := fun k hk => (h.paint.range k hk).2
  have wk : IntKind.i64.wrap (k0 + 2 * (cs.length : Int) + 2 * (n : Int)) = k0 + 2 * (cs.length : Int) + 2 * (n : Int) := IntWalk.i64_in _ (by omega)
  go_enter Tryd.func17, Tryd.ntmps17
  go_wp2_with fail
  refine (markKeeper_any _ k0 _ n _ _ _ cs _ _ _ _ _ _ _ h1.kp hm hn hk0).mono ?_
  rintro e w1 ⟨rfl, hK1, hg1⟩
  have hX1 := hg1.box7 hX (fun q => by rcases q with q | q; (have := nc _ q; omega); (have := np _ q; omega))
  have hP1 := hg1.paint h1.paint (fun k hk q => h.apart k q hk)
  have hS1 : Ofs (fun k => ((Value.slice ac cs.length cc).ownBlock = some k ∨ (Value.slice ap n cp).ownBlock = some k) ∨ (Value.slice aq n cq).ownBlock = some k) w w1 := (Ofs.of_below hbX).trans (hg1.mono (fun k q => Or.inl q))
  obtain ⟨p0, p1, p2, p3, p4, p5, p6⟩ := hX1.cells
  clear hX hg1 hbX h1 p0 p1 p2 p3 p4
  go_wp2_with fail
  refine (markPainterS_any (k0 + 2 * (cs.length : Int) + 2 * (n : Int)) _ B n _ _ _ _ _ hP1 hn (by omega)).mono ?_
  rintro e w3 ⟨rfl, hP3, hg3⟩
  have hX3 := hX1.kept hg3 (fun q => by have := nq _ q.symm; omega)
  have hK3 := hK1.kept hg3 (fun k hk q => h.apart k (Or.inl hk) q) (fun k hk q => h.apart k (Or.inr hk) q)
  have hS3 := hS1.trans (Ofs.of_grown hg3 (fun k hk => Or.inr hk))
  obtain ⟨q0, q1, q2, q3, q4, q5, q6⟩ := hX3.cells
  clear hX1 hX3 hg3 hP1 hK1 p5 p6 hS1 q0 q1 q2 q3 q4 q5
  go_wp2_with fail
  refine (markWordS_none _ _ _ _).mono ?_
  rintro e w4 ⟨rfl, rfl⟩
  go_wp2
  go_ret
  exact ⟨rfl, ⟨rfl, hK3, hP3, h.apart⟩, hS3⟩

set_option maxHeartbeats 2000000 in
theorem heldWorld_any (wd k0 : Int) (B n : Nat) (cs : List (Int × Int)) (ac a2 ap a4 aq a6 : Option Addr) (cc k2 cp k4 cq k6 : Nat) (w : World) (h : Wp w B (.agg #[.int .i64 wd, .slice ac cs.length cc, .slice a2 0 k2, .slice ap n cp, .slice a4 0 k4, .slice aq n cq, .slice a6 0 k6]) wd (marks k0 cs.length) n (markB (k0 + 2 * cs.length)) (markX (k0 + 2 * cs.length)) (pMark (k0 + 2 * cs.length + 2 * n) 0) (pMark (k0 + 2 * cs.length + 2 * n) 1) (pNum (k0 + 2 * cs.length + 2 * n) 2) (pNum (k0 + 2 * cs.length + 2 * n) 3) (.slice ac cs.length cc) (.slice ap n cp) (.slice aq n cq) a2 a4 a6 k2 k4 k6) (hm : cs.length ≤ 1048576) (hn : n ≤ 1048576) (hk0 : 0 ≤ k0 ∧ k0 ≤ 1000000) :
    Calls Tryd.prog 18 #[.agg #[.int .i64 wd, .slice ac cs.length cc, .slice a2 0 k2, .slice ap n cp, .slice a4 0 k4, .slice aq n cq, .slice a6 0 k6], .int .i64 k0] w fun e w' => e = .returned (.int .i64 (k0 + 2 * cs.length + 2 * n + 4 * n)) ∧ Below w.heap.size w w' := by
  have hbX : Below w.heap.size w (w.alloc (.cells #[.int .i64 wd, .slice ac cs.length cc, .slice a2 0 k2, .slice ap n cp, .slice a4 0 k4, .slice aq n cq, .slice a6 0 k6] 45)) := (by repeat (first | exact Below.refl _ _ | refine Below.alloc ?_ (by first | exact Nat.le_refl _ | (simp; done) | (simp; omega)) _ | refine Below.drew ?_ | refine Below.setCell ?_ (by first | exact Nat.le_refl _ | (simp; done) | (simp; omega)) _))
  have hX : Box7 (w.alloc (.cells #[.int .i64 wd, .slice ac cs.length cc, .slice a2 0 k2, .slice ap n cp, .slice a4 0 k4, .slice aq n cq, .slice a6 0 k6] 45)) w.heap.size (.int .i64 wd) (.slice ac cs.length cc) (.slice a2 0 k2) (.slice ap n cp) (.slice a4 0 k4) (.slice aq n cq) (.slice a6 0 k6) := Box7.new w _ _ _ _ _ _ _
  have h1 := h.below hbX
  have n1 : ¬ (k0 + 2 * (cs.length : Int) + 2 * (n : Int) < 0) := by omega
  have n2 : ¬ (k0 + 2 * (cs.length : Int) + 2 * (n : Int) + 4 * (n : Int) < 0) := by omega
  go_enter Tryd.func18, Tryd.ntmps18
  go_wp2_with fail
  refine (heldKeeper_any _ k0 _ n cs.length _ _ _ _ _ _ _ _ h1.kp hm hn hk0).mono ?_
  rintro e w1 ⟨rfl, hb1⟩
  have hB1 := bcall hbX hbX.size hb1
  obtain ⟨p0, p1, p2, p3, p4, p5, p6⟩ := (hX.below hb1).cells
  have hP1 := h1.paint.below hb1
  clear hX hbX hb1 h1 p0 p1 p2 p3 p4
  go_wp2_with fail
  refine (heldPainterS_any (k0 + 2 * (cs.length : Int) + 2 * (n : Int)) _ B n _ hP1 hn (by omega)).mono ?_
  rintro e w3 ⟨rfl, rfl⟩
  go_wp2_with fail
  refine (heldWordS_none _ _ _ _).mono ?_
  rintro e w4 ⟨rfl, rfl⟩
  go_wp2
  go_ret
  exact ⟨rfl, hB1⟩
end Go.Proofs.YtjmdlppakinboaaDoor
