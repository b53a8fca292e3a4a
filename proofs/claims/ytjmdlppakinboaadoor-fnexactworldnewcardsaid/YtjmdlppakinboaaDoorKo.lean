/-
  Keepers as the exact laws hold and mark them.
-/
import Derived.Test.YtjmdlppakinboaaDoorKn
import Derived.Test.YtjmdlppakinboaaDoorKk
namespace Go.Proofs.YtjmdlppakinboaaDoor
open Go.RowKit
set_option linter.unusedVariables false
set_option linter.unusedSimpArgs false

/-- All is as it was but some blocks. -/
structure Ofs (S : Nat → Prop) (w w' : World) : Prop where
  os : w'.os = w.os
  tape : w'.tape = w.tape
  output : w'.output = w.output
  size : w.heap.size ≤ w'.heap.size
  block : ∀ k, k < w.heap.size → ¬ S k → w'.heap[k]? = w.heap[k]?
theorem Ofs.refl (S : Nat → Prop) (w : World) : Ofs S w w := ⟨rfl, rfl, rfl, Nat.le_refl _, fun _ _ _ => rfl⟩
theorem Ofs.trans {S : Nat → Prop} {w w1 w2 : World} (h : Ofs S w w1) (h2 : Ofs S w1 w2) : Ofs S w w2 :=
  ⟨h2.os.trans h.os, h2.tape.trans h.tape, h2.output.trans h.output, Nat.le_trans h.size h2.size, fun k hk hn => (h2.block k (Nat.lt_of_lt_of_le hk h.size) hn).trans (h.block k hk hn)⟩
theorem Ofs.of_grown {S : Nat → Prop} {w w' : World} {row : Option Nat} (hg : w.grownBy w' row) (hs : ∀ k, row = some k → S k) : Ofs S w w' :=
  ⟨hg.os, hg.tape, hg.output, hg.size, fun k hk hn => hg.block k hk (fun e => hn (hs k e.symm))⟩
theorem Ofs.of_below {S : Nat → Prop} {w w' : World} (hb : Below w.heap.size w w') : Ofs S w w' := ⟨hb.os, hb.tape, hb.output, hb.size, fun k hk _ => hb.block k hk⟩
theorem Ofs.mono {S T : Nat → Prop} {w w' : World} (h : Ofs S w w') (q : ∀ k, S k → T k) : Ofs T w w' := ⟨h.os, h.tape, h.output, h.size, fun k hk hn => h.block k hk (fun e => hn (q k e))⟩
theorem Ofs.cell {S : Nat → Prop} {w w' : World} (h : Ofs S w w') {b o : Nat} {v : Value} (hg : ¬ S b) (hc : w.cell? ⟨b, o, none⟩ = some v) : w'.cell? ⟨b, o, none⟩ = some v := by
  rw [World.cell?_of_block (w := w) (h.block b (World.block_lt_of_cell? w _ hc) hg)]
  exact hc
theorem Ofs.grown1 {S : Nat → Prop} {w w' : World} (h : Ofs S w w') (v : Value) (hv : ∀ k, v.ownBlock = some k → ¬ S k) {B : Nat} {e : TypeId} {size n : Nat} {xs : List Value} (hr : w.ownsRow B e size v n xs) : w'.ownsRow B e size v n xs := by
  obtain ⟨h1, h2⟩ := hr
  refine ⟨h1, ?_⟩
  rcases h2 with h2 | ⟨g, cap, cur, hv', hg, hh, r⟩
  · exact Or.inl h2
  · subst hv'
    exact Or.inr ⟨g, cap, cur, rfl, hg, (h.block g (Array.getElem?_eq_some_iff.1 hh).1 (hv g rfl)).trans hh, r⟩
theorem Ofs.own {S : Nat → Prop} {w w' : World} (h : Ofs S w w') {B : Nat} {v : Value} {cs : List (Int × Int)} (hO : Own w B v cs) (hv : ∀ k, v.ownBlock = some k → ¬ S k) : Own w' B v cs := h.grown1 v hv hO
theorem Ofs.parts {S : Nat → Prop} {w w' : World} (h : Ofs S w w') {B : Nat} {v : Value} {n : Nat} {b : Nat → Bool} {x : Nat → Int} (hP : PartsAt w B v n b x) (hv : ∀ k, v.ownBlock = some k → ¬ S k) : PartsAt w' B v n b x := by
  obtain ⟨F, hR, hF⟩ := hP
  exact ⟨F, h.grown1 v hv hR, hF⟩
theorem Ofs.box {S : Nat → Prop} {w w' : World} (h : Ofs S w w') {g : Nat} {u0 u1 u2 u3 u4 : Value} (hX : Box5 w g u0 u1 u2 u3 u4) (hg : ¬ S g) : Box5 w' g u0 u1 u2 u3 u4 := (h.block g hX.lt hg).trans hX
theorem Ofs.below {S : Nat → Prop} {w0 w w' : World} {B : Nat} (h : Ofs S w w') (hb : Below B w0 w) (hS : ∀ e, S e → B ≤ e) (hz : B ≤ w.heap.size) : Below B w0 w' :=
  ⟨h.os.trans hb.os, h.tape.trans hb.tape, h.output.trans hb.output, Nat.le_trans hb.size h.size, fun k hk => (h.block k (by omega) (fun q => by have := hS k q; omega)).trans (hb.block k hk)⟩
theorem PartsAt.range {w : World} {B : Nat} {v : Value} {n : Nat} {b : Nat → Bool} {x : Nat → Int} (h : PartsAt w B v n b x) : ∀ k, v.ownBlock = some k → B ≤ k ∧ k < w.heap.size := by
  obtain ⟨F, hR, _⟩ := h
  exact hR.range
theorem PartsAt.slice {w : World} {B : Nat} {v : Value} {n : Nat} {b : Nat → Bool} {x : Nat → Int} (h : PartsAt w B v n b x) : ∃ a cap, v = .slice a n cap := by
  obtain ⟨F, hR, _⟩ := h
  exact hR.slice
theorem Kp.ofs {S : Nat → Prop} {w w' : World} {B : Nat} {v : Value} {wd : Int} {cs : List (Int × Int)} {n : Nat} {b : Nat → Bool} {x : Nat → Int} {vc vp : Value} {a2 a4 : Option Addr} {k2 k4 : Nat} (h : Kp w B v wd cs n b x vc vp a2 a4 k2 k4) (ho : Ofs S w w') (hS : ∀ k, B ≤ k → k < w.heap.size → ¬ S k) : Kp w' B v wd cs n b x vc vp a2 a4 k2 k4 :=
  ⟨h.form, ho.own h.own (fun k hk => hS k (h.own.range k hk).1 (h.own.range k hk).2), ho.parts h.parts (fun k hk => hS k (h.parts.range k hk).1 (h.parts.range k hk).2), h.apart⟩

set_option maxHeartbeats 2000000 in
theorem eqKeeper_same (wd : Int) (B B2 n : Nat) (v v2 vc vp vc2 vp2 : Value) (cs : List (Int × Int)) (b : Nat → Bool) (x : Nat → Int) (a2 a4 c2 c4 : Option Addr) (k2 k4 l2 l4 : Nat) (w : World) (h : Kp w B v wd cs n b x vc vp a2 a4 k2 k4) (h2 : Kp w B2 v2 wd cs n b x vc2 vp2 c2 c4 l2 l4) (hm : cs.length ≤ 1048576) (hn : n ≤ 1048576) :
    Calls Tryd.prog 9 #[v, v2] w fun e w' => e = .returned (.bool true) ∧ Below w.heap.size w w' := by
  have hfm := h.form
  have hfm2 := h2.form
  subst hfm
  subst hfm2
  have heq : eqG wd wd cs cs = true := by simp [eqG]
  obtain ⟨ac, cc, rfl, -⟩ := h.own.slice
  obtain ⟨ad, cd, rfl, -⟩ := h2.own.slice
  obtain ⟨ap, cp, rfl⟩ := h.parts.slice
  obtain ⟨aq, cq, rfl⟩ := h2.parts.slice
  have hbX : Below w.heap.size w ((w.alloc (.cells #[.int .i64 wd, .slice ac cs.length cc, .slice a2 0 k2, .slice ap n cp, .slice a4 0 k4] 33)).alloc (.cells #[.int .i64 wd, .slice ad cs.length cd, .slice c2 0 l2, .slice aq n cq, .slice c4 0 l4] 33)) := (by repeat (first | exact Below.refl _ _ | refine Below.alloc ?_ (by first | exact Nat.le_refl _ | (simp; done) | (simp; omega)) _ | refine Below.drew ?_ | refine Below.setCell ?_ (by first | exact Nat.le_refl _ | (simp; done) | (simp; omega)) _))
  have hX : Box5 ((w.alloc (.cells #[.int .i64 wd, .slice ac cs.length cc, .slice a2 0 k2, .slice ap n cp, .slice a4 0 k4] 33)).alloc (.cells #[.int .i64 wd, .slice ad cs.length cd, .slice c2 0 l2, .slice aq n cq, .slice c4 0 l4] 33)) w.heap.size (.int .i64 wd) (.slice ac cs.length cc) (.slice a2 0 k2) (.slice ap n cp) (.slice a4 0 k4) := (Box5.new w _ _ _ _ _).below (by repeat (first | exact Below.refl _ _ | refine Below.alloc ?_ (by first | exact Nat.le_refl _ | (simp; done) | (simp; omega)) _ | refine Below.drew ?_ | refine Below.setCell ?_ (by first | exact Nat.le_refl _ | (simp; done) | (simp; omega)) _))
  have hY : Box5 ((w.alloc (.cells #[.int .i64 wd, .slice ac cs.length cc, .slice a2 0 k2, .slice ap n cp, .slice a4 0 k4] 33)).alloc (.cells #[.int .i64 wd, .slice ad cs.length cd, .slice c2 0 l2, .slice aq n cq, .slice c4 0 l4] 33)) (w.heap.size + 1) (.int .i64 wd) (.slice ad cs.length cd) (.slice c2 0 l2) (.slice aq n cq) (.slice c4 0 l4) := by
    have := Box5.new (w.alloc (.cells #[.int .i64 wd, .slice ac cs.length cc, .slice a2 0 k2, .slice ap n cp, .slice a4 0 k4] 33)) (.int .i64 wd) (.slice ad cs.length cd) (.slice c2 0 l2) (.slice aq n cq) (.slice c4 0 l4)
    simpa using this
  go_enter Tryd.func9, Tryd.ntmps9
  go_wp2_with fail
  refine (eqGrid_own _ _ _ _ _ _ cs cs _ (h.own.below hbX) (h2.own.below hbX) hm hm).mono ?_
  rintro e w1 ⟨rfl, hb1⟩
  rw [heq]
  have hB1 := bcall hbX hbX.size hb1
  obtain ⟨p0, p1, p2, p3, p4⟩ := (hX.below hb1).cells
  obtain ⟨q0, q1, q2, q3, q4⟩ := (hY.below hb1).cells
  clear hX hY hbX hb1
  go_wp2_with fail
  refine (eqEditS_none _ _ _ _ _).mono ?_
  rintro e w2 ⟨rfl, rfl⟩
  go_wp2_with fail
  refine (eqPartS_same _ _ _ _ n b x _ (h.parts.below hB1) (h2.parts.below hB1) hn).mono ?_
  rintro e w3 ⟨rfl, hb3⟩
  have hB3 := bcall hB1 hB1.size hb3
  replace p4 := keepc hb3 p4; replace q4 := keepc hb3 q4
  clear hb3 p0 p1 p2 p3 q0 q1 q2 q3
  go_wp2_with fail
  refine (eqShownS_none _ _ _ _ _).mono ?_
  rintro e w4 ⟨rfl, rfl⟩
  go_wp2
  go_ret
  exact ⟨rfl, hB3⟩

set_option maxHeartbeats 2000000 in
theorem markKeeper_any (wd k0 : Int) (B n : Nat) (v vc vp : Value) (cs : List (Int × Int)) (b : Nat → Bool) (x : Nat → Int) (a2 a4 : Option Addr) (k2 k4 : Nat) (w : World) (h : Kp w B v wd cs n b x vc vp a2 a4 k2 k4) (hm : cs.length ≤ 1048576) (hn : n ≤ 1048576) (hk0 : 0 ≤ k0 ∧ k0 ≤ 1000000) :
    Calls Tryd.prog 12 #[v, .int .i64 k0] w fun e w' => e = .returned (.int .i64 (k0 + 2 * cs.length + 2 * n)) ∧ Kp w' B v wd (marks k0 cs.length) n (markB (k0 + 2 * cs.length)) (markX (k0 + 2 * cs.length)) vc vp a2 a4 k2 k4 ∧ Ofs (fun k => vc.ownBlock = some k ∨ vp.ownBlock = some k) w w' := by
  have hfm := h.form
  subst hfm
  obtain ⟨ac, cc, ec, -⟩ := h.own.slice
  obtain ⟨ap, cp, ep⟩ := h.parts.slice
  have hbX : Below w.heap.size w (w.alloc (.cells #[.int .i64 wd, vc, .slice a2 0 k2, vp, .slice a4 0 k4] 33)) := (by repeat (first | exact Below.refl _ _ | refine Below.alloc ?_ (by first | exact Nat.le_refl _ | (simp; done) | (simp; omega)) _ | refine Below.drew ?_ | refine Below.setCell ?_ (by first | exact Nat.le_refl _ | (simp; done) | (simp; omega)) _))
  have hX : Box5 (w.alloc (.cells #[.int .i64 wd, vc, .slice a2 0 k2, vp, .slice a4 0 k4] 33)) w.heap.size (.int .i64 wd) vc (.slice a2 0 k2) vp (.slice a4 0 k4) := Box5.new w _ _ _ _ _
  have hK1 := h.below hbX
  have nc : ∀ k, vc.ownBlock = some k → k < w.heap.size := fun k hk => (h.own.range k hk).2
  have np : ∀ k, vp.ownBlock = some k → k < w.heap.size := fun k hk => (h.parts.range k hk).2
  subst ec
  subst ep
  go_enter Tryd.func12, Tryd.ntmps12
  go_wp2_with fail
  refine (markGrid_own wd k0 B _ cs _ hK1.own hm ⟨hk0.1, by omega⟩).mono ?_
  rintro e w1 ⟨rfl, hO1, hg1⟩
  have hX1 := hX.kept hg1 (fun q => by have := nc _ q.symm; omega)
  have hP1 := hK1.parts.kept hg1 (fun k hk q => h.apart k q hk)
  obtain ⟨p0, p1, p2, p3, p4⟩ := hX1.cells
  have hS1 : Ofs (fun k => (Value.slice ac cs.length cc).ownBlock = some k ∨ (Value.slice ap n cp).ownBlock = some k) w w1 := (Ofs.of_below hbX).trans (Ofs.of_grown hg1 (fun k hk => Or.inl hk))
  have wk : IntKind.i64.wrap (k0 + 2 * (cs.length : Int)) = k0 + 2 * (cs.length : Int) := IntWalk.i64_in _ (by omega)
  clear hX hg1 hbX hK1
  go_wp2_with fail
  refine (markEditS_none _ _ _ _).mono ?_
  rintro e w2 ⟨rfl, rfl⟩
  go_wp2_with fail
  refine (markPartS_any (k0 + 2 * (cs.length : Int)) _ B n b x _ hP1 hn (by omega)).mono ?_
  rintro e w3 ⟨rfl, hP3, hg3⟩
  have hX3 := hX1.kept hg3 (fun q => by have := np _ q.symm; omega)
  have hO3 := hO1.keptg hg3 (fun k hk q => h.apart k hk q)
  have hS3 := hS1.trans (Ofs.of_grown hg3 (fun k hk => Or.inr hk))
  obtain ⟨q0, q1, q2, q3, q4⟩ := hX3.cells
  clear hX1 hX3 hg3 hP1 hO1 p0 p1 p2 p3 p4 hS1
  go_wp2_with fail
  refine (markShownS_none _ _ _ _).mono ?_
  rintro e w4 ⟨rfl, rfl⟩
  go_wp2
  go_ret
  exact ⟨rfl, ⟨rfl, hO3, hP3, h.apart⟩, hS3⟩

set_option maxHeartbeats 2000000 in
theorem heldKeeper_any (wd k0 : Int) (B n N : Nat) (v vc vp : Value) (a2 a4 : Option Addr) (k2 k4 : Nat) (w : World) (h : Kp w B v wd (marks k0 N) n (markB (k0 + 2 * N)) (markX (k0 + 2 * N)) vc vp a2 a4 k2 k4) (hm : N ≤ 1048576) (hn : n ≤ 1048576) (hk0 : 0 ≤ k0 ∧ k0 ≤ 1000000) :
    Calls Tryd.prog 13 #[v, .int .i64 k0] w fun e w' => e = .returned (.int .i64 (k0 + 2 * N + 2 * n)) ∧ Below w.heap.size w w' := by
  have hfm := h.form
  subst hfm
  obtain ⟨ac, cc, ec, -⟩ := h.own.slice
  obtain ⟨ap, cp, ep⟩ := h.parts.slice
  rw [marks_len] at ec
  have hbX : Below w.heap.size w (w.alloc (.cells #[.int .i64 wd, vc, .slice a2 0 k2, vp, .slice a4 0 k4] 33)) := (by repeat (first | exact Below.refl _ _ | refine Below.alloc ?_ (by first | exact Nat.le_refl _ | (simp; done) | (simp; omega)) _ | refine Below.drew ?_ | refine Below.setCell ?_ (by first | exact Nat.le_refl _ | (simp; done) | (simp; omega)) _))
  have hX : Box5 (w.alloc (.cells #[.int .i64 wd, vc, .slice a2 0 k2, vp, .slice a4 0 k4] 33)) w.heap.size (.int .i64 wd) vc (.slice a2 0 k2) vp (.slice a4 0 k4) := Box5.new w _ _ _ _ _
  have hK1 := h.below hbX
  subst ec
  subst ep
  have n1 : ¬ (k0 + 2 * (N : Int) < 0) := by omega
  have n2 : ¬ (k0 + 2 * (N : Int) + 2 * (n : Int) < 0) := by omega
  go_enter Tryd.func13, Tryd.ntmps13
  go_wp2_with fail
  refine (heldGrid_own wd k0 B _ N _ hK1.own hm ⟨hk0.1, by omega⟩).mono ?_
  rintro e w1 ⟨rfl, hb1⟩
  have hB1 := bcall hbX hbX.size hb1
  obtain ⟨p0, p1, p2, p3, p4⟩ := (hX.below hb1).cells
  have hP1 := hK1.parts.below hb1
  clear hX hbX hb1 hK1
  go_wp2_with fail
  refine (heldEditS_none _ _ _ _).mono ?_
  rintro e w2 ⟨rfl, rfl⟩
  go_wp2_with fail
  refine (heldPartS_any (k0 + 2 * (N : Int)) _ B n _ hP1 hn (by omega)).mono ?_
  rintro e w3 ⟨rfl, rfl⟩
  go_wp2_with fail
  refine (heldShownS_none _ _ _ _).mono ?_
  rintro e w4 ⟨rfl, rfl⟩
  go_wp2
  go_ret
  exact ⟨rfl, hB1⟩
end Go.Proofs.YtjmdlppakinboaaDoor
