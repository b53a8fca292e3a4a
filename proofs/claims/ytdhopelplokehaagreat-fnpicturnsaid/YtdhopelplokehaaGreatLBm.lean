/- Of the proof: Qx -/
import Derived.Test.YtdhopelplokehaaGreatLAk
import Derived.Test.YtdhopelplokehaaGreatLAl
import Derived.Test.YtdhopelplokehaaGreatLBf
import Derived.Test.YtdhopelplokehaaGreatLBl
namespace Go.Proofs.YtdhopelplokehaaGreat
section
open Go Go.Conc Go.ConcN Go.RowKit Go.Conc.Lib Go.ConcR.Gen Go.ConcN.Gen
open Go.ConcR (KK wgBlock WgAt stA smA rd wr mk Payload Aside2 DC0)
theorem no_other : xOther = false := rfl
def rng (R : BR) : Nat -> Prop := fun c => ∃ b, R b c
theorem ARel.snd {R : BR} {a c : Addr} (h : ARel R a c) : ARel (idOn (rng R)) c c := ⟨⟨rfl, _, h.1⟩, rfl, rfl⟩
theorem slice_snd {R : BR} {ga ga' : Option Addr} {n m : Nat} (h : VRel R (.slice ga n m) (.slice ga' n m)) : VRel (idOn (rng R)) (.slice ga' n m) (.slice ga' n m) := by
 cases h with
 | slice _ _ h => exact .slice _ _ h.snd
 | nilSlice _ _ => exact .nilSlice _ _
theorem rng_closed {N : Nat} {R : BR} {w w' : World} (h : WRel N R w w') : Closed (rng R) w' := by
 rintro c ⟨b, hb⟩
 obtain ⟨o, o', _, e2, ho⟩ := h.blk b c hb
 cases ho with
 | cells hr _ _ => exact .inl ⟨_, _, _, e2, no_other⟩
 | other hj _ =>
  cases hj with
  | map hx _ => rw [no_other] at hx; cases hx
  | number ha => exact .inr ⟨no_other, _, _, e2, ha.snd⟩
open Classical in
noncomputable def held (K : Nat -> Prop) (w : World) : List (Nat × Obj) := (List.range w.heap.size).filterMap fun c => if K c then (w.heap[c]?).map fun o => (c, o) else none
theorem mem_held {K : Nat -> Prop} {w : World} {p : Nat × Obj} : p ∈ held K w ↔ K p.1 /\ w.heap[p.1]? = some p.2 := by
 classical
 unfold held
 simp only [List.mem_filterMap, List.mem_range]
 constructor
 ·rintro ⟨c, _, h⟩
  split at h
  ·rename_i hk
   obtain ⟨o, ho, rfl⟩ := Option.map_eq_some_iff.1 h
   exact ⟨hk, ho⟩
  ·cases h
 ·rintro ⟨hk, ho⟩
  refine ⟨p.1, (Array.getElem?_eq_some_iff.1 ho).1, ?_⟩
  rw [if_pos hk, ho]
  rfl
theorem hp_held (K : Nat -> Prop) (w : World) : Hp (held K w) w := fun _ h => (mem_held.1 h).2
theorem held_closed {K : Nat -> Prop} {w w1 : World} (h : Closed K w) (hp : Hp (held K w) w1) : Closed K w1 := fun b hb => by
 rcases h b hb with ⟨c, e, f, hx, hr⟩ | ⟨ho, a, l, hx, hr⟩
 ·exact .inl ⟨c, e, f, hp (b, _) (mem_held.2 ⟨hb, hx⟩), hr⟩
 ·exact .inr ⟨ho, a, l, hp (b, _) (mem_held.2 ⟨hb, hx⟩), hr⟩
theorem cells_frz {w w1 : World} {a : Option Addr} {cs : List (Int × Int)} (h : Sp.CellsAt w a cs) (hb : ∀ b off, a = some ⟨b, off, none⟩ -> w1.heap[b]? = w.heap[b]?) (τ : Nat -> Question -> Nat) (d : Nat) : Sp.CellsAt (w1.frz.tp τ d) a cs := by
 rcases h with h | ⟨b, off, rfl, hl, hc⟩
 ·exact .inl h
 ·have e := hb b off rfl
  have hc1 : ∀ i, w1.cell? ⟨b, i, none⟩ = w.cell? ⟨b, i, none⟩ := fun i => by simp only [World.cell?, e]
  have hc2 : ∀ i (x : Int), w.cell? ⟨b, i, none⟩ = some (.int .i64 x) -> (w1.frz.tp τ d).cell? ⟨b, i, none⟩ = some (.int .i64 x) := fun i x h => by
   have q := frz_cell w1 ⟨b, i, none⟩
   rw [hc1, h] at q
   exact q
  refine .inr ⟨b, off, rfl, ?_, fun i hi => ⟨hc2 _ _ (hc i hi).1, hc2 _ _ (hc i hi).2⟩⟩
  show b < w1.frz.heap.size
  rw [frz_size]
  rw [Array.getElem?_eq_getElem hl] at e
  exact (Array.getElem?_eq_some_iff.1 e).1
theorem cells_list {w : World} {ga : Option Addr} {n : Nat} (h : ∀ j, j < n -> ∃ b off c e z x y, ga = some ⟨b, off, none⟩ /\ w.heap[b]? = some (.cells c e z) /\ c[off + j * 2]? = some (.int .i64 x) /\ c[off + j * 2 + 1]? = some (.int .i64 y)) :
  ∃ cs : List (Int × Int), cs.length = n /\ Sp.CellsAt w ga cs := by
 classical
 have hx : ∀ j : Fin n, ∃ p : Int × Int, ∃ b off c e z, ga = some ⟨b, off, none⟩ /\ w.heap[b]? = some (.cells c e z) /\ c[off + j.val * 2]? = some (.int .i64 p.1) /\ c[off + j.val * 2 + 1]? = some (.int .i64 p.2) := fun j => by
  obtain ⟨b, off, c, e, z, x, y, h1, h2, h3, h4⟩ := h j.val j.isLt
  exact ⟨(x, y), b, off, c, e, z, h1, h2, h3, h4⟩
 obtain ⟨f, hf⟩ := Classical.axiomOfChoice hx
 refine ⟨List.ofFn f, by simp, ?_⟩
 by_cases hn : n = 0
 ·subst hn; exact .inl (by simp)
 ·obtain ⟨b, off, c, e, z, h1, h2, _, _⟩ := hf ⟨0, by omega⟩
  refine .inr ⟨b, off, h1, (Array.getElem?_eq_some_iff.1 h2).1, fun i hi => ?_⟩
  have hi' : i < n := by simpa using hi
  obtain ⟨b1, off1, c1, e1, z1, q1, q2, q3, q4⟩ := hf ⟨i, hi'⟩
  rw [h1] at q1
  cases q1
  rw [h2] at q2
  cases q2
  have eg : (List.ofFn f).getD i (0, 0) = f ⟨i, hi'⟩ := by simp [List.getD, hi']
  rw [eg]
  exact ⟨by simp only [World.cell?, h2]; exact q3, by simp only [World.cell?, h2]; exact q4⟩
theorem cells_other {N : Nat} {R : BR} {w w' : World} (hw : WRel N R w w') {ga ga' : Option Addr} {n m : Nat} (hv : VRel R (.slice ga n m) (.slice ga' n m)) {cs : List (Int × Int)} (h : Sp.CellsAt w ga cs) : Sp.CellsAt w' ga' cs := by
 rcases h with h | ⟨b, off, rfl, hl, hc⟩
 ·exact .inl h
 ·cases hv with
  | slice _ _ ha =>
   rename_i ad'
   obtain ⟨b', off', sp'⟩ := ad'
   obtain ⟨h1, h2, h3⟩ := ha
   simp only at h1 h2 h3
   subst h2 h3
   refine .inr ⟨b', off, rfl, (hw.lt h1).2, fun i hi => ?_⟩
   obtain ⟨c1, c2⟩ := hc i hi
   obtain ⟨v1, e1, r1⟩ := hw.cell (a := ⟨b, off + i * 2, none⟩) (c := ⟨b', off + i * 2, none⟩) ⟨h1, rfl, rfl⟩ c1
   obtain ⟨v2, e2, r2⟩ := hw.cell (a := ⟨b, off + i * 2 + 1, none⟩) (c := ⟨b', off + i * 2 + 1, none⟩) ⟨h1, rfl, rfl⟩ c2
   rw [e1, e2]
   exact ⟨congrArg some (vrel_int r1), congrArg some (vrel_int r2)⟩
end
end Go.Proofs.YtdhopelplokehaaGreat
