/-
  A box that holds an answer: newly made behind the calls, or made ahead of one of them and filled behind: the same facts either way.
-/
import Derived.Test.YtmnninhifiajhaaJv
import Derived.Test.YtmnninhifiajhaaJq
namespace Go.Proofs.Ytmnninhifiajhaa
open Go.RowKit
set_option linter.unusedVariables false

theorem Own.otherV {w : World} {B : Nat} {v : Value} {cs : List (Int × Int)} (h : Own w B v cs) {p : Addr} (hne : v.ownBlock ≠ some p.block) (u : Value) : Own (w.setCell p u) B v cs := by
  obtain ⟨h1, h2⟩ := h
  refine ⟨h1, ?_⟩
  rcases h2 with h2 | ⟨g', cap', cur, hv, hg, hh, r⟩
  · exact Or.inl h2
  · refine Or.inr ⟨g', cap', cur, hv, hg, ?_, r⟩
    rw [Below.heap_setCell _ _ _ _ (by intro e; apply hne; rw [hv]; simp [Value.ownBlock, e])]
    exact hh
/-- A box made behind u holds an answer that owns its memory. -/
def AnsAt (u w : World) (blk : Nat) (x : Int) (cs : List (Int × Int)) : Prop :=
  ∃ (a : Option Addr) (c : Nat), u.heap.size ≤ blk ∧ blk < w.heap.size ∧ w.cell? ⟨blk, 0, none⟩ = some (.int .i64 x) ∧ w.cell? ⟨blk, 1, none⟩ = some (.slice a cs.length c) ∧ Own w u.heap.size (.slice a cs.length c) cs ∧
    (∀ k, (Value.slice a cs.length c).ownBlock = some k → u.heap.size ≤ k ∧ k < w.heap.size ∧ k ≠ blk) ∧ Below u.heap.size u w
theorem ans_new {u wP : World} {B c : Nat} {a : Option Addr} {cs : List (Int × Int)} (hb : Below u.heap.size u wP) (hO : Own wP B (.slice a cs.length c) cs) (hB : u.heap.size ≤ B) (x : Int) :
    AnsAt u (wP.alloc (.cells #[.int .i64 x, .slice a cs.length c] 25)) wP.heap.size x cs := by
  have R := hO.range
  refine ⟨a, c, hb.size, by simp, by simp [go_sem], by simp [go_sem], (hO.alloc _).mono hB, fun k hk => ?_, hb.alloc hb.size _⟩
  have := R k hk
  simp
  omega
theorem ans_set {u wP : World} {B c zb : Nat} {a : Option Addr} {cs : List (Int × Int)} {u0 u1 : Value} (hb : Below u.heap.size u wP) (hO : Own wP B (.slice a cs.length c) cs) (h0 : u.heap.size ≤ zb) (hz : zb < B)
    (z0 : wP.cell? ⟨zb, 0, none⟩ = some u0) (z1 : wP.cell? ⟨zb, 1, none⟩ = some u1) (x : Int) :
    AnsAt u ((wP.setCell ⟨zb, 0, none⟩ (.int .i64 x)).setCell ⟨zb, 1, none⟩ (.slice a cs.length c)) zb x cs := by
  have R := hO.range
  have hzl := World.block_lt_of_cell? wP _ z0
  have hn : (Value.slice a cs.length c).ownBlock ≠ some zb := fun e => by have := R zb e; omega
  refine ⟨a, c, h0, by simpa using hzl, ?_, ?_, ((hO.otherV (p := ⟨zb, 0, none⟩) hn _).otherV (p := ⟨zb, 1, none⟩) hn _).mono (by omega), fun k hk => ?_, (hb.setCell (p := ⟨zb, 0, none⟩) h0 _).setCell (p := ⟨zb, 1, none⟩) h0 _⟩
  · rw [World.cell?_setCell_other _ _ _ _ (by simp)]
    exact World.cell?_setCell_same _ _ _ z0
  · exact World.cell?_setCell_same _ _ _ (by rw [World.cell?_setCell_other _ _ _ _ (by simp)]; exact z1)
  · have := R k hk
    simp
    omega
end Go.Proofs.Ytmnninhifiajhaa
