/- Of the proof: PJq, PUo -/
import Derived.Deep.RegionWith
import Derived.Test.YtdhopelplokehaaGreatLAy
set_option linter.unusedVariables false
namespace Go.Proofs.YtdhopelplokehaaGreat
namespace Sp
open Go.RowKit
end Sp
namespace Sp
open Go.RowKit
end Sp
namespace Sp
open Go.RowKit
end Sp
namespace Sp
open Go.RowKit
end Sp
namespace Sp
open Go.RowKit
theorem Own.range {w : World} {B : Nat} {v : Value} {cs : List (Int × Int)} (h : Own w B v cs) : ∀ k, v.ownBlock = some k -> B <= k /\ k < w.heap.size := World.ownsRow.lt h
end Sp
namespace Sp
open Go.RowKit
attribute [local go_sem ↓] Go.wp_at_zero Go.wp_at_succ
def RI (w : World) (a : Option Addr) (m : Nat) (f : Nat -> Int) : Prop := m = 0 \/ ∃ g, a = some ⟨g, 0, none⟩ /\ g < w.heap.size /\ ∀ j, j < m -> w.cell? ⟨g, j, none⟩ = some (.int .i64 (f j)) /\ w.frozen? ⟨g, j, none⟩ = false
theorem RI.below {w w' : World} {a : Option Addr} {m : Nat} {f : Nat -> Int} (h : RI w a m f) (hb : Below w.heap.size w w') : RI w' a m f := by
 rcases h with h | ⟨g, e, hg, hc⟩
 ·exact Or.inl h
 ·exact Or.inr ⟨g, e, Nat.lt_of_lt_of_le hg hb.size, fun j hj => ⟨keepc hb (hc j hj).1, keepf hb (hc j hj).1 (hc j hj).2⟩⟩
theorem RI.grown {w w' : World} {a : Option Addr} {m : Nat} {f : Nat -> Int} {blk : Option Nat} (h : RI w a m f) (hg : w.grownBy w' blk) (hne : ∀ b off, a = some ⟨b, off, none⟩ -> some b ≠ blk) : RI w' a m f := by
 rcases h with h | ⟨g, e, hl, hc⟩
 ·exact Or.inl h
 ·have hn := hne g 0 e
  exact Or.inr ⟨g, e, Nat.lt_of_lt_of_le hl hg.size, fun j hj => ⟨hg.cell (hc j hj).1 hn, (hg.frozen_far ⟨g, j, none⟩ hl hn).trans (hc j hj).2⟩⟩
theorem RI.like {w : World} {a : Option Addr} {m : Nat} {f f' : Nat -> Int} (h : RI w a m f) (e : ∀ j, j < m -> f' j = f j) : RI w a m f' := by
 rcases h with h | ⟨g, e1, hl, hc⟩
 ·exact Or.inl h
 ·exact Or.inr ⟨g, e1, hl, fun j hj => by rw [e j hj]; exact hc j hj⟩
theorem RI.at {w : World} {a : Option Addr} {m : Nat} {f : Nat -> Int} (h : RI w a m f) (hm : 0 < m) : ∃ g, a = some ⟨g, 0, none⟩ /\ g < w.heap.size /\ ∀ j, j < m -> w.cell? ⟨g, j, none⟩ = some (.int .i64 (f j)) /\ w.frozen? ⟨g, j, none⟩ = false := by
 rcases h with h | h
 ·omega
 ·exact h
end Sp
end Go.Proofs.YtdhopelplokehaaGreat
