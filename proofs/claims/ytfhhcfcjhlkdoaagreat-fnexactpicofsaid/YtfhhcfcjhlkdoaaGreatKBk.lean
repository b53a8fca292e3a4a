/-
  Texts of the proof: PUo.
-/
import Derived.Test.YtfhhcfcjhlkdoaaGreatChecked
import Derived.Deep.RegionWith
import Derived.Deep.RegionHeld3
import Derived.Calls
import Derived.Laws.Sem
import Derived.WalkKit
import Derived.WalkLawsBesides
import Derived.Below
import Derived.Deep.Draws
import Derived.Laws.EntriesVeiled
import Derived.BigQuiet
import Derived.Deep.DeepCutAuto
import Derived.Laws.CopyOwn
import Derived.Deep.WholeRow
import Derived.LoopN
import Derived.Deep.AppendLies
import Derived.Laws.Rows
import Derived.WalkSmall
import Derived.Deep.RegionHeldLaw
import Derived.Deep.DrawnRows
import Derived.Deep.LoopGhost
import Derived.Test.YtfhhcfcjhlkdoaaGreatKAa
import Derived.Test.YtfhhcfcjhlkdoaaGreatKAb
import Derived.Test.YtfhhcfcjhlkdoaaGreatKAc
import Derived.Test.YtfhhcfcjhlkdoaaGreatKAp
import Derived.Test.YtfhhcfcjhlkdoaaGreatKAq
import Derived.Test.YtfhhcfcjhlkdoaaGreatKAr
import Derived.Test.YtfhhcfcjhlkdoaaGreatKAs
import Derived.Test.YtfhhcfcjhlkdoaaGreatKAt
import Derived.Test.YtfhhcfcjhlkdoaaGreatKAu
import Derived.Test.YtfhhcfcjhlkdoaaGreatKAv
import Derived.Test.YtfhhcfcjhlkdoaaGreatKAw
import Derived.Test.YtfhhcfcjhlkdoaaGreatKAx
import Derived.Test.YtfhhcfcjhlkdoaaGreatKAy
import Derived.Test.YtfhhcfcjhlkdoaaGreatKBa

namespace Go.Proofs.YtfhhcfcjhlkdoaaGreat.Sp
open Go.RowKit
set_option linter.unusedVariables false
attribute [local go_sem ↓] Go.wp_at_zero Go.wp_at_succ

/-- So many numbers lie in a block of their own, and may be written. -/
def RI (w : World) (a : Option Addr) (m : Nat) (f : Nat → Int) : Prop := m = 0 ∨ ∃ g, a = some ⟨g, 0, none⟩ ∧ g < w.heap.size ∧ ∀ j, j < m → w.cell? ⟨g, j, none⟩ = some (.int .i64 (f j)) ∧ w.frozen? ⟨g, j, none⟩ = false
theorem RI.below {w w' : World} {a : Option Addr} {m : Nat} {f : Nat → Int} (h : RI w a m f) (hb : Below w.heap.size w w') : RI w' a m f := by
  rcases h with h | ⟨g, e, hg, hc⟩
  · exact Or.inl h
  · exact Or.inr ⟨g, e, Nat.lt_of_lt_of_le hg hb.size, fun j hj => ⟨keepc hb (hc j hj).1, keepf hb (hc j hj).1 (hc j hj).2⟩⟩
theorem RI.grown {w w' : World} {a : Option Addr} {m : Nat} {f : Nat → Int} {blk : Option Nat} (h : RI w a m f) (hg : w.grownBy w' blk) (hne : ∀ b off, a = some ⟨b, off, none⟩ → some b ≠ blk) : RI w' a m f := by
  rcases h with h | ⟨g, e, hl, hc⟩
  · exact Or.inl h
  · have hn := hne g 0 e
    exact Or.inr ⟨g, e, Nat.lt_of_lt_of_le hl hg.size, fun j hj => ⟨hg.cell (hc j hj).1 hn, (hg.frozen_far ⟨g, j, none⟩ hl hn).trans (hc j hj).2⟩⟩
theorem RI.like {w : World} {a : Option Addr} {m : Nat} {f f' : Nat → Int} (h : RI w a m f) (e : ∀ j, j < m → f' j = f j) : RI w a m f' := by
  rcases h with h | ⟨g, e1, hl, hc⟩
  · exact Or.inl h
  · exact Or.inr ⟨g, e1, hl, fun j hj => by rw [e j hj]; exact hc j hj⟩
theorem RI.put {w : World} {g m : Nat} {f f' : Nat → Int} (h : RI w (some ⟨g, 0, none⟩) m f) (i : Nat) (v : Int) (hi : i < m) (h1 : f' i = v) (h2 : ∀ j, j < m → j ≠ i → f' j = f j) : RI (w.setCell ⟨g, i, none⟩ (.int .i64 v)) (some ⟨g, 0, none⟩) m f' := by
  rcases h with h | ⟨g', e1, hl, hc⟩
  · omega
  · simp only [Option.some.injEq, Addr.mk.injEq, and_true] at e1
    subst e1
    refine Or.inr ⟨g, rfl, by simpa using hl, fun j hj => ⟨?_, by simpa using (hc j hj).2⟩⟩
    by_cases e : j = i
    · subst e
      rw [World.cell?_setCell_same _ _ _ (by rw [(hc j hj).1]), h1]
    · have q : (⟨g, i, none⟩ : Addr) ≠ ⟨g, j, none⟩ := fun z => e (Addr.mk.inj z).2.1.symm
      rw [World.cell?_setCell_other _ _ _ _ q, h2 j hj e]
      exact (hc j hj).1
theorem RI.at {w : World} {a : Option Addr} {m : Nat} {f : Nat → Int} (h : RI w a m f) (hm : 0 < m) : ∃ g, a = some ⟨g, 0, none⟩ ∧ g < w.heap.size ∧ ∀ j, j < m → w.cell? ⟨g, j, none⟩ = some (.int .i64 (f j)) ∧ w.frozen? ⟨g, j, none⟩ = false := by
  rcases h with h | h
  · omega
  · exact h
theorem own_RI {w : World} {B : Nat} {t : TypeId} {s n : Nat} {v : Value} {xs : List Value} (h : w.ownsRow B t s v n xs) (hx : ∀ u ∈ xs, u = .int .i64 (intOf u)) : ∃ a cap, v = .slice a n cap ∧ RI w a (n * s) (fun j => intOf (xs.getD j (.int .i64 0))) ∧ (∀ b off, a = some ⟨b, off, none⟩ → B ≤ b ∧ b < w.heap.size) ∧ ∀ b, (Value.slice a n cap).ownBlock = some b → B ≤ b := by
  have hlt := h.lt
  obtain ⟨h1, h2⟩ := h
  rcases h2 with ⟨rfl, h2⟩ | ⟨g, cap, cur, rfl, hg, hh, _, _, _, ht⟩
  · exact ⟨none, 0, by rw [h2], Or.inl (by rw [h2]; simp), fun b off e => (by cases e), fun b e => by simp [Value.ownBlock] at e⟩
  · refine ⟨_, cap, rfl, Or.inr ⟨g, rfl, (Array.getElem?_eq_some_iff.1 hh).1, fun j hj => ⟨?_, frozen_of_row _ _ _ _ _ hh⟩⟩, fun b off e => ?_, fun b e => (hlt b e).1⟩
    · have hj2 : j < xs.length := by rw [h1]; exact hj
      have e : xs[j]? = some (.int .i64 (intOf (xs.getD j (.int .i64 0)))) := by
        rw [List.getElem?_eq_getElem hj2]
        have := hx xs[j] (List.getElem_mem hj2)
        have e2 : xs.getD j (.int .i64 0) = xs[j] := by simp [List.getElem?_eq_getElem hj2]
        rw [e2]
        exact congrArg some this
      rw [cell_of_row w g j cur t (0, 0) hh, ← e, ← ht, List.getElem?_take_of_lt hj]
      simp
    · simp only [Option.some.injEq, Addr.mk.injEq, and_true] at e
      obtain ⟨rfl, rfl⟩ := e
      exact hlt g rfl
theorem ints_int (es : List Int) : ∀ u ∈ intsV es, u = .int .i64 (intOf u) := by
  intro u hu
  unfold intsV at hu
  simp only [List.mem_map] at hu
  obtain ⟨t, _, rfl⟩ := hu
  rfl
/-- An answer that is a row of numbers in new memory. -/
def AnsI (w : World) (n s : Nat) (f : Nat → Int) (r : Ending) (w' : World) : Prop := ∃ a2 c2, r = .returned (.slice a2 n c2) ∧ RI w' a2 (n * s) f ∧ (∀ b off, a2 = some ⟨b, off, none⟩ → w.heap.size ≤ b ∧ b < w'.heap.size) ∧ (∀ b, (Value.slice a2 n c2).ownBlock = some b → w.heap.size ≤ b) ∧ Below w.heap.size w w'

set_option maxHeartbeats 1000000 in
theorem eqIntS_same (a a2 : Option Addr) (c c2 n : Nat) (f : Nat → Int) (w : World) (h : RI w a (n * 1) f) (h2 : RI w a2 (n * 1) f) (hm : n ≤ 1048576) :
    Calls SqP.prog 29 #[.slice a n c, .slice a2 n c2] w fun e w' => e = .returned (.bool true) ∧ Below w.heap.size w w' := by
  have bl : ((n : Int) != (n : Int)) = false := by simp
  go_enter SqP.func29, Tryz.ntmps29
  go_wp2_with fail
  go_loopw [5] (fun ii wr => ∃ i : Nat, i ≤ n ∧ ii = .int .i64 i ∧ Below w.heap.size w wr) (fun ii _ => n - (intOf ii).toNat)
  case atStart => exact ⟨0, Nat.zero_le _, rfl, Below.refl _ _⟩
  case round =>
    rename World => wo
    obtain ⟨i, hi, rfl, hb⟩ := hrel
    by_cases hlt : i < n
    · obtain ⟨g, ea, _, hc⟩ := (h.below hb).at (by omega)
      obtain ⟨g2, ea2, _, hc2⟩ := (h2.below hb).at (by omega)
      subst ea
      subst ea2
      have x0 := (hc i (by omega)).1
      have y0 := (hc2 i (by omega)).1
      have hil : (i : Int) < (n : Int) := by omega
      have hne : (f i != f i) = false := by simp
      clear h h2 hc hc2
      go_wp2_with fail
      go_quiet (fail)
      have hbq : Below w.heap.size w (wo.drewN nq) := ⟨hb.os, hb.tape, hb.output, hb.size, hb.block⟩
      go_wp2_with fail
      go_roundw
      case rel => exact ⟨i + 1, by omega, by go_num, hbq⟩
      case measure => simp [intOf]; omega
    · go_wp2_with fail
      go_ret
      exact ⟨rfl, hb⟩

set_option maxHeartbeats 1000000 in
theorem markIntS_any (k0 : Int) (a : Option Addr) (n cap : Nat) (f : Nat → Int) (w : World) (h : RI w a (n * 1) f) (hm : n ≤ 1048576) (hk0 : 0 ≤ k0 ∧ k0 ≤ 1099511627776) :
    Calls SqP.prog 32 #[.slice a n cap, .int .i64 k0] w fun e w' => e = .returned (.int .i64 (k0 + 1 * (n : Int))) ∧ RI w' a (n * 1) (fun j => k0 + (j : Int)) ∧ w.grownBy w' (Value.slice a n cap).ownBlock := by
  go_enter SqP.func32, Tryz.ntmps32
  go_wp2_with fail
  go_loopw [1, 5] (fun v ii wr => ∃ i : Nat, i ≤ n ∧ ii = .int .i64 i ∧ v = .int .i64 (k0 + 1 * (i : Int)) ∧ RI wr a (n * 1) (fun j => if j < i * 1 then k0 + (j : Int) else f j) ∧ w.grownBy wr (Value.slice a n cap).ownBlock) (fun _ ii _ => n - (intOf ii).toNat)
  case atStart => exact ⟨0, Nat.zero_le _, rfl, by simp, h.like (fun j _ => by simp), World.grownBy.refl _ _⟩
  case round =>
    rename World => wo
    obtain ⟨i, hi, rfl, rfl, hR, hg⟩ := hrel
    by_cases hlt : i < n
    · obtain ⟨g, ea, hgl, hc⟩ := hR.at (by omega)
      subst ea
      have hil : (i : Int) < (n : Int) := by omega
      obtain ⟨c0, z0⟩ := hc (i) (by omega)
      obtain ⟨u0, eu0⟩ : ∃ u, (if i < i * 1 then k0 + ((i : Nat) : Int) else f (i)) = u := ⟨_, rfl⟩
      simp only [eu0] at c0
      have hR0 : RI (wo.setCell ⟨g, i, none⟩ (.int .i64 (k0 + (i : Int)))) (some ⟨g, 0, none⟩) (n * 1) (fun j => if j < i * 1 + 1 then k0 + (j : Int) else f j) := hR.put (i) (k0 + (i : Int)) (by omega) (by rw [if_pos (by omega)]; try omega) (fun j hj hne => by by_cases z : j < i * 1; rw [if_pos (by omega), if_pos (by omega)]; rw [if_neg (by omega), if_neg (by omega)])
      have hg2 : w.grownBy (wo.setCell ⟨g, i, none⟩ (.int .i64 (k0 + (i : Int)))) (Value.slice (some ⟨g, 0, none⟩) n cap).ownBlock := ⟨hg.os, hg.tape, hg.output, by simpa using hg.size, fun j hj hne => by
        have hjg : j ≠ g := fun e => hne (by simp [Value.ownBlock, e])
        rw [Below.heap_setCell _ _ _ _ hjg]
        exact hg.block j hj hne⟩
      have HF : Hid (RI (wo.setCell ⟨g, i, none⟩ (.int .i64 (k0 + (i : Int)))) (some ⟨g, 0, none⟩) (n * 1) (fun j => if j < (i + 1) * 1 then k0 + (j : Int) else f j)) := hR0.like (fun j _ => by rw [show (i + 1) * 1 = i * 1 + 1 by omega])
      clear hc hR hR0 eu0
      go_wp2_with fail
      go_roundw
      case rel => exact ⟨i + 1, by omega, by go_num, by go_num, HF.out, hg2⟩
      case measure => simp [intOf]; omega
    · have hin : i = n := by omega
      subst hin
      go_wp2_with fail
      go_ret
      exact ⟨rfl, hR.like (fun j hj => by rw [if_pos hj]), hg⟩

set_option maxHeartbeats 1000000 in
theorem heldIntS_any (k0 : Int) (a : Option Addr) (n cap : Nat) (w : World) (h : RI w a (n * 1) (fun j => k0 + (j : Int))) (hm : n ≤ 1048576) (hk0 : 0 ≤ k0 ∧ k0 ≤ 1099511627776) :
    Calls SqP.prog 33 #[.slice a n cap, .int .i64 k0] w fun e w' => e = .returned (.int .i64 (k0 + 1 * (n : Int))) ∧ w' = w := by
  go_enter SqP.func33, Tryz.ntmps33
  go_wp2_with fail
  go_loopw [1, 5] (fun v ii wr => ∃ i : Nat, i ≤ n ∧ ii = .int .i64 i ∧ v = .int .i64 (k0 + 1 * (i : Int)) ∧ wr = w) (fun _ ii _ => n - (intOf ii).toNat)
  case atStart => exact ⟨0, Nat.zero_le _, rfl, by simp, rfl⟩
  case round =>
    obtain ⟨i, hi, rfl, rfl, rfl⟩ := hrel
    by_cases hlt : i < n
    · obtain ⟨g, ea, hgl, hc⟩ := h.at (by omega)
      subst ea
      have hil : (i : Int) < (n : Int) := by omega
      have c0 : wr.cell? ⟨g, i, none⟩ = some (.int .i64 (k0 + (i : Int))) := by rw [(hc (i) (by omega)).1]
      have b0 : (k0 + (i : Int) != k0 + (i : Int)) = false := by simp
      clear hc h
      go_wp2_with fail
      go_roundw
      case rel => exact ⟨i + 1, by omega, by go_num, by go_num, by first | trivial | rfl⟩
      case measure => simp [intOf]; omega
    · have hin : i = n := by omega
      subst hin
      go_wp2_with fail
      go_ret
      exact ⟨rfl, rfl⟩

end Go.Proofs.YtfhhcfcjhlkdoaaGreat.Sp
