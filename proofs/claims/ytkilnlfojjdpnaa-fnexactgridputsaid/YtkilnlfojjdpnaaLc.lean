/-
  Marking what a call owns, whether it is nil or not; and what stays behind it.
-/
import Derived.Test.YtkilnlfojjdpnaaLb
namespace Go.Proofs.Ytkilnlfojjdpnaa
open Go.RowKit
set_option linter.unusedVariables false

set_option maxHeartbeats 400000 in
theorem markCellS_nil (k0 : Int) (a : Option Addr) (cap : Nat) (w : World) :
    Calls Try.prog 37 #[.slice a 0 cap, .int .i64 k0] w fun e w' => e = .returned (.int .i64 k0) ∧ w' = w := by
  go_enter Try.func37, Try.ntmps37
  go_wp2
  go_loop [1, 5] (fun v i => v = .int .i64 k0 ∧ i = .int .i64 0) (fun _ _ => 0)
  case atStart => exact ⟨rfl, rfl⟩
  case round =>
    obtain ⟨rfl, rfl⟩ := hrel
    go_wp2
    go_ret
    exact ⟨rfl, rfl⟩

theorem markGrid_own (wd k0 : Int) (B : Nat) (v : Value) (cs : List (Int × Int)) (w : World) (hO : Own w B v cs) (hm : cs.length ≤ 1048576) (hk0 : 0 ≤ k0 ∧ k0 ≤ 1099511627776) :
    Calls Try.prog 18 #[.agg #[.int .i64 wd, v], .int .i64 k0] w fun e w' => e = .returned (.int .i64 (k0 + 2 * cs.length)) ∧ Own w' B v (marks k0 cs.length) ∧ w.grownBy w' v.ownBlock := by
  obtain ⟨h1, h2⟩ := hO
  rcases h2 with ⟨rfl, h2⟩ | ⟨g, cap, cur, rfl, hg, hh, r⟩
  · obtain rfl : cs = [] := List.length_eq_zero_iff.1 h2
    go_enter Try.func18, Try.ntmps18
    go_wp2_with fail
    refine (markCellS_nil k0 _ _ _).mono ?_
    rintro e w1 ⟨rfl, rfl⟩
    go_wp2
    go_ret
    exact ⟨by simp, World.ownsRow_nil _ _ _ _, World.grownBy_alloc _ _ _⟩
  · refine (markGrid_any wd k0 B g cs.length cap cs w ⟨h1, Or.inr ⟨g, cap, cur, rfl, hg, hh, r⟩⟩ rfl hm hk0).mono ?_
    rintro e w' ⟨rfl, h, hgr⟩
    exact ⟨rfl, h, hgr⟩

theorem keepg {w w' : World} {blk : Option Nat} (hg : w.grownBy w' blk) {b o : Nat} {v : Value} (hne : some b ≠ blk) (h : w.cell? ⟨b, o, none⟩ = some v) : w'.cell? ⟨b, o, none⟩ = some v := hg.cell h hne
theorem Own.keptg {w w' : World} {B : Nat} {v : Value} {cs : List (Int × Int)} {blk : Option Nat} (h : Own w B v cs) (hg : w.grownBy w' blk) (hne : ∀ k, v.ownBlock = some k → blk ≠ some k) : Own w' B v cs := by
  refine World.ownsRow.kept h hg ?_
  cases hv : v.ownBlock with
  | none => exact Or.inl rfl
  | some k => exact Or.inr (fun e => hne k hv e.symm)
theorem Own.range {w : World} {B : Nat} {v : Value} {cs : List (Int × Int)} (h : Own w B v cs) : ∀ k, v.ownBlock = some k → B ≤ k ∧ k < w.heap.size := World.ownsRow.lt h
theorem ne_of_range {v : Value} {lo hi b : Nat} (h : ∀ k, v.ownBlock = some k → lo ≤ k ∧ k < hi) (hb : b < lo ∨ hi ≤ b) : some b ≠ v.ownBlock := by
  intro e
  have := h b e.symm
  omega

set_option maxHeartbeats 400000 in
theorem heldGrid_own (wd k0 : Int) (B : Nat) (v : Value) (n : Nat) (w : World) (hO : Own w B v (marks k0 n)) (hm : n ≤ 1048576) (hk0 : 0 ≤ k0 ∧ k0 ≤ 1099511627776) :
    Calls Try.prog 19 #[.agg #[.int .i64 wd, v], .int .i64 k0] w fun e w' => e = .returned (.int .i64 (k0 + 2 * n)) ∧ Below w.heap.size w w' := by
  obtain ⟨a, cap, rfl, hC⟩ := hO.slice
  rw [marks_len]
  exact heldGrid_any wd k0 a n cap w hC hm hk0

theorem eqGrid_own (wd wd2 : Int) (v v2 : Value) (B B2 : Nat) (cs ds : List (Int × Int)) (w : World) (h : Own w B v cs) (h2 : Own w B2 v2 ds) (hm : cs.length ≤ 1048576) (hm2 : ds.length ≤ 1048576) :
    Calls Try.prog 17 #[.agg #[.int .i64 wd, v], .agg #[.int .i64 wd2, v2]] w fun e w' => e = .returned (.bool (eqG wd wd2 cs ds)) ∧ Below w.heap.size w w' := by
  obtain ⟨a, cap, rfl, hC⟩ := h.slice
  obtain ⟨a2, cap2, rfl, hC2⟩ := h2.slice
  exact eqGrid_any wd wd2 a a2 cap cap2 cs ds w hC hC2 hm hm2

end Go.Proofs.Ytkilnlfojjdpnaa
