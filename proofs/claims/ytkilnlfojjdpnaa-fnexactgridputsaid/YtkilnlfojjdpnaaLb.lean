/-
  The contracts of the laws' own helpers that mark cells and look at marks.
-/
import Derived.Test.YtkilnlfojjdpnaaLe
namespace Go.Proofs.Ytkilnlfojjdpnaa
open Go.RowKit

/-- The marks: k, k+1, k+2 and so on, two a cell. -/
def marks (k : Int) (n : Nat) : List (Int × Int) := (List.range n).map fun (i : Nat) => (k + 2 * (i : Int), k + 2 * (i : Int) + 1)

theorem marks_len (k : Int) (n : Nat) : (marks k n).length = n := by simp [marks]
theorem marks_at (k : Int) (n i : Nat) (h : i < n) : (marks k n).getD i (0, 0) = (k + 2 * (i : Int), k + 2 * (i : Int) + 1) := by simp [marks, h]
theorem marks_step (k : Int) (cs : List (Int × Int)) (i : Nat) (h : i < cs.length) : (marks k i ++ cs.drop i).set i (k + 2 * (i : Int), k + 2 * (i : Int) + 1) = marks k (i + 1) ++ cs.drop (i + 1) := by
  rw [List.set_append_right _ _ (by rw [marks_len]; omega), marks_len, Nat.sub_self, List.drop_eq_getElem_cons h, List.set_cons_zero]
  simp only [marks, List.range_succ, List.map_append, List.map_cons, List.map_nil, List.append_assoc, List.cons_append, List.nil_append]

set_option maxHeartbeats 400000 in
theorem markCellS_any (k0 : Int) (B g n cap : Nat) (cs : List (Int × Int)) (w : World) (hO : Own w B (.slice (some ⟨g, 0, none⟩) n cap) cs) (hn : cs.length = n) (hm : n ≤ 1048576) (hk0 : 0 ≤ k0 ∧ k0 ≤ 1099511627776) :
    Calls Try.prog 37 #[.slice (some ⟨g, 0, none⟩) n cap, .int .i64 k0] w fun e w' => e = .returned (.int .i64 (k0 + 2 * n)) ∧ Own w' B (.slice (some ⟨g, 0, none⟩) n cap) (marks k0 n) ∧ w.grownBy w' (some g) := by
  go_enter Try.func37, Try.ntmps37
  go_wp2
  go_loopw [1, 5] (fun v i wr => ∃ k : Nat, k ≤ n ∧ i = .int .i64 k ∧ v = .int .i64 (k0 + 2 * k) ∧ Own wr B (.slice (some ⟨g, 0, none⟩) n cap) (marks k0 k ++ cs.drop k) ∧ w.grownBy wr (some g)) (fun _ i _ => n - (intOf i).toNat)
  case atStart => exact ⟨0, Nat.zero_le _, rfl, by simp, by simpa [marks] using hO, World.grownBy.refl _ _⟩
  case round =>
    obtain ⟨k, hk, rfl, rfl, hOk, hg⟩ := hrel
    by_cases hlt : k < n
    · have hlen : (marks k0 k ++ cs.drop k).length = n := by simp [marks_len]; omega
      obtain ⟨c1, c2, f1, f2⟩ := hOk.cell hlen k hlt
      have HS := hOk.set hlen k (k0 + 2 * (k : Int)) (k0 + 2 * (k : Int) + 1) hlt
      rw [marks_step k0 cs k (by omega)] at HS
      clear hO hOk hlen
      go_wp2
      go_roundw
      case rel => exact ⟨k + 1, by omega, by go_num, by go_num, HS, ⟨hg.os, hg.tape, hg.output, by simpa using hg.size, fun j hj hne => by rw [Below.heap_setCell _ _ _ _ (by intro e; exact hne (by simp [e])), Below.heap_setCell _ _ _ _ (by intro e; exact hne (by simp [e]))]; exact hg.block j hj hne⟩⟩
      case measure => simp [intOf]; omega
    · have hkn : k = n := by omega
      subst hkn
      go_wp2
      go_ret
      exact ⟨rfl, by rw [List.drop_of_length_le (by omega), List.append_nil] at hOk; exact hOk, hg⟩

set_option maxHeartbeats 400000 in
theorem heldCellS_any (k0 : Int) (a : Option Addr) (n cap : Nat) (w : World) (h : CellsAt w a (marks k0 n)) (hm : n ≤ 1048576) (hk0 : 0 ≤ k0 ∧ k0 ≤ 1099511627776) :
    Calls Try.prog 38 #[.slice a n cap, .int .i64 k0] w fun e w' => e = .returned (.int .i64 (k0 + 2 * n)) ∧ w' = w := by
  go_enter Try.func38, Try.ntmps38
  go_wp2
  go_loop [1, 5] (fun v i => ∃ k : Nat, k ≤ n ∧ i = .int .i64 k ∧ v = .int .i64 (k0 + 2 * k)) (fun _ i => n - (intOf i).toNat)
  case atStart => exact ⟨0, Nat.zero_le _, rfl, by simp⟩
  case round =>
    obtain ⟨k, hk, rfl, rfl⟩ := hrel
    by_cases hlt : k < n
    · rcases h with h | ⟨b, off, rfl, hbl, hcell⟩
      · have := marks_len k0 n; rw [h] at this; simp at this; omega
      obtain ⟨hx, hy⟩ := hcell k (by rw [marks_len]; exact hlt)
      rw [marks_at k0 n k hlt] at hx hy
      clear hcell
      go_wp2
      go_round
      case rel => exact ⟨k + 1, by omega, by go_num, by go_num⟩
      case measure => simp [intOf]; omega
    · have hkn : k = n := by omega
      subst hkn
      go_wp2
      go_ret
      exact ⟨rfl, rfl⟩

set_option maxHeartbeats 400000 in
theorem markGrid_any (wd k0 : Int) (B g n cap : Nat) (cs : List (Int × Int)) (w : World) (hO : Own w B (.slice (some ⟨g, 0, none⟩) n cap) cs) (hn : cs.length = n) (hm : n ≤ 1048576) (hk0 : 0 ≤ k0 ∧ k0 ≤ 1099511627776) :
    Calls Try.prog 18 #[.agg #[.int .i64 wd, .slice (some ⟨g, 0, none⟩) n cap], .int .i64 k0] w fun e w' => e = .returned (.int .i64 (k0 + 2 * n)) ∧ Own w' B (.slice (some ⟨g, 0, none⟩) n cap) (marks k0 n) ∧ w.grownBy w' (some g) := by
  go_enter Try.func18, Try.ntmps18
  go_wp2_with fail
  refine (markCellS_any k0 B g n cap cs _ (hO.alloc _) hn hm hk0).mono ?_
  rintro e w1 ⟨rfl, hO1, hg1⟩
  go_wp2
  go_ret
  exact ⟨rfl, hO1, ⟨hg1.os, hg1.tape, hg1.output, by have := hg1.size; simp at this; omega, fun j hj hne => by rw [hg1.block j (by simp; omega) hne]; exact Below.heap_alloc _ _ _ hj⟩⟩

set_option maxHeartbeats 400000 in
theorem heldGrid_any (wd k0 : Int) (a : Option Addr) (n cap : Nat) (w : World) (h : CellsAt w a (marks k0 n)) (hm : n ≤ 1048576) (hk0 : 0 ≤ k0 ∧ k0 ≤ 1099511627776) :
    Calls Try.prog 19 #[.agg #[.int .i64 wd, .slice a n cap], .int .i64 k0] w fun e w' => e = .returned (.int .i64 (k0 + 2 * n)) ∧ Below w.heap.size w w' := by
  go_enter Try.func19, Try.ntmps19
  go_wp2_with fail
  refine (heldCellS_any k0 _ n _ _ (h.below (by repeat (first | exact Below.refl _ _ | refine Below.alloc ?_ (by first | exact Nat.le_refl _ | (simp; done) | (simp; omega)) _ | refine Below.drew ?_ | refine Below.setCell ?_ (by first | exact Nat.le_refl _ | (simp; done) | (simp; omega)) _))) hm hk0).mono ?_
  rintro e w1 ⟨rfl, rfl⟩
  go_wp2
  go_ret
  exact ⟨rfl, (by repeat (first | exact Below.refl _ _ | refine Below.alloc ?_ (by first | exact Nat.le_refl _ | (simp; done) | (simp; omega)) _ | refine Below.drew ?_ | refine Below.setCell ?_ (by first | exact Nat.le_refl _ | (simp; done) | (simp; omega)) _))⟩

end Go.Proofs.Ytkilnlfojjdpnaa
