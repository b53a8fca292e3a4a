/-
  The contracts of the laws' own helpers on cells and grids: copying, holding against each other, marking, looking at marks.
-/
import Derived.Test.YtankkkiccokggaaOa
import Derived.Deep.RegionWith
namespace Go.Proofs.Ytankkkiccokggaa
open Go.RowKit

set_option maxHeartbeats 400000 in
theorem toCell_any (k l : Int) (w : World) :
    Calls Try.prog 75 #[.agg #[.int .i64 k, .int .i64 l]] w fun e w' => e = .returned (.agg #[.int .i64 k, .int .i64 l]) ∧ Below w.heap.size w w' := by
  go_enter Try.func75, Try.ntmps75
  go_wp2
  refine bodyPost_ret (v := .agg #[.int .i64 k, .int .i64 l]) (by simp [results, Try.results75, go_sem]) rfl ⟨rfl, ?_⟩
  exact (by repeat (first | exact Below.refl _ _ | refine Below.alloc ?_ (by first | exact Nat.le_refl _ | (simp; done) | (simp; omega)) _ | refine Below.drew ?_ | refine Below.setCell ?_ (by first | exact Nat.le_refl _ | (simp; done) | (simp; omega)) _))

set_option maxHeartbeats 400000 in
theorem szCellS_any (a : Option Addr) (n cap : Nat) (left : Int) (w : World) (hm : n ≤ 9223372036854775807) (hl : 0 ≤ left ∧ left ≤ 1048576) :
    Calls Try.prog 62 #[.slice a n cap, .int .i64 left] w fun e w' => e = .returned (.int .i64 (if left - n < 0 then -1 else left - n)) ∧ w' = w := by
  by_cases h : left - n < 0
  all_goals
    go_enter Try.func62, Try.ntmps62
    go_wp2
    go_ret
    exact ⟨rfl, rfl⟩

set_option maxHeartbeats 400000 in
theorem szGrid_any (wd : Int) (a : Option Addr) (n cap : Nat) (left : Int) (w : World) (hm : n ≤ 9223372036854775807) (hl : 0 ≤ left ∧ left ≤ 1048576) :
    Calls Try.prog 30 #[.agg #[.int .i64 wd, .slice a n cap], .int .i64 left] w fun e w' => e = .returned (.int .i64 (if left - n < 0 then -1 else left - n)) ∧ Below w.heap.size w w' := by
  by_cases h : left - n < 0
  all_goals
    go_enter Try.func30, Try.ntmps30
    go_wp2_with (go_at_call 62; refine (szCellS_any _ _ _ _ _ hm hl).mono ?_; rintro e w' ⟨rfl, rfl⟩)
    go_ret
    exact ⟨rfl, (by repeat (first | exact Below.refl _ _ | refine Below.alloc ?_ (by first | exact Nat.le_refl _ | (simp; done) | (simp; omega)) _ | refine Below.drew ?_ | refine Below.setCell ?_ (by first | exact Nat.le_refl _ | (simp; done) | (simp; omega)) _))⟩

set_option maxHeartbeats 400000 in
theorem toCellS_any (a : Option Addr) (cap : Nat) (cs : List (Int × Int)) (w : World) (h : CellsAt w a cs) (hm : cs.length ≤ 1048576) :
    Calls Try.prog 63 #[.slice a cs.length cap] w fun e w' => ∃ g, e = .returned (.slice (some ⟨g, 0, none⟩) cs.length cs.length) ∧ Own w' w.heap.size (.slice (some ⟨g, 0, none⟩) cs.length cs.length) cs ∧ Below w.heap.size w w' := by
  obtain ⟨i0, hi, hz0, hz1, hz2⟩ := info_parts infoCell
  go_enter Try.func63, Try.ntmps63
  go_wp2_with (at_make; refine wpList_make_full _ rfl _ _ 23 rfl w.heap.size 78 i0 (.agg #[.int .i64 0, .int .i64 0]) 2 Try.underlying23 hi hz0 hz1 .i64 .i64 _ _ cs.length rfl rfl rfl rfl ?_ ?_ ?_ ?_)
  · rw [hz2]; omega
  · unfold maxLen; omega
  · exact Nat.le_refl _
  intro w1 hO1 hg1
  have HO1 : Own w1 w.heap.size (.slice (some ⟨w.heap.size, 0, none⟩) cs.length cs.length) (List.replicate cs.length (0, 0)) := by
    unfold Own
    rw [List.length_replicate, ← made_two]
    exact hO1
  have hb1 : Below w.heap.size w w1 := (Below.refl _ _).grown hg1 (Nat.le_refl _) (fun k hk => by cases hk)
  have hz := HO1.lt.2
  clear hO1 hg1
  go_wp2
  go_loopw [4] (fun i wr => ∃ k : Nat, k ≤ cs.length ∧ i = .int .i64 k ∧ Own wr w.heap.size (.slice (some ⟨w.heap.size, 0, none⟩) cs.length cs.length) (cs.take k ++ List.replicate (cs.length - k) (0, 0)) ∧ Below w.heap.size w wr) (fun i _ => cs.length - (intOf i).toNat)
  case atStart => exact ⟨0, Nat.zero_le _, rfl, by simpa using HO1, hb1⟩
  case round =>
    obtain ⟨k, hk, rfl, hO, hb⟩ := hrel
    by_cases hlt : k < cs.length
    · rcases h with h | ⟨b, off, rfl, hbl, hcell⟩
      · subst h; simp at hlt
      obtain ⟨hx, hy⟩ := hcell k hlt
      rw [← hb.cell (p := ⟨b, _, none⟩) hbl] at hx hy
      have hzr := hb.size
      have hzo := hO.lt.2
      go_wp2_with fail
      refine (toCell_any _ _ _).mono ?_
      rintro e w2 ⟨rfl, hb2⟩
      have hO2 := hO.below hb2
      obtain ⟨c1, c2, f1, f2⟩ := hO2.cell (by simp; omega) k hlt
      go_wp2
      go_roundw
      case rel => exact ⟨k + 1, by omega, by go_num, by rw [← set_step cs k hlt]; exact hO2.set (by simp; omega) k _ _ hlt, ((bcall hb (by omega) hb2).setCell (p := ⟨w.heap.size, k * 2, none⟩) (Nat.le_refl _) _).setCell (p := ⟨w.heap.size, k * 2 + 1, none⟩) (Nat.le_refl _) _⟩
      case measure => simp [intOf]; omega
    · go_wp2
      go_ret
      exact ⟨_, rfl, by rw [List.take_of_length_le (by omega), show cs.length - k = 0 by omega] at hO; simpa using hO, hb⟩

set_option maxHeartbeats 400000 in
theorem toGrid_any (wd : Int) (a : Option Addr) (cap : Nat) (cs : List (Int × Int)) (w : World) (h : CellsAt w a cs) (hm : cs.length ≤ 1048576) :
    Calls Try.prog 31 #[.agg #[.int .i64 wd, .slice a cs.length cap]] w fun e w' => ∃ g, e = .returned (.agg #[.int .i64 wd, .slice (some ⟨g, 0, none⟩) cs.length cs.length]) ∧ Own w' w.heap.size (.slice (some ⟨g, 0, none⟩) cs.length cs.length) cs ∧ Below w.heap.size w w' := by
  go_enter Try.func31, Try.ntmps31
  go_wp2_with fail
  refine (toCellS_any _ _ cs _ (h.below (by repeat (first | exact Below.refl _ _ | refine Below.alloc ?_ (by first | exact Nat.le_refl _ | (simp; done) | (simp; omega)) _ | refine Below.drew ?_ | refine Below.setCell ?_ (by first | exact Nat.le_refl _ | (simp; done) | (simp; omega)) _))) hm).mono ?_
  rintro e w1 ⟨g, rfl, hO, hb1⟩
  have hz := hb1.size
  simp at hz
  have hg := hO.lt.1
  simp at hg
  obtain ⟨hc, hf⟩ := bcell hb1
  have q0 : w1.cell? ⟨w.heap.size + 1 + 1, 0, none⟩ = some (.int .i64 wd) := by rw [hc (w.heap.size + 1 + 1) 0 (by simp)]; simp [go_sem]
  have q1 : w1.cell? ⟨w.heap.size + 1 + 1, 1, none⟩ = some (.slice none 0 0) := by rw [hc (w.heap.size + 1 + 1) 1 (by simp)]; simp [go_sem]
  have q2 : w1.frozen? ⟨w.heap.size + 1 + 1, 1, none⟩ = false := by rw [hf (w.heap.size + 1 + 1) 1 (by simp)]; simp [go_sem]
  have q3 : w1.cell? ⟨w.heap.size + 1, 0, none⟩ = some (.int .i64 0) := by rw [hc (w.heap.size + 1) 0 (by simp)]; simp [go_sem]
  have q4 : w1.cell? ⟨w.heap.size + 1, 1, none⟩ = some (.slice none 0 0) := by rw [hc (w.heap.size + 1) 1 (by simp)]; simp [go_sem]
  have q5 : w1.frozen? ⟨w.heap.size + 1, 0, none⟩ = false := by rw [hf (w.heap.size + 1) 0 (by simp)]; simp [go_sem]
  have q6 : w1.frozen? ⟨w.heap.size + 1, 1, none⟩ = false := by rw [hf (w.heap.size + 1) 1 (by simp)]; simp [go_sem]
  clear hc hf
  go_wp2
  refine bodyPost_ret (v := .agg #[.int .i64 wd, .slice (some ⟨g, 0, none⟩) cs.length cs.length]) (by simp [results, Try.results31, go_sem, q3, q4]) rfl ⟨g, rfl, ?_, ?_⟩
  · exact ownsRow_setCell_below (ownsRow_setCell_below (ownsRow_setCell_below hO (by simp) _) (by simp) _) (by simp) _ |> fun h => Own.mono h (by simp; omega)
  · exact (((bcall (by repeat (first | exact Below.refl _ _ | refine Below.alloc ?_ (by first | exact Nat.le_refl _ | (simp; done) | (simp; omega)) _ | refine Below.drew ?_ | refine Below.setCell ?_ (by first | exact Nat.le_refl _ | (simp; done) | (simp; omega)) _)) (by simp; omega) hb1).setCell (by simp; omega) _).setCell (by simp) _).setCell (by simp) _

end Go.Proofs.Ytankkkiccokggaa
