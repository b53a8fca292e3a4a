/-
  The contract of impl.leanCell: a cell whose mirror or glass leans the other way, at every cell that is ok.
-/
import Derived.Test.YtmnninhifiajhaaTa
namespace Go.Proofs.Ytmnninhifiajhaa
open Go.RowKit

set_option maxHeartbeats 400000 in
theorem leanCell_free (l : Int) (w : World) :
    Calls Try.prog 59 #[.agg #[.int .i64 0, .int .i64 l]] w fun e w' => e = .returned (.agg #[.int .i64 0, .int .i64 l]) ∧ Below w.heap.size w w' := by
  have hs := number_free
  have hB : Below w.heap.size w ((w.alloc (.cells #[.int .i64 0, .int .i64 l] 27)).alloc (.cells #[.int .i64 0, .int .i64 0] 27)) := (by repeat (first | exact Below.refl _ _ | refine Below.alloc ?_ (by first | exact Nat.le_refl _ | (simp; done) | (simp; omega)) _ | refine Below.drew ?_ | refine Below.setCell ?_ (by first | exact Nat.le_refl _ | (simp; done) | (simp; omega)) _))
  go_enter Try.func59, Try.ntmps59
  go_wp2
  go_region_with (first | (go_at_call 82; refine (leanKind_free _).mono ?_; rintro e w1 ⟨rfl, rfl⟩) | (go_at_call 138; refine (numberCall_free _).mono ?_; rintro e w2 ⟨rfl, hb2⟩; have q0 : w2.cell? ⟨w.heap.size, 1, none⟩ = some (.int .i64 l) := keepc hb2 (by simp [go_sem]); have q1 : w2.cell? ⟨w.heap.size + 1, 0, none⟩ = some (.int .i64 0) := keepc hb2 (by simp [go_sem]); have q2 : w2.cell? ⟨w.heap.size + 1, 1, none⟩ = some (.int .i64 0) := keepc hb2 (by simp [go_sem]); have f1 : w2.frozen? ⟨w.heap.size + 1, 0, none⟩ = false := keepf hb2 (v := .int .i64 0) (by simp [go_sem]) (by simp [go_sem]); have f2 : w2.frozen? ⟨w.heap.size + 1, 1, none⟩ = false := keepf hb2 (v := .int .i64 0) (by simp [go_sem]) (by simp [go_sem])))
  all_goals
    go_wp2
    refine bodyPost_ret (v := .agg #[.int .i64 0, .int .i64 l]) (by simp [results, Try.results59, go_sem, q1, q2]) rfl ⟨rfl, ?_⟩
    exact ((bcall hB (by simp; omega) (by first | exact hb2 | exact bdrew hb2)).setCell (by simp) _).setCell (by simp) _

set_option maxHeartbeats 400000 in
theorem leanCell_wall (l : Int) (w : World) :
    Calls Try.prog 59 #[.agg #[.int .i64 1, .int .i64 l]] w fun e w' => e = .returned (.agg #[.int .i64 1, .int .i64 l]) ∧ Below w.heap.size w w' := by
  have hs := number_wall
  have hB : Below w.heap.size w ((w.alloc (.cells #[.int .i64 1, .int .i64 l] 27)).alloc (.cells #[.int .i64 0, .int .i64 0] 27)) := (by repeat (first | exact Below.refl _ _ | refine Below.alloc ?_ (by first | exact Nat.le_refl _ | (simp; done) | (simp; omega)) _ | refine Below.drew ?_ | refine Below.setCell ?_ (by first | exact Nat.le_refl _ | (simp; done) | (simp; omega)) _))
  go_enter Try.func59, Try.ntmps59
  go_wp2
  go_region_with (first | (go_at_call 82; refine (leanKind_wall _).mono ?_; rintro e w1 ⟨rfl, rfl⟩) | (go_at_call 139; refine (numberCall_wall _).mono ?_; rintro e w2 ⟨rfl, hb2⟩; have q0 : w2.cell? ⟨w.heap.size, 1, none⟩ = some (.int .i64 l) := keepc hb2 (by simp [go_sem]); have q1 : w2.cell? ⟨w.heap.size + 1, 0, none⟩ = some (.int .i64 0) := keepc hb2 (by simp [go_sem]); have q2 : w2.cell? ⟨w.heap.size + 1, 1, none⟩ = some (.int .i64 0) := keepc hb2 (by simp [go_sem]); have f1 : w2.frozen? ⟨w.heap.size + 1, 0, none⟩ = false := keepf hb2 (v := .int .i64 0) (by simp [go_sem]) (by simp [go_sem]); have f2 : w2.frozen? ⟨w.heap.size + 1, 1, none⟩ = false := keepf hb2 (v := .int .i64 0) (by simp [go_sem]) (by simp [go_sem])))
  all_goals
    go_wp2
    refine bodyPost_ret (v := .agg #[.int .i64 1, .int .i64 l]) (by simp [results, Try.results59, go_sem, q1, q2]) rfl ⟨rfl, ?_⟩
    exact ((bcall hB (by simp; omega) (by first | exact hb2 | exact bdrew hb2)).setCell (by simp) _).setCell (by simp) _

set_option maxHeartbeats 400000 in
theorem leanCell_slash (l : Int) (w : World) :
    Calls Try.prog 59 #[.agg #[.int .i64 2, .int .i64 l]] w fun e w' => e = .returned (.agg #[.int .i64 3, .int .i64 l]) ∧ Below w.heap.size w w' := by
  have hs := number_back
  have hB : Below w.heap.size w ((w.alloc (.cells #[.int .i64 2, .int .i64 l] 27)).alloc (.cells #[.int .i64 0, .int .i64 0] 27)) := (by repeat (first | exact Below.refl _ _ | refine Below.alloc ?_ (by first | exact Nat.le_refl _ | (simp; done) | (simp; omega)) _ | refine Below.drew ?_ | refine Below.setCell ?_ (by first | exact Nat.le_refl _ | (simp; done) | (simp; omega)) _))
  go_enter Try.func59, Try.ntmps59
  go_wp2
  go_region_with (first | (go_at_call 82; refine (leanKind_slash _).mono ?_; rintro e w1 ⟨rfl, rfl⟩) | (go_at_call 141; refine (numberCall_back _).mono ?_; rintro e w2 ⟨rfl, hb2⟩; have q0 : w2.cell? ⟨w.heap.size, 1, none⟩ = some (.int .i64 l) := keepc hb2 (by simp [go_sem]); have q1 : w2.cell? ⟨w.heap.size + 1, 0, none⟩ = some (.int .i64 0) := keepc hb2 (by simp [go_sem]); have q2 : w2.cell? ⟨w.heap.size + 1, 1, none⟩ = some (.int .i64 0) := keepc hb2 (by simp [go_sem]); have f1 : w2.frozen? ⟨w.heap.size + 1, 0, none⟩ = false := keepf hb2 (v := .int .i64 0) (by simp [go_sem]) (by simp [go_sem]); have f2 : w2.frozen? ⟨w.heap.size + 1, 1, none⟩ = false := keepf hb2 (v := .int .i64 0) (by simp [go_sem]) (by simp [go_sem])))
  all_goals
    go_wp2
    refine bodyPost_ret (v := .agg #[.int .i64 3, .int .i64 l]) (by simp [results, Try.results59, go_sem, q1, q2]) rfl ⟨rfl, ?_⟩
    exact ((bcall hB (by simp; omega) (by first | exact hb2 | exact bdrew hb2)).setCell (by simp) _).setCell (by simp) _

set_option maxHeartbeats 400000 in
theorem leanCell_back (l : Int) (w : World) :
    Calls Try.prog 59 #[.agg #[.int .i64 3, .int .i64 l]] w fun e w' => e = .returned (.agg #[.int .i64 2, .int .i64 l]) ∧ Below w.heap.size w w' := by
  have hs := number_slash
  have hB : Below w.heap.size w ((w.alloc (.cells #[.int .i64 3, .int .i64 l] 27)).alloc (.cells #[.int .i64 0, .int .i64 0] 27)) := (by repeat (first | exact Below.refl _ _ | refine Below.alloc ?_ (by first | exact Nat.le_refl _ | (simp; done) | (simp; omega)) _ | refine Below.drew ?_ | refine Below.setCell ?_ (by first | exact Nat.le_refl _ | (simp; done) | (simp; omega)) _))
  go_enter Try.func59, Try.ntmps59
  go_wp2
  go_region_with (first | (go_at_call 82; refine (leanKind_back _).mono ?_; rintro e w1 ⟨rfl, rfl⟩) | (go_at_call 140; refine (numberCall_slash _).mono ?_; rintro e w2 ⟨rfl, hb2⟩; have q0 : w2.cell? ⟨w.heap.size, 1, none⟩ = some (.int .i64 l) := keepc hb2 (by simp [go_sem]); have q1 : w2.cell? ⟨w.heap.size + 1, 0, none⟩ = some (.int .i64 0) := keepc hb2 (by simp [go_sem]); have q2 : w2.cell? ⟨w.heap.size + 1, 1, none⟩ = some (.int .i64 0) := keepc hb2 (by simp [go_sem]); have f1 : w2.frozen? ⟨w.heap.size + 1, 0, none⟩ = false := keepf hb2 (v := .int .i64 0) (by simp [go_sem]) (by simp [go_sem]); have f2 : w2.frozen? ⟨w.heap.size + 1, 1, none⟩ = false := keepf hb2 (v := .int .i64 0) (by simp [go_sem]) (by simp [go_sem])))
  all_goals
    go_wp2
    refine bodyPost_ret (v := .agg #[.int .i64 2, .int .i64 l]) (by simp [results, Try.results59, go_sem, q1, q2]) rfl ⟨rfl, ?_⟩
    exact ((bcall hB (by simp; omega) (by first | exact hb2 | exact bdrew hb2)).setCell (by simp) _).setCell (by simp) _

set_option maxHeartbeats 400000 in
theorem leanCell_glass (l : Int) (w : World) :
    Calls Try.prog 59 #[.agg #[.int .i64 4, .int .i64 l]] w fun e w' => e = .returned (.agg #[.int .i64 5, .int .i64 l]) ∧ Below w.heap.size w w' := by
  have hs := number_pane
  have hB : Below w.heap.size w ((w.alloc (.cells #[.int .i64 4, .int .i64 l] 27)).alloc (.cells #[.int .i64 0, .int .i64 0] 27)) := (by repeat (first | exact Below.refl _ _ | refine Below.alloc ?_ (by first | exact Nat.le_refl _ | (simp; done) | (simp; omega)) _ | refine Below.drew ?_ | refine Below.setCell ?_ (by first | exact Nat.le_refl _ | (simp; done) | (simp; omega)) _))
  go_enter Try.func59, Try.ntmps59
  go_wp2
  go_region_with (first | (go_at_call 82; refine (leanKind_glass _).mono ?_; rintro e w1 ⟨rfl, rfl⟩) | (go_at_call 143; refine (numberCall_pane _).mono ?_; rintro e w2 ⟨rfl, hb2⟩; have q0 : w2.cell? ⟨w.heap.size, 1, none⟩ = some (.int .i64 l) := keepc hb2 (by simp [go_sem]); have q1 : w2.cell? ⟨w.heap.size + 1, 0, none⟩ = some (.int .i64 0) := keepc hb2 (by simp [go_sem]); have q2 : w2.cell? ⟨w.heap.size + 1, 1, none⟩ = some (.int .i64 0) := keepc hb2 (by simp [go_sem]); have f1 : w2.frozen? ⟨w.heap.size + 1, 0, none⟩ = false := keepf hb2 (v := .int .i64 0) (by simp [go_sem]) (by simp [go_sem]); have f2 : w2.frozen? ⟨w.heap.size + 1, 1, none⟩ = false := keepf hb2 (v := .int .i64 0) (by simp [go_sem]) (by simp [go_sem])))
  all_goals
    go_wp2
    refine bodyPost_ret (v := .agg #[.int .i64 5, .int .i64 l]) (by simp [results, Try.results59, go_sem, q1, q2]) rfl ⟨rfl, ?_⟩
    exact ((bcall hB (by simp; omega) (by first | exact hb2 | exact bdrew hb2)).setCell (by simp) _).setCell (by simp) _

set_option maxHeartbeats 400000 in
theorem leanCell_pane (l : Int) (w : World) :
    Calls Try.prog 59 #[.agg #[.int .i64 5, .int .i64 l]] w fun e w' => e = .returned (.agg #[.int .i64 4, .int .i64 l]) ∧ Below w.heap.size w w' := by
  have hs := number_glass
  have hB : Below w.heap.size w ((w.alloc (.cells #[.int .i64 5, .int .i64 l] 27)).alloc (.cells #[.int .i64 0, .int .i64 0] 27)) := (by repeat (first | exact Below.refl _ _ | refine Below.alloc ?_ (by first | exact Nat.le_refl _ | (simp; done) | (simp; omega)) _ | refine Below.drew ?_ | refine Below.setCell ?_ (by first | exact Nat.le_refl _ | (simp; done) | (simp; omega)) _))
  go_enter Try.func59, Try.ntmps59
  go_wp2
  go_region_with (first | (go_at_call 82; refine (leanKind_pane _).mono ?_; rintro e w1 ⟨rfl, rfl⟩) | (go_at_call 142; refine (numberCall_glass _).mono ?_; rintro e w2 ⟨rfl, hb2⟩; have q0 : w2.cell? ⟨w.heap.size, 1, none⟩ = some (.int .i64 l) := keepc hb2 (by simp [go_sem]); have q1 : w2.cell? ⟨w.heap.size + 1, 0, none⟩ = some (.int .i64 0) := keepc hb2 (by simp [go_sem]); have q2 : w2.cell? ⟨w.heap.size + 1, 1, none⟩ = some (.int .i64 0) := keepc hb2 (by simp [go_sem]); have f1 : w2.frozen? ⟨w.heap.size + 1, 0, none⟩ = false := keepf hb2 (v := .int .i64 0) (by simp [go_sem]) (by simp [go_sem]); have f2 : w2.frozen? ⟨w.heap.size + 1, 1, none⟩ = false := keepf hb2 (v := .int .i64 0) (by simp [go_sem]) (by simp [go_sem])))
  all_goals
    go_wp2
    refine bodyPost_ret (v := .agg #[.int .i64 4, .int .i64 l]) (by simp [results, Try.results59, go_sem, q1, q2]) rfl ⟨rfl, ?_⟩
    exact ((bcall hB (by simp; omega) (by first | exact hb2 | exact bdrew hb2)).setCell (by simp) _).setCell (by simp) _

set_option maxHeartbeats 400000 in
theorem leanCell_dim (l : Int) (w : World) :
    Calls Try.prog 59 #[.agg #[.int .i64 6, .int .i64 l]] w fun e w' => e = .returned (.agg #[.int .i64 6, .int .i64 l]) ∧ Below w.heap.size w w' := by
  have hs := number_dim
  have hB : Below w.heap.size w ((w.alloc (.cells #[.int .i64 6, .int .i64 l] 27)).alloc (.cells #[.int .i64 0, .int .i64 0] 27)) := (by repeat (first | exact Below.refl _ _ | refine Below.alloc ?_ (by first | exact Nat.le_refl _ | (simp; done) | (simp; omega)) _ | refine Below.drew ?_ | refine Below.setCell ?_ (by first | exact Nat.le_refl _ | (simp; done) | (simp; omega)) _))
  go_enter Try.func59, Try.ntmps59
  go_wp2
  go_region_with (first | (go_at_call 82; refine (leanKind_dim _).mono ?_; rintro e w1 ⟨rfl, rfl⟩) | (go_at_call 144; refine (numberCall_dim _).mono ?_; rintro e w2 ⟨rfl, hb2⟩; have q0 : w2.cell? ⟨w.heap.size, 1, none⟩ = some (.int .i64 l) := keepc hb2 (by simp [go_sem]); have q1 : w2.cell? ⟨w.heap.size + 1, 0, none⟩ = some (.int .i64 0) := keepc hb2 (by simp [go_sem]); have q2 : w2.cell? ⟨w.heap.size + 1, 1, none⟩ = some (.int .i64 0) := keepc hb2 (by simp [go_sem]); have f1 : w2.frozen? ⟨w.heap.size + 1, 0, none⟩ = false := keepf hb2 (v := .int .i64 0) (by simp [go_sem]) (by simp [go_sem]); have f2 : w2.frozen? ⟨w.heap.size + 1, 1, none⟩ = false := keepf hb2 (v := .int .i64 0) (by simp [go_sem]) (by simp [go_sem])))
  all_goals
    go_wp2
    refine bodyPost_ret (v := .agg #[.int .i64 6, .int .i64 l]) (by simp [results, Try.results59, go_sem, q1, q2]) rfl ⟨rfl, ?_⟩
    exact ((bcall hB (by simp; omega) (by first | exact hb2 | exact bdrew hb2)).setCell (by simp) _).setCell (by simp) _

set_option maxHeartbeats 400000 in
theorem leanCell_lamp (l : Int) (w : World) :
    Calls Try.prog 59 #[.agg #[.int .i64 7, .int .i64 l]] w fun e w' => e = .returned (.agg #[.int .i64 7, .int .i64 l]) ∧ Below w.heap.size w w' := by
  have hs := number_lamp
  have hB : Below w.heap.size w ((w.alloc (.cells #[.int .i64 7, .int .i64 l] 27)).alloc (.cells #[.int .i64 0, .int .i64 0] 27)) := (by repeat (first | exact Below.refl _ _ | refine Below.alloc ?_ (by first | exact Nat.le_refl _ | (simp; done) | (simp; omega)) _ | refine Below.drew ?_ | refine Below.setCell ?_ (by first | exact Nat.le_refl _ | (simp; done) | (simp; omega)) _))
  go_enter Try.func59, Try.ntmps59
  go_wp2
  go_region_with (first | (go_at_call 82; refine (leanKind_lamp _).mono ?_; rintro e w1 ⟨rfl, rfl⟩) | (go_at_call 146; refine (numberCall_lamp _).mono ?_; rintro e w2 ⟨rfl, hb2⟩; have q0 : w2.cell? ⟨w.heap.size, 1, none⟩ = some (.int .i64 l) := keepc hb2 (by simp [go_sem]); have q1 : w2.cell? ⟨w.heap.size + 1, 0, none⟩ = some (.int .i64 0) := keepc hb2 (by simp [go_sem]); have q2 : w2.cell? ⟨w.heap.size + 1, 1, none⟩ = some (.int .i64 0) := keepc hb2 (by simp [go_sem]); have f1 : w2.frozen? ⟨w.heap.size + 1, 0, none⟩ = false := keepf hb2 (v := .int .i64 0) (by simp [go_sem]) (by simp [go_sem]); have f2 : w2.frozen? ⟨w.heap.size + 1, 1, none⟩ = false := keepf hb2 (v := .int .i64 0) (by simp [go_sem]) (by simp [go_sem])))
  all_goals
    go_wp2
    refine bodyPost_ret (v := .agg #[.int .i64 7, .int .i64 l]) (by simp [results, Try.results59, go_sem, q1, q2]) rfl ⟨rfl, ?_⟩
    exact ((bcall hB (by simp; omega) (by first | exact hb2 | exact bdrew hb2)).setCell (by simp) _).setCell (by simp) _

theorem leanCell_any (k l : Int) (w : World) (h : okC k l = true) :
    Calls Try.prog 59 #[.agg #[.int .i64 k, .int .i64 l]] w fun e w' => e = .returned (.agg #[.int .i64 (otherK k), .int .i64 l]) ∧ Below w.heap.size w w' := by
  have hk : k = 0 ∨ k = 1 ∨ k = 2 ∨ k = 3 ∨ k = 4 ∨ k = 5 ∨ k = 6 ∨ k = 7 := by
    unfold okC at h
    by_cases h7 : k = 7
    · omega
    · rw [if_neg h7] at h
      simp at h
      omega
  rcases hk with rfl | rfl | rfl | rfl | rfl | rfl | rfl | rfl
  · exact leanCell_free l w
  · exact leanCell_wall l w
  · exact leanCell_slash l w
  · exact leanCell_back l w
  · exact leanCell_glass l w
  · exact leanCell_pane l w
  · exact leanCell_dim l w
  · exact leanCell_lamp l w

end Go.Proofs.Ytmnninhifiajhaa
