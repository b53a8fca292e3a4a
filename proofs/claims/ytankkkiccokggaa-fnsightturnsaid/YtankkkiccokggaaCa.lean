/-
  The contracts of the functions on single cells: each returns what the plain function 'okC' says of a cell's kind and light, whatever the two numbers, and turns no memory that was there.
-/
import Derived.Test.YtankkkiccokggaaChecked
import Derived.Test.YtankkkiccokggaaBa
namespace Go.Proofs.Ytankkkiccokggaa
open Go.RowKit

/-- Whether a cell is ok: its kind and its light. -/
def okC (k l : Int) : Bool := if k = 7 then decide (1 ≤ l ∧ l ≤ 9) else decide (0 ≤ k ∧ k ≤ 6 ∧ l = 0)

theorem okC_none (k l : Int) (h : k < 0 ∨ 7 < k) : okC k l = false := by
  unfold okC
  rw [if_neg (by omega)]
  simp
  omega

def inB (n a b : Int) : Bool := decide (a ≤ n ∧ n ≤ b)

set_option maxHeartbeats 400000 in
theorem l6In_any (n a b : Int) (w : World) :
    Calls Try.prog 37 #[.int .i64 n, .int .i64 a, .int .i64 b] w fun e w' => e = .returned (.bool (inB n a b)) ∧ w' = w := by
  by_cases h1 : a ≤ n
  · by_cases h2 : n ≤ b
    · go_enter Try.func37, Try.ntmps37
      go_wp2
      go_ret
      exact ⟨by simp [inB, h1, h2], rfl⟩
    · go_enter Try.func37, Try.ntmps37
      go_wp2
      go_ret
      exact ⟨by simp [inB, h1, h2], rfl⟩
  · go_enter Try.func37, Try.ntmps37
    go_wp2
    go_ret
    exact ⟨by simp [inB]; omega, rfl⟩

set_option maxHeartbeats 400000 in
theorem specCellOk_any (k l : Int) (w : World) :
    Calls Try.prog 57 #[.agg #[.int .i64 k, .int .i64 l]] w fun e w' => e = .returned (.bool (okC k l)) ∧ Below w.heap.size w w' := by
  by_cases h7 : k = 7
  · subst h7
    go_enter Try.func57, Try.ntmps57
    go_wp2_with (go_at_call 37; refine (l6In_any _ _ _ _).mono ?_; rintro e w' ⟨rfl, rfl⟩)
    go_ret
    exact ⟨by simp [okC, inB], (by repeat (first | exact Below.refl _ _ | refine Below.alloc ?_ (by first | exact Nat.le_refl _ | (simp; done) | (simp; omega)) _ | refine Below.drew ?_ | refine Below.setCell ?_ (by first | exact Nat.le_refl _ | (simp; done) | (simp; omega)) _))⟩
  · by_cases h1 : 0 ≤ k ∧ k ≤ 6
    · have hi : inB k 0 6 = true := by simp [inB, h1]
      by_cases hl : l = 0
      all_goals
        go_enter Try.func57, Try.ntmps57
        go_wp2_with (go_at_call 37; refine (l6In_any _ _ _ _).mono ?_; rintro e w' ⟨rfl, rfl⟩)
        go_ret
        exact ⟨by simp [okC, h7, h1, hl], (by repeat (first | exact Below.refl _ _ | refine Below.alloc ?_ (by first | exact Nat.le_refl _ | (simp; done) | (simp; omega)) _ | refine Below.drew ?_ | refine Below.setCell ?_ (by first | exact Nat.le_refl _ | (simp; done) | (simp; omega)) _))⟩
    · have hi : inB k 0 6 = false := by simp [inB]; omega
      go_enter Try.func57, Try.ntmps57
      go_wp2_with (go_at_call 37; refine (l6In_any _ _ _ _).mono ?_; rintro e w' ⟨rfl, rfl⟩)
      go_ret
      exact ⟨by simp [okC, h7]; omega, (by repeat (first | exact Below.refl _ _ | refine Below.alloc ?_ (by first | exact Nat.le_refl _ | (simp; done) | (simp; omega)) _ | refine Below.drew ?_ | refine Below.setCell ?_ (by first | exact Nat.le_refl _ | (simp; done) | (simp; omega)) _))⟩

theorem shine_free (w : World) : Sem.run Try.prog (method 225 101 (Value.agg #[]) "loop.example/lucarne/impl.mayShine") w = .ok (93, .agg #[]) w := by kernel_rfl
theorem shine_wall (w : World) : Sem.run Try.prog (method 225 102 (Value.agg #[]) "loop.example/lucarne/impl.mayShine") w = .ok (93, .agg #[]) w := by kernel_rfl
theorem shine_slash (w : World) : Sem.run Try.prog (method 225 103 (Value.agg #[]) "loop.example/lucarne/impl.mayShine") w = .ok (93, .agg #[]) w := by kernel_rfl
theorem shine_back (w : World) : Sem.run Try.prog (method 225 104 (Value.agg #[]) "loop.example/lucarne/impl.mayShine") w = .ok (93, .agg #[]) w := by kernel_rfl
theorem shine_glass (w : World) : Sem.run Try.prog (method 225 105 (Value.agg #[]) "loop.example/lucarne/impl.mayShine") w = .ok (93, .agg #[]) w := by kernel_rfl
theorem shine_pane (w : World) : Sem.run Try.prog (method 225 106 (Value.agg #[]) "loop.example/lucarne/impl.mayShine") w = .ok (93, .agg #[]) w := by kernel_rfl
theorem shine_dim (w : World) : Sem.run Try.prog (method 225 107 (Value.agg #[]) "loop.example/lucarne/impl.mayShine") w = .ok (93, .agg #[]) w := by kernel_rfl
theorem shine_lamp (w : World) : Sem.run Try.prog (method 225 108 (Value.agg #[]) "loop.example/lucarne/impl.mayShine") w = .ok (101, .agg #[]) w := by kernel_rfl
set_option maxHeartbeats 400000 in
theorem implCellOk_free (l : Int) (w : World) :
    Calls Try.prog 68 #[.agg #[.int .i64 0, .int .i64 l]] w fun e w' => e = .returned (.bool (okC 0 l)) ∧ Below w.heap.size w w' := by
  have hs := shine_free
  go_enter Try.func68, Try.ntmps68
  go_wp2
  go_ret
  exact ⟨by simp [okC]; rfl, (by repeat (first | exact Below.refl _ _ | refine Below.alloc ?_ (by first | exact Nat.le_refl _ | (simp; done) | (simp; omega)) _ | refine Below.drew ?_ | refine Below.setCell ?_ (by first | exact Nat.le_refl _ | (simp; done) | (simp; omega)) _))⟩
set_option maxHeartbeats 400000 in
theorem implCellOk_wall (l : Int) (w : World) :
    Calls Try.prog 68 #[.agg #[.int .i64 1, .int .i64 l]] w fun e w' => e = .returned (.bool (okC 1 l)) ∧ Below w.heap.size w w' := by
  have hs := shine_wall
  go_enter Try.func68, Try.ntmps68
  go_wp2
  go_ret
  exact ⟨by simp [okC]; rfl, (by repeat (first | exact Below.refl _ _ | refine Below.alloc ?_ (by first | exact Nat.le_refl _ | (simp; done) | (simp; omega)) _ | refine Below.drew ?_ | refine Below.setCell ?_ (by first | exact Nat.le_refl _ | (simp; done) | (simp; omega)) _))⟩
set_option maxHeartbeats 400000 in
theorem implCellOk_slash (l : Int) (w : World) :
    Calls Try.prog 68 #[.agg #[.int .i64 2, .int .i64 l]] w fun e w' => e = .returned (.bool (okC 2 l)) ∧ Below w.heap.size w w' := by
  have hs := shine_slash
  go_enter Try.func68, Try.ntmps68
  go_wp2
  go_ret
  exact ⟨by simp [okC]; rfl, (by repeat (first | exact Below.refl _ _ | refine Below.alloc ?_ (by first | exact Nat.le_refl _ | (simp; done) | (simp; omega)) _ | refine Below.drew ?_ | refine Below.setCell ?_ (by first | exact Nat.le_refl _ | (simp; done) | (simp; omega)) _))⟩
set_option maxHeartbeats 400000 in
theorem implCellOk_back (l : Int) (w : World) :
    Calls Try.prog 68 #[.agg #[.int .i64 3, .int .i64 l]] w fun e w' => e = .returned (.bool (okC 3 l)) ∧ Below w.heap.size w w' := by
  have hs := shine_back
  go_enter Try.func68, Try.ntmps68
  go_wp2
  go_ret
  exact ⟨by simp [okC]; rfl, (by repeat (first | exact Below.refl _ _ | refine Below.alloc ?_ (by first | exact Nat.le_refl _ | (simp; done) | (simp; omega)) _ | refine Below.drew ?_ | refine Below.setCell ?_ (by first | exact Nat.le_refl _ | (simp; done) | (simp; omega)) _))⟩
set_option maxHeartbeats 400000 in
theorem implCellOk_glass (l : Int) (w : World) :
    Calls Try.prog 68 #[.agg #[.int .i64 4, .int .i64 l]] w fun e w' => e = .returned (.bool (okC 4 l)) ∧ Below w.heap.size w w' := by
  have hs := shine_glass
  go_enter Try.func68, Try.ntmps68
  go_wp2
  go_ret
  exact ⟨by simp [okC]; rfl, (by repeat (first | exact Below.refl _ _ | refine Below.alloc ?_ (by first | exact Nat.le_refl _ | (simp; done) | (simp; omega)) _ | refine Below.drew ?_ | refine Below.setCell ?_ (by first | exact Nat.le_refl _ | (simp; done) | (simp; omega)) _))⟩
set_option maxHeartbeats 400000 in
theorem implCellOk_pane (l : Int) (w : World) :
    Calls Try.prog 68 #[.agg #[.int .i64 5, .int .i64 l]] w fun e w' => e = .returned (.bool (okC 5 l)) ∧ Below w.heap.size w w' := by
  have hs := shine_pane
  go_enter Try.func68, Try.ntmps68
  go_wp2
  go_ret
  exact ⟨by simp [okC]; rfl, (by repeat (first | exact Below.refl _ _ | refine Below.alloc ?_ (by first | exact Nat.le_refl _ | (simp; done) | (simp; omega)) _ | refine Below.drew ?_ | refine Below.setCell ?_ (by first | exact Nat.le_refl _ | (simp; done) | (simp; omega)) _))⟩
set_option maxHeartbeats 400000 in
theorem implCellOk_dim (l : Int) (w : World) :
    Calls Try.prog 68 #[.agg #[.int .i64 6, .int .i64 l]] w fun e w' => e = .returned (.bool (okC 6 l)) ∧ Below w.heap.size w w' := by
  have hs := shine_dim
  go_enter Try.func68, Try.ntmps68
  go_wp2
  go_ret
  exact ⟨by simp [okC]; rfl, (by repeat (first | exact Below.refl _ _ | refine Below.alloc ?_ (by first | exact Nat.le_refl _ | (simp; done) | (simp; omega)) _ | refine Below.drew ?_ | refine Below.setCell ?_ (by first | exact Nat.le_refl _ | (simp; done) | (simp; omega)) _))⟩
set_option maxHeartbeats 400000 in
theorem implCellOk_lamp (l : Int) (w : World) :
    Calls Try.prog 68 #[.agg #[.int .i64 7, .int .i64 l]] w fun e w' => e = .returned (.bool (okC 7 l)) ∧ Below w.heap.size w w' := by
  have hs := shine_lamp
  by_cases h1 : 1 ≤ l
  · by_cases h2 : l ≤ 9
    all_goals
      go_enter Try.func68, Try.ntmps68
      go_wp2
      go_ret
      exact ⟨by simp [okC, h1, h2], (by repeat (first | exact Below.refl _ _ | refine Below.alloc ?_ (by first | exact Nat.le_refl _ | (simp; done) | (simp; omega)) _ | refine Below.drew ?_ | refine Below.setCell ?_ (by first | exact Nat.le_refl _ | (simp; done) | (simp; omega)) _))⟩
  · go_enter Try.func68, Try.ntmps68
    go_wp2
    go_ret
    exact ⟨by simp [okC]; omega, (by repeat (first | exact Below.refl _ _ | refine Below.alloc ?_ (by first | exact Nat.le_refl _ | (simp; done) | (simp; omega)) _ | refine Below.drew ?_ | refine Below.setCell ?_ (by first | exact Nat.le_refl _ | (simp; done) | (simp; omega)) _))⟩
set_option maxHeartbeats 400000 in
theorem implCellOk_none (k l : Int) (h : k < 0 ∨ 7 < k) (w : World) :
    Calls Try.prog 68 #[.agg #[.int .i64 k, .int .i64 l]] w fun e w' => e = .returned (.bool (okC k l)) ∧ Below w.heap.size w w' := by
  go_enter Try.func68, Try.ntmps68
  go_wp2
  go_ret
  exact ⟨by rw [okC_none k l h]; rfl, (by repeat (first | exact Below.refl _ _ | refine Below.alloc ?_ (by first | exact Nat.le_refl _ | (simp; done) | (simp; omega)) _ | refine Below.drew ?_ | refine Below.setCell ?_ (by first | exact Nat.le_refl _ | (simp; done) | (simp; omega)) _))⟩

theorem implCellOk_any (k l : Int) (w : World) :
    Calls Try.prog 68 #[.agg #[.int .i64 k, .int .i64 l]] w fun e w' => e = .returned (.bool (okC k l)) ∧ Below w.heap.size w w' := by
  by_cases h : k < 0 ∨ 7 < k
  · exact implCellOk_none k l h w
  · rcases (show k = 0 ∨ k = 1 ∨ k = 2 ∨ k = 3 ∨ k = 4 ∨ k = 5 ∨ k = 6 ∨ k = 7 by omega) with rfl | rfl | rfl | rfl | rfl | rfl | rfl | rfl
    · exact implCellOk_free l w
    · exact implCellOk_wall l w
    · exact implCellOk_slash l w
    · exact implCellOk_back l w
    · exact implCellOk_glass l w
    · exact implCellOk_pane l w
    · exact implCellOk_dim l w
    · exact implCellOk_lamp l w

end Go.Proofs.Ytankkkiccokggaa
