/-
  How a kind turns light: impl.turnOf tells a method, impl.DirTurn and spec.DirTurn answer what the plain function 'turnD' says, whatever the two numbers.
-/
import Derived.Test.YtgikknbjmbolaaaCa
import Derived.Laws.EntriesVeiled
namespace Go.Proofs.Ytgikknbjmbolaaa
open Go.RowKit
set_option linter.unusedVariables false

/-- The method by which a kind turns light. -/
def turnF (k : Int) : Nat := if k = 2 ∨ k = 4 then 38 else if k = 3 ∨ k = 5 then 39 else 37
/-- Where light goes behind a mirror. -/
def slashD (d : Int) : Int := if d = 0 ∨ d = 2 then d + 1 else d - 1
/-- Where light goes behind a kind. -/
def turnD (k d : Int) : Int := if d < 0 ∨ 3 < d then -1 else if k = 2 ∨ k = 4 then slashD d else if k = 3 ∨ k = 5 then 3 - d else d

set_option maxHeartbeats 400000 in
theorem turnOf_none (k : Int) (h : k < 0 ∨ 7 < k) (w : World) :
    Calls Try.prog 24 #[.int .i64 k] w fun e w' => e = .returned (.func (.func (turnF k)) #[] #[]) ∧ Below w.heap.size w w' := by
  have ht : turnF k = 37 := by unfold turnF; rw [if_neg (by omega), if_neg (by omega)]
  rw [ht]
  rcases h with h | h
  all_goals
    go_enter Try.func24, Try.ntmps24
    go_wp2
    go_ret
    exact ⟨rfl, (by repeat (first | exact Below.refl _ _ | refine Below.alloc ?_ (by first | exact Nat.le_refl _ | (simp; done) | (simp; omega)) _ | refine Below.drew ?_ | refine Below.setCell ?_ (by first | exact Nat.le_refl _ | (simp; done) | (simp; omega)) _))⟩
set_option maxHeartbeats 400000 in
theorem turnOf_0 (w : World) :
    Calls Try.prog 24 #[.int .i64 0] w fun e w' => e = .returned (.func (.func (turnF 0)) #[] #[]) ∧ Below w.heap.size w w' := by
  go_enter Try.func24, Try.ntmps24
  go_wp2
  go_ret
  exact ⟨rfl, (by repeat (first | exact Below.refl _ _ | refine Below.alloc ?_ (by first | exact Nat.le_refl _ | (simp; done) | (simp; omega)) _ | refine Below.drew ?_ | refine Below.setCell ?_ (by first | exact Nat.le_refl _ | (simp; done) | (simp; omega)) _))⟩
set_option maxHeartbeats 400000 in
theorem turnOf_1 (w : World) :
    Calls Try.prog 24 #[.int .i64 1] w fun e w' => e = .returned (.func (.func (turnF 1)) #[] #[]) ∧ Below w.heap.size w w' := by
  go_enter Try.func24, Try.ntmps24
  go_wp2
  go_ret
  exact ⟨rfl, (by repeat (first | exact Below.refl _ _ | refine Below.alloc ?_ (by first | exact Nat.le_refl _ | (simp; done) | (simp; omega)) _ | refine Below.drew ?_ | refine Below.setCell ?_ (by first | exact Nat.le_refl _ | (simp; done) | (simp; omega)) _))⟩
set_option maxHeartbeats 400000 in
theorem turnOf_2 (w : World) :
    Calls Try.prog 24 #[.int .i64 2] w fun e w' => e = .returned (.func (.func (turnF 2)) #[] #[]) ∧ Below w.heap.size w w' := by
  go_enter Try.func24, Try.ntmps24
  go_wp2
  go_ret
  exact ⟨rfl, (by repeat (first | exact Below.refl _ _ | refine Below.alloc ?_ (by first | exact Nat.le_refl _ | (simp; done) | (simp; omega)) _ | refine Below.drew ?_ | refine Below.setCell ?_ (by first | exact Nat.le_refl _ | (simp; done) | (simp; omega)) _))⟩
set_option maxHeartbeats 400000 in
theorem turnOf_3 (w : World) :
    Calls Try.prog 24 #[.int .i64 3] w fun e w' => e = .returned (.func (.func (turnF 3)) #[] #[]) ∧ Below w.heap.size w w' := by
  go_enter Try.func24, Try.ntmps24
  go_wp2
  go_ret
  exact ⟨rfl, (by repeat (first | exact Below.refl _ _ | refine Below.alloc ?_ (by first | exact Nat.le_refl _ | (simp; done) | (simp; omega)) _ | refine Below.drew ?_ | refine Below.setCell ?_ (by first | exact Nat.le_refl _ | (simp; done) | (simp; omega)) _))⟩
set_option maxHeartbeats 400000 in
theorem turnOf_4 (w : World) :
    Calls Try.prog 24 #[.int .i64 4] w fun e w' => e = .returned (.func (.func (turnF 4)) #[] #[]) ∧ Below w.heap.size w w' := by
  go_enter Try.func24, Try.ntmps24
  go_wp2
  go_ret
  exact ⟨rfl, (by repeat (first | exact Below.refl _ _ | refine Below.alloc ?_ (by first | exact Nat.le_refl _ | (simp; done) | (simp; omega)) _ | refine Below.drew ?_ | refine Below.setCell ?_ (by first | exact Nat.le_refl _ | (simp; done) | (simp; omega)) _))⟩
set_option maxHeartbeats 400000 in
theorem turnOf_5 (w : World) :
    Calls Try.prog 24 #[.int .i64 5] w fun e w' => e = .returned (.func (.func (turnF 5)) #[] #[]) ∧ Below w.heap.size w w' := by
  go_enter Try.func24, Try.ntmps24
  go_wp2
  go_ret
  exact ⟨rfl, (by repeat (first | exact Below.refl _ _ | refine Below.alloc ?_ (by first | exact Nat.le_refl _ | (simp; done) | (simp; omega)) _ | refine Below.drew ?_ | refine Below.setCell ?_ (by first | exact Nat.le_refl _ | (simp; done) | (simp; omega)) _))⟩
set_option maxHeartbeats 400000 in
theorem turnOf_6 (w : World) :
    Calls Try.prog 24 #[.int .i64 6] w fun e w' => e = .returned (.func (.func (turnF 6)) #[] #[]) ∧ Below w.heap.size w w' := by
  go_enter Try.func24, Try.ntmps24
  go_wp2
  go_ret
  exact ⟨rfl, (by repeat (first | exact Below.refl _ _ | refine Below.alloc ?_ (by first | exact Nat.le_refl _ | (simp; done) | (simp; omega)) _ | refine Below.drew ?_ | refine Below.setCell ?_ (by first | exact Nat.le_refl _ | (simp; done) | (simp; omega)) _))⟩
set_option maxHeartbeats 400000 in
theorem turnOf_7 (w : World) :
    Calls Try.prog 24 #[.int .i64 7] w fun e w' => e = .returned (.func (.func (turnF 7)) #[] #[]) ∧ Below w.heap.size w w' := by
  go_enter Try.func24, Try.ntmps24
  go_wp2
  go_ret
  exact ⟨rfl, (by repeat (first | exact Below.refl _ _ | refine Below.alloc ?_ (by first | exact Nat.le_refl _ | (simp; done) | (simp; omega)) _ | refine Below.drew ?_ | refine Below.setCell ?_ (by first | exact Nat.le_refl _ | (simp; done) | (simp; omega)) _))⟩
theorem turnOf_any (k : Int) (w : World) :
    Calls Try.prog 24 #[.int .i64 k] w fun e w' => e = .returned (.func (.func (turnF k)) #[] #[]) ∧ Below w.heap.size w w' := by
  by_cases h : k < 0 ∨ 7 < k
  · exact turnOf_none k h w
  · rcases (show k = 0 ∨ k = 1 ∨ k = 2 ∨ k = 3 ∨ k = 4 ∨ k = 5 ∨ k = 6 ∨ k = 7 by omega) with rfl | rfl | rfl | rfl | rfl | rfl | rfl | rfl
    · exact turnOf_0 w
    · exact turnOf_1 w
    · exact turnOf_2 w
    · exact turnOf_3 w
    · exact turnOf_4 w
    · exact turnOf_5 w
    · exact turnOf_6 w
    · exact turnOf_7 w
theorem turnOf_at (k : Int) (n : Nat) (h : turnF k = n) (w : World) :
    Calls Try.prog 24 #[.int .i64 k] w fun e w' => e = .returned (.func (.func n) #[] #[]) ∧ Below w.heap.size w w' := by
  rw [← h]
  exact turnOf_any k w

theorem turnD_out (k d : Int) (h : d < 0 ∨ 3 < d) : turnD k d = -1 := by unfold turnD; rw [if_pos h]
theorem turnD_in (k d : Int) (h0 : 0 ≤ d) (h3 : d ≤ 3) : turnD k d = if k = 2 ∨ k = 4 then slashD d else if k = 3 ∨ k = 5 then 3 - d else d := by unfold turnD; rw [if_neg (by omega)]

set_option maxHeartbeats 400000 in
theorem dirOk_any (d : Int) (w : World) :
    Calls Try.prog 23 #[.int .i64 d] w fun e w' => e = .returned (.bool (inB d 0 3)) ∧ w' = w := by
  by_cases h1 : 0 ≤ d
  · by_cases h2 : d ≤ 3
    all_goals
      go_enter Try.func23, Try.ntmps23
      go_wp2
      go_ret
      exact ⟨by simp [inB, h1, h2], rfl⟩
  · go_enter Try.func23, Try.ntmps23
    go_wp2
    go_ret
    exact ⟨by simp [inB]; omega, rfl⟩
set_option maxHeartbeats 400000 in
theorem straight_any (d : Int) (w : World) :
    Calls Try.prog 37 #[.int .i64 d] w fun e w' => e = .returned (.int .i64 d) ∧ w' = w := by
  go_enter Try.func37, Try.ntmps37
  go_wp2
  go_ret
  exact ⟨rfl, rfl⟩
set_option maxHeartbeats 400000 in
theorem bySlash_any (d : Int) (h0 : 0 ≤ d) (h3 : d ≤ 3) (w : World) :
    Calls Try.prog 38 #[.int .i64 d] w fun e w' => e = .returned (.int .i64 (slashD d)) ∧ w' = w := by
  rcases (show d = 0 ∨ d = 1 ∨ d = 2 ∨ d = 3 by omega) with rfl | rfl | rfl | rfl
  all_goals
    go_enter Try.func38, Try.ntmps38
    go_wp2
    go_ret
    exact ⟨rfl, rfl⟩
set_option maxHeartbeats 400000 in
theorem byBack_any (d : Int) (h0 : 0 ≤ d) (h3 : d ≤ 3) (w : World) :
    Calls Try.prog 39 #[.int .i64 d] w fun e w' => e = .returned (.int .i64 (3 - d)) ∧ w' = w := by
  rcases (show d = 0 ∨ d = 1 ∨ d = 2 ∨ d = 3 by omega) with rfl | rfl | rfl | rfl
  all_goals
    go_enter Try.func39, Try.ntmps39
    go_wp2
    go_ret
    exact ⟨rfl, rfl⟩
set_option maxHeartbeats 400000 in
theorem implDirTurn_any (k d : Int) (w : World) :
    Calls Try.prog 11 #[.int .i64 k, .int .i64 d] w fun e w' => e = .returned (.int .i64 (turnD k d)) ∧ Below w.heap.size w w' := by
  by_cases hd : d < 0 ∨ 3 < d
  · rw [turnD_out k d hd]
    have hi : inB d 0 3 = false := by simp [inB]; omega
    clear hd
    go_enter Try.func11, Try.ntmps11
    go_wp2_with fail
    refine (dirOk_any _ _).mono ?_
    rintro e w' ⟨rfl, rfl⟩
    go_wp2
    go_ret
    exact ⟨rfl, (by repeat (first | exact Below.refl _ _ | refine Below.alloc ?_ (by first | exact Nat.le_refl _ | (simp; done) | (simp; omega)) _ | refine Below.drew ?_ | refine Below.setCell ?_ (by first | exact Nat.le_refl _ | (simp; done) | (simp; omega)) _))⟩
  · have h0 : 0 ≤ d := by omega
    have h3 : d ≤ 3 := by omega
    have hi : inB d 0 3 = true := by simp [inB, h0, h3]
    rw [turnD_in k d h0 h3]
    by_cases h24 : k = 2 ∨ k = 4
    · have ht : turnF k = 38 := by unfold turnF; rw [if_pos h24]
      rw [if_pos h24]
      clear h24 hd
      go_enter Try.func11, Try.ntmps11
      go_wp2_with fail
      refine (dirOk_any _ _).mono ?_
      rintro e w' ⟨rfl, rfl⟩
      go_wp2_with fail
      refine (turnOf_at k _ ht _).mono ?_
      rintro e w1 ⟨rfl, hb⟩
      go_wp2_with fail
      skip
      refine (bySlash_any d h0 h3 _).mono ?_
      rintro e w' ⟨rfl, rfl⟩
      go_wp2_with fail
      go_ret
      exact ⟨rfl, by first | exact hb | exact hb.drew⟩
    · rw [if_neg h24]
      by_cases h35 : k = 3 ∨ k = 5
      · have ht : turnF k = 39 := by unfold turnF; rw [if_neg h24, if_pos h35]
        rw [if_pos h35]
        clear h24 h35 hd
        go_enter Try.func11, Try.ntmps11
        go_wp2_with fail
        refine (dirOk_any _ _).mono ?_
        rintro e w' ⟨rfl, rfl⟩
        go_wp2_with fail
        refine (turnOf_at k _ ht _).mono ?_
        rintro e w1 ⟨rfl, hb⟩
        go_wp2_with fail
        skip
        refine (byBack_any d h0 h3 _).mono ?_
        rintro e w' ⟨rfl, rfl⟩
        go_wp2_with fail
        go_ret
        exact ⟨rfl, by first | exact hb | exact hb.drew⟩
      · have ht : turnF k = 37 := by unfold turnF; rw [if_neg h24, if_neg h35]
        rw [if_neg h35]
        clear h24 h35 hd
        go_enter Try.func11, Try.ntmps11
        go_wp2_with fail
        refine (dirOk_any _ _).mono ?_
        rintro e w' ⟨rfl, rfl⟩
        go_wp2_with fail
        refine (turnOf_at k _ ht _).mono ?_
        rintro e w1 ⟨rfl, hb⟩
        go_wp2_with fail
        skip
        refine (straight_any d _).mono ?_
        rintro e w' ⟨rfl, rfl⟩
        go_wp2_with fail
        go_ret
        exact ⟨rfl, by first | exact hb | exact hb.drew⟩

set_option maxHeartbeats 400000 in
theorem specDirTurn_any (k d : Int) (w : World) :
    Calls Try.prog 12 #[.int .i64 k, .int .i64 d] w fun e w' => e = .returned (.int .i64 (turnD k d)) ∧ w' = w := by
  by_cases hd : d < 0 ∨ 3 < d
  · rw [turnD_out k d hd]
    have hi : inB d 0 3 = false := by simp [inB]; omega
    clear hd
    go_enter Try.func12, Try.ntmps12
    go_wp2_with (go_at_call 25; refine (l6In_any _ _ _ _).mono ?_; rintro e w' ⟨rfl, rfl⟩)
    go_ret
    exact ⟨rfl, rfl⟩
  · have h0 : 0 ≤ d := by omega
    have h3 : d ≤ 3 := by omega
    have hi : inB d 0 3 = true := by simp [inB, h0, h3]
    rw [turnD_in k d h0 h3]
    by_cases h24 : k = 2 ∨ k = 4
    · rw [if_pos h24]
      clear hd hi
      rcases h24 with rfl | rfl
      all_goals
        rcases (show d = 0 ∨ d = 1 ∨ d = 2 ∨ d = 3 by omega) with rfl | rfl | rfl | rfl
        all_goals
          clear h0 h3
          go_enter Try.func12, Try.ntmps12
          go_wp2
          go_ret
          exact ⟨rfl, rfl⟩
    · rw [if_neg h24]
      by_cases h35 : k = 3 ∨ k = 5
      · rw [if_pos h35]
        clear hd hi h24
        rcases h35 with rfl | rfl
        all_goals
          rcases (show d = 0 ∨ d = 1 ∨ d = 2 ∨ d = 3 by omega) with rfl | rfl | rfl | rfl
          all_goals
            clear h0 h3
            go_enter Try.func12, Try.ntmps12
            go_wp2
            go_ret
            exact ⟨rfl, rfl⟩
      · rw [if_neg h35]
        have n2 : (k == 2) = false := by simp; omega
        have n3 : (k == 3) = false := by simp; omega
        have n4 : (k == 4) = false := by simp; omega
        have n5 : (k == 5) = false := by simp; omega
        clear hd h24 h35
        go_enter Try.func12, Try.ntmps12
        go_wp2_with (go_at_call 25; refine (l6In_any _ _ _ _).mono ?_; rintro e w' ⟨rfl, rfl⟩)
        go_ret
        exact ⟨rfl, rfl⟩
end Go.Proofs.Ytgikknbjmbolaaa
