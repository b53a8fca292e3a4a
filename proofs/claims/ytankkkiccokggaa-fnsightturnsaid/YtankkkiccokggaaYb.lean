/-
  The next place: impl's moves up, right, down, left, their table, and whether a spot lies in a grid.
-/
import Derived.Test.YtankkkiccokggaaYk
import Derived.Test.YtankkkiccokggaaYr
import Derived.Test.YtankkkiccokggaaYq
import Derived.Laws.EntriesVeiled
import Derived.Test.YtankkkiccokggaaGb
import Derived.Test.YtankkkiccokggaaOa
import Derived.Deep.RegionHeld3
import Derived.BigQuiet
namespace Go.Proofs.Ytankkkiccokggaa
open Go.RowKit
set_option linter.unusedVariables false

/-- By how many rows, and columns, a way goes. -/
def dRow (d : Int) : Int := if d = 0 then -1 else if d = 2 then 1 else 0
def dCol (d : Int) : Int := if d = 1 then 1 else if d = 3 then -1 else 0
/-- Whether a spot lies in a grid of so many rows and columns. -/
def inG (r c W H : Int) : Bool := decide (0 ≤ r ∧ r < H ∧ 0 ≤ c ∧ c < W)

set_option maxHeartbeats 400000 in
theorem spot_up (r c : Int) (hr : 0 ≤ r ∧ r ≤ 100) (hc : 0 ≤ c ∧ c ≤ 100) (w : World) :
    Calls Try.prog 69 #[.agg #[.int .i64 r, .int .i64 c]] w fun e w' => e = .returned (.agg #[.int .i64 (r + dRow 0), .int .i64 (c + dCol 0)]) ∧ Below w.heap.size w w' := by
  obtain ⟨r2, er⟩ : ∃ r2, r + dRow 0 = r2 := ⟨_, rfl⟩
  obtain ⟨c2, ec⟩ : ∃ c2, c + dCol 0 = c2 := ⟨_, rfl⟩
  rw [er, ec]
  simp [dRow] at er
  simp [dCol] at ec
  subst er ec
  go_enter Try.func69, Try.ntmps69
  go_wp2
  refine bodyPost_ret (v := .agg #[.int .i64 (r + -1), .int .i64 c]) (by simp [results, Try.results69, go_sem, Int.sub_eq_add_neg]) rfl ⟨rfl, ?_⟩
  exact (by repeat (first | exact Below.refl _ _ | refine Below.alloc ?_ (by first | exact Nat.le_refl _ | (simp; done) | (simp; omega)) _ | refine Below.drew ?_ | refine Below.setCell ?_ (by first | exact Nat.le_refl _ | (simp; done) | (simp; omega)) _))

set_option maxHeartbeats 400000 in
theorem spot_right (r c : Int) (hr : 0 ≤ r ∧ r ≤ 100) (hc : 0 ≤ c ∧ c ≤ 100) (w : World) :
    Calls Try.prog 70 #[.agg #[.int .i64 r, .int .i64 c]] w fun e w' => e = .returned (.agg #[.int .i64 (r + dRow 1), .int .i64 (c + dCol 1)]) ∧ Below w.heap.size w w' := by
  obtain ⟨r2, er⟩ : ∃ r2, r + dRow 1 = r2 := ⟨_, rfl⟩
  obtain ⟨c2, ec⟩ : ∃ c2, c + dCol 1 = c2 := ⟨_, rfl⟩
  rw [er, ec]
  simp [dRow] at er
  simp [dCol] at ec
  subst er ec
  go_enter Try.func70, Try.ntmps70
  go_wp2
  refine bodyPost_ret (v := .agg #[.int .i64 r, .int .i64 (c + 1)]) (by simp [results, Try.results70, go_sem]) rfl ⟨rfl, ?_⟩
  exact (by repeat (first | exact Below.refl _ _ | refine Below.alloc ?_ (by first | exact Nat.le_refl _ | (simp; done) | (simp; omega)) _ | refine Below.drew ?_ | refine Below.setCell ?_ (by first | exact Nat.le_refl _ | (simp; done) | (simp; omega)) _))

set_option maxHeartbeats 400000 in
theorem spot_down (r c : Int) (hr : 0 ≤ r ∧ r ≤ 100) (hc : 0 ≤ c ∧ c ≤ 100) (w : World) :
    Calls Try.prog 71 #[.agg #[.int .i64 r, .int .i64 c]] w fun e w' => e = .returned (.agg #[.int .i64 (r + dRow 2), .int .i64 (c + dCol 2)]) ∧ Below w.heap.size w w' := by
  obtain ⟨r2, er⟩ : ∃ r2, r + dRow 2 = r2 := ⟨_, rfl⟩
  obtain ⟨c2, ec⟩ : ∃ c2, c + dCol 2 = c2 := ⟨_, rfl⟩
  rw [er, ec]
  simp [dRow] at er
  simp [dCol] at ec
  subst er ec
  go_enter Try.func71, Try.ntmps71
  go_wp2
  refine bodyPost_ret (v := .agg #[.int .i64 (r + 1), .int .i64 c]) (by simp [results, Try.results71, go_sem]) rfl ⟨rfl, ?_⟩
  exact (by repeat (first | exact Below.refl _ _ | refine Below.alloc ?_ (by first | exact Nat.le_refl _ | (simp; done) | (simp; omega)) _ | refine Below.drew ?_ | refine Below.setCell ?_ (by first | exact Nat.le_refl _ | (simp; done) | (simp; omega)) _))

set_option maxHeartbeats 400000 in
theorem spot_left (r c : Int) (hr : 0 ≤ r ∧ r ≤ 100) (hc : 0 ≤ c ∧ c ≤ 100) (w : World) :
    Calls Try.prog 72 #[.agg #[.int .i64 r, .int .i64 c]] w fun e w' => e = .returned (.agg #[.int .i64 (r + dRow 3), .int .i64 (c + dCol 3)]) ∧ Below w.heap.size w w' := by
  obtain ⟨r2, er⟩ : ∃ r2, r + dRow 3 = r2 := ⟨_, rfl⟩
  obtain ⟨c2, ec⟩ : ∃ c2, c + dCol 3 = c2 := ⟨_, rfl⟩
  rw [er, ec]
  simp [dRow] at er
  simp [dCol] at ec
  subst er ec
  go_enter Try.func72, Try.ntmps72
  go_wp2
  refine bodyPost_ret (v := .agg #[.int .i64 r, .int .i64 (c + -1)]) (by simp [results, Try.results72, go_sem, Int.sub_eq_add_neg]) rfl ⟨rfl, ?_⟩
  exact (by repeat (first | exact Below.refl _ _ | refine Below.alloc ?_ (by first | exact Nat.le_refl _ | (simp; done) | (simp; omega)) _ | refine Below.drew ?_ | refine Below.setCell ?_ (by first | exact Nat.le_refl _ | (simp; done) | (simp; omega)) _))

set_option maxHeartbeats 400000 in
theorem steps_any (w : World) :
    Calls Try.prog 47 #[] w fun e w' => e = .returned (.agg #[.func (.func 69) #[] #[], .func (.func 70) #[] #[], .func (.func 71) #[] #[], .func (.func 72) #[] #[]]) ∧ Below w.heap.size w w' := by
  go_enter Try.func47, Try.ntmps47
  go_wp2
  refine bodyPost_ret (v := .agg #[.func (.func 69) #[] #[], .func (.func 70) #[] #[], .func (.func 71) #[] #[], .func (.func 72) #[] #[]]) (by simp [results, Try.results47, go_sem]) rfl ⟨rfl, ?_⟩
  exact (by repeat (first | exact Below.refl _ _ | refine Below.alloc ?_ (by first | exact Nat.le_refl _ | (simp; done) | (simp; omega)) _ | refine Below.drew ?_ | refine Below.setCell ?_ (by first | exact Nat.le_refl _ | (simp; done) | (simp; omega)) _))

set_option maxHeartbeats 8000000 in
theorem isIn_any (r c : Int) (W H : Nat) (a : Option Addr) (n cap : Nat) (w : World) (hW : 1 ≤ W) (hn : n ≤ 1048576) (hH : n / W = H) (hr : -1 ≤ r ∧ r ≤ 101) (hc : -1 ≤ c ∧ c ≤ 101) :
    Calls Try.prog 48 #[.agg #[.int .i64 r, .int .i64 c], .agg #[.int .i64 (W : Int), .slice a n cap]] w fun e w' => e = .returned (.bool (inG r c W H)) ∧ Below w.heap.size w w' := by
  have HH : Hid (n / W = H) := hH
  clear hH
  by_cases g0 : r < 0
  · have hv : inG r c W H = false := by simp [inG]; omega
    have f1 : decide (0 ≤ r) = false := by simp; omega
    rw [hv]
    clear hv g0
    go_enter Try.func48, Try.ntmps48
    go_wp2
    go_quiet (fail)
    go_wp2
    go_ret
    exact ⟨rfl, (fun h => ⟨h.os, h.tape, h.output, h.size, h.block⟩ : Below w.heap.size w ((w.alloc (.cells #[.int .i64 r, .int .i64 c] 72)).alloc (.cells #[.int .i64 (W : Int), .slice a n cap] 25)) → _) (by repeat (first | exact Below.refl _ _ | refine Below.alloc ?_ (by first | exact Nat.le_refl _ | (simp; done) | (simp; omega)) _ | refine Below.drew ?_ | refine Below.setCell ?_ (by first | exact Nat.le_refl _ | (simp; done) | (simp; omega)) _))⟩
  · skip
    by_cases g1 : (H : Int) ≤ r
    · have hv : inG r c W H = false := by simp [inG]; omega
      have f1 : decide (0 ≤ r) = true := by simp; omega
      have f2 : decide (r < (H : Int)) = false := by simp; omega
      rw [hv]
      clear hv g0 g1
      obtain ⟨w0, hw0⟩ : ∃ w0, w0 = (w.alloc (.cells #[.int .i64 r, .int .i64 c] 72)).alloc (.cells #[.int .i64 (W : Int), .slice a n cap] 25) := ⟨_, rfl⟩
      have hb0 : Below w.heap.size w w0 := by rw [hw0]; exact (by repeat (first | exact Below.refl _ _ | refine Below.alloc ?_ (by first | exact Nat.le_refl _ | (simp; done) | (simp; omega)) _ | refine Below.drew ?_ | refine Below.setCell ?_ (by first | exact Nat.le_refl _ | (simp; done) | (simp; omega)) _))
      have s0 : w0.cell? ⟨w.heap.size, 0, none⟩ = some (.int .i64 r) := by rw [hw0]; simp [go_sem]
      have s1 : w0.cell? ⟨w.heap.size, 1, none⟩ = some (.int .i64 c) := by rw [hw0]; simp [go_sem]
      have g0 : w0.cell? ⟨w.heap.size + 1, 0, none⟩ = some (.int .i64 (W : Int)) := by rw [hw0]; simp [go_sem]
      have g1 : w0.cell? ⟨w.heap.size + 1, 1, none⟩ = some (.slice a n cap) := by rw [hw0]; simp [go_sem]
      go_enter Try.func48, Try.ntmps48
      go_wp2
      rw [← hw0]
      clear hw0
      first
        | (go_region_with
            (first
              | (go_at_call 59; refine (rowsI_any W H _ _ _ _ hW hn HH.out).mono ?_; rintro e w6 ⟨rfl, hb6'⟩; have hb6 : Below w0.heap.size w0 w6 := (by first | with_reducible exact hb6' | with_reducible exact bdrew hb6'); have s06 := keepc hb6 s0; have s16 := keepc hb6 s1; have g06 := keepc hb6 g0; have g16 := keepc hb6 g1)))
        | fail
      all_goals
        have hBf := bcall hb0 hb0.size hb6
        go_wp2
        go_ret
        exact ⟨rfl, by first | exact hBf | exact hBf.drew⟩
    · skip
      by_cases g2 : c < 0
      · have hv : inG r c W H = false := by simp [inG]; omega
        have f1 : decide (0 ≤ r) = true := by simp; omega
        have f2 : decide (r < (H : Int)) = true := by simp; omega
        have f3 : decide (0 ≤ c) = false := by simp; omega
        rw [hv]
        clear hv g0 g1 g2
        obtain ⟨w0, hw0⟩ : ∃ w0, w0 = (w.alloc (.cells #[.int .i64 r, .int .i64 c] 72)).alloc (.cells #[.int .i64 (W : Int), .slice a n cap] 25) := ⟨_, rfl⟩
        have hb0 : Below w.heap.size w w0 := by rw [hw0]; exact (by repeat (first | exact Below.refl _ _ | refine Below.alloc ?_ (by first | exact Nat.le_refl _ | (simp; done) | (simp; omega)) _ | refine Below.drew ?_ | refine Below.setCell ?_ (by first | exact Nat.le_refl _ | (simp; done) | (simp; omega)) _))
        have s0 : w0.cell? ⟨w.heap.size, 0, none⟩ = some (.int .i64 r) := by rw [hw0]; simp [go_sem]
        have s1 : w0.cell? ⟨w.heap.size, 1, none⟩ = some (.int .i64 c) := by rw [hw0]; simp [go_sem]
        have g0 : w0.cell? ⟨w.heap.size + 1, 0, none⟩ = some (.int .i64 (W : Int)) := by rw [hw0]; simp [go_sem]
        have g1 : w0.cell? ⟨w.heap.size + 1, 1, none⟩ = some (.slice a n cap) := by rw [hw0]; simp [go_sem]
        go_enter Try.func48, Try.ntmps48
        go_wp2
        rw [← hw0]
        clear hw0
        first
          | (go_region_with
              (first
                | (go_at_call 59; refine (rowsI_any W H _ _ _ _ hW hn HH.out).mono ?_; rintro e w6 ⟨rfl, hb6'⟩; have hb6 : Below w0.heap.size w0 w6 := (by first | with_reducible exact hb6' | with_reducible exact bdrew hb6'); have s06 := keepc hb6 s0; have s16 := keepc hb6 s1; have g06 := keepc hb6 g0; have g16 := keepc hb6 g1)))
          | fail
        all_goals
          have hBf := bcall hb0 hb0.size hb6
          go_wp2
          go_ret
          exact ⟨rfl, by first | exact hBf | exact hBf.drew⟩
      · skip
        by_cases g3 : (W : Int) ≤ c
        · have hv : inG r c W H = false := by simp [inG]; omega
          have f1 : decide (0 ≤ r) = true := by simp; omega
          have f2 : decide (r < (H : Int)) = true := by simp; omega
          have f3 : decide (0 ≤ c) = true := by simp; omega
          have f4 : decide (c < (W : Int)) = false := by simp; omega
          rw [hv]
          clear hv g0 g1 g2 g3
          obtain ⟨w0, hw0⟩ : ∃ w0, w0 = (w.alloc (.cells #[.int .i64 r, .int .i64 c] 72)).alloc (.cells #[.int .i64 (W : Int), .slice a n cap] 25) := ⟨_, rfl⟩
          have hb0 : Below w.heap.size w w0 := by rw [hw0]; exact (by repeat (first | exact Below.refl _ _ | refine Below.alloc ?_ (by first | exact Nat.le_refl _ | (simp; done) | (simp; omega)) _ | refine Below.drew ?_ | refine Below.setCell ?_ (by first | exact Nat.le_refl _ | (simp; done) | (simp; omega)) _))
          have s0 : w0.cell? ⟨w.heap.size, 0, none⟩ = some (.int .i64 r) := by rw [hw0]; simp [go_sem]
          have s1 : w0.cell? ⟨w.heap.size, 1, none⟩ = some (.int .i64 c) := by rw [hw0]; simp [go_sem]
          have g0 : w0.cell? ⟨w.heap.size + 1, 0, none⟩ = some (.int .i64 (W : Int)) := by rw [hw0]; simp [go_sem]
          have g1 : w0.cell? ⟨w.heap.size + 1, 1, none⟩ = some (.slice a n cap) := by rw [hw0]; simp [go_sem]
          go_enter Try.func48, Try.ntmps48
          go_wp2
          rw [← hw0]
          clear hw0
          go_region_held3 (fun w' => w'.cell? ⟨w.heap.size, 0, none⟩ = some (.int .i64 r) ∧ w'.cell? ⟨w.heap.size, 1, none⟩ = some (.int .i64 c) ∧ w'.cell? ⟨w.heap.size + 1, 0, none⟩ = some (.int .i64 (W : Int)) ∧ w'.cell? ⟨w.heap.size + 1, 1, none⟩ = some (.slice a n cap))
            (first
              | with_reducible exact ⟨keepc hb6 s0, keepc hb6 s1, keepc hb6 g0, keepc hb6 g1⟩
              | go_keep)
            (first
              | (go_at_call 59; refine (rowsI_any W H _ _ _ _ hW hn HH.out).mono ?_; rintro e w6 ⟨rfl, hb6'⟩; have hb6 : Below w0.heap.size w0 w6 := (by first | with_reducible exact hb6' | with_reducible exact bdrew hb6')))
          have hBf := bcall hb0 hb0.size hb6
          go_wp2
          go_ret
          exact ⟨rfl, hBf⟩
        · skip
          have hv : inG r c W H = true := by simp [inG]; omega
          have f1 : decide (0 ≤ r) = true := by simp; omega
          have f2 : decide (r < (H : Int)) = true := by simp; omega
          have f3 : decide (0 ≤ c) = true := by simp; omega
          have f4 : decide (c < (W : Int)) = true := by simp; omega
          rw [hv]
          clear hv g0 g1 g2 g3
          obtain ⟨w0, hw0⟩ : ∃ w0, w0 = (w.alloc (.cells #[.int .i64 r, .int .i64 c] 72)).alloc (.cells #[.int .i64 (W : Int), .slice a n cap] 25) := ⟨_, rfl⟩
          have hb0 : Below w.heap.size w w0 := by rw [hw0]; exact (by repeat (first | exact Below.refl _ _ | refine Below.alloc ?_ (by first | exact Nat.le_refl _ | (simp; done) | (simp; omega)) _ | refine Below.drew ?_ | refine Below.setCell ?_ (by first | exact Nat.le_refl _ | (simp; done) | (simp; omega)) _))
          have s0 : w0.cell? ⟨w.heap.size, 0, none⟩ = some (.int .i64 r) := by rw [hw0]; simp [go_sem]
          have s1 : w0.cell? ⟨w.heap.size, 1, none⟩ = some (.int .i64 c) := by rw [hw0]; simp [go_sem]
          have g0 : w0.cell? ⟨w.heap.size + 1, 0, none⟩ = some (.int .i64 (W : Int)) := by rw [hw0]; simp [go_sem]
          have g1 : w0.cell? ⟨w.heap.size + 1, 1, none⟩ = some (.slice a n cap) := by rw [hw0]; simp [go_sem]
          go_enter Try.func48, Try.ntmps48
          go_wp2
          rw [← hw0]
          clear hw0
          go_region_held3 (fun w' => w'.cell? ⟨w.heap.size, 0, none⟩ = some (.int .i64 r) ∧ w'.cell? ⟨w.heap.size, 1, none⟩ = some (.int .i64 c) ∧ w'.cell? ⟨w.heap.size + 1, 0, none⟩ = some (.int .i64 (W : Int)) ∧ w'.cell? ⟨w.heap.size + 1, 1, none⟩ = some (.slice a n cap))
            (first
              | with_reducible exact ⟨keepc hb6 s0, keepc hb6 s1, keepc hb6 g0, keepc hb6 g1⟩
              | go_keep)
            (first
              | (go_at_call 59; refine (rowsI_any W H _ _ _ _ hW hn HH.out).mono ?_; rintro e w6 ⟨rfl, hb6'⟩; have hb6 : Below w0.heap.size w0 w6 := (by first | with_reducible exact hb6' | with_reducible exact bdrew hb6')))
          have hBf := bcall hb0 hb0.size hb6
          go_wp2
          go_ret
          exact ⟨rfl, hBf⟩

end Go.Proofs.Ytankkkiccokggaa
