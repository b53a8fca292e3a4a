/-
  Several texts in one: Yb, Yc, Yp.
-/
import Derived.Test.YtmnninhifiajhaaJa
import Derived.Laws.EntriesVeiled
import Derived.Deep.RegionHeld3
import Derived.BigQuiet
import Derived.Deep.DeepCutAuto

/-
  The next place: impl's moves up, right, down, left, their table, and whether a spot lies in a grid.
-/
namespace Go.Proofs.Ytmnninhifiajhaa
open Go.RowKit
set_option linter.unusedVariables false

/-- By how many rows, and columns, a way goes. -/
def dRow (d : Int) : Int := if d = 0 then -1 else if d = 2 then 1 else 0
def dCol (d : Int) : Int := if d = 1 then 1 else if d = 3 then -1 else 0
/-- Whether a spot lies in a grid of so many rows and columns. -/
def inG (r c W H : Int) : Bool := decide (0 ≤ r ∧ r < H ∧ 0 ≤ c ∧ c < W)

set_option maxHeartbeats 400000 in
theorem spot_up (r c : Int) (hr : 0 ≤ r ∧ r ≤ 100) (hc : 0 ≤ c ∧ c ≤ 100) (w : World) :
    Calls Try.prog 117 #[.agg #[.int .i64 r, .int .i64 c]] w fun e w' => e = .returned (.agg #[.int .i64 (r + dRow 0), .int .i64 (c + dCol 0)]) ∧ Below w.heap.size w w' := by
  obtain ⟨r2, er⟩ : ∃ r2, r + dRow 0 = r2 := ⟨_, rfl⟩
  obtain ⟨c2, ec⟩ : ∃ c2, c + dCol 0 = c2 := ⟨_, rfl⟩
  rw [er, ec]
  simp [dRow] at er
  simp [dCol] at ec
  subst er ec
  go_enter Try.func117, Try.ntmps117
  go_wp2
  refine bodyPost_ret (v := .agg #[.int .i64 (r + -1), .int .i64 c]) (by simp [results, Try.results117, go_sem, Int.sub_eq_add_neg]) rfl ⟨rfl, ?_⟩
  exact (by repeat (first | exact Below.refl _ _ | refine Below.alloc ?_ (by first | exact Nat.le_refl _ | (simp; done) | (simp; omega)) _ | refine Below.drew ?_ | refine Below.setCell ?_ (by first | exact Nat.le_refl _ | (simp; done) | (simp; omega)) _))

set_option maxHeartbeats 400000 in
theorem spot_right (r c : Int) (hr : 0 ≤ r ∧ r ≤ 100) (hc : 0 ≤ c ∧ c ≤ 100) (w : World) :
    Calls Try.prog 118 #[.agg #[.int .i64 r, .int .i64 c]] w fun e w' => e = .returned (.agg #[.int .i64 (r + dRow 1), .int .i64 (c + dCol 1)]) ∧ Below w.heap.size w w' := by
  obtain ⟨r2, er⟩ : ∃ r2, r + dRow 1 = r2 := ⟨_, rfl⟩
  obtain ⟨c2, ec⟩ : ∃ c2, c + dCol 1 = c2 := ⟨_, rfl⟩
  rw [er, ec]
  simp [dRow] at er
  simp [dCol] at ec
  subst er ec
  go_enter Try.func118, Try.ntmps118
  go_wp2
  refine bodyPost_ret (v := .agg #[.int .i64 r, .int .i64 (c + 1)]) (by simp [results, Try.results118, go_sem]) rfl ⟨rfl, ?_⟩
  exact (by repeat (first | exact Below.refl _ _ | refine Below.alloc ?_ (by first | exact Nat.le_refl _ | (simp; done) | (simp; omega)) _ | refine Below.drew ?_ | refine Below.setCell ?_ (by first | exact Nat.le_refl _ | (simp; done) | (simp; omega)) _))

set_option maxHeartbeats 400000 in
theorem spot_down (r c : Int) (hr : 0 ≤ r ∧ r ≤ 100) (hc : 0 ≤ c ∧ c ≤ 100) (w : World) :
    Calls Try.prog 119 #[.agg #[.int .i64 r, .int .i64 c]] w fun e w' => e = .returned (.agg #[.int .i64 (r + dRow 2), .int .i64 (c + dCol 2)]) ∧ Below w.heap.size w w' := by
  obtain ⟨r2, er⟩ : ∃ r2, r + dRow 2 = r2 := ⟨_, rfl⟩
  obtain ⟨c2, ec⟩ : ∃ c2, c + dCol 2 = c2 := ⟨_, rfl⟩
  rw [er, ec]
  simp [dRow] at er
  simp [dCol] at ec
  subst er ec
  go_enter Try.func119, Try.ntmps119
  go_wp2
  refine bodyPost_ret (v := .agg #[.int .i64 (r + 1), .int .i64 c]) (by simp [results, Try.results119, go_sem]) rfl ⟨rfl, ?_⟩
  exact (by repeat (first | exact Below.refl _ _ | refine Below.alloc ?_ (by first | exact Nat.le_refl _ | (simp; done) | (simp; omega)) _ | refine Below.drew ?_ | refine Below.setCell ?_ (by first | exact Nat.le_refl _ | (simp; done) | (simp; omega)) _))

set_option maxHeartbeats 400000 in
theorem spot_left (r c : Int) (hr : 0 ≤ r ∧ r ≤ 100) (hc : 0 ≤ c ∧ c ≤ 100) (w : World) :
    Calls Try.prog 120 #[.agg #[.int .i64 r, .int .i64 c]] w fun e w' => e = .returned (.agg #[.int .i64 (r + dRow 3), .int .i64 (c + dCol 3)]) ∧ Below w.heap.size w w' := by
  obtain ⟨r2, er⟩ : ∃ r2, r + dRow 3 = r2 := ⟨_, rfl⟩
  obtain ⟨c2, ec⟩ : ∃ c2, c + dCol 3 = c2 := ⟨_, rfl⟩
  rw [er, ec]
  simp [dRow] at er
  simp [dCol] at ec
  subst er ec
  go_enter Try.func120, Try.ntmps120
  go_wp2
  refine bodyPost_ret (v := .agg #[.int .i64 r, .int .i64 (c + -1)]) (by simp [results, Try.results120, go_sem, Int.sub_eq_add_neg]) rfl ⟨rfl, ?_⟩
  exact (by repeat (first | exact Below.refl _ _ | refine Below.alloc ?_ (by first | exact Nat.le_refl _ | (simp; done) | (simp; omega)) _ | refine Below.drew ?_ | refine Below.setCell ?_ (by first | exact Nat.le_refl _ | (simp; done) | (simp; omega)) _))

set_option maxHeartbeats 400000 in
theorem steps_any (w : World) :
    Calls Try.prog 108 #[] w fun e w' => e = .returned (.agg #[.func (.func 117) #[] #[], .func (.func 118) #[] #[], .func (.func 119) #[] #[], .func (.func 120) #[] #[]]) ∧ Below w.heap.size w w' := by
  go_enter Try.func108, Try.ntmps108
  go_wp2
  refine bodyPost_ret (v := .agg #[.func (.func 117) #[] #[], .func (.func 118) #[] #[], .func (.func 119) #[] #[], .func (.func 120) #[] #[]]) (by simp [results, Try.results108, go_sem]) rfl ⟨rfl, ?_⟩
  exact (by repeat (first | exact Below.refl _ _ | refine Below.alloc ?_ (by first | exact Nat.le_refl _ | (simp; done) | (simp; omega)) _ | refine Below.drew ?_ | refine Below.setCell ?_ (by first | exact Nat.le_refl _ | (simp; done) | (simp; omega)) _))

set_option maxHeartbeats 8000000 in
theorem isIn_any (r c : Int) (W H : Nat) (a : Option Addr) (n cap : Nat) (w : World) (hW : 1 ≤ W) (hn : n ≤ 1048576) (hH : n / W = H) (hr : -1 ≤ r ∧ r ≤ 101) (hc : -1 ≤ c ∧ c ≤ 101) :
    Calls Try.prog 109 #[.agg #[.int .i64 r, .int .i64 c], .agg #[.int .i64 (W : Int), .slice a n cap]] w fun e w' => e = .returned (.bool (inG r c W H)) ∧ Below w.heap.size w w' := by
  have HH : Hid (n / W = H) := hH
  clear hH
  by_cases g0 : r < 0
  · have hv : inG r c W H = false := by simp [inG]; omega
    have f1 : decide (0 ≤ r) = false := by simp; omega
    rw [hv]
    clear hv g0
    go_enter Try.func109, Try.ntmps109
    go_wp2
    go_quiet (fail)
    go_wp2
    go_ret
    exact ⟨rfl, (fun h => ⟨h.os, h.tape, h.output, h.size, h.block⟩ : Below w.heap.size w ((w.alloc (.cells #[.int .i64 r, .int .i64 c] 149)).alloc (.cells #[.int .i64 (W : Int), .slice a n cap] 25)) → _) (by repeat (first | exact Below.refl _ _ | refine Below.alloc ?_ (by first | exact Nat.le_refl _ | (simp; done) | (simp; omega)) _ | refine Below.drew ?_ | refine Below.setCell ?_ (by first | exact Nat.le_refl _ | (simp; done) | (simp; omega)) _))⟩
  · skip
    by_cases g1 : (H : Int) ≤ r
    · have hv : inG r c W H = false := by simp [inG]; omega
      have f1 : decide (0 ≤ r) = true := by simp; omega
      have f2 : decide (r < (H : Int)) = false := by simp; omega
      rw [hv]
      clear hv g0 g1
      obtain ⟨w0, hw0⟩ : ∃ w0, w0 = (w.alloc (.cells #[.int .i64 r, .int .i64 c] 149)).alloc (.cells #[.int .i64 (W : Int), .slice a n cap] 25) := ⟨_, rfl⟩
      have hb0 : Below w.heap.size w w0 := by rw [hw0]; exact (by repeat (first | exact Below.refl _ _ | refine Below.alloc ?_ (by first | exact Nat.le_refl _ | (simp; done) | (simp; omega)) _ | refine Below.drew ?_ | refine Below.setCell ?_ (by first | exact Nat.le_refl _ | (simp; done) | (simp; omega)) _))
      have s0 : w0.cell? ⟨w.heap.size, 0, none⟩ = some (.int .i64 r) := by rw [hw0]; simp [go_sem]
      have s1 : w0.cell? ⟨w.heap.size, 1, none⟩ = some (.int .i64 c) := by rw [hw0]; simp [go_sem]
      have g0 : w0.cell? ⟨w.heap.size + 1, 0, none⟩ = some (.int .i64 (W : Int)) := by rw [hw0]; simp [go_sem]
      have g1 : w0.cell? ⟨w.heap.size + 1, 1, none⟩ = some (.slice a n cap) := by rw [hw0]; simp [go_sem]
      go_enter Try.func109, Try.ntmps109
      go_wp2
      rw [← hw0]
      clear hw0
      first
        | (go_region_with
            (first
              | (go_at_call 58; refine (rowsI_any W H _ _ _ _ hW hn HH.out).mono ?_; rintro e w6 ⟨rfl, hb6'⟩; have hb6 : Below w0.heap.size w0 w6 := (by first | with_reducible exact hb6' | with_reducible exact bdrew hb6'); have s06 := keepc hb6 s0; have s16 := keepc hb6 s1; have g06 := keepc hb6 g0; have g16 := keepc hb6 g1)))
        | fail
      all_goals
        have hBf := bcall hb0 hb0.size hb6
        go_wp2
        go_ret
        exact ⟨rfl, by first | exact hBf | exact hBf.drew⟩
    · skip
      by_cases g2 : c < 0
      · have hv : inG r c W H = false := by simp [inG]; omega
        have f1 : decide (0 ≤ r) = true := by simp; omega
        have f2 : decide (r < (H : Int)) = true := by simp; omega
        have f3 : decide (0 ≤ c) = false := by simp; omega
        rw [hv]
        clear hv g0 g1 g2
        obtain ⟨w0, hw0⟩ : ∃ w0, w0 = (w.alloc (.cells #[.int .i64 r, .int .i64 c] 149)).alloc (.cells #[.int .i64 (W : Int), .slice a n cap] 25) := ⟨_, rfl⟩
        have hb0 : Below w.heap.size w w0 := by rw [hw0]; exact (by repeat (first | exact Below.refl _ _ | refine Below.alloc ?_ (by first | exact Nat.le_refl _ | (simp; done) | (simp; omega)) _ | refine Below.drew ?_ | refine Below.setCell ?_ (by first | exact Nat.le_refl _ | (simp; done) | (simp; omega)) _))
        have s0 : w0.cell? ⟨w.heap.size, 0, none⟩ = some (.int .i64 r) := by rw [hw0]; simp [go_sem]
        have s1 : w0.cell? ⟨w.heap.size, 1, none⟩ = some (.int .i64 c) := by rw [hw0]; simp [go_sem]
        have g0 : w0.cell? ⟨w.heap.size + 1, 0, none⟩ = some (.int .i64 (W : Int)) := by rw [hw0]; simp [go_sem]
        have g1 : w0.cell? ⟨w.heap.size + 1, 1, none⟩ = some (.slice a n cap) := by rw [hw0]; simp [go_sem]
        go_enter Try.func109, Try.ntmps109
        go_wp2
        rw [← hw0]
        clear hw0
        first
          | (go_region_with
              (first
                | (go_at_call 58; refine (rowsI_any W H _ _ _ _ hW hn HH.out).mono ?_; rintro e w6 ⟨rfl, hb6'⟩; have hb6 : Below w0.heap.size w0 w6 := (by first | with_reducible exact hb6' | with_reducible exact bdrew hb6'); have s06 := keepc hb6 s0; have s16 := keepc hb6 s1; have g06 := keepc hb6 g0; have g16 := keepc hb6 g1)))
          | fail
        all_goals
          have hBf := bcall hb0 hb0.size hb6
          go_wp2
          go_ret
          exact ⟨rfl, by first | exact hBf | exact hBf.drew⟩
      · skip
        by_cases g3 : (W : Int) ≤ c
        · have hv : inG r c W H = false := by simp [inG]; omega
          have f1 : decide (0 ≤ r) = true := by simp; omega
          have f2 : decide (r < (H : Int)) = true := by simp; omega
          have f3 : decide (0 ≤ c) = true := by simp; omega
          have f4 : decide (c < (W : Int)) = false := by simp; omega
          rw [hv]
          clear hv g0 g1 g2 g3
          obtain ⟨w0, hw0⟩ : ∃ w0, w0 = (w.alloc (.cells #[.int .i64 r, .int .i64 c] 149)).alloc (.cells #[.int .i64 (W : Int), .slice a n cap] 25) := ⟨_, rfl⟩
          have hb0 : Below w.heap.size w w0 := by rw [hw0]; exact (by repeat (first | exact Below.refl _ _ | refine Below.alloc ?_ (by first | exact Nat.le_refl _ | (simp; done) | (simp; omega)) _ | refine Below.drew ?_ | refine Below.setCell ?_ (by first | exact Nat.le_refl _ | (simp; done) | (simp; omega)) _))
          have s0 : w0.cell? ⟨w.heap.size, 0, none⟩ = some (.int .i64 r) := by rw [hw0]; simp [go_sem]
          have s1 : w0.cell? ⟨w.heap.size, 1, none⟩ = some (.int .i64 c) := by rw [hw0]; simp [go_sem]
          have g0 : w0.cell? ⟨w.heap.size + 1, 0, none⟩ = some (.int .i64 (W : Int)) := by rw [hw0]; simp [go_sem]
          have g1 : w0.cell? ⟨w.heap.size + 1, 1, none⟩ = some (.slice a n cap) := by rw [hw0]; simp [go_sem]
          go_enter Try.func109, Try.ntmps109
          go_wp2
          rw [← hw0]
          clear hw0
          go_region_held3 (fun w' => w'.cell? ⟨w.heap.size, 0, none⟩ = some (.int .i64 r) ∧ w'.cell? ⟨w.heap.size, 1, none⟩ = some (.int .i64 c) ∧ w'.cell? ⟨w.heap.size + 1, 0, none⟩ = some (.int .i64 (W : Int)) ∧ w'.cell? ⟨w.heap.size + 1, 1, none⟩ = some (.slice a n cap))
            (first
              | with_reducible exact ⟨keepc hb6 s0, keepc hb6 s1, keepc hb6 g0, keepc hb6 g1⟩
              | go_keep)
            (first
              | (go_at_call 58; refine (rowsI_any W H _ _ _ _ hW hn HH.out).mono ?_; rintro e w6 ⟨rfl, hb6'⟩; have hb6 : Below w0.heap.size w0 w6 := (by first | with_reducible exact hb6' | with_reducible exact bdrew hb6')))
          have hBf := bcall hb0 hb0.size hb6
          go_wp2
          go_ret
          exact ⟨rfl, hBf⟩
        · skip
          have hv : inG r c W H = true := by simp [inG]; omega
          have f1 : decide (0 ≤ r) = true := by simp; omega
          have f2 : decide (r < (H : Int)) = true := by simp; omega
          have f3 : decide (0 ≤ c) = true := by simp; omega
          have f4 : decide (c < (W : Int)) = true := by simp; omega
          rw [hv]
          clear hv g0 g1 g2 g3
          obtain ⟨w0, hw0⟩ : ∃ w0, w0 = (w.alloc (.cells #[.int .i64 r, .int .i64 c] 149)).alloc (.cells #[.int .i64 (W : Int), .slice a n cap] 25) := ⟨_, rfl⟩
          have hb0 : Below w.heap.size w w0 := by rw [hw0]; exact (by repeat (first | exact Below.refl _ _ | refine Below.alloc ?_ (by first | exact Nat.le_refl _ | (simp; done) | (simp; omega)) _ | refine Below.drew ?_ | refine Below.setCell ?_ (by first | exact Nat.le_refl _ | (simp; done) | (simp; omega)) _))
          have s0 : w0.cell? ⟨w.heap.size, 0, none⟩ = some (.int .i64 r) := by rw [hw0]; simp [go_sem]
          have s1 : w0.cell? ⟨w.heap.size, 1, none⟩ = some (.int .i64 c) := by rw [hw0]; simp [go_sem]
          have g0 : w0.cell? ⟨w.heap.size + 1, 0, none⟩ = some (.int .i64 (W : Int)) := by rw [hw0]; simp [go_sem]
          have g1 : w0.cell? ⟨w.heap.size + 1, 1, none⟩ = some (.slice a n cap) := by rw [hw0]; simp [go_sem]
          go_enter Try.func109, Try.ntmps109
          go_wp2
          rw [← hw0]
          clear hw0
          go_region_held3 (fun w' => w'.cell? ⟨w.heap.size, 0, none⟩ = some (.int .i64 r) ∧ w'.cell? ⟨w.heap.size, 1, none⟩ = some (.int .i64 c) ∧ w'.cell? ⟨w.heap.size + 1, 0, none⟩ = some (.int .i64 (W : Int)) ∧ w'.cell? ⟨w.heap.size + 1, 1, none⟩ = some (.slice a n cap))
            (first
              | with_reducible exact ⟨keepc hb6 s0, keepc hb6 s1, keepc hb6 g0, keepc hb6 g1⟩
              | go_keep)
            (first
              | (go_at_call 58; refine (rowsI_any W H _ _ _ _ hW hn HH.out).mono ?_; rintro e w6 ⟨rfl, hb6'⟩; have hb6 : Below w0.heap.size w0 w6 := (by first | with_reducible exact hb6' | with_reducible exact bdrew hb6')))
          have hBf := bcall hb0 hb0.size hb6
          go_wp2
          go_ret
          exact ⟨rfl, hBf⟩

end Go.Proofs.Ytmnninhifiajhaa

/-
  impl.RayNext answers what the plain function 'rayN' says of a grid, a place and a way.
-/
namespace Go.Proofs.Ytmnninhifiajhaa
open Go.RowKit
set_option linter.unusedVariables false

/-- Light that leaves a cell, as it comes into the next one. -/
def rayN (wd : Int) (cs : List (Int × Int)) (x d : Int) : Int × Int × Bool :=
  if okG wd cs = true ∧ (0 ≤ x ∧ x < cs.length) ∧ (0 ≤ d ∧ d ≤ 3) ∧ inG (x / wd + dRow d) (x % wd + dCol d) wd ((cs.length : Int) / wd) = true then ((x / wd + dRow d) * wd + (x % wd + dCol d), d, true) else (0, 0, false)
/-- The same as a value. -/
def rayV (p : Int × Int × Bool) : Value := .tuple #[.agg #[.int .i64 p.1, .int .i64 p.2.1], .bool p.2.2]
theorem shapeG {wd : Int} {cs : List (Int × Int)} (h : okG wd cs = true) : ∃ W H : Nat, wd = (W : Int) ∧ 1 ≤ W ∧ W ≤ 5 ∧ 1 ≤ H ∧ H ≤ 5 ∧ cs.length = W * H ∧ cs.length / W = H ∧ (cs.length : Int) / (W : Int) = (H : Int) ∧ cs.length ≤ 25 := by
  have hs : sizeG wd cs.length = true := by unfold okG at h; simp only [Bool.and_eq_true] at h; exact h.1
  simp only [sizeG, decide_eq_true_eq] at hs
  obtain ⟨h1, h2, h3, h4, h5⟩ := hs
  obtain ⟨W, rfl⟩ : ∃ W : Nat, wd = (W : Int) := ⟨wd.toNat, by omega⟩
  obtain ⟨H, eH⟩ : ∃ H : Nat, (cs.length : Int) / (W : Int) = (H : Int) := ⟨((cs.length : Int) / (W : Int)).toNat, by omega⟩
  rw [eH] at h4 h5
  have e2 : (cs.length : Int) = (W : Int) * (H : Int) := by
    have := Int.mul_ediv_add_emod (cs.length : Int) (W : Int)
    rw [eH, h3] at this
    omega
  have e3 : cs.length = W * H := by exact_mod_cast e2
  refine ⟨W, H, rfl, by omega, by omega, by omega, by omega, e3, ?_, eH, ?_⟩
  · rw [e3]; exact Nat.mul_div_cancel_left H (by omega)
  · rw [e3]; exact Nat.le_trans (Nat.mul_le_mul (show W ≤ 5 by omega) (show H ≤ 5 by omega)) (by omega)

/-- A box that holds a spot, made behind w0. -/
def SpotAt (w0 wc : World) (blk : Nat) (r c : Int) : Prop := w0.heap.size ≤ blk ∧ wc.cell? ⟨blk, 0, none⟩ = some (.int .i64 r) ∧ wc.cell? ⟨blk, 1, none⟩ = some (.int .i64 c) ∧ Below w0.heap.size w0 wc
theorem spot_new {w0 wa : World} (h : Below w0.heap.size w0 wa) (r c : Int) : SpotAt w0 (wa.alloc (.cells #[.int .i64 r, .int .i64 c] 149)) wa.heap.size r c :=
  ⟨h.size, by simp [go_sem], by simp [go_sem], bcall h h.size ((Below.refl _ _).alloc (Nat.le_refl _) _)⟩
theorem spot_set {w0 wa : World} {blk : Nat} {u0 u1 : Value} (h : Below w0.heap.size w0 wa) (h0 : w0.heap.size ≤ blk) (z0 : wa.cell? ⟨blk, 0, none⟩ = some u0) (z1 : wa.cell? ⟨blk, 1, none⟩ = some u1) (r c : Int) :
    SpotAt w0 ((wa.setCell ⟨blk, 0, none⟩ (.int .i64 r)).setCell ⟨blk, 1, none⟩ (.int .i64 c)) blk r c := by
  refine ⟨h0, ?_, ?_, (h.setCell (p := ⟨blk, 0, none⟩) h0 _).setCell (p := ⟨blk, 1, none⟩) h0 _⟩
  · rw [World.cell?_setCell_other _ _ _ _ (by simp)]
    exact World.cell?_setCell_same _ _ _ z0
  · exact World.cell?_setCell_same _ _ _ (by rw [World.cell?_setCell_other _ _ _ _ (by simp)]; exact z1)

end Go.Proofs.Ytmnninhifiajhaa

/-
  Plain facts on the next place: from it one comes back, round about one comes back.
-/
namespace Go.Proofs.Ytmnninhifiajhaa
open Go.RowKit
set_option linter.unusedVariables false

theorem place_div (W r c : Int) (hc : 0 ≤ c ∧ c < W) : (r * W + c) / W = r ∧ (r * W + c) % W = c :=
  (Int.ediv_emod_unique (show (0 : Int) < W by omega)).2 ⟨by rw [Int.mul_comm W r]; omega, hc.1, hc.2⟩
theorem place_in (W H r c : Int) (hr : 0 ≤ r ∧ r < H) (hc : 0 ≤ c ∧ c < W) : 0 ≤ r * W + c ∧ r * W + c < W * H := by
  have h1 : 0 ≤ r * W := Int.mul_nonneg hr.1 (by omega)
  have h2 : (r + 1) * W ≤ H * W := Int.mul_le_mul_of_nonneg_right (by omega) (by omega)
  rw [Int.add_mul, Int.one_mul, Int.mul_comm H W] at h2
  omega

/-- A grid's shape. -/
structure Shape (wd : Int) (cs : List (Int × Int)) (W H : Int) : Prop where
  ok : okG wd cs = true
  ew : wd = W
  hW : 1 ≤ W ∧ W ≤ 5
  hH : 1 ≤ H ∧ H ≤ 5
  el : (cs.length : Int) = W * H
  ed : (cs.length : Int) / wd = H
theorem shape_of {wd : Int} {cs : List (Int × Int)} (h : okG wd cs = true) : ∃ W H, Shape wd cs W H := by
  obtain ⟨W, H, ew, h1, h2, h3, h4, el, hH, hHI, hn⟩ := shapeG h
  exact ⟨W, H, h, ew, by omega, by omega, by exact_mod_cast el, by rw [ew]; exact hHI⟩
theorem split_of {wd W H x : Int} {cs : List (Int × Int)} (S : Shape wd cs W H) (hx : 0 ≤ x ∧ x < cs.length) : ∃ r c, x = r * W + c ∧ (0 ≤ r ∧ r < H) ∧ (0 ≤ c ∧ c < W) := by
  have hW := S.hW
  have e := Int.mul_ediv_add_emod x W
  refine ⟨x / W, x % W, by rw [Int.mul_comm]; omega, ⟨Int.ediv_nonneg hx.1 (by omega), Int.ediv_lt_of_lt_mul (by omega) ?_⟩, Int.emod_nonneg x (by omega), Int.emod_lt_of_pos x (by omega)⟩
  rw [Int.mul_comm, ← S.el]
  exact hx.2

theorem rayN_at {wd W H : Int} {cs : List (Int × Int)} (S : Shape wd cs W H) (r c d : Int) (hr : 0 ≤ r ∧ r < H) (hc : 0 ≤ c ∧ c < W) (hd : 0 ≤ d ∧ d ≤ 3) :
    rayN wd cs (r * W + c) d = if inG (r + dRow d) (c + dCol d) W H = true then ((r + dRow d) * W + (c + dCol d), d, true) else (0, 0, false) := by
  obtain ⟨q1, q2⟩ := place_div W r c hc
  have q3 := place_in W H r c hr hc
  unfold rayN
  rw [S.ed, S.ew, q1, q2]
  rw [S.el]
  have ok := S.ok
  rw [S.ew] at ok
  by_cases k : inG (r + dRow d) (c + dCol d) W H = true
  · rw [if_pos ⟨ok, q3, hd, k⟩, if_pos k]
  · rw [if_neg (fun q => k q.2.2.2), if_neg k]
theorem rayN_true {wd : Int} {cs : List (Int × Int)} {x d x2 d2 : Int} (h : rayN wd cs x d = (x2, d2, true)) : okG wd cs = true ∧ (0 ≤ x ∧ x < (cs.length : Int)) ∧ (0 ≤ d ∧ d ≤ 3) ∧ d2 = d := by
  unfold rayN at h
  split at h
  · next k => simp only [Prod.mk.injEq] at h; exact ⟨k.1, k.2.1, k.2.2.1, h.2.1.symm⟩
  · simp at h
theorem rayN_false {wd : Int} {cs : List (Int × Int)} {x d x2 d2 : Int} (h : rayN wd cs x d = (x2, d2, false)) : x2 = 0 ∧ d2 = 0 := by
  unfold rayN at h
  split at h
  · simp at h
  · simp only [Prod.mk.injEq] at h; omega

/-- By how much a place changes. -/
def stepD (d W : Int) : Int := if d = 0 then -W else if d = 1 then 1 else if d = 2 then W else -1

theorem ray_back {wd : Int} {cs : List (Int × Int)} {x d x2 d2 : Int} (h : rayN wd cs x d = (x2, d2, true)) :
    d2 = d ∧ (0 ≤ d ∧ d ≤ 3) ∧ (0 ≤ x ∧ x ≤ 24) ∧ (0 ≤ x2 ∧ x2 ≤ 24) ∧ (1 ≤ wd ∧ wd ≤ 5) ∧ rayN wd cs x2 ((d + 2) % 4) = (x, (d + 2) % 4, true) ∧ x + stepD d wd = x2 := by
  obtain ⟨hok, hx, hd, e2⟩ := rayN_true h
  obtain ⟨W, H, S⟩ := shape_of hok
  obtain ⟨r, c, ex, hr, hc⟩ := split_of S hx
  have hW := S.hW
  have hH := S.hH
  have hl : (cs.length : Int) ≤ 25 := by rw [S.el]; exact Int.le_trans (Int.mul_le_mul hW.2 hH.2 (by omega) (by omega)) (by omega)
  subst e2
  rw [ex, rayN_at S r c d2 hr hc hd] at h
  split at h
  · next k =>
    simp only [inG, decide_eq_true_eq] at k
    simp only [Prod.mk.injEq, and_true] at h
    have k1 : 0 ≤ r + dRow d2 ∧ r + dRow d2 < H := ⟨k.1, k.2.1⟩
    have k2 : 0 ≤ c + dCol d2 ∧ c + dCol d2 < W := k.2.2
    have q3 := place_in W H _ _ k1 k2
    rw [h, ← S.el] at q3
    have hd4 : 0 ≤ (d2 + 2) % 4 ∧ (d2 + 2) % 4 ≤ 3 := by omega
    refine ⟨rfl, hd, by omega, by omega, by have := S.ew; omega, ?_, ?_⟩
    · rw [← h, rayN_at S _ _ _ k1 k2 hd4]
      have e1 : r + dRow d2 + dRow ((d2 + 2) % 4) = r := by
        rcases (show d2 = 0 ∨ d2 = 1 ∨ d2 = 2 ∨ d2 = 3 by omega) with rfl | rfl | rfl | rfl <;> simp [dRow] <;> omega
      have e2 : c + dCol d2 + dCol ((d2 + 2) % 4) = c := by
        rcases (show d2 = 0 ∨ d2 = 1 ∨ d2 = 2 ∨ d2 = 3 by omega) with rfl | rfl | rfl | rfl <;> simp [dCol] <;> omega
      rw [e1, e2, if_pos (by simp [inG]; omega), ← ex]
    · rw [← h, ex, S.ew]
      rcases (show d2 = 0 ∨ d2 = 1 ∨ d2 = 2 ∨ d2 = 3 by omega) with rfl | rfl | rfl | rfl <;> simp [dRow, dCol, stepD, Int.add_mul] <;> omega
  · simp at h

/-- Round about one comes back, or at neither edge. -/
theorem ray_round {wd : Int} {cs : List (Int × Int)} {x d x2 d2 : Int} (h : rayN wd cs x d = (x2, d2, true)) :
    ((∃ y e, rayN wd cs x2 ((d + 1) % 4) = (y, e, false)) ∧ ∃ y e, rayN wd cs x ((d + 1) % 4) = (y, e, false)) ∨
    ∃ y z, rayN wd cs x2 ((d + 1) % 4) = (y, (d + 1) % 4, true) ∧ rayN wd cs y ((d + 2) % 4) = (z, (d + 2) % 4, true) ∧ rayN wd cs z (((d + 1) % 4 + 2) % 4) = (x, ((d + 1) % 4 + 2) % 4, true) := by
  obtain ⟨hok, hx, hd, e2⟩ := rayN_true h
  obtain ⟨W, H, S⟩ := shape_of hok
  obtain ⟨r, c, ex, hr, hc⟩ := split_of S hx
  have hW := S.hW
  have hH := S.hH
  subst e2
  rw [ex, rayN_at S r c d2 hr hc hd] at h
  split at h
  · next k =>
    simp only [inG, decide_eq_true_eq] at k
    simp only [Prod.mk.injEq, and_true] at h
    have k1 : 0 ≤ r + dRow d2 ∧ r + dRow d2 < H := ⟨k.1, k.2.1⟩
    have k2 : 0 ≤ c + dCol d2 ∧ c + dCol d2 < W := k.2.2
    have h1 : 0 ≤ (d2 + 1) % 4 ∧ (d2 + 1) % 4 ≤ 3 := by omega
    have h2 : 0 ≤ (d2 + 2) % 4 ∧ (d2 + 2) % 4 ≤ 3 := by omega
    have h3 : 0 ≤ ((d2 + 1) % 4 + 2) % 4 ∧ ((d2 + 1) % 4 + 2) % 4 ≤ 3 := by omega
    rw [← h, ex, rayN_at S _ _ _ k1 k2 h1, rayN_at S _ _ _ hr hc h1]
    by_cases q : inG (r + dRow d2 + dRow ((d2 + 1) % 4)) (c + dCol d2 + dCol ((d2 + 1) % 4)) W H = true
    · rw [if_pos q]
      simp only [inG, decide_eq_true_eq] at q
      have q1 : 0 ≤ r + dRow d2 + dRow ((d2 + 1) % 4) ∧ r + dRow d2 + dRow ((d2 + 1) % 4) < H := ⟨q.1, q.2.1⟩
      have q2 : 0 ≤ c + dCol d2 + dCol ((d2 + 1) % 4) ∧ c + dCol d2 + dCol ((d2 + 1) % 4) < W := q.2.2
      have e1 : r + dRow d2 + dRow ((d2 + 1) % 4) + dRow ((d2 + 2) % 4) = r + dRow ((d2 + 1) % 4) := by
        rcases (show d2 = 0 ∨ d2 = 1 ∨ d2 = 2 ∨ d2 = 3 by omega) with rfl | rfl | rfl | rfl <;> simp [dRow] <;> omega
      have e2 : c + dCol d2 + dCol ((d2 + 1) % 4) + dCol ((d2 + 2) % 4) = c + dCol ((d2 + 1) % 4) := by
        rcases (show d2 = 0 ∨ d2 = 1 ∨ d2 = 2 ∨ d2 = 3 by omega) with rfl | rfl | rfl | rfl <;> simp [dCol] <;> omega
      have p1 : 0 ≤ r + dRow ((d2 + 1) % 4) ∧ r + dRow ((d2 + 1) % 4) < H := by
        rcases (show d2 = 0 ∨ d2 = 1 ∨ d2 = 2 ∨ d2 = 3 by omega) with rfl | rfl | rfl | rfl <;> simp [dRow] at q1 ⊢ <;> omega
      have p2 : 0 ≤ c + dCol ((d2 + 1) % 4) ∧ c + dCol ((d2 + 1) % 4) < W := by
        rcases (show d2 = 0 ∨ d2 = 1 ∨ d2 = 2 ∨ d2 = 3 by omega) with rfl | rfl | rfl | rfl <;> simp [dCol] at q2 ⊢ <;> omega
      have e3 : r + dRow ((d2 + 1) % 4) + dRow (((d2 + 1) % 4 + 2) % 4) = r := by
        rcases (show d2 = 0 ∨ d2 = 1 ∨ d2 = 2 ∨ d2 = 3 by omega) with rfl | rfl | rfl | rfl <;> simp [dRow] <;> omega
      have e4 : c + dCol ((d2 + 1) % 4) + dCol (((d2 + 1) % 4 + 2) % 4) = c := by
        rcases (show d2 = 0 ∨ d2 = 1 ∨ d2 = 2 ∨ d2 = 3 by omega) with rfl | rfl | rfl | rfl <;> simp [dCol] <;> omega
      refine Or.inr ⟨_, (r + dRow ((d2 + 1) % 4)) * W + (c + dCol ((d2 + 1) % 4)), rfl, ?_, ?_⟩
      · rw [rayN_at S _ _ _ q1 q2 h2, e1, e2, if_pos (by simp only [inG, decide_eq_true_eq]; exact ⟨p1.1, p1.2, p2.1, p2.2⟩)]
      · rw [rayN_at S _ _ _ p1 p2 h3, e3, e4, if_pos (by simp only [inG, decide_eq_true_eq]; exact ⟨hr.1, hr.2, hc.1, hc.2⟩)]
    · refine Or.inl ⟨⟨0, 0, by rw [if_neg q]⟩, 0, 0, ?_⟩
      rw [if_neg]
      intro k3
      apply q
      simp only [inG, decide_eq_true_eq] at k3 ⊢
      rcases (show d2 = 0 ∨ d2 = 1 ∨ d2 = 2 ∨ d2 = 3 by omega) with rfl | rfl | rfl | rfl <;> simp [dRow, dCol] at k1 k2 k3 ⊢ <;> omega
  · simp at h
end Go.Proofs.Ytmnninhifiajhaa
