/-
  The sign of an ok cell: impl.cellSign and spec.l1Sign.
-/
import Derived.Test.YteibklaabnnfbaaOa
import Derived.Deep.RegionHeld3
import Derived.Test.YteibklaabnnfbaaDa
namespace Go.Proofs.Yteibklaabnnfbaa
open Go.RowKit
set_option linter.unusedVariables false

/-- A cell's sign. -/
def signC (k l : Int) : Int := if k = 7 then 48 + l else if k = 0 then 46 else if k = 1 then 35 else if k = 2 then 47 else if k = 3 then 92 else if k = 4 then 120 else if k = 5 then 122 else 58

theorem okC_cases (k l : Int) (h : okC k l = true) : (k = 7 ∧ 1 ≤ l ∧ l ≤ 9) ∨ (l = 0 ∧ (k = 0 ∨ k = 1 ∨ k = 2 ∨ k = 3 ∨ k = 4 ∨ k = 5 ∨ k = 6)) := by
  simp only [okC] at h
  split at h <;> simp at h <;> omega

theorem plainSigns_any (w : World) : Calls Try.prog 36 #[] w fun e w' => e = .returned (.agg #[.int .u8 46, .int .u8 35, .int .u8 47, .int .u8 92, .int .u8 120, .int .u8 122, .int .u8 58]) ∧ Below w.heap.size w w' := by
  go_enter Try.func36, Try.ntmps36
  go_wp2
  refine bodyPost_ret (v := .agg #[.int .u8 46, .int .u8 35, .int .u8 47, .int .u8 92, .int .u8 120, .int .u8 122, .int .u8 58]) (by simp [results, Try.results36, go_sem]) rfl ⟨rfl, (by repeat (first | exact Below.refl _ _ | refine Below.alloc ?_ (by first | exact Nat.le_refl _ | (simp; done) | (simp; omega)) _ | refine Below.drew ?_ | refine Below.setCell ?_ (by first | exact Nat.le_refl _ | (simp; done) | (simp; omega)) _))⟩
theorem l1Signs_any (w : World) : Calls Try.prog 34 #[] w fun e w' => e = .returned (.string ⟨#[46, 35, 47, 92, 120, 122, 58]⟩) ∧ Below w.heap.size w w' := by
  go_enter Try.func34, Try.ntmps34
  go_wp2
  go_ret
  exact ⟨rfl, (by repeat (first | exact Below.refl _ _ | refine Below.alloc ?_ (by first | exact Nat.le_refl _ | (simp; done) | (simp; omega)) _ | refine Below.drew ?_ | refine Below.setCell ?_ (by first | exact Nat.le_refl _ | (simp; done) | (simp; omega)) _))⟩

theorem idx0 (w : World) : Sem.run Try.prog (Instr.index 58 (.agg #[.int .u8 46, .int .u8 35, .int .u8 47, .int .u8 92, .int .u8 120, .int .u8 122, .int .u8 58]) (.int .i64 0)) w = .ok (.int .u8 46) w := by simp [Instr.index, run_underlying Try.underlying58, go_sem]
theorem idx1 (w : World) : Sem.run Try.prog (Instr.index 58 (.agg #[.int .u8 46, .int .u8 35, .int .u8 47, .int .u8 92, .int .u8 120, .int .u8 122, .int .u8 58]) (.int .i64 1)) w = .ok (.int .u8 35) w := by simp [Instr.index, run_underlying Try.underlying58, go_sem]
theorem idx2 (w : World) : Sem.run Try.prog (Instr.index 58 (.agg #[.int .u8 46, .int .u8 35, .int .u8 47, .int .u8 92, .int .u8 120, .int .u8 122, .int .u8 58]) (.int .i64 2)) w = .ok (.int .u8 47) w := by simp [Instr.index, run_underlying Try.underlying58, go_sem]
theorem idx3 (w : World) : Sem.run Try.prog (Instr.index 58 (.agg #[.int .u8 46, .int .u8 35, .int .u8 47, .int .u8 92, .int .u8 120, .int .u8 122, .int .u8 58]) (.int .i64 3)) w = .ok (.int .u8 92) w := by simp [Instr.index, run_underlying Try.underlying58, go_sem]
theorem idx4 (w : World) : Sem.run Try.prog (Instr.index 58 (.agg #[.int .u8 46, .int .u8 35, .int .u8 47, .int .u8 92, .int .u8 120, .int .u8 122, .int .u8 58]) (.int .i64 4)) w = .ok (.int .u8 120) w := by simp [Instr.index, run_underlying Try.underlying58, go_sem]
theorem idx5 (w : World) : Sem.run Try.prog (Instr.index 58 (.agg #[.int .u8 46, .int .u8 35, .int .u8 47, .int .u8 92, .int .u8 120, .int .u8 122, .int .u8 58]) (.int .i64 5)) w = .ok (.int .u8 122) w := by simp [Instr.index, run_underlying Try.underlying58, go_sem]
theorem idx6 (w : World) : Sem.run Try.prog (Instr.index 58 (.agg #[.int .u8 46, .int .u8 35, .int .u8 47, .int .u8 92, .int .u8 120, .int .u8 122, .int .u8 58]) (.int .i64 6)) w = .ok (.int .u8 58) w := by simp [Instr.index, run_underlying Try.underlying58, go_sem]

set_option maxHeartbeats 1000000 in
theorem implSign_any (k l : Int) (w : World) (h : okC k l = true) : Calls Try.prog 26 #[.agg #[.int .i64 k, .int .i64 l]] w fun e w' => e = .returned (.int .u8 (signC k l)) ∧ Below w.heap.size w w' := by
  rcases okC_cases k l h with ⟨rfl, h1, h2⟩ | ⟨rfl, hk⟩
  · have v1 : IntKind.i64.wrap (48 + l) = 48 + l := IntWalk.i64_in _ (by omega)
    have v2 : IntKind.u8.wrap (48 + l) = 48 + l := IntWalk.u8_in _ (by omega)
    go_enter Try.func26, Try.ntmps26
    go_wp2
    go_ret
    exact ⟨by simp [signC], (by repeat (first | exact Below.refl _ _ | refine Below.alloc ?_ (by first | exact Nat.le_refl _ | (simp; done) | (simp; omega)) _ | refine Below.drew ?_ | refine Below.setCell ?_ (by first | exact Nat.le_refl _ | (simp; done) | (simp; omega)) _))⟩
  · rcases hk with rfl | rfl | rfl | rfl | rfl | rfl | rfl
    · go_enter Try.func26, Try.ntmps26
      have hq := idx0
      have p0 : (w.alloc (.cells #[.int .i64 0, .int .i64 0] 44)).cell? ⟨w.heap.size, 0, none⟩ = some (.int .i64 0) := by simp [go_sem]
      have hb1 : Below w.heap.size w (w.alloc (.cells #[.int .i64 0, .int .i64 0] 44)) := (by repeat (first | exact Below.refl _ _ | refine Below.alloc ?_ (by first | exact Nat.le_refl _ | (simp; done) | (simp; omega)) _ | refine Below.drew ?_ | refine Below.setCell ?_ (by first | exact Nat.le_refl _ | (simp; done) | (simp; omega)) _))
      obtain ⟨w1, hw1⟩ : ∃ w1, w1 = w.alloc (.cells #[.int .i64 0, .int .i64 0] 44) := ⟨_, rfl⟩
      go_wp2
      rw [← hw1] at hb1 p0 ⊢
      clear hw1
      go_region_held3 (fun w' => w'.cell? ⟨w.heap.size, 0, none⟩ = some (.int .i64 0))
        (first
          | with_reducible exact keepc hb2 p0
          | go_keep)
        (first
          | (go_at_call 36; refine (plainSigns_any _).mono ?_; rintro e w2 ⟨rfl, hb2'⟩; have hb2 : Below w1.heap.size w1 w2 := (by first | with_reducible exact hb2' | with_reducible exact bdrew hb2')))
      go_wp2
      go_ret
      exact ⟨by simp [signC], bcall hb1 hb1.size hb2⟩
    · go_enter Try.func26, Try.ntmps26
      have hq := idx1
      have p0 : (w.alloc (.cells #[.int .i64 1, .int .i64 0] 44)).cell? ⟨w.heap.size, 0, none⟩ = some (.int .i64 1) := by simp [go_sem]
      have hb1 : Below w.heap.size w (w.alloc (.cells #[.int .i64 1, .int .i64 0] 44)) := (by repeat (first | exact Below.refl _ _ | refine Below.alloc ?_ (by first | exact Nat.le_refl _ | (simp; done) | (simp; omega)) _ | refine Below.drew ?_ | refine Below.setCell ?_ (by first | exact Nat.le_refl _ | (simp; done) | (simp; omega)) _))
      obtain ⟨w1, hw1⟩ : ∃ w1, w1 = w.alloc (.cells #[.int .i64 1, .int .i64 0] 44) := ⟨_, rfl⟩
      go_wp2
      rw [← hw1] at hb1 p0 ⊢
      clear hw1
      go_region_held3 (fun w' => w'.cell? ⟨w.heap.size, 0, none⟩ = some (.int .i64 1))
        (first
          | with_reducible exact keepc hb2 p0
          | go_keep)
        (first
          | (go_at_call 36; refine (plainSigns_any _).mono ?_; rintro e w2 ⟨rfl, hb2'⟩; have hb2 : Below w1.heap.size w1 w2 := (by first | with_reducible exact hb2' | with_reducible exact bdrew hb2')))
      go_wp2
      go_ret
      exact ⟨by simp [signC], bcall hb1 hb1.size hb2⟩
    · go_enter Try.func26, Try.ntmps26
      have hq := idx2
      have p0 : (w.alloc (.cells #[.int .i64 2, .int .i64 0] 44)).cell? ⟨w.heap.size, 0, none⟩ = some (.int .i64 2) := by simp [go_sem]
      have hb1 : Below w.heap.size w (w.alloc (.cells #[.int .i64 2, .int .i64 0] 44)) := (by repeat (first | exact Below.refl _ _ | refine Below.alloc ?_ (by first | exact Nat.le_refl _ | (simp; done) | (simp; omega)) _ | refine Below.drew ?_ | refine Below.setCell ?_ (by first | exact Nat.le_refl _ | (simp; done) | (simp; omega)) _))
      obtain ⟨w1, hw1⟩ : ∃ w1, w1 = w.alloc (.cells #[.int .i64 2, .int .i64 0] 44) := ⟨_, rfl⟩
      go_wp2
      rw [← hw1] at hb1 p0 ⊢
      clear hw1
      go_region_held3 (fun w' => w'.cell? ⟨w.heap.size, 0, none⟩ = some (.int .i64 2))
        (first
          | with_reducible exact keepc hb2 p0
          | go_keep)
        (first
          | (go_at_call 36; refine (plainSigns_any _).mono ?_; rintro e w2 ⟨rfl, hb2'⟩; have hb2 : Below w1.heap.size w1 w2 := (by first | with_reducible exact hb2' | with_reducible exact bdrew hb2')))
      go_wp2
      go_ret
      exact ⟨by simp [signC], bcall hb1 hb1.size hb2⟩
    · go_enter Try.func26, Try.ntmps26
      have hq := idx3
      have p0 : (w.alloc (.cells #[.int .i64 3, .int .i64 0] 44)).cell? ⟨w.heap.size, 0, none⟩ = some (.int .i64 3) := by simp [go_sem]
      have hb1 : Below w.heap.size w (w.alloc (.cells #[.int .i64 3, .int .i64 0] 44)) := (by repeat (first | exact Below.refl _ _ | refine Below.alloc ?_ (by first | exact Nat.le_refl _ | (simp; done) | (simp; omega)) _ | refine Below.drew ?_ | refine Below.setCell ?_ (by first | exact Nat.le_refl _ | (simp; done) | (simp; omega)) _))
      obtain ⟨w1, hw1⟩ : ∃ w1, w1 = w.alloc (.cells #[.int .i64 3, .int .i64 0] 44) := ⟨_, rfl⟩
      go_wp2
      rw [← hw1] at hb1 p0 ⊢
      clear hw1
      go_region_held3 (fun w' => w'.cell? ⟨w.heap.size, 0, none⟩ = some (.int .i64 3))
        (first
          | with_reducible exact keepc hb2 p0
          | go_keep)
        (first
          | (go_at_call 36; refine (plainSigns_any _).mono ?_; rintro e w2 ⟨rfl, hb2'⟩; have hb2 : Below w1.heap.size w1 w2 := (by first | with_reducible exact hb2' | with_reducible exact bdrew hb2')))
      go_wp2
      go_ret
      exact ⟨by simp [signC], bcall hb1 hb1.size hb2⟩
    · go_enter Try.func26, Try.ntmps26
      have hq := idx4
      have p0 : (w.alloc (.cells #[.int .i64 4, .int .i64 0] 44)).cell? ⟨w.heap.size, 0, none⟩ = some (.int .i64 4) := by simp [go_sem]
      have hb1 : Below w.heap.size w (w.alloc (.cells #[.int .i64 4, .int .i64 0] 44)) := (by repeat (first | exact Below.refl _ _ | refine Below.alloc ?_ (by first | exact Nat.le_refl _ | (simp; done) | (simp; omega)) _ | refine Below.drew ?_ | refine Below.setCell ?_ (by first | exact Nat.le_refl _ | (simp; done) | (simp; omega)) _))
      obtain ⟨w1, hw1⟩ : ∃ w1, w1 = w.alloc (.cells #[.int .i64 4, .int .i64 0] 44) := ⟨_, rfl⟩
      go_wp2
      rw [← hw1] at hb1 p0 ⊢
      clear hw1
      go_region_held3 (fun w' => w'.cell? ⟨w.heap.size, 0, none⟩ = some (.int .i64 4))
        (first
          | with_reducible exact keepc hb2 p0
          | go_keep)
        (first
          | (go_at_call 36; refine (plainSigns_any _).mono ?_; rintro e w2 ⟨rfl, hb2'⟩; have hb2 : Below w1.heap.size w1 w2 := (by first | with_reducible exact hb2' | with_reducible exact bdrew hb2')))
      go_wp2
      go_ret
      exact ⟨by simp [signC], bcall hb1 hb1.size hb2⟩
    · go_enter Try.func26, Try.ntmps26
      have hq := idx5
      have p0 : (w.alloc (.cells #[.int .i64 5, .int .i64 0] 44)).cell? ⟨w.heap.size, 0, none⟩ = some (.int .i64 5) := by simp [go_sem]
      have hb1 : Below w.heap.size w (w.alloc (.cells #[.int .i64 5, .int .i64 0] 44)) := (by repeat (first | exact Below.refl _ _ | refine Below.alloc ?_ (by first | exact Nat.le_refl _ | (simp; done) | (simp; omega)) _ | refine Below.drew ?_ | refine Below.setCell ?_ (by first | exact Nat.le_refl _ | (simp; done) | (simp; omega)) _))
      obtain ⟨w1, hw1⟩ : ∃ w1, w1 = w.alloc (.cells #[.int .i64 5, .int .i64 0] 44) := ⟨_, rfl⟩
      go_wp2
      rw [← hw1] at hb1 p0 ⊢
      clear hw1
      go_region_held3 (fun w' => w'.cell? ⟨w.heap.size, 0, none⟩ = some (.int .i64 5))
        (first
          | with_reducible exact keepc hb2 p0
          | go_keep)
        (first
          | (go_at_call 36; refine (plainSigns_any _).mono ?_; rintro e w2 ⟨rfl, hb2'⟩; have hb2 : Below w1.heap.size w1 w2 := (by first | with_reducible exact hb2' | with_reducible exact bdrew hb2')))
      go_wp2
      go_ret
      exact ⟨by simp [signC], bcall hb1 hb1.size hb2⟩
    · go_enter Try.func26, Try.ntmps26
      have hq := idx6
      have p0 : (w.alloc (.cells #[.int .i64 6, .int .i64 0] 44)).cell? ⟨w.heap.size, 0, none⟩ = some (.int .i64 6) := by simp [go_sem]
      have hb1 : Below w.heap.size w (w.alloc (.cells #[.int .i64 6, .int .i64 0] 44)) := (by repeat (first | exact Below.refl _ _ | refine Below.alloc ?_ (by first | exact Nat.le_refl _ | (simp; done) | (simp; omega)) _ | refine Below.drew ?_ | refine Below.setCell ?_ (by first | exact Nat.le_refl _ | (simp; done) | (simp; omega)) _))
      obtain ⟨w1, hw1⟩ : ∃ w1, w1 = w.alloc (.cells #[.int .i64 6, .int .i64 0] 44) := ⟨_, rfl⟩
      go_wp2
      rw [← hw1] at hb1 p0 ⊢
      clear hw1
      go_region_held3 (fun w' => w'.cell? ⟨w.heap.size, 0, none⟩ = some (.int .i64 6))
        (first
          | with_reducible exact keepc hb2 p0
          | go_keep)
        (first
          | (go_at_call 36; refine (plainSigns_any _).mono ?_; rintro e w2 ⟨rfl, hb2'⟩; have hb2 : Below w1.heap.size w1 w2 := (by first | with_reducible exact hb2' | with_reducible exact bdrew hb2')))
      go_wp2
      go_ret
      exact ⟨by simp [signC], bcall hb1 hb1.size hb2⟩

set_option maxHeartbeats 1000000 in
theorem specSign_any (k l : Int) (w : World) (h : okC k l = true) : Calls Try.prog 29 #[.agg #[.int .i64 k, .int .i64 l]] w fun e w' => e = .returned (.int .u8 (signC k l)) ∧ Below w.heap.size w w' := by
  rcases okC_cases k l h with ⟨rfl, h1, h2⟩ | ⟨rfl, hk⟩
  · have v1 : IntKind.i64.wrap (48 + l) = 48 + l := IntWalk.i64_in _ (by omega)
    have v2 : IntKind.u8.wrap (48 + l) = 48 + l := IntWalk.u8_in _ (by omega)
    go_enter Try.func29, Try.ntmps29
    go_wp2
    go_ret
    exact ⟨by simp [signC], (by repeat (first | exact Below.refl _ _ | refine Below.alloc ?_ (by first | exact Nat.le_refl _ | (simp; done) | (simp; omega)) _ | refine Below.drew ?_ | refine Below.setCell ?_ (by first | exact Nat.le_refl _ | (simp; done) | (simp; omega)) _))⟩
  · rcases hk with rfl | rfl | rfl | rfl | rfl | rfl | rfl
    · go_enter Try.func29, Try.ntmps29
      have p0 : (w.alloc (.cells #[.int .i64 0, .int .i64 0] 44)).cell? ⟨w.heap.size, 0, none⟩ = some (.int .i64 0) := by simp [go_sem]
      have hb1 : Below w.heap.size w (w.alloc (.cells #[.int .i64 0, .int .i64 0] 44)) := (by repeat (first | exact Below.refl _ _ | refine Below.alloc ?_ (by first | exact Nat.le_refl _ | (simp; done) | (simp; omega)) _ | refine Below.drew ?_ | refine Below.setCell ?_ (by first | exact Nat.le_refl _ | (simp; done) | (simp; omega)) _))
      obtain ⟨w1, hw1⟩ : ∃ w1, w1 = w.alloc (.cells #[.int .i64 0, .int .i64 0] 44) := ⟨_, rfl⟩
      go_wp2
      rw [← hw1] at hb1 p0 ⊢
      clear hw1
      go_region_held3 (fun w' => w'.cell? ⟨w.heap.size, 0, none⟩ = some (.int .i64 0))
        (first
          | with_reducible exact keepc hb2 p0
          | go_keep)
        (first
          | (go_at_call 34; refine (l1Signs_any _).mono ?_; rintro e w2 ⟨rfl, hb2'⟩; have hb2 : Below w1.heap.size w1 w2 := (by first | with_reducible exact hb2' | with_reducible exact bdrew hb2')))
      go_wp2
      go_ret
      exact ⟨by simp [signC]; rfl, bcall hb1 hb1.size hb2⟩
    · go_enter Try.func29, Try.ntmps29
      have p0 : (w.alloc (.cells #[.int .i64 1, .int .i64 0] 44)).cell? ⟨w.heap.size, 0, none⟩ = some (.int .i64 1) := by simp [go_sem]
      have hb1 : Below w.heap.size w (w.alloc (.cells #[.int .i64 1, .int .i64 0] 44)) := (by repeat (first | exact Below.refl _ _ | refine Below.alloc ?_ (by first | exact Nat.le_refl _ | (simp; done) | (simp; omega)) _ | refine Below.drew ?_ | refine Below.setCell ?_ (by first | exact Nat.le_refl _ | (simp; done) | (simp; omega)) _))
      obtain ⟨w1, hw1⟩ : ∃ w1, w1 = w.alloc (.cells #[.int .i64 1, .int .i64 0] 44) := ⟨_, rfl⟩
      go_wp2
      rw [← hw1] at hb1 p0 ⊢
      clear hw1
      go_region_held3 (fun w' => w'.cell? ⟨w.heap.size, 0, none⟩ = some (.int .i64 1))
        (first
          | with_reducible exact keepc hb2 p0
          | go_keep)
        (first
          | (go_at_call 34; refine (l1Signs_any _).mono ?_; rintro e w2 ⟨rfl, hb2'⟩; have hb2 : Below w1.heap.size w1 w2 := (by first | with_reducible exact hb2' | with_reducible exact bdrew hb2')))
      go_wp2
      go_ret
      exact ⟨by simp [signC]; rfl, bcall hb1 hb1.size hb2⟩
    · go_enter Try.func29, Try.ntmps29
      have p0 : (w.alloc (.cells #[.int .i64 2, .int .i64 0] 44)).cell? ⟨w.heap.size, 0, none⟩ = some (.int .i64 2) := by simp [go_sem]
      have hb1 : Below w.heap.size w (w.alloc (.cells #[.int .i64 2, .int .i64 0] 44)) := (by repeat (first | exact Below.refl _ _ | refine Below.alloc ?_ (by first | exact Nat.le_refl _ | (simp; done) | (simp; omega)) _ | refine Below.drew ?_ | refine Below.setCell ?_ (by first | exact Nat.le_refl _ | (simp; done) | (simp; omega)) _))
      obtain ⟨w1, hw1⟩ : ∃ w1, w1 = w.alloc (.cells #[.int .i64 2, .int .i64 0] 44) := ⟨_, rfl⟩
      go_wp2
      rw [← hw1] at hb1 p0 ⊢
      clear hw1
      go_region_held3 (fun w' => w'.cell? ⟨w.heap.size, 0, none⟩ = some (.int .i64 2))
        (first
          | with_reducible exact keepc hb2 p0
          | go_keep)
        (first
          | (go_at_call 34; refine (l1Signs_any _).mono ?_; rintro e w2 ⟨rfl, hb2'⟩; have hb2 : Below w1.heap.size w1 w2 := (by first | with_reducible exact hb2' | with_reducible exact bdrew hb2')))
      go_wp2
      go_ret
      exact ⟨by simp [signC]; rfl, bcall hb1 hb1.size hb2⟩
    · go_enter Try.func29, Try.ntmps29
      have p0 : (w.alloc (.cells #[.int .i64 3, .int .i64 0] 44)).cell? ⟨w.heap.size, 0, none⟩ = some (.int .i64 3) := by simp [go_sem]
      have hb1 : Below w.heap.size w (w.alloc (.cells #[.int .i64 3, .int .i64 0] 44)) := (by repeat (first | exact Below.refl _ _ | refine Below.alloc ?_ (by first | exact Nat.le_refl _ | (simp; done) | (simp; omega)) _ | refine Below.drew ?_ | refine Below.setCell ?_ (by first | exact Nat.le_refl _ | (simp; done) | (simp; omega)) _))
      obtain ⟨w1, hw1⟩ : ∃ w1, w1 = w.alloc (.cells #[.int .i64 3, .int .i64 0] 44) := ⟨_, rfl⟩
      go_wp2
      rw [← hw1] at hb1 p0 ⊢
      clear hw1
      go_region_held3 (fun w' => w'.cell? ⟨w.heap.size, 0, none⟩ = some (.int .i64 3))
        (first
          | with_reducible exact keepc hb2 p0
          | go_keep)
        (first
          | (go_at_call 34; refine (l1Signs_any _).mono ?_; rintro e w2 ⟨rfl, hb2'⟩; have hb2 : Below w1.heap.size w1 w2 := (by first | with_reducible exact hb2' | with_reducible exact bdrew hb2')))
      go_wp2
      go_ret
      exact ⟨by simp [signC]; rfl, bcall hb1 hb1.size hb2⟩
    · go_enter Try.func29, Try.ntmps29
      have p0 : (w.alloc (.cells #[.int .i64 4, .int .i64 0] 44)).cell? ⟨w.heap.size, 0, none⟩ = some (.int .i64 4) := by simp [go_sem]
      have hb1 : Below w.heap.size w (w.alloc (.cells #[.int .i64 4, .int .i64 0] 44)) := (by repeat (first | exact Below.refl _ _ | refine Below.alloc ?_ (by first | exact Nat.le_refl _ | (simp; done) | (simp; omega)) _ | refine Below.drew ?_ | refine Below.setCell ?_ (by first | exact Nat.le_refl _ | (simp; done) | (simp; omega)) _))
      obtain ⟨w1, hw1⟩ : ∃ w1, w1 = w.alloc (.cells #[.int .i64 4, .int .i64 0] 44) := ⟨_, rfl⟩
      go_wp2
      rw [← hw1] at hb1 p0 ⊢
      clear hw1
      go_region_held3 (fun w' => w'.cell? ⟨w.heap.size, 0, none⟩ = some (.int .i64 4))
        (first
          | with_reducible exact keepc hb2 p0
          | go_keep)
        (first
          | (go_at_call 34; refine (l1Signs_any _).mono ?_; rintro e w2 ⟨rfl, hb2'⟩; have hb2 : Below w1.heap.size w1 w2 := (by first | with_reducible exact hb2' | with_reducible exact bdrew hb2')))
      go_wp2
      go_ret
      exact ⟨by simp [signC]; rfl, bcall hb1 hb1.size hb2⟩
    · go_enter Try.func29, Try.ntmps29
      have p0 : (w.alloc (.cells #[.int .i64 5, .int .i64 0] 44)).cell? ⟨w.heap.size, 0, none⟩ = some (.int .i64 5) := by simp [go_sem]
      have hb1 : Below w.heap.size w (w.alloc (.cells #[.int .i64 5, .int .i64 0] 44)) := (by repeat (first | exact Below.refl _ _ | refine Below.alloc ?_ (by first | exact Nat.le_refl _ | (simp; done) | (simp; omega)) _ | refine Below.drew ?_ | refine Below.setCell ?_ (by first | exact Nat.le_refl _ | (simp; done) | (simp; omega)) _))
      obtain ⟨w1, hw1⟩ : ∃ w1, w1 = w.alloc (.cells #[.int .i64 5, .int .i64 0] 44) := ⟨_, rfl⟩
      go_wp2
      rw [← hw1] at hb1 p0 ⊢
      clear hw1
      go_region_held3 (fun w' => w'.cell? ⟨w.heap.size, 0, none⟩ = some (.int .i64 5))
        (first
          | with_reducible exact keepc hb2 p0
          | go_keep)
        (first
          | (go_at_call 34; refine (l1Signs_any _).mono ?_; rintro e w2 ⟨rfl, hb2'⟩; have hb2 : Below w1.heap.size w1 w2 := (by first | with_reducible exact hb2' | with_reducible exact bdrew hb2')))
      go_wp2
      go_ret
      exact ⟨by simp [signC]; rfl, bcall hb1 hb1.size hb2⟩
    · go_enter Try.func29, Try.ntmps29
      have p0 : (w.alloc (.cells #[.int .i64 6, .int .i64 0] 44)).cell? ⟨w.heap.size, 0, none⟩ = some (.int .i64 6) := by simp [go_sem]
      have hb1 : Below w.heap.size w (w.alloc (.cells #[.int .i64 6, .int .i64 0] 44)) := (by repeat (first | exact Below.refl _ _ | refine Below.alloc ?_ (by first | exact Nat.le_refl _ | (simp; done) | (simp; omega)) _ | refine Below.drew ?_ | refine Below.setCell ?_ (by first | exact Nat.le_refl _ | (simp; done) | (simp; omega)) _))
      obtain ⟨w1, hw1⟩ : ∃ w1, w1 = w.alloc (.cells #[.int .i64 6, .int .i64 0] 44) := ⟨_, rfl⟩
      go_wp2
      rw [← hw1] at hb1 p0 ⊢
      clear hw1
      go_region_held3 (fun w' => w'.cell? ⟨w.heap.size, 0, none⟩ = some (.int .i64 6))
        (first
          | with_reducible exact keepc hb2 p0
          | go_keep)
        (first
          | (go_at_call 34; refine (l1Signs_any _).mono ?_; rintro e w2 ⟨rfl, hb2'⟩; have hb2 : Below w1.heap.size w1 w2 := (by first | with_reducible exact hb2' | with_reducible exact bdrew hb2')))
      go_wp2
      go_ret
      exact ⟨by simp [signC]; rfl, bcall hb1 hb1.size hb2⟩

end Go.Proofs.Yteibklaabnnfbaa
