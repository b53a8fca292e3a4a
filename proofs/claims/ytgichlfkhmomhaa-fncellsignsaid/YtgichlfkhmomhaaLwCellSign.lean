/-
  'laws.FnCellSign' returns true for all codes: each ok cell has a sign of its own. No condition.
-/
import Derived.Test.YtgichlfkhmomhaaFb
import Derived.Test.YtgichlfkhmomhaaSf
import Derived.Test.YtgichlfkhmomhaaDk
import Derived.Deep.RegionHeld3
namespace Go.Proofs.Ytgichlfkhmomhaa.LwCellSign
open Go.ChangeShapes Go.WideShapes Go.ChangeAt Go.RowKit
set_option linter.unusedVariables false
attribute [local go_sem ↓] Go.wp_at_zero Go.wp_at_succ

theorem text_one (k l : Int) : textG 1 [(k, l)] = if okC k l then [signB (k, l), 10] else [] := by
  by_cases h : okC k l = true
  · have : okG 1 [(k, l)] = true := by simp [okG, sizeG, h]
    simp [textG, this, h, textN]
  · have : okG 1 [(k, l)] = false := by simp [okG, h]
    simp [textG, this, h]
theorem one_at (w : World) (k l : Int) : CellsAt (w.alloc (.cells #[.int .i64 k, .int .i64 l] 36)) (some ⟨w.heap.size, 0, none⟩) [(k, l)] :=
  Or.inr ⟨w.heap.size, 0, rfl, by simp, fun i hi => by
    have : i = 0 := by simpa using hi
    subst this
    simp [go_sem]⟩
theorem idx_one (x : UInt8) (w : World) : Sem.run Try.prog (Instr.index 9 (.string (str [x, 10])) (.int .i64 1)) w = .ok (.int .u8 10) w := by
  simp [Instr.index, run_underlying Try.underlying9, go_sem, str]
  rfl

/-- Too long a code. -/
theorem big (a : Option Addr) (n cap : Nat) (f : Nat → Int) (a' : Option Addr) (n' cap' : Nat) (f' : Nat → Int) (w : World) (h : BytesAt w a n f) (hm : n ≤ cap ∧ cap ≤ 9223372036854775807) (h' : BytesAt w a' n' f') (hm' : n' ≤ cap' ∧ cap' ≤ 9223372036854775807) (hbig : 1048576 < n) :
    Calls Try.prog 7 #[.slice a n cap, .slice a' n' cap'] w fun e w' => e = .returned (.bool true) ∧ Below w.heap.size w w' := by
  have hb : (1048576 : Int) < (n : Int) := by omega
  go_enter Try.func7, Try.ntmps7
  go_wp2
  go_ret
  exact ⟨rfl, Below.refl _ _⟩
theorem big' (a : Option Addr) (n cap : Nat) (f : Nat → Int) (a' : Option Addr) (n' cap' : Nat) (f' : Nat → Int) (w : World) (h : BytesAt w a n f) (hm : n ≤ cap ∧ cap ≤ 9223372036854775807) (h' : BytesAt w a' n' f') (hm' : n' ≤ cap' ∧ cap' ≤ 9223372036854775807) (hsm : n ≤ 1048576) (hbig : 1048576 < n') :
    Calls Try.prog 7 #[.slice a n cap, .slice a' n' cap'] w fun e w' => e = .returned (.bool true) ∧ Below w.heap.size w w' := by
  have hb : (n : Int) ≤ 1048576 := by omega
  have hb' : (1048576 : Int) < (n' : Int) := by omega
  go_enter Try.func7, Try.ntmps7
  go_wp2
  go_ret
  exact ⟨rfl, Below.refl _ _⟩

set_option maxRecDepth 100000 in
set_option maxHeartbeats 8000000 in
theorem small (a : Option Addr) (n cap : Nat) (f : Nat → Int) (a' : Option Addr) (n' cap' : Nat) (f' : Nat → Int) (w : World) (h : BytesAt w a n f) (hm : n ≤ cap ∧ cap ≤ 9223372036854775807) (h' : BytesAt w a' n' f') (hm' : n' ≤ cap' ∧ cap' ≤ 9223372036854775807) (hsm : n ≤ 1048576) (hsm' : n' ≤ 1048576) :
    Calls Try.prog 7 #[.slice a n cap, .slice a' n' cap'] w fun e w' => e = .returned (.bool true) ∧ Below w.heap.size w w' := by
  have hb : (n : Int) ≤ 1048576 := by omega
  have hb' : (n' : Int) ≤ 1048576 := by omega
  go_enter Try.func7, Try.ntmps7
  go_wp2_with fail
  refine (drawCellOk_any a n cap f w h hsm hm.1 hm.2).mono ?_
  rintro e w1 ⟨k, l, rfl, hb_w1⟩
  have hz_w1 := hb_w1.size
  try simp at hz_w1
  replace h' := h'.below hb_w1
  have hbS1 : Below w1.heap.size w1 (w1.alloc (.cells #[.int .i64 k, .int .i64 l] 36)) := (by repeat (first | exact Below.refl _ _ | refine Below.alloc ?_ (by first | exact Nat.le_refl _ | (simp; done) | (simp; omega)) _ | refine Below.drew ?_ | refine Below.setCell ?_ (by first | exact Nat.le_refl _ | (simp; done) | (simp; omega)) _))
  replace h' := h'.below hbS1
  have c0 : (w1.alloc (.cells #[.int .i64 k, .int .i64 l] 36)).cell? ⟨w1.heap.size, 0, none⟩ = some (.int .i64 k) := by simp [go_sem]
  have c1 : (w1.alloc (.cells #[.int .i64 k, .int .i64 l] 36)).cell? ⟨w1.heap.size, 1, none⟩ = some (.int .i64 l) := by simp [go_sem]
  have hBs1 := bcall hb_w1 (by omega) hbS1
  clear hb_w1
  clear hbS1
  go_wp2_with fail
  refine (drawCellOk_any a' n' cap' f' _ h' hsm' hm'.1 hm'.2).mono ?_
  rintro e w2 ⟨k2, l2, rfl, hb_w2⟩
  have hz_w2 := hb_w2.size
  try simp at hz_w2
  replace c0 := keepc hb_w2 c0; replace c1 := keepc hb_w2 c1
  replace h' := h'.below hb_w2
  have hB_w2 := bcall hBs1 (by first | omega | (simp; omega)) hb_w2
  clear hBs1 hb_w2
  clear h'
  have hbS2 : Below w2.heap.size w2 (w2.alloc (.cells #[.int .i64 k2, .int .i64 l2] 36)) := (by repeat (first | exact Below.refl _ _ | refine Below.alloc ?_ (by first | exact Nat.le_refl _ | (simp; done) | (simp; omega)) _ | refine Below.drew ?_ | refine Below.setCell ?_ (by first | exact Nat.le_refl _ | (simp; done) | (simp; omega)) _))
  replace c0 := keepc hbS2 c0; replace c1 := keepc hbS2 c1
  have d0 : (w2.alloc (.cells #[.int .i64 k2, .int .i64 l2] 36)).cell? ⟨w2.heap.size, 0, none⟩ = some (.int .i64 k2) := by simp [go_sem]
  have d1 : (w2.alloc (.cells #[.int .i64 k2, .int .i64 l2] 36)).cell? ⟨w2.heap.size, 1, none⟩ = some (.int .i64 l2) := by simp [go_sem]
  have hBs2 := bcall hB_w2 (by omega) hbS2
  clear hB_w2
  clear hbS2
  obtain ⟨tx, hx⟩ : ∃ tx, textG 1 [(k, l)] = tx := ⟨_, rfl⟩
  obtain ⟨ty, hy⟩ : ∃ ty, textG 1 [(k2, l2)] = ty := ⟨_, rfl⟩
  have HX : Hid (textG 1 [(k, l)] = tx) := hx
  have HY : Hid (textG 1 [(k2, l2)] = ty) := hy
  rw [text_one] at hx hy
  go_wp2_with fail
  refine (implCellOk_any k l _).mono ?_
  rintro e w3 ⟨rfl, hb_w3⟩
  have hz_w3 := hb_w3.size
  try simp at hz_w3
  replace c0 := keepc hb_w3 c0; replace c1 := keepc hb_w3 c1; replace d0 := keepc hb_w3 d0; replace d1 := keepc hb_w3 d1
  have hB_w3 := bcall hBs2 (by first | omega | (simp; omega)) hb_w3
  clear hBs2 hb_w3
  by_cases hok : okC k l = true
  · rw [if_pos hok] at hx
    have hsz : (str tx).size = 2 := by rw [← hx, str_size]; rfl
    have hix : ∀ w : World, Sem.run Try.prog (Instr.index 9 (.string (str tx)) (.int .i64 1)) w = .ok (.int .u8 10) w := by rw [← hx]; exact idx_one _
    have HZ : Hid (tx = [signB (k, l), 10]) := hx.symm
    by_cases hok2 : okC k2 l2 = true
    · rw [if_pos hok2] at hy
      have HW : Hid (ty = [signB (k2, l2), 10]) := hy.symm
      by_cases hq : k = k2 ∧ l = l2
      · have e3 : ((str tx).toList == (str ty).toList) = true := by
          rw [str_beq, HZ.out, HW.out, hq.1, hq.2]; simp
        have e4 : ∀ w : World, Sem.run Try.prog (binOp .eql 36 (.agg #[.int .i64 k, .int .i64 l]) (.agg #[.int .i64 k2, .int .i64 l2])) w = .ok (.bool true) w := fun w => by rw [eqlCell, decide_eq_true hq]
        clear hx hy hq
        go_wp2
        go_region_held3 (fun w' => w'.cell? ⟨w1.heap.size, 0, none⟩ = some (.int .i64 k) ∧ w'.cell? ⟨w1.heap.size, 1, none⟩ = some (.int .i64 l) ∧ w'.cell? ⟨w2.heap.size, 0, none⟩ = some (.int .i64 k2) ∧ w'.cell? ⟨w2.heap.size, 1, none⟩ = some (.int .i64 l2))
          (first
            | with_reducible exact ⟨keepc hb6 c0, keepc hb6 c1, keepc hb6 d0, keepc hb6 d1⟩
            | with_reducible exact ⟨keepc hb5 c0, keepc hb5 c1, keepc hb5 d0, keepc hb5 d1⟩
            | with_reducible exact ⟨keepc hb4 c0, keepc hb4 c1, keepc hb4 d0, keepc hb4 d1⟩
            | go_keep)
          (first
            | (go_at_call 20; refine (implCellOk_any _ _ _).mono ?_; rintro e w5 ⟨rfl, hb5'⟩; have hb5 : Below w3.heap.size w3 w5 := bcall hb4 hb4.size hb5')
            | (go_at_call 21; refine (specCellOk_any _ _ _).mono ?_; rintro e w6 ⟨rfl, hb6'⟩; have hb6 : Below w3.heap.size w3 w6 := bcall hb5 hb5.size hb6')
            | (go_at_call 21; refine (specCellOk_any _ _ _).mono ?_; rintro e w4 ⟨rfl, hb4'⟩; have hb4 : Below w3.heap.size w3 w4 := (by first | with_reducible exact hb4' | with_reducible exact bdrew hb4')))
        have hz_w6 := hb6.size
        replace c0 := keepc hb6 c0; replace c1 := keepc hb6 c1; replace d0 := keepc hb6 d0; replace d1 := keepc hb6 d1
        have hB_w6 := bcall hB_w3 (by omega) hb6
        clear hB_w3 hb6 hb5 hb4 hb4' hb5' hb6'
        have hs1 := one_at w6 k l
        have hbS3 : Below w6.heap.size w6 (w6.alloc (.cells #[.int .i64 k, .int .i64 l] 36)) := (by repeat (first | exact Below.refl _ _ | refine Below.alloc ?_ (by first | exact Nat.le_refl _ | (simp; done) | (simp; omega)) _ | refine Below.drew ?_ | refine Below.setCell ?_ (by first | exact Nat.le_refl _ | (simp; done) | (simp; omega)) _))
        replace c0 := keepc hbS3 c0; replace c1 := keepc hbS3 c1; replace d0 := keepc hbS3 d0; replace d1 := keepc hbS3 d1
        have s0 : (w6.alloc (.cells #[.int .i64 k, .int .i64 l] 36)).cell? ⟨w6.heap.size, 0, none⟩ = some (.int .i64 k) := by simp [go_sem]
        have s1 : (w6.alloc (.cells #[.int .i64 k, .int .i64 l] 36)).cell? ⟨w6.heap.size, 1, none⟩ = some (.int .i64 l) := by simp [go_sem]
        have hBs3 := bcall hB_w6 (by omega) hbS3
        clear hB_w6
        clear hbS3
        go_wp2_with fail
        refine (text_impl HX.out (some ⟨w6.heap.size, 0, none⟩) 1 _ hs1 (by simp)).mono ?_
        rintro e w7 ⟨rfl, hb_w7⟩
        have hz_w7 := hb_w7.size
        try simp at hz_w7
        replace c0 := keepc hb_w7 c0; replace c1 := keepc hb_w7 c1; replace d0 := keepc hb_w7 d0; replace d1 := keepc hb_w7 d1; replace s0 := keepc hb_w7 s0; replace s1 := keepc hb_w7 s1
        have hB_w7 := bcall hBs3 (by first | omega | (simp; omega)) hb_w7
        clear hBs3 hb_w7
        have hs2 := one_at w7 k2 l2
        have dw0 := d0
        have dw1 := d1
        have hbS4 : Below w7.heap.size w7 (w7.alloc (.cells #[.int .i64 k2, .int .i64 l2] 36)) := (by repeat (first | exact Below.refl _ _ | refine Below.alloc ?_ (by first | exact Nat.le_refl _ | (simp; done) | (simp; omega)) _ | refine Below.drew ?_ | refine Below.setCell ?_ (by first | exact Nat.le_refl _ | (simp; done) | (simp; omega)) _))
        replace c0 := keepc hbS4 c0; replace c1 := keepc hbS4 c1; replace d0 := keepc hbS4 d0; replace d1 := keepc hbS4 d1; replace s0 := keepc hbS4 s0; replace s1 := keepc hbS4 s1
        have u0 : (w7.alloc (.cells #[.int .i64 k2, .int .i64 l2] 36)).cell? ⟨w7.heap.size, 0, none⟩ = some (.int .i64 k2) := by simp [go_sem]
        have u1 : (w7.alloc (.cells #[.int .i64 k2, .int .i64 l2] 36)).cell? ⟨w7.heap.size, 1, none⟩ = some (.int .i64 l2) := by simp [go_sem]
        have hBs4 := bcall hB_w7 (by omega) hbS4
        clear hB_w7
        clear hbS4
        go_wp2_with fail
        refine (text_impl HY.out (some ⟨w7.heap.size, 0, none⟩) 1 _ hs2 (by simp)).mono ?_
        rintro e w8 ⟨rfl, hb_w8⟩
        have hz_w8 := hb_w8.size
        try simp at hz_w8
        replace c0 := keepc hb_w8 c0; replace c1 := keepc hb_w8 c1; replace d0 := keepc hb_w8 d0; replace d1 := keepc hb_w8 d1; replace s0 := keepc hb_w8 s0; replace s1 := keepc hb_w8 s1; replace u0 := keepc hb_w8 u0; replace u1 := keepc hb_w8 u1
        have hB_w8 := bcall hBs4 (by first | omega | (simp; omega)) hb_w8
        clear hBs4 hb_w8
        go_wp2
        go_ret
        exact ⟨rfl, hB_w8⟩
      · have e3 : ((str tx).toList == (str ty).toList) = false := by
          rw [str_beq, HZ.out, HW.out]
          simp only [decide_eq_false_iff_not]
          intro e
          simp only [List.cons.injEq, and_true] at e
          have := signB_inj (k, l) (k2, l2) hok hok2 e
          simp only [Prod.mk.injEq] at this
          exact hq this
        have e4 : ∀ w : World, Sem.run Try.prog (binOp .eql 36 (.agg #[.int .i64 k, .int .i64 l]) (.agg #[.int .i64 k2, .int .i64 l2])) w = .ok (.bool false) w := fun w => by rw [eqlCell, decide_eq_false hq]
        clear hx hy hq
        go_wp2
        go_region_held3 (fun w' => w'.cell? ⟨w1.heap.size, 0, none⟩ = some (.int .i64 k) ∧ w'.cell? ⟨w1.heap.size, 1, none⟩ = some (.int .i64 l) ∧ w'.cell? ⟨w2.heap.size, 0, none⟩ = some (.int .i64 k2) ∧ w'.cell? ⟨w2.heap.size, 1, none⟩ = some (.int .i64 l2))
          (first
            | with_reducible exact ⟨keepc hb6 c0, keepc hb6 c1, keepc hb6 d0, keepc hb6 d1⟩
            | with_reducible exact ⟨keepc hb5 c0, keepc hb5 c1, keepc hb5 d0, keepc hb5 d1⟩
            | with_reducible exact ⟨keepc hb4 c0, keepc hb4 c1, keepc hb4 d0, keepc hb4 d1⟩
            | go_keep)
          (first
            | (go_at_call 20; refine (implCellOk_any _ _ _).mono ?_; rintro e w5 ⟨rfl, hb5'⟩; have hb5 : Below w3.heap.size w3 w5 := bcall hb4 hb4.size hb5')
            | (go_at_call 21; refine (specCellOk_any _ _ _).mono ?_; rintro e w6 ⟨rfl, hb6'⟩; have hb6 : Below w3.heap.size w3 w6 := bcall hb5 hb5.size hb6')
            | (go_at_call 21; refine (specCellOk_any _ _ _).mono ?_; rintro e w4 ⟨rfl, hb4'⟩; have hb4 : Below w3.heap.size w3 w4 := (by first | with_reducible exact hb4' | with_reducible exact bdrew hb4')))
        have hz_w6 := hb6.size
        replace c0 := keepc hb6 c0; replace c1 := keepc hb6 c1; replace d0 := keepc hb6 d0; replace d1 := keepc hb6 d1
        have hB_w6 := bcall hB_w3 (by omega) hb6
        clear hB_w3 hb6 hb5 hb4 hb4' hb5' hb6'
        have hs1 := one_at w6 k l
        have hbS3 : Below w6.heap.size w6 (w6.alloc (.cells #[.int .i64 k, .int .i64 l] 36)) := (by repeat (first | exact Below.refl _ _ | refine Below.alloc ?_ (by first | exact Nat.le_refl _ | (simp; done) | (simp; omega)) _ | refine Below.drew ?_ | refine Below.setCell ?_ (by first | exact Nat.le_refl _ | (simp; done) | (simp; omega)) _))
        replace c0 := keepc hbS3 c0; replace c1 := keepc hbS3 c1; replace d0 := keepc hbS3 d0; replace d1 := keepc hbS3 d1
        have s0 : (w6.alloc (.cells #[.int .i64 k, .int .i64 l] 36)).cell? ⟨w6.heap.size, 0, none⟩ = some (.int .i64 k) := by simp [go_sem]
        have s1 : (w6.alloc (.cells #[.int .i64 k, .int .i64 l] 36)).cell? ⟨w6.heap.size, 1, none⟩ = some (.int .i64 l) := by simp [go_sem]
        have hBs3 := bcall hB_w6 (by omega) hbS3
        clear hB_w6
        clear hbS3
        go_wp2_with fail
        refine (text_impl HX.out (some ⟨w6.heap.size, 0, none⟩) 1 _ hs1 (by simp)).mono ?_
        rintro e w7 ⟨rfl, hb_w7⟩
        have hz_w7 := hb_w7.size
        try simp at hz_w7
        replace c0 := keepc hb_w7 c0; replace c1 := keepc hb_w7 c1; replace d0 := keepc hb_w7 d0; replace d1 := keepc hb_w7 d1; replace s0 := keepc hb_w7 s0; replace s1 := keepc hb_w7 s1
        have hB_w7 := bcall hBs3 (by first | omega | (simp; omega)) hb_w7
        clear hBs3 hb_w7
        have hs2 := one_at w7 k2 l2
        have dw0 := d0
        have dw1 := d1
        have hbS4 : Below w7.heap.size w7 (w7.alloc (.cells #[.int .i64 k2, .int .i64 l2] 36)) := (by repeat (first | exact Below.refl _ _ | refine Below.alloc ?_ (by first | exact Nat.le_refl _ | (simp; done) | (simp; omega)) _ | refine Below.drew ?_ | refine Below.setCell ?_ (by first | exact Nat.le_refl _ | (simp; done) | (simp; omega)) _))
        replace c0 := keepc hbS4 c0; replace c1 := keepc hbS4 c1; replace d0 := keepc hbS4 d0; replace d1 := keepc hbS4 d1; replace s0 := keepc hbS4 s0; replace s1 := keepc hbS4 s1
        have u0 : (w7.alloc (.cells #[.int .i64 k2, .int .i64 l2] 36)).cell? ⟨w7.heap.size, 0, none⟩ = some (.int .i64 k2) := by simp [go_sem]
        have u1 : (w7.alloc (.cells #[.int .i64 k2, .int .i64 l2] 36)).cell? ⟨w7.heap.size, 1, none⟩ = some (.int .i64 l2) := by simp [go_sem]
        have hBs4 := bcall hB_w7 (by omega) hbS4
        clear hB_w7
        clear hbS4
        go_wp2_with fail
        refine (text_impl HY.out (some ⟨w7.heap.size, 0, none⟩) 1 _ hs2 (by simp)).mono ?_
        rintro e w8 ⟨rfl, hb_w8⟩
        have hz_w8 := hb_w8.size
        try simp at hz_w8
        replace c0 := keepc hb_w8 c0; replace c1 := keepc hb_w8 c1; replace d0 := keepc hb_w8 d0; replace d1 := keepc hb_w8 d1; replace s0 := keepc hb_w8 s0; replace s1 := keepc hb_w8 s1; replace u0 := keepc hb_w8 u0; replace u1 := keepc hb_w8 u1
        have hB_w8 := bcall hBs4 (by first | omega | (simp; omega)) hb_w8
        clear hBs4 hb_w8
        go_wp2
        go_ret
        exact ⟨rfl, hB_w8⟩
    · have hok3 : okC k2 l2 = false := by simpa using hok2
      rw [if_neg hok2] at hy
      have HW : Hid (ty = []) := hy.symm
      have hq : ¬ (k = k2 ∧ l = l2) := by rintro ⟨rfl, rfl⟩; exact hok2 hok
      have e3 : ((str tx).toList == (str ty).toList) = false := by
        rw [str_beq, HZ.out, HW.out]; simp
      have e4 : ∀ w : World, Sem.run Try.prog (binOp .eql 36 (.agg #[.int .i64 k, .int .i64 l]) (.agg #[.int .i64 k2, .int .i64 l2])) w = .ok (.bool false) w := fun w => by rw [eqlCell, decide_eq_false hq]
      clear hx hy hq hok2
      go_wp2
      go_region_held3 (fun w' => w'.cell? ⟨w1.heap.size, 0, none⟩ = some (.int .i64 k) ∧ w'.cell? ⟨w1.heap.size, 1, none⟩ = some (.int .i64 l) ∧ w'.cell? ⟨w2.heap.size, 0, none⟩ = some (.int .i64 k2) ∧ w'.cell? ⟨w2.heap.size, 1, none⟩ = some (.int .i64 l2))
        (first
          | with_reducible exact ⟨keepc hb6 c0, keepc hb6 c1, keepc hb6 d0, keepc hb6 d1⟩
          | with_reducible exact ⟨keepc hb5 c0, keepc hb5 c1, keepc hb5 d0, keepc hb5 d1⟩
          | with_reducible exact ⟨keepc hb4 c0, keepc hb4 c1, keepc hb4 d0, keepc hb4 d1⟩
          | go_keep)
        (first
          | (go_at_call 20; refine (implCellOk_any _ _ _).mono ?_; rintro e w5 ⟨rfl, hb5'⟩; have hb5 : Below w3.heap.size w3 w5 := bcall hb4 hb4.size hb5')
          | (go_at_call 21; refine (specCellOk_any _ _ _).mono ?_; rintro e w6 ⟨rfl, hb6'⟩; have hb6 : Below w3.heap.size w3 w6 := bcall hb5 hb5.size hb6')
          | (go_at_call 21; refine (specCellOk_any _ _ _).mono ?_; rintro e w4 ⟨rfl, hb4'⟩; have hb4 : Below w3.heap.size w3 w4 := (by first | with_reducible exact hb4' | with_reducible exact bdrew hb4')))
      have hz_w6 := hb6.size
      replace c0 := keepc hb6 c0; replace c1 := keepc hb6 c1; replace d0 := keepc hb6 d0; replace d1 := keepc hb6 d1
      have hB_w6 := bcall hB_w3 (by omega) hb6
      clear hB_w3 hb6 hb5 hb4 hb4' hb5' hb6'
      have hs1 := one_at w6 k l
      have hbS3 : Below w6.heap.size w6 (w6.alloc (.cells #[.int .i64 k, .int .i64 l] 36)) := (by repeat (first | exact Below.refl _ _ | refine Below.alloc ?_ (by first | exact Nat.le_refl _ | (simp; done) | (simp; omega)) _ | refine Below.drew ?_ | refine Below.setCell ?_ (by first | exact Nat.le_refl _ | (simp; done) | (simp; omega)) _))
      replace c0 := keepc hbS3 c0; replace c1 := keepc hbS3 c1; replace d0 := keepc hbS3 d0; replace d1 := keepc hbS3 d1
      have s0 : (w6.alloc (.cells #[.int .i64 k, .int .i64 l] 36)).cell? ⟨w6.heap.size, 0, none⟩ = some (.int .i64 k) := by simp [go_sem]
      have s1 : (w6.alloc (.cells #[.int .i64 k, .int .i64 l] 36)).cell? ⟨w6.heap.size, 1, none⟩ = some (.int .i64 l) := by simp [go_sem]
      have hBs3 := bcall hB_w6 (by omega) hbS3
      clear hB_w6
      clear hbS3
      go_wp2_with fail
      refine (text_impl HX.out (some ⟨w6.heap.size, 0, none⟩) 1 _ hs1 (by simp)).mono ?_
      rintro e w7 ⟨rfl, hb_w7⟩
      have hz_w7 := hb_w7.size
      try simp at hz_w7
      replace c0 := keepc hb_w7 c0; replace c1 := keepc hb_w7 c1; replace d0 := keepc hb_w7 d0; replace d1 := keepc hb_w7 d1; replace s0 := keepc hb_w7 s0; replace s1 := keepc hb_w7 s1
      have hB_w7 := bcall hBs3 (by first | omega | (simp; omega)) hb_w7
      clear hBs3 hb_w7
      have hs2 := one_at w7 k2 l2
      have dw0 := d0
      have dw1 := d1
      have hbS4 : Below w7.heap.size w7 (w7.alloc (.cells #[.int .i64 k2, .int .i64 l2] 36)) := (by repeat (first | exact Below.refl _ _ | refine Below.alloc ?_ (by first | exact Nat.le_refl _ | (simp; done) | (simp; omega)) _ | refine Below.drew ?_ | refine Below.setCell ?_ (by first | exact Nat.le_refl _ | (simp; done) | (simp; omega)) _))
      replace c0 := keepc hbS4 c0; replace c1 := keepc hbS4 c1; replace d0 := keepc hbS4 d0; replace d1 := keepc hbS4 d1; replace s0 := keepc hbS4 s0; replace s1 := keepc hbS4 s1
      have u0 : (w7.alloc (.cells #[.int .i64 k2, .int .i64 l2] 36)).cell? ⟨w7.heap.size, 0, none⟩ = some (.int .i64 k2) := by simp [go_sem]
      have u1 : (w7.alloc (.cells #[.int .i64 k2, .int .i64 l2] 36)).cell? ⟨w7.heap.size, 1, none⟩ = some (.int .i64 l2) := by simp [go_sem]
      have hBs4 := bcall hB_w7 (by omega) hbS4
      clear hB_w7
      clear hbS4
      go_wp2_with fail
      refine (text_impl HY.out (some ⟨w7.heap.size, 0, none⟩) 1 _ hs2 (by simp)).mono ?_
      rintro e w8 ⟨rfl, hb_w8⟩
      have hz_w8 := hb_w8.size
      try simp at hz_w8
      replace c0 := keepc hb_w8 c0; replace c1 := keepc hb_w8 c1; replace d0 := keepc hb_w8 d0; replace d1 := keepc hb_w8 d1; replace s0 := keepc hb_w8 s0; replace s1 := keepc hb_w8 s1; replace u0 := keepc hb_w8 u0; replace u1 := keepc hb_w8 u1
      have hB_w8 := bcall hBs4 (by first | omega | (simp; omega)) hb_w8
      clear hBs4 hb_w8
      go_wp2
      go_ret
      exact ⟨rfl, hB_w8⟩
  · have hok4 : okC k l = false := by simpa using hok
    rw [if_neg hok] at hx
    have e1 : (str tx).toList.isEmpty = true := by rw [str_empty, ← hx]; simp
    clear hok hx hy
    by_cases hok2 : okC k2 l2 = true
    · have zz0 : True := trivial
      go_wp2
      go_region_held3 (fun w' => w'.cell? ⟨w1.heap.size, 0, none⟩ = some (.int .i64 k) ∧ w'.cell? ⟨w1.heap.size, 1, none⟩ = some (.int .i64 l) ∧ w'.cell? ⟨w2.heap.size, 0, none⟩ = some (.int .i64 k2) ∧ w'.cell? ⟨w2.heap.size, 1, none⟩ = some (.int .i64 l2))
        (first
          | with_reducible exact ⟨keepc hb6 c0, keepc hb6 c1, keepc hb6 d0, keepc hb6 d1⟩
          | with_reducible exact ⟨keepc hb5 c0, keepc hb5 c1, keepc hb5 d0, keepc hb5 d1⟩
          | with_reducible exact ⟨keepc hb4 c0, keepc hb4 c1, keepc hb4 d0, keepc hb4 d1⟩
          | go_keep)
        (first
          | (go_at_call 20; refine (implCellOk_any _ _ _).mono ?_; rintro e w5 ⟨rfl, hb5'⟩; have hb5 : Below w3.heap.size w3 w5 := bcall hb4 hb4.size hb5')
          | (go_at_call 21; refine (specCellOk_any _ _ _).mono ?_; rintro e w6 ⟨rfl, hb6'⟩; have hb6 : Below w3.heap.size w3 w6 := bcall hb5 hb5.size hb6')
          | (go_at_call 21; refine (specCellOk_any _ _ _).mono ?_; rintro e w4 ⟨rfl, hb4'⟩; have hb4 : Below w3.heap.size w3 w4 := (by first | with_reducible exact hb4' | with_reducible exact bdrew hb4')))
      have hz_w6 := hb6.size
      replace c0 := keepc hb6 c0; replace c1 := keepc hb6 c1; replace d0 := keepc hb6 d0; replace d1 := keepc hb6 d1
      have hB_w6 := bcall hB_w3 (by omega) hb6
      clear hB_w3 hb6 hb5 hb4 hb4' hb5' hb6'
      have hs1 := one_at w6 k l
      have hbS3 : Below w6.heap.size w6 (w6.alloc (.cells #[.int .i64 k, .int .i64 l] 36)) := (by repeat (first | exact Below.refl _ _ | refine Below.alloc ?_ (by first | exact Nat.le_refl _ | (simp; done) | (simp; omega)) _ | refine Below.drew ?_ | refine Below.setCell ?_ (by first | exact Nat.le_refl _ | (simp; done) | (simp; omega)) _))
      replace c0 := keepc hbS3 c0; replace c1 := keepc hbS3 c1; replace d0 := keepc hbS3 d0; replace d1 := keepc hbS3 d1
      have s0 : (w6.alloc (.cells #[.int .i64 k, .int .i64 l] 36)).cell? ⟨w6.heap.size, 0, none⟩ = some (.int .i64 k) := by simp [go_sem]
      have s1 : (w6.alloc (.cells #[.int .i64 k, .int .i64 l] 36)).cell? ⟨w6.heap.size, 1, none⟩ = some (.int .i64 l) := by simp [go_sem]
      have hBs3 := bcall hB_w6 (by omega) hbS3
      clear hB_w6
      clear hbS3
      go_wp2_with fail
      refine (text_impl HX.out (some ⟨w6.heap.size, 0, none⟩) 1 _ hs1 (by simp)).mono ?_
      rintro e w7 ⟨rfl, hb_w7⟩
      have hz_w7 := hb_w7.size
      try simp at hz_w7
      replace c0 := keepc hb_w7 c0; replace c1 := keepc hb_w7 c1; replace d0 := keepc hb_w7 d0; replace d1 := keepc hb_w7 d1; replace s0 := keepc hb_w7 s0; replace s1 := keepc hb_w7 s1
      have hB_w7 := bcall hBs3 (by first | omega | (simp; omega)) hb_w7
      clear hBs3 hb_w7
      have hs2 := one_at w7 k2 l2
      have dw0 := d0
      have dw1 := d1
      have hbS4 : Below w7.heap.size w7 (w7.alloc (.cells #[.int .i64 k2, .int .i64 l2] 36)) := (by repeat (first | exact Below.refl _ _ | refine Below.alloc ?_ (by first | exact Nat.le_refl _ | (simp; done) | (simp; omega)) _ | refine Below.drew ?_ | refine Below.setCell ?_ (by first | exact Nat.le_refl _ | (simp; done) | (simp; omega)) _))
      replace c0 := keepc hbS4 c0; replace c1 := keepc hbS4 c1; replace d0 := keepc hbS4 d0; replace d1 := keepc hbS4 d1; replace s0 := keepc hbS4 s0; replace s1 := keepc hbS4 s1
      have u0 : (w7.alloc (.cells #[.int .i64 k2, .int .i64 l2] 36)).cell? ⟨w7.heap.size, 0, none⟩ = some (.int .i64 k2) := by simp [go_sem]
      have u1 : (w7.alloc (.cells #[.int .i64 k2, .int .i64 l2] 36)).cell? ⟨w7.heap.size, 1, none⟩ = some (.int .i64 l2) := by simp [go_sem]
      have hBs4 := bcall hB_w7 (by omega) hbS4
      clear hB_w7
      clear hbS4
      go_wp2_with fail
      refine (text_impl HY.out (some ⟨w7.heap.size, 0, none⟩) 1 _ hs2 (by simp)).mono ?_
      rintro e w8 ⟨rfl, hb_w8⟩
      have hz_w8 := hb_w8.size
      try simp at hz_w8
      replace c0 := keepc hb_w8 c0; replace c1 := keepc hb_w8 c1; replace d0 := keepc hb_w8 d0; replace d1 := keepc hb_w8 d1; replace s0 := keepc hb_w8 s0; replace s1 := keepc hb_w8 s1; replace u0 := keepc hb_w8 u0; replace u1 := keepc hb_w8 u1
      have hB_w8 := bcall hBs4 (by first | omega | (simp; omega)) hb_w8
      clear hBs4 hb_w8
      go_wp2
      go_ret
      exact ⟨rfl, hB_w8⟩
    · replace hok2 : okC k2 l2 = false := by simpa using hok2
      go_wp2
      go_region_held3 (fun w' => w'.cell? ⟨w1.heap.size, 0, none⟩ = some (.int .i64 k) ∧ w'.cell? ⟨w1.heap.size, 1, none⟩ = some (.int .i64 l) ∧ w'.cell? ⟨w2.heap.size, 0, none⟩ = some (.int .i64 k2) ∧ w'.cell? ⟨w2.heap.size, 1, none⟩ = some (.int .i64 l2))
        (first
          | with_reducible exact ⟨keepc hb6 c0, keepc hb6 c1, keepc hb6 d0, keepc hb6 d1⟩
          | with_reducible exact ⟨keepc hb5 c0, keepc hb5 c1, keepc hb5 d0, keepc hb5 d1⟩
          | with_reducible exact ⟨keepc hb4 c0, keepc hb4 c1, keepc hb4 d0, keepc hb4 d1⟩
          | go_keep)
        (first
          | (go_at_call 20; refine (implCellOk_any _ _ _).mono ?_; rintro e w5 ⟨rfl, hb5'⟩; have hb5 : Below w3.heap.size w3 w5 := bcall hb4 hb4.size hb5')
          | (go_at_call 21; refine (specCellOk_any _ _ _).mono ?_; rintro e w6 ⟨rfl, hb6'⟩; have hb6 : Below w3.heap.size w3 w6 := bcall hb5 hb5.size hb6')
          | (go_at_call 21; refine (specCellOk_any _ _ _).mono ?_; rintro e w4 ⟨rfl, hb4'⟩; have hb4 : Below w3.heap.size w3 w4 := (by first | with_reducible exact hb4' | with_reducible exact bdrew hb4')))
      have hz_w6 := hb6.size
      replace c0 := keepc hb6 c0; replace c1 := keepc hb6 c1; replace d0 := keepc hb6 d0; replace d1 := keepc hb6 d1
      have hB_w6 := bcall hB_w3 (by omega) hb6
      clear hB_w3 hb6 hb5 hb4 hb4' hb5' hb6'
      have hs1 := one_at w6 k l
      have hbS3 : Below w6.heap.size w6 (w6.alloc (.cells #[.int .i64 k, .int .i64 l] 36)) := (by repeat (first | exact Below.refl _ _ | refine Below.alloc ?_ (by first | exact Nat.le_refl _ | (simp; done) | (simp; omega)) _ | refine Below.drew ?_ | refine Below.setCell ?_ (by first | exact Nat.le_refl _ | (simp; done) | (simp; omega)) _))
      replace c0 := keepc hbS3 c0; replace c1 := keepc hbS3 c1; replace d0 := keepc hbS3 d0; replace d1 := keepc hbS3 d1
      have s0 : (w6.alloc (.cells #[.int .i64 k, .int .i64 l] 36)).cell? ⟨w6.heap.size, 0, none⟩ = some (.int .i64 k) := by simp [go_sem]
      have s1 : (w6.alloc (.cells #[.int .i64 k, .int .i64 l] 36)).cell? ⟨w6.heap.size, 1, none⟩ = some (.int .i64 l) := by simp [go_sem]
      have hBs3 := bcall hB_w6 (by omega) hbS3
      clear hB_w6
      clear hbS3
      go_wp2_with fail
      refine (text_impl HX.out (some ⟨w6.heap.size, 0, none⟩) 1 _ hs1 (by simp)).mono ?_
      rintro e w7 ⟨rfl, hb_w7⟩
      have hz_w7 := hb_w7.size
      try simp at hz_w7
      replace c0 := keepc hb_w7 c0; replace c1 := keepc hb_w7 c1; replace d0 := keepc hb_w7 d0; replace d1 := keepc hb_w7 d1; replace s0 := keepc hb_w7 s0; replace s1 := keepc hb_w7 s1
      have hB_w7 := bcall hBs3 (by first | omega | (simp; omega)) hb_w7
      clear hBs3 hb_w7
      have hs2 := one_at w7 k2 l2
      have dw0 := d0
      have dw1 := d1
      have hbS4 : Below w7.heap.size w7 (w7.alloc (.cells #[.int .i64 k2, .int .i64 l2] 36)) := (by repeat (first | exact Below.refl _ _ | refine Below.alloc ?_ (by first | exact Nat.le_refl _ | (simp; done) | (simp; omega)) _ | refine Below.drew ?_ | refine Below.setCell ?_ (by first | exact Nat.le_refl _ | (simp; done) | (simp; omega)) _))
      replace c0 := keepc hbS4 c0; replace c1 := keepc hbS4 c1; replace d0 := keepc hbS4 d0; replace d1 := keepc hbS4 d1; replace s0 := keepc hbS4 s0; replace s1 := keepc hbS4 s1
      have u0 : (w7.alloc (.cells #[.int .i64 k2, .int .i64 l2] 36)).cell? ⟨w7.heap.size, 0, none⟩ = some (.int .i64 k2) := by simp [go_sem]
      have u1 : (w7.alloc (.cells #[.int .i64 k2, .int .i64 l2] 36)).cell? ⟨w7.heap.size, 1, none⟩ = some (.int .i64 l2) := by simp [go_sem]
      have hBs4 := bcall hB_w7 (by omega) hbS4
      clear hB_w7
      clear hbS4
      go_wp2_with fail
      refine (text_impl HY.out (some ⟨w7.heap.size, 0, none⟩) 1 _ hs2 (by simp)).mono ?_
      rintro e w8 ⟨rfl, hb_w8⟩
      have hz_w8 := hb_w8.size
      try simp at hz_w8
      replace c0 := keepc hb_w8 c0; replace c1 := keepc hb_w8 c1; replace d0 := keepc hb_w8 d0; replace d1 := keepc hb_w8 d1; replace s0 := keepc hb_w8 s0; replace s1 := keepc hb_w8 s1; replace u0 := keepc hb_w8 u0; replace u1 := keepc hb_w8 u1
      have hB_w8 := bcall hBs4 (by first | omega | (simp; omega)) hb_w8
      clear hBs4 hb_w8
      go_wp2
      go_ret
      exact ⟨rfl, hB_w8⟩

theorem walk (a : Option Addr) (n cap : Nat) (f : Nat → Int) (a' : Option Addr) (n' cap' : Nat) (f' : Nat → Int) (w : World) (h : BytesAt w a n f) (hm : n ≤ cap ∧ cap ≤ 9223372036854775807) (h' : BytesAt w a' n' f') (hm' : n' ≤ cap' ∧ cap' ≤ 9223372036854775807) :
    Calls Try.prog 7 #[.slice a n cap, .slice a' n' cap'] w fun e w' => e = .returned (.bool true) ∧ Below w.heap.size w w' := by
  by_cases hs : n ≤ 1048576
  · by_cases hs' : n' ≤ 1048576
    · exact small a n cap f a' n' cap' f' w h hm h' hm' hs hs'
    · exact big' a n cap f a' n' cap' f' w h hm h' hm' hs (by omega)
  · exact big a n cap f a' n' cap' f' w h hm h' hm' (by omega)

set_option maxRecDepth 100000 in
theorem lifted (os : Os) (started : os.Started) (H : Type) (enc : TypeId × Value → H) :
    ReturnsInHanded {} Try.checked os 7 .any (Rows.fnCellSignSpec.pre6 enc Try.prog Try.f7 Rows.fnCellSignRow.domain false) (Rows.fnCellSignSpec.post enc Try.prog Try.f7 false true false false) := by
  refine returnsInHanded_of_change (C := Try.checked) own started (by kernel_rfl) Try.func7
    (ChangeSpec.witness6 (enc := enc) (C := Try.checked) false ⟨#[], #[.slice none 0 0, .slice none 0 0], []⟩ 8 (by kernel_rfl) (by kernel_rfl) (by kernel_rfl) (by kernel_rfl)) ?_
  intro W base args ds gs before hval0 hW hcnd _
  have hval : ∀ (j : Nat) t v, Try.f7.params[j]? = some t → args[j]? = some v → Value.okWide Try.prog W .any base t v := hval0
  have hW' := hW
  obtain ⟨p, q, hA0, hV, rfl, hfz, hnd⟩ := hW
  have hA : DataW.TrodAll enc Try.prog W 0 (fun _ => true) true Try.f7.params.toList args.toList ds p := hA0
  rw [Try.params7] at hA hval
  obtain ⟨v0, vs0, d0, ds0, p0, q0, hargs, rfl, rfl, h0, r0⟩ := trodAll_cons hA
  obtain ⟨v1, vs1, d1, ds1, p1, q1, rfl, rfl, rfl, h1, r1⟩ := trodAll_cons r0
  obtain ⟨rfl, rfl, rfl⟩ := trodAll_nil r1
  obtain rfl : args = #[v0, v1] := by cases args; simp_all
  obtain ⟨rfl, rfl⟩ := trodVars_none hV
  have k0 := h0
  have lt0 : ∀ x ∈ p0, x.block < W.heap.size := by obtain ⟨m, hm⟩ := k0; exact DataW.trod_lt m _ _ _ hm
  obtain ⟨a0, n0, cap0, f0, rfl, hC0, hm0⟩ := open_bytes (hval 0 22 v0 rfl rfl) h0
  have k1 := h1
  have lt1 : ∀ x ∈ p1, x.block < W.heap.size := by obtain ⟨m, hm⟩ := k1; exact DataW.trod_lt m _ _ _ hm
  obtain ⟨a1, n1, cap1, f1, rfl, hC1, hm1⟩ := open_bytes (hval 1 22 v1 rfl rfl) h1
  clear hA0 hval0
  refine (walk a0 n0 cap0 f0 a1 n1 cap1 f1 W hC0 hm0 hC1 hm1).mono fun e W' ⟨he, bel⟩ => ?_
  subst he
  exact ⟨_, rfl, _, _, _, [], _, [], hW', trodAll_mk1 (shut_bool Try.underlying4 _), (trodAll_cons_mk (Below.trod laidOut (by kernel_rfl) (of_decide_eq_true (by kernel_rfl)) k0 bel lt0) (trodAll_cons_mk (Below.trod laidOut (by kernel_rfl) (of_decide_eq_true (by kernel_rfl)) k1 bel lt1) trodAll_mk0)), rfl, bel.frame _, fun h => by cases h⟩

theorem over : Rows.fnCellSignRow.holds Try.pinned (OpenSpec.ofChange Rows.fnCellSignSpec) :=
  OpenClaim.holds_of_wide 7 Try.f7 rfl rfl rfl rfl rfl rfl rfl ⟨rfl, rfl, rfl, rfl, rfl⟩ rfl rfl rfl rfl rfl (by kernel_rfl) Try.func7 (by kernel_rfl)
    (of_decide_eq_true (by kernel_rfl)) (by unfold Func.isWrapper; first | (rw [if_pos (by decide +kernel)]; kernel_rfl) | (rw [if_neg (by decide +kernel)]; exact ⟨rfl, rfl⟩))
    (fun os started H enc _ => lifted os started H enc)

end Go.Proofs.Ytgichlfkhmomhaa.LwCellSign

namespace Go.Proofs.Ytgichlfkhmomhaa
/-- The statement. -/
theorem lwCellSign : Rows.FnCellSignSaid := LwCellSign.over
#print axioms lwCellSign
end Go.Proofs.Ytgichlfkhmomhaa
