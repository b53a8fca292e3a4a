/-
  'laws.FnDirAll' returns true for all codes: a mirror turns all light, and others none. No condition.
-/
import Derived.Test.YtgikknbjmbolaaaFb
import Derived.Test.YtgikknbjmbolaaaYa
import Derived.Test.YtgikknbjmbolaaaYd
namespace Go.Proofs.Ytgikknbjmbolaaa.LwDirAll
open Go.ChangeShapes Go.WideShapes Go.ChangeAt Go.RowKit
set_option linter.unusedVariables false
attribute [local go_sem ↓] Go.wp_at_zero Go.wp_at_succ

theorem turn_all (k d : Int) (h0 : 0 ≤ d) (h3 : d ≤ 3) : 0 ≤ turnD k d ∧ turnD k d ≤ 3 ∧ ((k = 2 ∨ k = 3 ∨ k = 4 ∨ k = 5) → ¬ turnD k d % 2 = d % 2) ∧ (¬ (k = 2 ∨ k = 3 ∨ k = 4 ∨ k = 5) → turnD k d = d) := by
  refine ⟨?_, ?_, fun hk => ?_, fun hk => ?_⟩
  · rcases (show d = 0 ∨ d = 1 ∨ d = 2 ∨ d = 3 by omega) with rfl | rfl | rfl | rfl <;> by_cases h1 : k = 2 ∨ k = 4 <;> by_cases h2 : k = 3 ∨ k = 5 <;> simp [turnD, slashD, h1, h2]
  · rcases (show d = 0 ∨ d = 1 ∨ d = 2 ∨ d = 3 by omega) with rfl | rfl | rfl | rfl <;> by_cases h1 : k = 2 ∨ k = 4 <;> by_cases h2 : k = 3 ∨ k = 5 <;> simp [turnD, slashD, h1, h2]
  · rcases (show d = 0 ∨ d = 1 ∨ d = 2 ∨ d = 3 by omega) with rfl | rfl | rfl | rfl <;> rcases hk with rfl | rfl | rfl | rfl <;> simp [turnD, slashD]
  · unfold turnD
    rw [if_neg (by omega), if_neg (by omega), if_neg (by omega)]
theorem dir_impl {k d x : Int} (h : turnD k d = x) (w : World) :
    Calls Try.prog 11 #[.int .i64 k, .int .i64 d] w fun e w' => e = .returned (.int .i64 x) ∧ Below w.heap.size w w' := by
  rw [← h]
  exact implDirTurn_any k d w
theorem dir_spec {k d x : Int} (h : turnD k d = x) (w : World) :
    Calls Try.prog 12 #[.int .i64 k, .int .i64 d] w fun e w' => e = .returned (.int .i64 x) ∧ w' = w := by
  rw [← h]
  exact specDirTurn_any k d w

/-- Too long a code. -/
theorem big (a : Option Addr) (n cap : Nat) (f : Nat → Int) (w : World) (h : BytesAt w a n f) (hm : n ≤ cap ∧ cap ≤ 9223372036854775807) (hbig : 1048576 < n) :
    Calls Try.prog 4 #[.slice a n cap] w fun e w' => e = .returned (.bool true) ∧ Below w.heap.size w w' := by
  have hb : (1048576 : Int) < (n : Int) := by omega
  go_enter Try.func4, Try.ntmps4
  go_wp2
  go_ret
  exact ⟨rfl, Below.refl _ _⟩

set_option maxRecDepth 100000 in
set_option maxHeartbeats 8000000 in
theorem small (a : Option Addr) (n cap : Nat) (f : Nat → Int) (w : World) (h : BytesAt w a n f) (hm : n ≤ cap ∧ cap ≤ 9223372036854775807) (hsm : n ≤ 1048576) :
    Calls Try.prog 4 #[.slice a n cap] w fun e w' => e = .returned (.bool true) ∧ Below w.heap.size w w' := by
  have hb : (n : Int) ≤ 1048576 := by omega
  go_enter Try.func4, Try.ntmps4
  go_wp2_with fail
  refine (drawDirTurn_any a n cap f w h hsm hm.1 hm.2).mono ?_
  rintro e w1 ⟨k, d, rfl, hb1⟩
  by_cases hd : d < 0 ∨ 3 < d
  · have ht : turnD k d = -1 := turnD_out k d hd
    obtain ⟨x, hx⟩ : ∃ x, turnD k d = x := ⟨_, rfl⟩
    have HX : Hid (turnD k d = x) := hx
    have hx0 : x < 0 := by omega
    clear hd ht hx
    go_wp2_with fail
    refine (dir_impl HX.out _).mono ?_
    rintro e w2 ⟨rfl, hb2⟩
    have hB2 := bcall hb1 hb1.size hb2
    go_wp2_with fail
    refine (dir_spec HX.out _).mono ?_
    rintro e w3 ⟨rfl, rfl⟩
    go_wp2_with fail
    refine (dir_spec HX.out _).mono ?_
    rintro e w3 ⟨rfl, rfl⟩
    go_wp2
    go_ret
    exact ⟨rfl, by first | exact hB2 | exact hB2.drew⟩
  · have q := turn_all k d (by omega) (by omega)
    obtain ⟨x, hx⟩ : ∃ x, turnD k d = x := ⟨_, rfl⟩
    have HX : Hid (turnD k d = x) := hx
    rw [hx] at q
    obtain ⟨q1, q2, q3, q4⟩ := q
    have d0 : 0 ≤ d := by omega
    have d3 : d ≤ 3 := by omega
    clear hd hx
    go_wp2_with fail
    refine (dir_impl HX.out _).mono ?_
    rintro e w2 ⟨rfl, hb2⟩
    have hB2 := bcall hb1 hb1.size hb2
    go_wp2_with fail
    refine (dir_spec HX.out _).mono ?_
    rintro e w3 ⟨rfl, rfl⟩
    by_cases hk : k = 2 ∨ k = 3 ∨ k = 4 ∨ k = 5
    · have hp : ¬ x % 2 = d % 2 := q3 hk
      clear q3 q4
      rcases hk with rfl | rfl | rfl | rfl
      all_goals
        go_wp2
        go_ret
        exact ⟨rfl, by first | exact hB2 | exact hB2.drew⟩
    · have hp : (x == d) = true := by simpa using q4 hk
      have n2 : (k == 2) = false := by simp; omega
      have n3 : (k == 3) = false := by simp; omega
      have n4 : (k == 4) = false := by simp; omega
      have n5 : (k == 5) = false := by simp; omega
      clear q3 q4 hk
      go_wp2
      go_ret
      exact ⟨rfl, by first | exact hB2 | exact hB2.drew⟩

theorem walk (a : Option Addr) (n cap : Nat) (f : Nat → Int) (w : World) (h : BytesAt w a n f) (hm : n ≤ cap ∧ cap ≤ 9223372036854775807) :
    Calls Try.prog 4 #[.slice a n cap] w fun e w' => e = .returned (.bool true) ∧ Below w.heap.size w w' := by
  by_cases hs : n ≤ 1048576
  · exact small a n cap f w h hm hs
  · exact big a n cap f w h hm (by omega)

set_option maxRecDepth 100000 in
theorem lifted (os : Os) (started : os.Started) (H : Type) (enc : TypeId × Value → H) :
    ReturnsInHanded {} Try.checked os 4 .any (Rows.fnDirAllSpec.pre6 enc Try.prog Try.f4 Rows.fnDirAllRow.domain false) (Rows.fnDirAllSpec.post enc Try.prog Try.f4 false true false false) := by
  refine returnsInHanded_of_change (C := Try.checked) own started (by kernel_rfl) Try.func4
    (ChangeSpec.witness6 (enc := enc) (C := Try.checked) false ⟨#[], #[.slice none 0 0], []⟩ 8 (by kernel_rfl) (by kernel_rfl) (by kernel_rfl) (by kernel_rfl)) ?_
  intro W base args ds gs before hval0 hW hcnd _
  have hval : ∀ (j : Nat) t v, Try.f4.params[j]? = some t → args[j]? = some v → Value.okWide Try.prog W .any base t v := hval0
  have hW' := hW
  obtain ⟨p, q, hA0, hV, rfl, hfz, hnd⟩ := hW
  have hA : DataW.TrodAll enc Try.prog W 0 (fun _ => true) true Try.f4.params.toList args.toList ds p := hA0
  rw [Try.params4] at hA hval
  obtain ⟨v0, vs0, d0, ds0, p0, q0, hargs, rfl, rfl, h0, r0⟩ := trodAll_cons hA
  obtain ⟨rfl, rfl, rfl⟩ := trodAll_nil r0
  obtain rfl : args = #[v0] := by cases args; simp_all
  obtain ⟨rfl, rfl⟩ := trodVars_none hV
  have k0 := h0
  have lt0 : ∀ x ∈ p0, x.block < W.heap.size := by obtain ⟨m, hm⟩ := k0; exact DataW.trod_lt m _ _ _ hm
  obtain ⟨a0, n0, cap0, f0, rfl, hC0, hm0⟩ := open_bytes (hval 0 22 v0 rfl rfl) h0
  clear hA0 hval0
  refine (walk a0 n0 cap0 f0 W hC0 hm0).mono fun e W' ⟨he, bel⟩ => ?_
  subst he
  exact ⟨_, rfl, _, _, _, [], _, [], hW', trodAll_mk1 (shut_bool Try.underlying4 _), (trodAll_cons_mk (Below.trod laidOut (by kernel_rfl) (of_decide_eq_true (by kernel_rfl)) k0 bel lt0) trodAll_mk0), rfl, bel.frame _, fun h => by cases h⟩

theorem over : Rows.fnDirAllRow.holds Try.pinned (OpenSpec.ofChange Rows.fnDirAllSpec) :=
  OpenClaim.holds_of_wide 4 Try.f4 rfl rfl rfl rfl rfl rfl rfl ⟨rfl, rfl, rfl, rfl, rfl⟩ rfl rfl rfl rfl rfl (by kernel_rfl) Try.func4 (by kernel_rfl)
    (of_decide_eq_true (by kernel_rfl)) (by unfold Func.isWrapper; first | (rw [if_pos (by decide +kernel)]; kernel_rfl) | (rw [if_neg (by decide +kernel)]; exact ⟨rfl, rfl⟩))
    (fun os started H enc _ => lifted os started H enc)

end Go.Proofs.Ytgikknbjmbolaaa.LwDirAll

namespace Go.Proofs.Ytgikknbjmbolaaa
/-- The statement. -/
theorem lwDirAll : Rows.FnDirAllSaid := LwDirAll.over
#print axioms lwDirAll
end Go.Proofs.Ytgikknbjmbolaaa
