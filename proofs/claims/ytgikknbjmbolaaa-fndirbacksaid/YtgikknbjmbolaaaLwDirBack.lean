/-
  'laws.FnDirBack' returns true for all codes: behind a mirror light goes back as it came. No condition.
-/
import Derived.Test.YtgikknbjmbolaaaFb
import Derived.Test.YtgikknbjmbolaaaYa
import Derived.Test.YtgikknbjmbolaaaYd
namespace Go.Proofs.Ytgikknbjmbolaaa.LwDirBack
open Go.ChangeShapes Go.WideShapes Go.ChangeAt Go.RowKit
set_option linter.unusedVariables false
attribute [local go_sem ↓] Go.wp_at_zero Go.wp_at_succ

theorem turn_back (k d : Int) (h0 : 0 ≤ d) (h3 : d ≤ 3) : 0 ≤ turnD k d ∧ turnD k d ≤ 3 ∧ turnD k ((turnD k d + 2) % 4) = (d + 2) % 4 ∧ turnD k (turnD k d) = d := by
  rcases (show d = 0 ∨ d = 1 ∨ d = 2 ∨ d = 3 by omega) with rfl | rfl | rfl | rfl <;> by_cases h1 : k = 2 ∨ k = 4 <;> by_cases h2 : k = 3 ∨ k = 5 <;> simp [turnD, slashD, h1, h2]
theorem dir_impl {k d x : Int} (h : turnD k d = x) (w : World) :
    Calls Try.prog 11 #[.int .i64 k, .int .i64 d] w fun e w' => e = .returned (.int .i64 x) ∧ Below w.heap.size w w' := by
  rw [← h]
  exact implDirTurn_any k d w
theorem dir_spec {k d x : Int} (h : turnD k d = x) (w : World) :
    Calls Try.prog 12 #[.int .i64 k, .int .i64 d] w fun e w' => e = .returned (.int .i64 x) ∧ w' = w := by
  rw [← h]
  exact specDirTurn_any k d w

/-- Too long a code. -/
theorem big (a : Option Addr) (n cap : Nat) (f : Nat → Int) (w : World) (h : BytesAt w a n f) (hm : n ≤ cap ∧ cap ≤ 9223372036854775807) (hbig : 1048576 < n) :
    Calls Try.prog 3 #[.slice a n cap] w fun e w' => e = .returned (.bool true) ∧ Below w.heap.size w w' := by
  have hb : (1048576 : Int) < (n : Int) := by omega
  go_enter Try.func3, Try.ntmps3
  go_wp2
  go_ret
  exact ⟨rfl, Below.refl _ _⟩

set_option maxRecDepth 100000 in
set_option maxHeartbeats 8000000 in
theorem small (a : Option Addr) (n cap : Nat) (f : Nat → Int) (w : World) (h : BytesAt w a n f) (hm : n ≤ cap ∧ cap ≤ 9223372036854775807) (hsm : n ≤ 1048576) :
    Calls Try.prog 3 #[.slice a n cap] w fun e w' => e = .returned (.bool true) ∧ Below w.heap.size w w' := by
  have hb : (n : Int) ≤ 1048576 := by omega
  go_enter Try.func3, Try.ntmps3
  go_wp2_with fail
  refine (drawDirTurn_any a n cap f w h hsm hm.1 hm.2).mono ?_
  rintro e w1 ⟨k, d, rfl, hb1⟩
  by_cases hd : d < 0 ∨ 3 < d
  · have ht : turnD k d = -1 := turnD_out k d hd
    obtain ⟨x, hx⟩ : ∃ x, turnD k d = x := ⟨_, rfl⟩
    have HX : Hid (turnD k d = x) := hx
    have hx0 : x < 0 := by omega
    clear hd ht hx
    go_wp2_with fail
    refine (dir_impl HX.out _).mono ?_
    rintro e w2 ⟨rfl, hb2⟩
    have hB2 := bcall hb1 hb1.size hb2
    go_wp2_with fail
    refine (dir_spec HX.out _).mono ?_
    rintro e w3 ⟨rfl, rfl⟩
    go_wp2_with fail
    refine (dir_spec HX.out _).mono ?_
    rintro e w3 ⟨rfl, rfl⟩
    go_wp2
    go_ret
    exact ⟨rfl, by first | exact hB2 | exact hB2.drew⟩
  · have q := turn_back k d (by omega) (by omega)
    obtain ⟨x, hx⟩ : ∃ x, turnD k d = x := ⟨_, rfl⟩
    have HX : Hid (turnD k d = x) := hx
    rw [hx] at q
    obtain ⟨q1, q2, q3, q4⟩ := q
    have d0 : 0 ≤ d := by omega
    have d3 : d ≤ 3 := by omega
    have HY : Hid (turnD k ((x + 2) % 4) = (d + 2) % 4) := q3
    have HZ : Hid (turnD k x = d) := q4
    clear hd hx q3 q4
    go_wp2_with fail
    refine (dir_impl HX.out _).mono ?_
    rintro e w2 ⟨rfl, hb2⟩
    have hB2 := bcall hb1 hb1.size hb2
    go_wp2_with fail
    refine (dir_spec HX.out _).mono ?_
    rintro e w3 ⟨rfl, rfl⟩
    go_wp2_with fail
    refine (dir_impl HY.out _).mono ?_
    rintro e w3 ⟨rfl, hb3⟩
    have hB3 := bcall hB2 hB2.size hb3
    go_wp2_with fail
    refine (dir_impl HZ.out _).mono ?_
    rintro e w4 ⟨rfl, hb4⟩
    have hB4 := bcall hB3 hB3.size hb4
    go_wp2
    go_ret
    exact ⟨rfl, by first | exact hB4 | exact hB4.drew⟩

theorem walk (a : Option Addr) (n cap : Nat) (f : Nat → Int) (w : World) (h : BytesAt w a n f) (hm : n ≤ cap ∧ cap ≤ 9223372036854775807) :
    Calls Try.prog 3 #[.slice a n cap] w fun e w' => e = .returned (.bool true) ∧ Below w.heap.size w w' := by
  by_cases hs : n ≤ 1048576
  · exact small a n cap f w h hm hs
  · exact big a n cap f w h hm (by omega)

set_option maxRecDepth 100000 in
theorem lifted (os : Os) (started : os.Started) (H : Type) (enc : TypeId × Value → H) :
    ReturnsInHanded {} Try.checked os 3 .any (Rows.fnDirBackSpec.pre6 enc Try.prog Try.f3 Rows.fnDirBackRow.domain false) (Rows.fnDirBackSpec.post enc Try.prog Try.f3 false true false false) := by
  refine returnsInHanded_of_change (C := Try.checked) own started (by kernel_rfl) Try.func3
    (ChangeSpec.witness6 (enc := enc) (C := Try.checked) false ⟨#[], #[.slice none 0 0], []⟩ 8 (by kernel_rfl) (by kernel_rfl) (by kernel_rfl) (by kernel_rfl)) ?_
  intro W base args ds gs before hval0 hW hcnd _
  have hval : ∀ (j : Nat) t v, Try.f3.params[j]? = some t → args[j]? = some v → Value.okWide Try.prog W .any base t v := hval0
  have hW' := hW
  obtain ⟨p, q, hA0, hV, rfl, hfz, hnd⟩ := hW
  have hA : DataW.TrodAll enc Try.prog W 0 (fun _ => true) true Try.f3.params.toList args.toList ds p := hA0
  rw [Try.params3] at hA hval
  obtain ⟨v0, vs0, d0, ds0, p0, q0, hargs, rfl, rfl, h0, r0⟩ := trodAll_cons hA
  obtain ⟨rfl, rfl, rfl⟩ := trodAll_nil r0
  obtain rfl : args = #[v0] := by cases args; simp_all
  obtain ⟨rfl, rfl⟩ := trodVars_none hV
  have k0 := h0
  have lt0 : ∀ x ∈ p0, x.block < W.heap.size := by obtain ⟨m, hm⟩ := k0; exact DataW.trod_lt m _ _ _ hm
  obtain ⟨a0, n0, cap0, f0, rfl, hC0, hm0⟩ := open_bytes (hval 0 22 v0 rfl rfl) h0
  clear hA0 hval0
  refine (walk a0 n0 cap0 f0 W hC0 hm0).mono fun e W' ⟨he, bel⟩ => ?_
  subst he
  exact ⟨_, rfl, _, _, _, [], _, [], hW', trodAll_mk1 (shut_bool Try.underlying4 _), (trodAll_cons_mk (Below.trod laidOut (by kernel_rfl) (of_decide_eq_true (by kernel_rfl)) k0 bel lt0) trodAll_mk0), rfl, bel.frame _, fun h => by cases h⟩

theorem over : Rows.fnDirBackRow.holds Try.pinned (OpenSpec.ofChange Rows.fnDirBackSpec) :=
  OpenClaim.holds_of_wide 3 Try.f3 rfl rfl rfl rfl rfl rfl rfl ⟨rfl, rfl, rfl, rfl, rfl⟩ rfl rfl rfl rfl rfl (by kernel_rfl) Try.func3 (by kernel_rfl)
    (of_decide_eq_true (by kernel_rfl)) (by unfold Func.isWrapper; first | (rw [if_pos (by decide +kernel)]; kernel_rfl) | (rw [if_neg (by decide +kernel)]; exact ⟨rfl, rfl⟩))
    (fun os started H enc _ => lifted os started H enc)

end Go.Proofs.Ytgikknbjmbolaaa.LwDirBack

namespace Go.Proofs.Ytgikknbjmbolaaa
/-- The statement. -/
theorem lwDirBack : Rows.FnDirBackSaid := LwDirBack.over
#print axioms lwDirBack
end Go.Proofs.Ytgikknbjmbolaaa
