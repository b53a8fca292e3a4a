/-
  'laws.FnExactGridRead' returns true for every text: impl.GridRead answers as spec.GridRead, and its answer owns its memory, behind another call too. No condition.
-/
import Derived.Test.YteibklaabnnfbaaFb
import Derived.Test.YteibklaabnnfbaaRv
import Derived.Test.YteibklaabnnfbaaLc
import Derived.ChangeMaps5
namespace Go.Proofs.Yteibklaabnnfbaa.ExGridRead
open Go.ChangeShapes Go.WideShapes Go.ChangeAt Go.RowKit Go.ChangeMaps
set_option linter.unusedVariables false

theorem str_of (s : ByteArray) : s = str s.data.toList := by simp [str]

set_option maxHeartbeats 400000 in
theorem big (t : List UInt8) (w : World) (hm : t.length ≤ 9223372036854775807) (hbig : 1048576 < t.length) :
    Calls Try.prog 5 #[.string (str t)] w fun e w' => e = .returned (.bool true) ∧ Below w.heap.size w w' := by
  obtain ⟨N, hN⟩ : ∃ N, t.length = N := ⟨_, rfl⟩
  have hsz : (str t).size = N := by rw [str_size, hN]
  rw [hN] at hm hbig
  have hb : (1048576 : Int) < (N : Int) := by omega
  clear hN
  go_enter Try.func5, Try.ntmps5
  go_wp2
  go_ret
  exact ⟨rfl, Below.refl _ _⟩

set_option maxHeartbeats 2000000 in
theorem small (t : List UInt8) (w : World) (hm : t.length ≤ 1048576) :
    Calls Try.prog 5 #[.string (str t)] w fun e w' => e = .returned (.bool true) ∧ Below w.heap.size w w' := by
  obtain ⟨tw, tc, tb, hl, -, hV⟩ := read_val t
  have CS : Hid (∀ w : World, Calls Try.prog 7 #[.string (str t)] w fun e w' => ∃ v, e = .returned (.tuple #[.agg #[.int .i64 tw, v], .bool tb]) ∧ Own w' w.heap.size v tc ∧ Below w.heap.size w w') := by
    intro w
    refine (specGridRead_any t w hm).mono ?_
    rintro e w' ⟨h, hb⟩
    obtain ⟨v, rfl, hO⟩ := hV e w' _ h
    exact ⟨v, rfl, hO, hb⟩
  have CI : Hid (∀ w : World, Calls Try.prog 8 #[.string (str t)] w fun e w' => ∃ v, e = .returned (.tuple #[.agg #[.int .i64 tw, v], .bool tb]) ∧ Own w' w.heap.size v tc ∧ Below w.heap.size w w') := by
    intro w
    refine (implGridRead_any t w hm).mono ?_
    rintro e w' ⟨h, hb⟩
    obtain ⟨v, rfl, hO⟩ := hV e w' _ h
    exact ⟨v, rfl, hO, hb⟩
  have heq : eqG tw tw tc tc = true := by simp [eqG]
  have htl : tc.length ≤ 1048576 := by omega
  obtain ⟨N, hN⟩ : ∃ N, t.length = N := ⟨_, rfl⟩
  have hsz : (str t).size = N := by rw [str_size, hN]
  rw [hN] at hm
  have hb : (N : Int) ≤ 1048576 := by omega
  clear hN hV
  cases tb
  all_goals
    go_enter Try.func5, Try.ntmps5
    go_wp2_with fail
    refine (CS.out _).mono ?_
    rintro e w3 ⟨v3, rfl, hO3, hb3⟩
    obtain ⟨a3, c3, rfl, -⟩ := hO3.slice
    have hz3 := hb3.size
    have hB3 : Below w.heap.size w w3 := hb3
    have R3 := hO3.range
    clear hb3
    have hbX : Below w3.heap.size w3 (w3.alloc (.cells #[.int .i64 tw, .slice a3 tc.length c3] 26)) := (by repeat (first | exact Below.refl _ _ | refine Below.alloc ?_ (by first | exact Nat.le_refl _ | (simp; done) | (simp; omega)) _ | refine Below.drew ?_ | refine Below.setCell ?_ (by first | exact Nat.le_refl _ | (simp; done) | (simp; omega)) _))
    replace hO3 := hO3.below hbX
    have q0 : (w3.alloc (.cells #[.int .i64 tw, .slice a3 tc.length c3] 26)).cell? ⟨w3.heap.size, 0, none⟩ = some (.int .i64 tw) := by simp [go_sem]
    have q1 : (w3.alloc (.cells #[.int .i64 tw, .slice a3 tc.length c3] 26)).cell? ⟨w3.heap.size, 1, none⟩ = some (.slice a3 tc.length c3) := by simp [go_sem]
    have hBX := bcall hB3 (by omega) hbX
    go_wp2_with fail
    refine (CI.out _).mono ?_
    rintro e w5 ⟨v5, rfl, hO5, hb5⟩
    obtain ⟨a5, c5, rfl, -⟩ := hO5.slice
    have hz5 := hb5.size
    simp at hz5
    have R5 := hO5.range
    simp only [World.size_alloc] at R5
    have hB5 : Below w.heap.size w w5 := bcall hBX (by simp; omega) hb5
    replace hO3 := hO3.below hb5
    replace q0 := keepc hb5 q0; replace q1 := keepc hb5 q1
    clear hb5 hbX hBX
    have hbZ : Below w5.heap.size w5 (w5.alloc (.cells #[.int .i64 tw, .slice a5 tc.length c5] 26)) := (by repeat (first | exact Below.refl _ _ | refine Below.alloc ?_ (by first | exact Nat.le_refl _ | (simp; done) | (simp; omega)) _ | refine Below.drew ?_ | refine Below.setCell ?_ (by first | exact Nat.le_refl _ | (simp; done) | (simp; omega)) _))
    have s5' : w3.heap.size < w5.heap.size := by omega
    have hq0 := keepc hbZ q0
    have hq1 := keepc hbZ q1
    go_wp2_with fail
    refine (eqGrid_own _ _ _ _ _ _ tc tc _ (hO5.below hbZ) (hO3.below hbZ) htl htl).mono ?_
    rintro e w6 ⟨rfl, hb6⟩
    have hz6 := hb6.size
    simp at hz6
    have u0 : w6.cell? ⟨w5.heap.size, 0, none⟩ = some (.int .i64 tw) := keepc hb6 (by simp [go_sem])
    have u1 : w6.cell? ⟨w5.heap.size, 1, none⟩ = some (.slice a5 tc.length c5) := keepc hb6 (by simp [go_sem])
    have hb56 : Below w5.heap.size w5 w6 := bcall hbZ (by simp) hb6
    have hB6 : Below w.heap.size w w6 := bcall hB5 (by omega) hb56
    replace hO3 := hO3.below hb56
    replace hO5 := hO5.below hb56
    replace q0 := keepc hb56 q0; replace q1 := keepc hb56 q1
    clear hb6 hbZ hb56 hq0 hq1
    -- the answer is marked
    go_wp2_with fail
    refine (markGrid_own _ _ _ _ tc _ hO5 htl (by omega)).mono ?_
    rintro e w11 ⟨rfl, hM, hg11⟩
    have hz11 := hg11.size
    have hB11 : Below w.heap.size w w11 := hB6.grown hg11 (by omega) (fun k hk => by have := R5 k hk; omega)
    have n2 : some w3.heap.size ≠ (Value.slice a5 tc.length c5).ownBlock := ne_of_range R5 (by omega)
    have n3 : some w5.heap.size ≠ (Value.slice a5 tc.length c5).ownBlock := ne_of_range R5 (by omega)
    replace hO3 := hO3.keptg hg11 (fun k hk e => by have := R3 k hk; have := R5 k e; omega)
    replace q0 := keepg hg11 n2 q0
    replace q1 := keepg hg11 n2 q1
    replace u0 := keepg hg11 n3 u0
    replace u1 := keepg hg11 n3 u1
    clear hg11 n2 n3 hO5
    go_wp2_with fail
    refine (heldGrid_own _ _ _ _ tc.length _ hM htl (by omega)).mono ?_
    rintro e w12 ⟨rfl, hb12⟩
    have hz12 := hb12.size
    have hB12 : Below w.heap.size w w12 := bcall hB11 (by omega) hb12
    replace hO3 := hO3.below hb12
    replace hM := hM.below hb12
    replace q0 := keepc hb12 q0; replace q1 := keepc hb12 q1; replace u0 := keepc hb12 u0; replace u1 := keepc hb12 u1
    clear hb12
    -- another call
    go_wp2_with fail
    refine (CI.out _).mono ?_
    rintro e w14 ⟨v14, rfl, hO14, hb14⟩
    obtain ⟨a14, c14, rfl, -⟩ := hO14.slice
    have hz14 := hb14.size
    have hB14 : Below w.heap.size w w14 := bcall hB12 (by omega) hb14
    replace hO3 := hO3.below hb14
    replace hM := hM.below hb14
    replace q0 := keepc hb14 q0; replace q1 := keepc hb14 q1; replace u0 := keepc hb14 u0; replace u1 := keepc hb14 u1
    clear hb14
    have hbV : Below w14.heap.size w14 (w14.alloc (.cells #[.int .i64 tw, .slice a14 tc.length c14] 26)) := (by repeat (first | exact Below.refl _ _ | refine Below.alloc ?_ (by first | exact Nat.le_refl _ | (simp; done) | (simp; omega)) _ | refine Below.drew ?_ | refine Below.setCell ?_ (by first | exact Nat.le_refl _ | (simp; done) | (simp; omega)) _))
    have s2 : w3.heap.size < w14.heap.size := by omega
    have s3x : w5.heap.size < w14.heap.size := by omega
    go_wp2_with fail
    refine (eqGrid_own _ _ _ _ _ _ tc tc _ (hO14.below hbV) (hO3.below hbV) htl htl).mono ?_
    rintro e w15 ⟨rfl, hb15⟩
    have hb1415 : Below w14.heap.size w14 w15 := bcall hbV (by simp) hb15
    have hz15 := hb1415.size
    have hB15 : Below w.heap.size w w15 := bcall hB14 (by omega) hb1415
    replace hM := hM.below hb1415
    replace u0 := keepc hb1415 u0; replace u1 := keepc hb1415 u1
    clear hb15 hbV hb1415 hO14 hO3 q0 q1
    go_wp2_with fail
    refine (heldGrid_own _ _ _ _ tc.length _ hM htl (by omega)).mono ?_
    rintro e w16 ⟨rfl, hb16⟩
    have hB16 : Below w.heap.size w w16 := bcall hB15 (by omega) hb16
    go_wp2
    go_ret
    exact ⟨rfl, hB16⟩

theorem walk (s : ByteArray) (w : World) (hs : s.size ≤ maxLen) :
    Calls Try.prog 5 #[.string s] w fun e w' => e = .returned (.bool true) ∧ Below w.heap.size w w' := by
  rw [str_of s]
  have hl : s.data.toList.length ≤ 9223372036854775807 := by unfold maxLen at hs; have e : s.data.toList.length = s.size := by simp
                                                             omega
  by_cases h : s.data.toList.length ≤ 1048576
  · exact small _ w h
  · exact big _ w hl (by omega)

set_option maxRecDepth 100000 in
theorem lifted (os : Os) (started : os.Started) (H : Type) (enc : TypeId × Value → H) :
    ReturnsInHanded {} Try.checked os 5 .any (Rows.fnExactGridReadSpec.pre6 enc Try.prog Try.f5 Rows.fnExactGridReadRow.domain false) (Rows.fnExactGridReadSpec.post enc Try.prog Try.f5 false true false false) := by
  refine returnsInHanded_of_change (C := Try.checked) own started (by kernel_rfl) Try.func5
    (ChangeSpec.witness6 (enc := enc) (C := Try.checked) false ⟨#[], #[.string ByteArray.empty], []⟩ 8 (by kernel_rfl) (by kernel_rfl) (by kernel_rfl) (by kernel_rfl)) ?_
  intro W base args ds gs before hval0 hW hcnd _
  have hval : ∀ (j : Nat) t v, Try.f5.params[j]? = some t → args[j]? = some v → Value.okWide Try.prog W .any base t v := hval0
  have hW' := hW
  obtain ⟨p, q, hA0, hV, rfl, hfz, hnd⟩ := hW
  have hA : DataW.TrodAll enc Try.prog W 0 (fun _ => true) true Try.f5.params.toList args.toList ds p := hA0
  rw [Try.params5] at hA hval
  obtain ⟨v0, vs0, d0, ds0, p0, q0, hargs, rfl, rfl, h0, r0⟩ := trodAll_cons hA
  obtain ⟨rfl, rfl, rfl⟩ := trodAll_nil r0
  obtain rfl : args = #[v0] := by cases args; simp_all
  obtain ⟨rfl, rfl⟩ := trodVars_none hV
  have k0 := h0
  have lt0 : ∀ x ∈ p0, x.block < W.heap.size := by obtain ⟨m, hm⟩ := k0; exact DataW.trod_lt m _ _ _ hm
  obtain ⟨s0, rfl, _, _, hs0⟩ := open_string Try.underlying9 (hval 0 9 v0 rfl rfl) h0
  clear hA0 hval0
  refine (walk s0 W hs0).mono fun e W' ⟨he, bel⟩ => ?_
  subst he
  exact ⟨_, rfl, _, _, _, [], _, [], hW', trodAll_mk1 (shut_bool Try.underlying4 _), (trodAll_cons_mk (Below.trod laidOut (by kernel_rfl) (of_decide_eq_true (by kernel_rfl)) k0 bel lt0) trodAll_mk0), rfl, bel.frame _, fun h => by cases h⟩

theorem over : Rows.fnExactGridReadRow.holds Try.pinned (OpenSpec.ofChange Rows.fnExactGridReadSpec) :=
  OpenClaim.holds_of_wide 5 Try.f5 rfl rfl rfl rfl rfl rfl rfl ⟨rfl, rfl, rfl, rfl, rfl⟩ rfl rfl rfl rfl rfl (by kernel_rfl) Try.func5 (by kernel_rfl)
    (of_decide_eq_true (by kernel_rfl)) (by unfold Func.isWrapper; first | (rw [if_pos (by decide +kernel)]; kernel_rfl) | (rw [if_neg (by decide +kernel)]; exact ⟨rfl, rfl⟩))
    (fun os started H enc _ => lifted os started H enc)

end Go.Proofs.Yteibklaabnnfbaa.ExGridRead

namespace Go.Proofs.Yteibklaabnnfbaa
/-- The statement. -/
theorem exGridRead : Rows.FnExactGridReadSaid := ExGridRead.over
#print axioms exGridRead
end Go.Proofs.Yteibklaabnnfbaa
