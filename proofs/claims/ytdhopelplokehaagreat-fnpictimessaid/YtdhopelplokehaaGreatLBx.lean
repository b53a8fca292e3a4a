/- 'laws.FnPicTimes' returns true for all codes, on every schedule of its goroutines: lamps that are so many times as bright make a picture that is so many times as bright. No condition. -/
import Derived.Conc.LeavingOf
import Derived.Test.YtdhopelplokehaaGreatLBn
import Derived.Test.YtdhopelplokehaaGreatLBo
import Derived.Test.YtdhopelplokehaaGreatLBw
set_option linter.unusedVariables false
namespace Go.Proofs.YtdhopelplokehaaGreat
namespace LwPicTimes
open Go.ChangeShapes Go.WideShapes Go.ChangeAt Go.RowKit Go.Conc
theorem runs (a : Option Addr) (n cap : Nat) (f : Nat -> Int) (a' : Option Addr) (n' cap' : Nat) (f' : Nat -> Int) (W : World) (hC : Sp.BytesAt W a n f) (hm : n <= cap /\ cap <= 9223372036854775807) (hb : ∀ ad, a = some ad -> ∃ c e f, W.heap[ad.block]? = some (.cells c e f)) (hC' : Sp.BytesAt W a' n' f') (hm' : n' <= cap' /\ cap' <= 9223372036854775807) (hb' : ∀ ad, a' = some ad -> ∃ c e f, W.heap[ad.block]? = some (.cells c e f)) :
  ∃ m last o w' t', runNT Tryz.prog (m + 1) (solo (G (Frame.enter Tryz.prog 8 #[.slice a n cap, .slice a' n' cap'] .normal) []) W) #[] = (.ended o w', t') /\ runN Tryz.prog m (solo (G (Frame.enter Tryz.prog 8 #[.slice a n cap, .slice a' n' cap'] .normal) []) W) = .next last /\
   step Tryz.prog last = .ended o w' /\ Go.Conc.Good Tryz.prog (fun v w' => v = .bool true /\ Below W.heap.size W w') last o w' t' := by
 refine law_good (L := SqP.prog) (M := Tryz.prog) (K := fun b => (∃ ad, a = some ad /\ ad.block = b) \/ ∃ ad, a' = some ad /\ ad.block = b) (PostL := fun v _ => v = .bool true) SqP.whole SqP.bodies SqP.func8 rfl (by simp [Sq.X]) (by kernel_rfl) (by kernel_rfl) ?_ ?_ (pic_xok _) (fun _ _ _ _ h => h) (fun τ d => ?_) (fun R v v' wl w' hv h hB => ?_)
 ·rintro b (⟨ad, e, rfl⟩ | ⟨ad, e, rfl⟩)
  ·obtain ⟨c, e2, f, hx⟩ := hb ad e
   exact .inl ⟨c, e2, f, hx, no_other⟩
  ·obtain ⟨c, e2, f, hx⟩ := hb' ad e
   exact .inl ⟨c, e2, f, hx, no_other⟩
 ·refine (rrel_one ?_).push ?_
  ·cases a with
   | none => exact .nilSlice _ _
   | some ad => exact .slice _ _ ⟨⟨rfl, .inl ⟨ad, rfl, rfl⟩⟩, rfl, rfl⟩
  ·cases a' with
   | none => exact .nilSlice _ _
   | some ad => exact .slice _ _ ⟨⟨rfl, .inr ⟨ad, rfl, rfl⟩⟩, rfl, rfl⟩
 ·exact (Sp.picTimes_any a n cap f a' n' cap' f' _ (bytes_frz hC τ d) hm (bytes_frz hC' τ d) hm').mono fun e w' h => ⟨_, h.1, rfl⟩
 ·subst h
  exact ⟨vrel_bool hv, hB⟩
set_option maxRecDepth 100000 in
theorem lifted (os : Os) (started : os.Started) (H : Type) (enc : TypeId × Value -> H) :
  ReturnsInLeavingWide {} Tryz.checked os 8 .any (Rows.fnPicTimesSpec.pre6 enc Tryz.prog Tryz.f8 Rows.fnPicTimesRow.domain false) (Rows.fnPicTimesSpec.post enc Tryz.prog Tryz.f8 false true false false) := by
 refine returnsInLeavingWide_of_change_sized (C := Tryz.checked) own started Tryz.func8
  (ChangeSpec.witness6 (enc := enc) (C := Tryz.checked) false ⟨#[], #[.slice none 0 0, .slice none 0 0], []⟩ 8 (by kernel_rfl) (by kernel_rfl) (by kernel_rfl) (by kernel_rfl)) ?_
 intro W base args ds gs before hval0 hW hcnd _ _
 have hval : ∀ (j : Nat) t v, Tryz.f8.params[j]? = some t -> args[j]? = some v -> Value.okWide Tryz.prog W .any base t v := hval0
 have hW' := hW
 obtain ⟨p, q, hA0, hV, rfl, hfz, hnd⟩ := hW
 have hA : DataW.TrodAll enc Tryz.prog W 0 (fun _ => true) true Tryz.f8.params.toList args.toList ds p := hA0
 rw [Tryz.params8] at hA hval
 obtain ⟨v0, vs0, d0, ds0, p0, q0, hargs, rfl, rfl, h0, r0⟩ := trodAll_cons hA
 obtain ⟨v1, vs1, d1, ds1, p1, q1, rfl, rfl, rfl, h1, r1⟩ := trodAll_cons r0
 obtain ⟨rfl, rfl, rfl⟩ := trodAll_nil r1
 obtain rfl : args = #[v0, v1] := by cases args; simp_all
 obtain ⟨rfl, rfl⟩ := trodVars_none hV
 have k0 := h0
 have lt0 : ∀ x ∈ p0, x.block < W.heap.size := by obtain ⟨m, hm⟩ := k0; exact DataW.trod_lt m _ _ _ hm
 have hg0 := hval 0 22 v0 rfl rfl
 obtain ⟨a0, n0, cap0, f0, rfl, hC0, hm0⟩ := open_bytes (hval 0 22 v0 rfl rfl) h0
 have k1 := h1
 have lt1 : ∀ x ∈ p1, x.block < W.heap.size := by obtain ⟨m, hm⟩ := k1; exact DataW.trod_lt m _ _ _ hm
 have hg1 := hval 1 22 v1 rfl rfl
 obtain ⟨a1, n1, cap1, f1, rfl, hC1, hm1⟩ := open_bytes (hval 1 22 v1 rfl rfl) h1
 clear hA0 hval0
 obtain ⟨M, last, o, w9, t9, r1, r2, r3, r4⟩ := runs a0 n0 cap0 f0 a1 n1 cap1 f1 W hC0 hm0 (fun ad e => by subst e; exact bytes_block hg0) hC1 hm1 (fun ad e => by subst e; exact bytes_block hg1)
 refine ⟨M, last, o, w9, t9, r1, r2, r3, r4.mono fun v ⟨he, bel⟩ => ?_⟩
 subst he
 exact ⟨_, _, _, [], _, [], hW', trodAll_mk1 (shut_bool Tryz.underlying4 _), (trodAll_cons_mk (Below.trod laidOut (by kernel_rfl) (of_decide_eq_true (by kernel_rfl)) k0 bel lt0) (trodAll_cons_mk (Below.trod laidOut (by kernel_rfl) (of_decide_eq_true (by kernel_rfl)) k1 bel lt1) trodAll_mk0)), rfl, bel.frame _, fun h => by cases h⟩
theorem over : Rows.fnPicTimesRow.holds Tryz.pinned (OpenSpec.ofChange Rows.fnPicTimesSpec) :=
 OpenClaim.holds_of_wide_leaving 8 Tryz.f8 rfl rfl rfl rfl rfl rfl rfl ⟨rfl, rfl, rfl, rfl, rfl⟩ rfl rfl rfl rfl rfl (by kernel_rfl) Tryz.func8 (by kernel_rfl)
  (of_decide_eq_true (by kernel_rfl)) (by unfold Func.isWrapper; first | (rw [if_pos (by decide +kernel)]; kernel_rfl) | (rw [if_neg (by decide +kernel)]; exact ⟨rfl, rfl⟩))
  (fun os started H enc _ => lifted os started H enc)
end LwPicTimes
section
theorem lwPicTimes : Rows.FnPicTimesSaid := LwPicTimes.over
#print axioms lwPicTimes
end
end Go.Proofs.YtdhopelplokehaaGreat
