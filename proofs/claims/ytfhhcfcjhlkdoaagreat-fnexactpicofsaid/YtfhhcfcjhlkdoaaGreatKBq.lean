/-
  'laws.FnExactPicOf' returns true for every grid, on every schedule of its goroutines: impl.PicOf answers as spec.PicOf, writes into no argument, keeps nothing of one, and its answer owns its memory, behind another call too. No condition.
-/
import Derived.Test.YtfhhcfcjhlkdoaaGreatChecked
import Derived.Test.YtfhhcfcjhlkdoaaGreatRows
import Derived.Conc.LeavingOf
import Derived.Calls
import Derived.Laws.Sem
import Derived.WalkKit
import Derived.WalkLawsBesides
import Derived.Below
import Derived.Deep.Draws
import Derived.ProofKit
import Derived.OpenShut
import Derived.Lib.SmallJoins
import Derived.Deep.SlicePairs
import Derived.Carry
import Derived.Conc.Listed
import Derived.Conc.CrowdStepC
import Derived.Conc.CrowdComm
import Derived.Conc.CrowdRun
import Derived.Conc.Beside
import Derived.Conc.CrowdStepC2
import Derived.Conc.Token
import Derived.Conc.WgGenN2
import Derived.Conc.WgGenWait
import Derived.Conc.WgLib
import Derived.Laws.Tables
import Derived.Conc.SmallLaws
import Derived.Laws.MakeOwn
import Derived.Conc.TokenWalk
import Derived.Deep.DrawnRows
import Derived.Laws.EntriesVeiled
import Derived.Deep.RegionHeld3
import Derived.BigQuiet
import Derived.Deep.DeepCutAuto
import Derived.Laws.CopyOwn
import Derived.Deep.WholeRow
import Derived.LoopN
import Derived.Deep.AppendLies
import Derived.Laws.Rows
import Derived.Deep.QuietTactic
import Derived.Laws.Bits64
import Derived.Deep.RegionLaw
import Derived.WalkSmall
import Derived.Deep.RegionHeldLaw
import Derived.Deep.LoopGhost
import Derived.Deep.RegionWith
import Derived.Test.YtfhhcfcjhlkdoaaGreatKAa
import Derived.Test.YtfhhcfcjhlkdoaaGreatKAb
import Derived.Test.YtfhhcfcjhlkdoaaGreatKAc
import Derived.Test.YtfhhcfcjhlkdoaaGreatKAd
import Derived.Test.YtfhhcfcjhlkdoaaGreatKAe
import Derived.Test.YtfhhcfcjhlkdoaaGreatKAf
import Derived.Test.YtfhhcfcjhlkdoaaGreatKAg
import Derived.Test.YtfhhcfcjhlkdoaaGreatKAh
import Derived.Test.YtfhhcfcjhlkdoaaGreatKAi
import Derived.Test.YtfhhcfcjhlkdoaaGreatKAj
import Derived.Test.YtfhhcfcjhlkdoaaGreatKAk
import Derived.Test.YtfhhcfcjhlkdoaaGreatKAl
import Derived.Test.YtfhhcfcjhlkdoaaGreatKAm
import Derived.Test.YtfhhcfcjhlkdoaaGreatKAn
import Derived.Test.YtfhhcfcjhlkdoaaGreatKAo
import Derived.Test.YtfhhcfcjhlkdoaaGreatKAp
import Derived.Test.YtfhhcfcjhlkdoaaGreatKAq
import Derived.Test.YtfhhcfcjhlkdoaaGreatKAr
import Derived.Test.YtfhhcfcjhlkdoaaGreatKAs
import Derived.Test.YtfhhcfcjhlkdoaaGreatKAt
import Derived.Test.YtfhhcfcjhlkdoaaGreatKAu
import Derived.Test.YtfhhcfcjhlkdoaaGreatKAv
import Derived.Test.YtfhhcfcjhlkdoaaGreatKAw
import Derived.Test.YtfhhcfcjhlkdoaaGreatKAx
import Derived.Test.YtfhhcfcjhlkdoaaGreatKAy
import Derived.Test.YtfhhcfcjhlkdoaaGreatKAz
import Derived.Test.YtfhhcfcjhlkdoaaGreatKBa
import Derived.Test.YtfhhcfcjhlkdoaaGreatKBb
import Derived.Test.YtfhhcfcjhlkdoaaGreatKBc
import Derived.Test.YtfhhcfcjhlkdoaaGreatKBd
import Derived.Test.YtfhhcfcjhlkdoaaGreatKBe
import Derived.Test.YtfhhcfcjhlkdoaaGreatKBf
import Derived.Test.YtfhhcfcjhlkdoaaGreatKBg
import Derived.Test.YtfhhcfcjhlkdoaaGreatKBh
import Derived.Test.YtfhhcfcjhlkdoaaGreatKBi
import Derived.Test.YtfhhcfcjhlkdoaaGreatKBj
import Derived.Test.YtfhhcfcjhlkdoaaGreatKBk
import Derived.Test.YtfhhcfcjhlkdoaaGreatKBl
import Derived.Test.YtfhhcfcjhlkdoaaGreatKBm
import Derived.Test.YtfhhcfcjhlkdoaaGreatKBn
import Derived.Test.YtfhhcfcjhlkdoaaGreatKBo
import Derived.Test.YtfhhcfcjhlkdoaaGreatKBp

namespace Go.Proofs.YtfhhcfcjhlkdoaaGreat.ExPicOf
open Go.ChangeShapes Go.WideShapes Go.ChangeAt Go.RowKit Go.Conc
set_option linter.unusedVariables false

/-- The real run. -/
theorem runs (wd : Int) (a : Option Addr) (cap : Nat) (cs : List (Int × Int)) (W : World) (hC : Sp.CellsAt W a cs) (hm : cs.length ≤ 9223372036854775807) (hb : ∀ ad, a = some ad → ∃ c e f, W.heap[ad.block]? = some (.cells c e f)) :
    ∃ n last o w' t', runNT Tryz.prog (n + 1) (solo (G (Frame.enter Tryz.prog 9 #[.agg #[.int .i64 wd, .slice a cs.length cap]] .normal) []) W) #[] = (.ended o w', t') ∧ runN Tryz.prog n (solo (G (Frame.enter Tryz.prog 9 #[.agg #[.int .i64 wd, .slice a cs.length cap]] .normal) []) W) = .next last ∧
      step Tryz.prog last = .ended o w' ∧ Go.Conc.Good Tryz.prog (fun v w' => v = .bool true ∧ Below W.heap.size W w') last o w' t' := by
  refine law_good (L := SqP.prog) (M := Tryz.prog) (K := fun b => ∃ ad, a = some ad ∧ ad.block = b) (PostL := fun v _ => v = .bool true) SqP.whole SqP.bodies SqP.func9 rfl (by simp [Sq.X]) (by kernel_rfl) (by kernel_rfl) ?_ ?_ (pic_xok _) (fun _ _ _ _ h => h) (fun τ d => ?_) (fun R v v' wl w' hv h hB => ?_)
  · rintro b ⟨ad, e, rfl⟩
    obtain ⟨c, e2, f, hx⟩ := hb ad e
    exact .inl ⟨c, e2, f, hx, no_other⟩
  · refine grid_rel1 wd ?_
    cases a with
    | none => exact .nilSlice _ _
    | some ad => exact .slice _ _ ⟨⟨rfl, ad, rfl, rfl⟩, rfl, rfl⟩
  · exact (Sp.exPicOf_any wd a cap cs _ (cells_frz hC (fun _ _ _ => rfl) τ d) hm).mono fun e w' h => ⟨_, h.1, rfl⟩
  · subst h
    exact ⟨vrel_bool hv, hB⟩

set_option maxRecDepth 100000 in
theorem lifted (os : Os) (started : os.Started) (H : Type) (enc : TypeId × Value → H) :
    ReturnsInLeavingWide {} Tryz.checked os 9 .any (Rows.fnExactPicOfSpec.pre6 enc Tryz.prog Tryz.f9 Rows.fnExactPicOfRow.domain false) (Rows.fnExactPicOfSpec.post enc Tryz.prog Tryz.f9 false true false false) := by
  refine returnsInLeavingWide_of_change_sized (C := Tryz.checked) own started Tryz.func9
    (ChangeSpec.witness6 (enc := enc) (C := Tryz.checked) false ⟨#[], #[.agg #[.int .i64 0, .slice none 0 0]], []⟩ 8 (by kernel_rfl) (by kernel_rfl) (by kernel_rfl) (by kernel_rfl)) ?_
  intro W base args ds gs before hval0 hW hcnd _ _
  have hval : ∀ (j : Nat) t v, Tryz.f9.params[j]? = some t → args[j]? = some v → Value.okWide Tryz.prog W .any base t v := hval0
  have hW' := hW
  obtain ⟨p, q, hA0, hV, rfl, hfz, hnd⟩ := hW
  have hA : DataW.TrodAll enc Tryz.prog W 0 (fun _ => true) true Tryz.f9.params.toList args.toList ds p := hA0
  rw [Tryz.params9] at hA hval
  obtain ⟨v0, vs0, d0, ds0, p0, q0, hargs, rfl, rfl, h0, r0⟩ := trodAll_cons hA
  obtain ⟨rfl, rfl, rfl⟩ := trodAll_nil r0
  obtain rfl : args = #[v0] := by cases args; simp_all
  obtain ⟨rfl, rfl⟩ := trodVars_none hV
  have k0 := h0
  have lt0 : ∀ x ∈ p0, x.block < W.heap.size := by obtain ⟨m, hm⟩ := k0; exact DataW.trod_lt m _ _ _ hm
  have hg0 := hval 0 44 v0 rfl rfl
  obtain ⟨wd0, a0, cap0, cs0, rfl, hC0, hm0⟩ := open_grid (hval 0 44 v0 rfl rfl) h0
  clear hA0 hval0
  obtain ⟨M, last, o, w9, t9, r1, r2, r3, r4⟩ := runs wd0 a0 cap0 cs0 W hC0 hm0 (fun ad e => by subst e; exact grid_block hg0)
  refine ⟨M, last, o, w9, t9, r1, r2, r3, r4.mono fun v ⟨he, bel⟩ => ?_⟩
  subst he
  exact ⟨_, _, _, [], _, [], hW', trodAll_mk1 (shut_bool Tryz.underlying4 _), (trodAll_cons_mk (Below.trod laidOut (by kernel_rfl) (of_decide_eq_true (by kernel_rfl)) k0 bel lt0) trodAll_mk0), rfl, bel.frame _, fun h => by cases h⟩

theorem over : Rows.fnExactPicOfRow.holds Tryz.pinned (OpenSpec.ofChange Rows.fnExactPicOfSpec) :=
  OpenClaim.holds_of_wide_leaving 9 Tryz.f9 rfl rfl rfl rfl rfl rfl rfl ⟨rfl, rfl, rfl, rfl, rfl⟩ rfl rfl rfl rfl rfl (by kernel_rfl) Tryz.func9 (by kernel_rfl)
    (of_decide_eq_true (by kernel_rfl)) (by unfold Func.isWrapper; first | (rw [if_pos (by decide +kernel)]; kernel_rfl) | (rw [if_neg (by decide +kernel)]; exact ⟨rfl, rfl⟩))
    (fun os started H enc _ => lifted os started H enc)

end Go.Proofs.YtfhhcfcjhlkdoaaGreat.ExPicOf

namespace Go.Proofs.YtfhhcfcjhlkdoaaGreat
/-- The statement. -/
theorem exPicOf : Rows.FnExactPicOfSaid := ExPicOf.over
#print axioms exPicOf
end Go.Proofs.YtfhhcfcjhlkdoaaGreat
