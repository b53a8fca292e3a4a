/-
  'laws.FnPicText' returns true for all codes: a picture has four lines, whose numbers have blanks between them. The tables of the library that its row lists are as its text lays them (the tied card).
-/
import Derived.Test.YtnochicpkcjjlaaDoorFb
import Derived.Test.YtnochicpkcjjlaaDoorHk
import Derived.Test.YtnochicpkcjjlaaDoorHl
import Derived.Test.YtnochicpkcjjlaaDoorHg
import Derived.Test.YtnochicpkcjjlaaDoorJo
import Derived.Test.YtnochicpkcjjlaaDoorCards
import Derived.Test.YtnochicpkcjjlaaDoorTie
import Derived.ProofKit
import Derived.LaidMore
import Derived.Stop.Joined
import Derived.Stop.LaidErr
import Derived.SevenTiedAt
import Derived.Lib.LaidTab
namespace Go.Proofs.YtnochicpkcjjlaaDoor.LwPicText
open Go.ChangeShapes Go.WideShapes Go.ChangeAt Go.RowKit
set_option linter.unusedVariables false
attribute [local go_sem ↓] Go.wp_at_zero Go.wp_at_succ

/-- Too long a code. -/
theorem big (a : Option Addr) (n cap : Nat) (f : Nat → Int) (w : World) (h : BytesAt w a n f) (hm : n ≤ cap ∧ cap ≤ 9223372036854775807) (hbig : 1048576 < n) :
    Calls Tryd.prog 3 #[.slice a n cap] w fun e w' => e = .returned (.bool true) ∧ Below w.heap.size w w' := by
  have hb : (1048576 : Int) < (n : Int) := by omega
  go_enter Tryd.func3, Tryd.ntmps3
  go_wp2
  go_ret
  exact ⟨rfl, Below.refl _ _⟩

set_option maxRecDepth 100000 in
set_option maxHeartbeats 2000000 in
theorem small (a : Option Addr) (n cap : Nat) (f : Nat → Int) (w : World) (h : BytesAt w a n f) (hm : n ≤ cap ∧ cap ≤ 9223372036854775807) (hsm : n ≤ 1048576) (ht : Tab w) :
    Calls Tryd.prog 3 #[.slice a n cap] w fun e w' => e = .returned (.bool true) ∧ Below w.heap.size w w' := by
  have hb : (n : Int) ≤ 1048576 := by omega
  have HTB : Hid (Tab w) := ht
  clear ht
  go_enter Tryd.func3, Tryd.ntmps3
  go_wp2_with fail
  refine (drawPicText_any a n cap f w h hsm hm.1 hm.2).mono ?_
  rintro e w1 ⟨wd, a1, c1, cs, pa, pc, ps, rfl, hC1, hl1, hR1, hpc, hpk, hb1⟩
  have HPK : Hid (PicOk ps) := hpk
  have hpl := hpk.1
  have hbS : Below w1.heap.size w1 (w1.alloc (.cells #[.int .i64 wd, .slice a1 cs.length c1] 25)) := (by repeat (first | exact Below.refl _ _ | refine Below.alloc ?_ (by first | exact Nat.le_refl _ | (simp; done) | (simp; omega)) _ | refine Below.drew ?_ | refine Below.setCell ?_ (by first | exact Nat.le_refl _ | (simp; done) | (simp; omega)) _))
  have g0 : (w1.alloc (.cells #[.int .i64 wd, .slice a1 cs.length c1] 25)).cell? ⟨w1.heap.size, 0, none⟩ = some (.int .i64 wd) := by simp [go_sem]
  have g1 : (w1.alloc (.cells #[.int .i64 wd, .slice a1 cs.length c1] 25)).cell? ⟨w1.heap.size, 1, none⟩ = some (.slice a1 cs.length c1) := by simp [go_sem]
  have hB := bcall hb1 hb1.size hbS
  replace hC1 := hC1.below hbS
  replace hR1 := hR1.below hbS
  have hTl := picT_len wd cs ps hpk.2
  obtain ⟨T, eT⟩ : ∃ T, picT wd cs ps = T := ⟨_, rfl⟩
  have ET : Hid (picT wd cs ps = T) := eT
  have hI := implPicText_any wd a1 c1 cs _ hC1 (by omega) pa pc ps hR1 (by omega) hpc hpk.2 (HTB.out.below hB)
  rw [eT] at hTl hI
  clear hb1 hbS hpk eT
  go_wp2_with fail
  refine hI.mono ?_
  rintro e w2 ⟨rfl, hb2⟩
  clear hI
  replace g0 := keepc hb2 g0; replace g1 := keepc hb2 g1
  replace hC1 := hC1.below hb2
  replace hR1 := hR1.below hb2
  have hB2 := bcall hB hB.size hb2
  have hS := specPicText_any wd a1 c1 cs _ hC1 (by omega) pa pc ps hR1 (by omega) HPK.out.2
  rw [ET.out] at hS
  clear hb2 hB
  go_wp2_with fail
  refine hS.mono ?_
  rintro e w3 ⟨rfl, hb3⟩
  clear hS
  replace g0 := keepc hb3 g0; replace g1 := keepc hb3 g1
  replace hC1 := hC1.below hb3
  have hB3 := bcall hB2 hB2.size hb3
  have hsz : (str T).size = T.length := str_size T
  clear hb3 hB2 hR1
  go_wp2_with fail
  go_loopw [6, 7, 8] (fun ll bb ii wr => ∃ k : Nat, k ≤ T.length ∧ ii = .int .i64 k ∧ ll = .int .i64 (cntB 10 (T.take k) : Nat) ∧ bb = .int .i64 (cntB 32 (T.take k) : Nat) ∧ Below w3.heap.size w3 wr) (fun _ _ ii _ => T.length - (intOf ii).toNat)
  case atStart => exact ⟨0, Nat.zero_le _, rfl, rfl, rfl, Below.refl _ _⟩
  case round =>
    rename World => wo
    obtain ⟨k, hk, rfl, rfl, rfl, hbo⟩ := hrel
    by_cases hlt : k < T.length
    · have hkI : (k : Int) < (T.length : Int) := by omega
      have hix := idx_str T k (T.getD k 0) (by simp [List.getElem?_eq_getElem hlt])
      have s10 := cnt_take 10 T k hlt
      have s32 := cnt_take 32 T k hlt
      obtain ⟨b, eb⟩ : ∃ b, T.getD k 0 = b := ⟨_, rfl⟩
      have c1 := cnt_le 10 (T.take k)
      have c2 := cnt_le 32 (T.take k)
      simp only [List.length_take] at c1 c2
      rw [eb] at hix s10 s32
      obtain ⟨N1, e1⟩ : ∃ N, cntB 10 (T.take k) = N := ⟨_, rfl⟩
      obtain ⟨N2, e2⟩ : ∃ N, cntB 32 (T.take k) = N := ⟨_, rfl⟩
      rw [e1] at s10 c1 ⊢
      rw [e2] at s32 c2 ⊢
      have S10 : Hid (cntB 10 (T.take (k + 1)) = N1 + (if b = 10 then 1 else 0)) := s10
      have S32 : Hid (cntB 32 (T.take (k + 1)) = N2 + (if b = 32 then 1 else 0)) := s32
      have v1 : IntKind.i64.wrap ((N1 : Int) + 1) = (N1 : Int) + 1 := IntWalk.i64_in _ (by omega)
      have v2 : IntKind.i64.wrap ((N2 : Int) + 1) = (N2 : Int) + 1 := IntWalk.i64_in _ (by omega)
      clear s10 s32 eb e1 e2 c1 c2
      by_cases h10 : b = 10
      · subst h10
        have z1 : (((10 : UInt8).toNat : Int) == 10) = true := by decide
        have z2 : (((10 : UInt8).toNat : Int) == 32) = false := by decide
        go_wp2
        go_roundw
        case rel => exact ⟨k + 1, by omega, by go_num, by rw [S10.out, if_pos rfl]; go_num, by rw [S32.out, if_neg (by decide)]; rfl, hbo⟩
        case measure => simp [intOf]; omega
      · have z1 : ((b.toNat : Int) == 10) = false := by
          simp only [beq_eq_false_iff_ne, ne_eq]
          intro q
          exact h10 (UInt8.toNat_inj.1 (by have : (10 : UInt8).toNat = 10 := rfl; omega))
        by_cases h32 : b = 32
        · subst h32
          have z2 : (((32 : UInt8).toNat : Int) == 32) = true := by decide
          go_wp2
          go_roundw
          case rel => exact ⟨k + 1, by omega, by go_num, by rw [S10.out, if_neg h10]; rfl, by rw [S32.out, if_pos rfl]; go_num, hbo⟩
          case measure => simp [intOf]; omega
        · have z2 : ((b.toNat : Int) == 32) = false := by
            simp only [beq_eq_false_iff_ne, ne_eq]
            intro q
            exact h32 (UInt8.toNat_inj.1 (by have : (32 : UInt8).toNat = 32 := rfl; omega))
          go_wp2
          go_roundw
          case rel => exact ⟨k + 1, by omega, by go_num, by rw [S10.out, if_neg h10]; rfl, by rw [S32.out, if_neg h32]; rfl, hbo⟩
          case measure => simp [intOf]; omega
    · have hfin : k = T.length := by omega
      subst hfin
      rw [List.take_of_length_le (Nat.le_refl _)]
      have hkI : ¬ (T.length : Int) < (T.length : Int) := by omega
      replace g0 := keepc hbo g0; replace g1 := keepc hbo g1
      have hC4 := hC1.below hbo
      have hB4 := bcall hB3 hB3.size hbo
      rcases hok : okG wd cs with _ | _
      · have e0 : T = [] := by rw [← ET.out]; unfold picT; rw [if_neg (by simp [hok])]
        subst e0
        have HOK : Hid (okG wd cs = false) := hok
        clear hok hbo hB3 hkI hlt hk hsz
        have hem : (str ([] : List UInt8)).toList.isEmpty = true := by kernel_rfl
        have hkI : ¬ ((([] : List UInt8).length : Nat) : Int) < ((([] : List UInt8).length : Nat) : Int) := by simp
        go_wp2_with fail
        refine (specOkR HOK.out a1 c1 _ hC4 (by omega)).mono ?_
        rintro e w5 ⟨rfl, hb5⟩
        go_wp2
        go_ret
        exact ⟨rfl, bcall hB4 hB4.size hb5⟩
      · have HOK : Hid (okG wd cs = true) := hok
        obtain ⟨M, hM⟩ : ∃ M, manyG wd cs = M := ⟨_, rfl⟩
        have hSM : ∀ w : World, CellsAt w a1 cs → Calls Tryd.prog 9 #[.agg #[.int .i64 wd, .slice a1 cs.length c1]] w fun e w' => e = .returned (.int .i64 M) ∧ Below w.heap.size w w' := fun w h => by
          rw [← hM]; exact specMany_any wd a1 c1 cs w h (by omega)
        by_cases hlen : (ps.length : Int) = M
        · have bn : ((ps.length : Int) != M) = false := by simp [hlen]
          obtain ⟨q1, q2, q3⟩ := cnt_T hok (by rw [hM]; exact hlen)
          rw [ET.out] at q1 q2
          have v1 : IntKind.i64.wrap ((ps.length : Int) - 4) = (ps.length : Int) - 4 := IntWalk.i64_in _ (by omega)
          obtain ⟨N1, e1⟩ : ∃ N, cntB 10 T = N := ⟨_, rfl⟩
          obtain ⟨N2, e2⟩ : ∃ N, cntB 32 T = N := ⟨_, rfl⟩
          rw [e1] at q1 ⊢
          rw [e2] at q2 ⊢
          have z1 : ((N1 : Int) == 4) = true := by simp; omega
          have z2 : ((N2 : Int) == (ps.length : Int) - 4) = true := by simp; omega
          clear hok hM hlen q1 q2 q3 e1 e2 hbo hB3
          go_wp2_with fail
          refine (specOkR HOK.out a1 c1 _ hC4 (by omega)).mono ?_
          rintro e w5 ⟨rfl, hb5⟩
          replace g0 := keepc hb5 g0; replace g1 := keepc hb5 g1
          have hC5 := hC4.below hb5
          have hB5 := bcall hB4 hB4.size hb5
          go_wp2_with fail
          refine (hSM _ hC5).mono ?_
          rintro e w6 ⟨rfl, hb6⟩
          go_wp2
          go_ret
          exact ⟨rfl, bcall hB5 hB5.size hb6⟩
        · have bn : ((ps.length : Int) != M) = true := by simp [hlen]
          have e0 : T = [] := by rw [← ET.out]; unfold picT; rw [if_neg (by rw [hM]; intro q; exact hlen q.2)]
          subst e0
          clear hok hM hlen hbo hB3 hkI hlt hk hsz
          have hem : (str ([] : List UInt8)).toList.isEmpty = true := by kernel_rfl
          have hkI : ¬ ((([] : List UInt8).length : Nat) : Int) < ((([] : List UInt8).length : Nat) : Int) := by simp
          go_wp2_with fail
          refine (specOkR HOK.out a1 c1 _ hC4 (by omega)).mono ?_
          rintro e w5 ⟨rfl, hb5⟩
          replace g0 := keepc hb5 g0; replace g1 := keepc hb5 g1
          have hC5 := hC4.below hb5
          have hB5 := bcall hB4 hB4.size hb5
          go_wp2_with fail
          refine (hSM _ hC5).mono ?_
          rintro e w6 ⟨rfl, hb6⟩
          go_wp2
          go_ret
          exact ⟨rfl, bcall hB5 hB5.size hb6⟩

theorem walk (a : Option Addr) (n cap : Nat) (f : Nat → Int) (w : World) (h : BytesAt w a n f) (hm : n ≤ cap ∧ cap ≤ 9223372036854775807) (ht : Tab w) :
    Calls Tryd.prog 3 #[.slice a n cap] w fun e w' => e = .returned (.bool true) ∧ Below w.heap.size w w' := by
  by_cases hs : n ≤ 1048576
  · exact small a n cap f w h hm hs ht
  · exact big a n cap f w h hm (by omega)

theorem tab_of_laid {W : World} (h : laidMetH Tryd.prog Rows.fnPicTextRow.laid W) : Tab W := by
  rw [MakeChecks.laidMetH_plain _ _ _ (by kernel_rfl)] at h
  exact Lib.tabIs_of_head (g := 0) (t := 128) (e := 116) (n := 20) (by kernel_rfl) (by kernel_rfl) Tryd.underlying128 Tryd.underlying116 (by kernel_rfl) (by kernel_rfl) (show laidMet Tryd.prog [("internal/strconv.uint64pow10", Lib.tabData .u64 Lib.pow10Tab)] W from laidMet.tail (laidMet.tail (show laidMet Tryd.prog [("math/bits.deBruijn32tab", Rows.laid_math_bits_deBruijn32tab), ("math/bits.deBruijn64tab", Rows.laid_math_bits_deBruijn64tab), ("internal/strconv.uint64pow10", Rows.laid_internal_strconv_uint64pow10)] W from h)))
theorem door_met (os : Os) (args : Array Value) : laidMetH Tryd.prog Rows.fnPicTextRow.laid ((World.doorLaid Tryd.prog 24 os).forCall (fun _ _ => 0) ⟨#[], args, []⟩).memory :=
  laidMetH_of_parts3 (fuel := 8) (laidMet_of_run' 8 (by kernel_rfl) (by kernel_rfl)) (by kernel_rfl) (by kernel_rfl)
set_option maxRecDepth 100000 in
theorem lifted (os : Os) (started : os.Started) (H : Type) (enc : TypeId × Value → H) :
    ReturnsInHanded {} Tryd.checked os 3 .any (fun w args => (Rows.fnPicTextSpec.pre enc Tryd.prog Tryd.f3 [] false w args ∧ laidMetH Tryd.prog Rows.fnPicTextRow.laid w) ∧ sizedMet enc Tryd.prog Tryd.f3 (OpenSpec.ofChange Rows.fnPicTextSpec) false w args) (Rows.fnPicTextSpec.post enc Tryd.prog Tryd.f3 false true false false) := by
  refine returnsInHanded_of_change_and (C := Tryd.checked) (X := fun w _ => laidMetH Tryd.prog Rows.fnPicTextRow.laid w) (fun _ _ _ hh h => h.of_heap hh) own started (by kernel_rfl) Tryd.func3
    (ChangeSpec.witness_shaped (enc := enc) (C := Tryd.checked) (os := os) (X := fun w _ => laidMetH Tryd.prog Rows.fnPicTextRow.laid w) false (World.doorLaid Tryd.prog 24 os) #[.slice none 0 0] 8 rfl (World.shaped_of_RefB (by kernel_rfl) (by kernel_rfl)) (by kernel_rfl) (by kernel_rfl) (by kernel_rfl) (door_met os _)) ?_
  intro W base args ds gs before hval0 hW _ _ hL _
  have hval : ∀ (j : Nat) t v, Tryd.f3.params[j]? = some t → args[j]? = some v → Value.okWide Tryd.prog W .any base t v := hval0
  have hW' := hW
  obtain ⟨p, q, hA0, hV, rfl, hfz, hnd⟩ := hW
  have hA : DataW.TrodAll enc Tryd.prog W 0 (fun _ => true) true Tryd.f3.params.toList args.toList ds p := hA0
  rw [Tryd.params3] at hA hval
  obtain ⟨v0, vs0, d0, ds0, p0, q0, hargs, rfl, rfl, h0, r0⟩ := trodAll_cons hA
  obtain ⟨rfl, rfl, rfl⟩ := trodAll_nil r0
  obtain rfl : args = #[v0] := by cases args; simp_all
  obtain ⟨rfl, rfl⟩ := trodVars_none hV
  have k0 := h0
  have lt0 : ∀ x ∈ p0, x.block < W.heap.size := by obtain ⟨m, hm⟩ := k0; exact DataW.trod_lt m _ _ _ hm
  obtain ⟨a0, n0, cap0, f0, rfl, hC0, hm0⟩ := open_bytes (hval 0 22 v0 rfl rfl) h0
  clear hA0 hval0
  refine (walk a0 n0 cap0 f0 W hC0 hm0 (tab_of_laid hL)).mono fun e W' ⟨he, bel⟩ => ?_
  subst he
  exact ⟨_, rfl, _, _, _, [], _, [], hW', trodAll_mk1 (shut_bool Tryd.underlying4 _), (trodAll_cons_mk (Below.trod laidOut (by kernel_rfl) (of_decide_eq_true (by kernel_rfl)) k0 bel lt0) trodAll_mk0), rfl, bel.frame _, fun h => by cases h⟩

theorem row : Rows.fnPicTextRow.holds Tryd.pinned (OpenSpec.ofChange Rows.fnPicTextSpec) :=
  OpenClaim.holds_of_wide 3 Tryd.f3 rfl rfl rfl rfl rfl rfl rfl ⟨rfl, rfl, rfl, rfl, rfl⟩ rfl rfl rfl rfl rfl (by kernel_rfl) Tryd.func3 (by kernel_rfl)
    (of_decide_eq_true (by kernel_rfl)) (by unfold Func.isWrapper; first | (rw [if_pos (by decide +kernel)]; kernel_rfl) | (rw [if_neg (by decide +kernel)]; exact ⟨rfl, rfl⟩))
    (fun os started H enc _ => lifted os started H enc)
theorem over : Claim7.holds Tryd.pinned (.plain (OpenSpec.ofChange Rows.fnPicTextSpec)) Rows.fnPicTextCard :=
  Claim7.holds_tied_plain_at .later [] [.data, .data, .data] true _ false
    row (fun _ h => by cases h) (by kernel_rfl) (fun _ h => by cases h) fnPicText_row_tie rfl ⟨rfl, rfl⟩ (by kernel_rfl) rfl
    (fun f fn hf hfn => by
      obtain rfl : f = 3 := Option.some.inj ((show Tryd.prog.funcNamed "loop.example/lucarne/laws.FnPicText" = some 3 by kernel_rfl).symm.trans hf) |>.symm
      obtain rfl : fn = Tryd.f3 := (Option.some.inj (Tryd.func3.symm.trans hfn)).symm
      exact ⟨by kernel_rfl, fun j t ht => by
        rw [Tryd.params3] at ht
        have hm : t ∈ [22] := by simpa using Array.mem_of_getElem? ht
        have hall : ([22].all fun u => !Tryd.prog.wantsStandIn u) = true := by kernel_rfl
        exact (show Tryd.prog.wantsStandIn t = false by simpa using List.all_eq_true.1 hall t hm)⟩)
    (by kernel_rfl)

end Go.Proofs.YtnochicpkcjjlaaDoor.LwPicText

namespace Go.Proofs.YtnochicpkcjjlaaDoor
/-- The statement. -/
theorem lwPicText : Rows.FnPicTextCardSaid := LwPicText.over
#print axioms lwPicText
end Go.Proofs.YtnochicpkcjjlaaDoor
