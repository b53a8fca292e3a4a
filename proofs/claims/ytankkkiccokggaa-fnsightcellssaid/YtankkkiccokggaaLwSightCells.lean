/-
  'laws.FnSightCells' returns true for all codes: each cell at the edge is seen from there. No condition.
-/
import Derived.Test.YtankkkiccokggaaFb
import Derived.Test.YtankkkiccokggaaVq
import Derived.Test.YtankkkiccokggaaVl
namespace Go.Proofs.Ytankkkiccokggaa.LwSightCells
open Go.ChangeShapes Go.WideShapes Go.ChangeAt Go.RowKit
set_option linter.unusedVariables false
attribute [local go_sem ↓] Go.wp_at_zero Go.wp_at_succ

/-- Too long a code. -/
theorem big (a : Option Addr) (n cap : Nat) (f : Nat → Int) (w : World) (h : BytesAt w a n f) (hm : n ≤ cap ∧ cap ≤ 9223372036854775807) (hbig : 1048576 < n) :
    Calls Try.prog 7 #[.slice a n cap] w fun e w' => e = .returned (.bool true) ∧ Below w.heap.size w w' := by
  have hb : (1048576 : Int) < (n : Int) := by omega
  go_enter Try.func7, Try.ntmps7
  go_wp2
  go_ret
  exact ⟨rfl, Below.refl _ _⟩

set_option maxRecDepth 100000 in
set_option maxHeartbeats 8000000 in
theorem small (a : Option Addr) (n cap : Nat) (f : Nat → Int) (w : World) (h : BytesAt w a n f) (hm : n ≤ cap ∧ cap ≤ 9223372036854775807) (hsm : n ≤ 1048576) :
    Calls Try.prog 7 #[.slice a n cap] w fun e w' => e = .returned (.bool true) ∧ Below w.heap.size w w' := by
  have hb : (n : Int) ≤ 1048576 := by omega
  go_enter Try.func7, Try.ntmps7
  go_wp2_with fail
  refine (drawSightMany_any a n cap f w h hsm hm.1 hm.2).mono ?_
  rintro e w1 ⟨wd, a1, c1, cs, rfl, hC1, hl1, hb_w1⟩
  have hz_w1 := hb_w1.size
  try simp at hz_w1
  have hbS1 : Below w1.heap.size w1 (w1.alloc (.cells #[.int .i64 wd, .slice a1 cs.length c1] 25)) := (by repeat (first | exact Below.refl _ _ | refine Below.alloc ?_ (by first | exact Nat.le_refl _ | (simp; done) | (simp; omega)) _ | refine Below.drew ?_ | refine Below.setCell ?_ (by first | exact Nat.le_refl _ | (simp; done) | (simp; omega)) _))
  replace hC1 := hC1.below hbS1
  have g0 : (w1.alloc (.cells #[.int .i64 wd, .slice a1 cs.length c1] 25)).cell? ⟨w1.heap.size, 0, none⟩ = some (.int .i64 wd) := by simp [go_sem]
  have g1 : (w1.alloc (.cells #[.int .i64 wd, .slice a1 cs.length c1] 25)).cell? ⟨w1.heap.size, 1, none⟩ = some (.slice a1 cs.length c1) := by simp [go_sem]
  have hBs1 := bcall hb_w1 (by omega) hbS1
  clear hb_w1
  clear hbS1
  obtain ⟨M, hM⟩ : ∃ M, manyG wd cs = M := ⟨_, rfl⟩
  have EM : Hid (manyG wd cs = M) := hM
  clear hM
  have bk : (M == M) = true := by simp
  have bn : (M != M) = false := by simp
  go_wp2_with fail
  refine (implMany_any wd a1 c1 cs _ hC1 (by omega)).mono ?_
  rintro e w2 ⟨rfl, hb_w2⟩
  rw [EM.out]
  have hz_w2 := hb_w2.size
  try simp at hz_w2
  replace g0 := keepc hb_w2 g0; replace g1 := keepc hb_w2 g1
  replace hC1 := hC1.below hb_w2
  have hB_w2 := bcall hBs1 (by first | omega | (simp; omega)) hb_w2
  clear hBs1 hb_w2
  go_wp2_with fail
  refine (specMany_any wd a1 c1 cs _ hC1 (by omega)).mono ?_
  rintro e w3 ⟨rfl, hb_w3⟩
  rw [EM.out]
  have hz_w3 := hb_w3.size
  try simp at hz_w3
  replace g0 := keepc hb_w3 g0; replace g1 := keepc hb_w3 g1
  replace hC1 := hC1.below hb_w3
  have hB_w3 := bcall hB_w2 (by first | omega | (simp; omega)) hb_w3
  clear hB_w2 hb_w3
  by_cases e0 : M = 0
  · have b0 : (M == 0) = true := by simp [e0]
    clear e0
    go_wp2_with fail
    refine (specMany_any wd a1 c1 cs _ hC1 (by omega)).mono ?_
    rintro e w4 ⟨rfl, hb_w4⟩
    rw [EM.out]
    have hz_w4 := hb_w4.size
    try simp at hz_w4
    replace g0 := keepc hb_w4 g0; replace g1 := keepc hb_w4 g1
    replace hC1 := hC1.below hb_w4
    have hB_w4 := bcall hB_w3 (by first | omega | (simp; omega)) hb_w4
    clear hB_w3 hb_w4
    go_wp2
    go_ret
    exact ⟨rfl, hB_w4⟩
  · have b0 : (M == 0) = false := by simp [e0]
    have hok : okG wd cs = true := many_ok (by rw [EM.out]; exact e0)
    obtain ⟨W, H, SZ⟩ := siz_of hok
    obtain ⟨m, hm1⟩ : ∃ m : Nat, m = 2 * (W + H) := ⟨_, rfl⟩
    have hMm : M = (m : Int) := by rw [← EM.out, SZ.em, hm1]; simp
    have hW := SZ.hW
    have hH := SZ.hH
    have hm2 : 1 ≤ m ∧ m ≤ 20 := by omega
    have hpos : 1 ≤ cs.length := by rw [SZ.el]; exact Nat.mul_pos hW.1 hH.1
    have hn3 : ∀ b off, a1 = some ⟨b, off, none⟩ → b ≠ w3.heap.size := by
      intro b off e2
      rcases hC1 with q0 | ⟨b', off', e, hbl, _⟩
      · rw [q0] at hpos; simp at hpos
      · rw [e] at e2
        simp only [Option.some.injEq, Addr.mk.injEq] at e2
        omega
    have HT : Hid (∀ X D : Nat, X < cs.length → D < 4 → (outOf wd cs (X : Int) (D : Int) = -1 ∧ ∀ j, j < m → cN W H (4 * X + (D + 1)) j = cN W H (4 * X + D) j) ∨ ∃ i : Nat, i < m ∧ outOf wd cs (X : Int) (D : Int) = (i : Int) ∧ cN W H (4 * X + D) i = 0 ∧ cN W H (4 * X + (D + 1)) i = 1 ∧ ∀ j, j < m → j ≠ i → cN W H (4 * X + (D + 1)) j = cN W H (4 * X + D) j) := by
      intro X D hX hD
      rw [hm1]
      exact cN_step SZ X D hX hD
    have HA : Hid (∀ i, i < m → cN W H 0 i = 0) := fun i hi => cN_start hW hH i (by omega)
    have HE : Hid (∀ i, i < m → cN W H (4 * cs.length) i = 1) := fun i hi => cN_end SZ i (by omega)
    subst hMm
    have hmk := make_ints m (by omega)
    have hsn := seen_new w3 m
    have hbM : Below w3.heap.size w3 (w3.alloc (.cells (madeCells #[.int .i64 0] m) 3)) := (by repeat (first | exact Below.refl _ _ | refine Below.alloc ?_ (by first | exact Nat.le_refl _ | (simp; done) | (simp; omega)) _ | refine Below.drew ?_ | refine Below.setCell ?_ (by first | exact Nat.le_refl _ | (simp; done) | (simp; omega)) _))
    have hI0 : CInv w (w3.alloc (.cells (madeCells #[.int .i64 0] m) 3)) w1.heap.size w3.heap.size m wd a1 cs c1 (cN W H (4 * 0)) :=
      ⟨bcall hB_w3 hB_w3.size hbM, keepc hbM g0, keepc hbM g1, hC1.below hbM, hsn.like (fun j hj => HA.out j hj), ⟨hB_w3.size, by have := hz_w2; have := hz_w3; omega⟩, hn3⟩
    have hlen : cs.length ≤ 31 := hl1
    clear hm1 SZ hok e0 EM hsn hbM g0 g1 hC1 hB_w3 hn3
    go_wp2
    obtain ⟨w4, hw4⟩ : ∃ w4, w4 = w3.alloc (.cells (madeCells #[.int .i64 0] m) 3) := ⟨_, rfl⟩
    rw [← hw4] at hI0 ⊢
    clear hw4 hmk
    go_loopw [6, 7, 8] (fun aa l7 l8 wr => ∃ X : Nat, X ≤ cs.length ∧ aa = .int .i64 X ∧ CInv w wr w1.heap.size w3.heap.size m wd a1 cs c1 (cN W H (4 * X))) (fun aa _ _ _ => cs.length - (intOf aa).toNat)
    case atStart => exact ⟨0, Nat.zero_le _, rfl, hI0⟩
    case round =>
      rename World => wo
      obtain ⟨X, hX, rfl, hI⟩ := hrel
      obtain ⟨g0, g1⟩ := And.intro hI.g0 hI.g1
      by_cases hlt : X < cs.length
      · clear hI0
        go_wp2
        go_loopw [7, 8] (fun dd l8 wq => ∃ D : Nat, D ≤ 4 ∧ dd = .int .i64 D ∧ CInv w wq w1.heap.size w3.heap.size m wd a1 cs c1 (cN W H (4 * X + D))) (fun dd _ _ => 4 - (intOf dd).toNat)
        case atStart => exact ⟨0, by omega, rfl, hI⟩
        case round =>
          rename World => wp
          clear g0 g1 hI
          obtain ⟨D, hD, rfl, hJ⟩ := hrel
          obtain ⟨g0, g1⟩ := And.intro hJ.g0 hJ.g1
          by_cases hdl : D < 4
          · have hdk : decide ((D : Int) ≤ 3) = true := by simp; omega
            rcases HT.out X D hlt hdl with ⟨ho, hsame⟩ | ⟨i, hi, ho, h0, h1, hoth⟩
            · have KO : Hid (outOf wd cs (X : Int) (D : Int) = -1) := ho
              have HQ : Hid (∀ j, j < m → cN W H (4 * X + (D + 1)) j = cN W H (4 * X + D) j) := hsame
              clear ho hsame
              go_wp2_with fail
              refine (implOf_any wd a1 c1 cs _ hJ.hC (by omega) (X : Int) (D : Int)).mono ?_
              rintro e w5 ⟨rfl, hb5⟩
              rw [KO.out]
              have hK := (hJ.below hb5).like HQ.out
              go_wp2
              go_roundw
              case rel => exact ⟨D + 1, by omega, by go_num, hK⟩
              case measure => simp [intOf]; omega
            · have KO : Hid (outOf wd cs (X : Int) (D : Int) = (i : Int)) := ho
              have HQ : Hid (∀ j, j < m → j ≠ i → cN W H (4 * X + (D + 1)) j = cN W H (4 * X + D) j) := hoth
              have H0 : Hid (cN W H (4 * X + D) i = 0) := h0
              have H1 : Hid (cN W H (4 * X + (D + 1)) i = 1) := h1
              clear ho hoth h0 h1
              go_wp2_with fail
              refine (implOf_any wd a1 c1 cs _ hJ.hC (by omega) (X : Int) (D : Int)).mono ?_
              rintro e w5 ⟨rfl, hb5⟩
              rw [KO.out]
              have hK := hJ.below hb5
              have z0 : w5.cell? ⟨w3.heap.size, i, none⟩ = some (.int .i64 0) := by rw [hK.sn.at' i hi, H0.out]
              have zf := hK.sn.fz i hi
              have hL := hK.put (c' := cN W H (4 * X + (D + 1))) i 1 hi H1.out HQ.out
              have bge : ¬ ((m : Int) ≤ (i : Int)) := by omega
              clear hK hb5
              go_wp2
              go_roundw
              case rel => exact ⟨D + 1, by omega, by go_num, hL⟩
              case measure => simp [intOf]; omega
          · obtain rfl : D = 4 := by omega
            go_wp2
            go_roundw
            case rel => exact ⟨X + 1, by omega, by go_num, hJ⟩
            case measure => simp [intOf]; omega
      · obtain rfl : X = cs.length := by omega
        clear hI0 g0 g1
        have HS : Hid (∀ i, i < m → wo.cell? ⟨w3.heap.size, i, none⟩ = some (.int .i64 1)) := fun i hi => by rw [hI.sn.at' i hi, HE.out i hi]
        obtain ⟨g0, g1⟩ := And.intro hI.g0 hI.g1
        have hBo := hI.hb
        go_wp2
        go_loopw [9] (fun kk wq => ∃ I : Nat, I ≤ m ∧ kk = .int .i64 I ∧ wq = wo) (fun kk _ => m - (intOf kk).toNat)
        case atStart => exact ⟨0, by omega, rfl, rfl⟩
        case round =>
          obtain ⟨I, hIm, rfl, rfl⟩ := hrel
          by_cases hIl : I < m
          · have z1 := HS.out I hIl
            go_wp2
            go_roundw
            case rel => exact ⟨I + 1, by omega, by go_num, by first | trivial | rfl⟩
            case measure => simp [intOf]; omega
          · go_wp2
            go_ret
            exact ⟨rfl, hBo⟩

theorem walk (a : Option Addr) (n cap : Nat) (f : Nat → Int) (w : World) (h : BytesAt w a n f) (hm : n ≤ cap ∧ cap ≤ 9223372036854775807) :
    Calls Try.prog 7 #[.slice a n cap] w fun e w' => e = .returned (.bool true) ∧ Below w.heap.size w w' := by
  by_cases hs : n ≤ 1048576
  · exact small a n cap f w h hm hs
  · exact big a n cap f w h hm (by omega)

set_option maxRecDepth 100000 in
theorem lifted (os : Os) (started : os.Started) (H : Type) (enc : TypeId × Value → H) :
    ReturnsInHanded {} Try.checked os 7 .any (Rows.fnSightCellsSpec.pre6 enc Try.prog Try.f7 Rows.fnSightCellsRow.domain false) (Rows.fnSightCellsSpec.post enc Try.prog Try.f7 false true false false) := by
  refine returnsInHanded_of_change (C := Try.checked) own started (by kernel_rfl) Try.func7
    (ChangeSpec.witness6 (enc := enc) (C := Try.checked) false ⟨#[], #[.slice none 0 0], []⟩ 8 (by kernel_rfl) (by kernel_rfl) (by kernel_rfl) (by kernel_rfl)) ?_
  intro W base args ds gs before hval0 hW hcnd _
  have hval : ∀ (j : Nat) t v, Try.f7.params[j]? = some t → args[j]? = some v → Value.okWide Try.prog W .any base t v := hval0
  have hW' := hW
  obtain ⟨p, q, hA0, hV, rfl, hfz, hnd⟩ := hW
  have hA : DataW.TrodAll enc Try.prog W 0 (fun _ => true) true Try.f7.params.toList args.toList ds p := hA0
  rw [Try.params7] at hA hval
  obtain ⟨v0, vs0, d0, ds0, p0, q0, hargs, rfl, rfl, h0, r0⟩ := trodAll_cons hA
  obtain ⟨rfl, rfl, rfl⟩ := trodAll_nil r0
  obtain rfl : args = #[v0] := by cases args; simp_all
  obtain ⟨rfl, rfl⟩ := trodVars_none hV
  have k0 := h0
  have lt0 : ∀ x ∈ p0, x.block < W.heap.size := by obtain ⟨m, hm⟩ := k0; exact DataW.trod_lt m _ _ _ hm
  obtain ⟨a0, n0, cap0, f0, rfl, hC0, hm0⟩ := open_bytes (hval 0 22 v0 rfl rfl) h0
  clear hA0 hval0
  refine (walk a0 n0 cap0 f0 W hC0 hm0).mono fun e W' ⟨he, bel⟩ => ?_
  subst he
  exact ⟨_, rfl, _, _, _, [], _, [], hW', trodAll_mk1 (shut_bool Try.underlying4 _), (trodAll_cons_mk (Below.trod laidOut (by kernel_rfl) (of_decide_eq_true (by kernel_rfl)) k0 bel lt0) trodAll_mk0), rfl, bel.frame _, fun h => by cases h⟩

theorem over : Rows.fnSightCellsRow.holds Try.pinned (OpenSpec.ofChange Rows.fnSightCellsSpec) :=
  OpenClaim.holds_of_wide 7 Try.f7 rfl rfl rfl rfl rfl rfl rfl ⟨rfl, rfl, rfl, rfl, rfl⟩ rfl rfl rfl rfl rfl (by kernel_rfl) Try.func7 (by kernel_rfl)
    (of_decide_eq_true (by kernel_rfl)) (by unfold Func.isWrapper; first | (rw [if_pos (by decide +kernel)]; kernel_rfl) | (rw [if_neg (by decide +kernel)]; exact ⟨rfl, rfl⟩))
    (fun os started H enc _ => lifted os started H enc)

end Go.Proofs.Ytankkkiccokggaa.LwSightCells

namespace Go.Proofs.Ytankkkiccokggaa
/-- The statement. -/
theorem lwSightCells : Rows.FnSightCellsSaid := LwSightCells.over
#print axioms lwSightCells
end Go.Proofs.Ytankkkiccokggaa
