/-
  Painters that have nothing, as the exact laws mark them.
-/
import Derived.Test.YtjmdlppakinboaaDoorKr
namespace Go.Proofs.YtjmdlppakinboaaDoor
open Go.RowKit
set_option linter.unusedVariables false
set_option linter.unusedSimpArgs false

def pMark (k0 : Int) (d : Int) (i : Nat) : Bool := decide ((k0 + 4 * (i : Int) + d) % 3 = 0)
def pNum (k0 : Int) (d : Int) (i : Nat) : Int := k0 + 4 * (i : Int) + d

set_option maxHeartbeats 2000000 in
theorem markPainterS_any (k0 : Int) (v : Value) (B n : Nat) (b c : Nat → Bool) (x y : Nat → Int) (w : World) (h : PaintAt w B v n b c x y) (hn : n ≤ 1048576) (hk0 : 0 ≤ k0 ∧ k0 ≤ 1099511627776) :
    Calls Tryd.prog 40 #[v, .int .i64 k0] w fun e w' => e = .returned (.int .i64 (k0 + 4 * n)) ∧ PaintAt w' B v n (pMark k0 0) (pMark k0 1) (pNum k0 2) (pNum k0 3) ∧ w.grownBy w' v.ownBlock := by
  obtain ⟨a, cv, rfl⟩ := h.slice
  go_enter Tryd.func40, Tryd.ntmps40
  go_wp2
  go_loopw [1, 5] (fun kk ii wr => ∃ i : Nat, i ≤ n ∧ ii = .int .i64 i ∧ kk = .int .i64 (k0 + 4 * i) ∧ PaintAt wr B (.slice a n cv) n (fun j => if j < i then pMark k0 0 j else b j) (fun j => if j < i then pMark k0 1 j else c j) (fun j => if j < i then pNum k0 2 j else x j) (fun j => if j < i then pNum k0 3 j else y j) ∧ w.grownBy wr (Value.slice a n cv).ownBlock) (fun _ ii _ => n - (intOf ii).toNat)
  case atStart => exact ⟨0, Nat.zero_le _, rfl, by simp, by simpa using h, World.grownBy.refl _ _⟩
  case round =>
    rename World => wo
    obtain ⟨i, hi, rfl, rfl, hP, hg⟩ := hrel
    by_cases hlt : i < n
    · obtain ⟨F, hR, hF⟩ := hP
      rcases hR.form with ⟨_, q⟩ | ⟨g, cap, q, _, _⟩
      · omega
      simp only [Value.slice.injEq] at q
      obtain ⟨rfl, _, rfl⟩ := q
      obtain ⟨e0, e1, e2, e3, e4, e5, e6⟩ := hF i hlt
      have x0 := hR.cell (i * 7) (by omega)
      have x1 := hR.cell (i * 7 + 1) (by omega)
      have x2 := hR.cell (i * 7 + 2) (by omega)
      have x3 := hR.cell (i * 7 + 3) (by omega)
      have x4 := hR.cell (i * 7 + 4) (by omega)
      have x5 := hR.cell (i * 7 + 5) (by omega)
      have x6 := hR.cell (i * 7 + 6) (by omega)
      rw [e0] at x0
      rw [e1] at x1
      rw [e2] at x2
      rw [e3] at x3
      rw [e4] at x4
      rw [e5] at x5
      rw [e6] at x6
      have f0 := hR.thaw (i * 7)
      have f1 := hR.thaw (i * 7 + 1)
      have f2 := hR.thaw (i * 7 + 2)
      have f3 := hR.thaw (i * 7 + 3)
      have hltI : (i : Int) < (n : Int) := by omega
      have wk : IntKind.i64.wrap ((i : Int) + 1) = (i : Int) + 1 := IntWalk.i64_in _ (by omega)
      obtain ⟨r, er⟩ : ∃ r, (k0 + 4 * (i : Int)).tmod 3 = r := ⟨_, rfl⟩
      have hr : r = (k0 + 4 * (i : Int)) % 3 := er.symm.trans (Int.tmod_eq_emod_of_nonneg (by omega))
      obtain ⟨r', er'⟩ : ∃ r, (k0 + 4 * (i : Int) + 1).tmod 3 = r := ⟨_, rfl⟩
      have hr' : r' = (k0 + 4 * (i : Int) + 1) % 3 := er'.symm.trans (Int.tmod_eq_emod_of_nonneg (by omega))
      have wr3 : IntKind.i64.wrap r = r := IntWalk.i64_in _ (by omega)
      have wr4 : IntKind.i64.wrap r' = r' := IntWalk.i64_in _ (by omega)
      have HR : Hid (r = (k0 + 4 * (i : Int)) % 3) := hr
      have HR' : Hid (r' = (k0 + 4 * (i : Int) + 1) % 3) := hr'
      have HF : Hid (PaintF F n (fun j => if j < i then pMark k0 0 j else b j) (fun j => if j < i then pMark k0 1 j else c j) (fun j => if j < i then pNum k0 2 j else x j) (fun j => if j < i then pNum k0 3 j else y j)) := hF
      have HRc : Hid (Rec wo B 75 7 (.slice (some ⟨g, 0, none⟩) n cv) n F) := hR
      clear hr hr' hF hR e0 e1 e2 e3 e4 e5 e6 h
      go_wp2_with fail
      refine (markCellS_nil _ _ _ _).mono ?_
      rintro e w1 ⟨rfl, rfl⟩
      go_wp2_with fail
      refine (markIntS_none _ _ _ _).mono ?_
      rintro e w1 ⟨rfl, rfl⟩
      go_wp2_with fail
      refine (markIntSS_none _ _ _ _).mono ?_
      rintro e w1 ⟨rfl, rfl⟩
      have hR1 := (((HRc.out.set (i * 7) (.bool (r == 0))).set (i * 7 + 1) (.bool (r' == 0))).set (i * 7 + 2) (.int .i64 (k0 + 4 * (i : Int) + 1 + 1))).set (i * 7 + 3) (.int .i64 (k0 + 4 * (i : Int) + 1 + 1 + 1))
      have hg1 : w.grownBy ((((wo.setCell ⟨g, i * 7, none⟩ (.bool (r == 0))).setCell ⟨g, i * 7 + 1, none⟩ (.bool (r' == 0))).setCell ⟨g, i * 7 + 2, none⟩ (.int .i64 (k0 + 4 * (i : Int) + 1 + 1))).setCell ⟨g, i * 7 + 3, none⟩ (.int .i64 (k0 + 4 * (i : Int) + 1 + 1 + 1))) (some g) := grown_trans (grown_trans (grown_trans (grown_trans hg (grown_set _ _ _ _)) (grown_set _ _ _ _)) (grown_set _ _ _ _)) (grown_set _ _ _ _)
      have hP1 : PaintAt ((((wo.setCell ⟨g, i * 7, none⟩ (.bool (r == 0))).setCell ⟨g, i * 7 + 1, none⟩ (.bool (r' == 0))).setCell ⟨g, i * 7 + 2, none⟩ (.int .i64 (k0 + 4 * (i : Int) + 1 + 1))).setCell ⟨g, i * 7 + 3, none⟩ (.int .i64 (k0 + 4 * (i : Int) + 1 + 1 + 1))) B (.slice (some ⟨g, 0, none⟩) n cv) n (fun j => if j < i + 1 then pMark k0 0 j else b j) (fun j => if j < i + 1 then pMark k0 1 j else c j) (fun j => if j < i + 1 then pNum k0 2 j else x j) (fun j => if j < i + 1 then pNum k0 3 j else y j) := by
        refine ⟨_, hR1, fun j hj => ?_⟩
        by_cases q : j = i
        · subst q
          obtain ⟨-, -, -, -, d4, d5, d6⟩ := HF.out j hj
          have e0 : pMark k0 0 j = (r == 0) := by
            unfold pMark
            rw [Int.add_zero, ← HR.out]
            rfl
          have e1 : pMark k0 1 j = (r' == 0) := by
            unfold pMark
            rw [← HR'.out]
            rfl
          refine ⟨by simp [e0], by simp [e1], ?_, ?_, by simpa using d4, by simpa using d5, by simpa using d6⟩
          · simp [pNum]; omega
          · simp [pNum]; omega
        · obtain ⟨d0, d1, d2, d3, d4, d5, d6⟩ := HF.out j hj
          have n7 : (j < i + 1) = (j < i) := by apply propext; omega
          have nn : ∀ s t, s < 7 → t < 7 → ¬ j * 7 + s = i * 7 + t := by intro s t h1 h2 h3; omega
          have nn0 : ∀ t, t < 7 → ¬ j * 7 = i * 7 + t := by intro t h2 h3; omega
          have nn1 : ∀ s, s < 7 → ¬ j * 7 + s = i * 7 := by intro s h2 h3; omega
          have nn2 : ¬ j * 7 = i * 7 := by omega
          refine ⟨?_, ?_, ?_, ?_, ?_, ?_, ?_⟩
          · simp only [nn2, nn0 1 (by omega), nn0 2 (by omega), nn0 3 (by omega), if_false, n7]; exact d0
          · simp only [nn1 1 (by omega), nn 1 1 (by omega) (by omega), nn 1 2 (by omega) (by omega), nn 1 3 (by omega) (by omega), if_false, n7]; exact d1
          · simp only [nn1 2 (by omega), nn 2 1 (by omega) (by omega), nn 2 2 (by omega) (by omega), nn 2 3 (by omega) (by omega), if_false, n7]; exact d2
          · simp only [nn1 3 (by omega), nn 3 1 (by omega) (by omega), nn 3 2 (by omega) (by omega), nn 3 3 (by omega) (by omega), if_false, n7]; exact d3
          · simp only [nn1 4 (by omega), nn 4 1 (by omega) (by omega), nn 4 2 (by omega) (by omega), nn 4 3 (by omega) (by omega), if_false, n7]; exact d4
          · simp only [nn1 5 (by omega), nn 5 1 (by omega) (by omega), nn 5 2 (by omega) (by omega), nn 5 3 (by omega) (by omega), if_false, n7]; exact d5
          · simp only [nn1 6 (by omega), nn 6 1 (by omega) (by omega), nn 6 2 (by omega) (by omega), nn 6 3 (by omega) (by omega), if_false, n7]; exact d6
      clear HRc HF HR HR' hR1 hg
      go_wp2_with fail
      go_roundw
      case rel => exact ⟨i + 1, by omega, by go_num, by go_num, hP1, hg1⟩
      case measure => simp [intOf]; omega
    · have hin : i = n := by omega
      subst hin
      have hnl : ¬ (i : Int) < (i : Int) := by omega
      go_wp2_with fail
      go_ret
      refine ⟨rfl, ?_, hg⟩
      obtain ⟨F, hR, hF⟩ := hP
      refine ⟨F, hR, fun j hj => ?_⟩
      have := hF j hj
      simpa only [hj, if_true] using this
end Go.Proofs.YtjmdlppakinboaaDoor
