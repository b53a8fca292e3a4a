/-
  Parts as the exact laws hold and mark them.
-/
import Derived.Test.YtjmdlppakinboaaDoorKm
import Derived.Test.YtjmdlppakinboaaDoorKh
import Derived.Deep.RegionHeld3
namespace Go.Proofs.YtjmdlppakinboaaDoor
open Go.RowKit
set_option linter.unusedVariables false
set_option linter.unusedSimpArgs false

set_option maxHeartbeats 1000000 in
theorem eqPart_same (b : Bool) (x : Int) (a a2 : Option Addr) (c c2 : Nat) (w : World) :
    Calls Tryd.prog 50 #[.agg #[.bool b, .int .i64 x, .slice a 0 c], .agg #[.bool b, .int .i64 x, .slice a2 0 c2]] w fun e w' => e = .returned (.bool true) ∧ Below w.heap.size w w' := by
  have e1 : (b != b) = false := by simp
  go_enter Tryd.func50, Tryd.ntmps50
  go_wp2_with fail
  refine (eqIntS_none _ _ _ _ _).mono ?_
  rintro e w1 ⟨rfl, rfl⟩
  go_wp2
  go_ret
  exact ⟨rfl, (by repeat (first | exact Below.refl _ _ | refine Below.alloc ?_ (by first | exact Nat.le_refl _ | (simp; done) | (simp; omega)) _ | refine Below.drew ?_ | refine Below.setCell ?_ (by first | exact Nat.le_refl _ | (simp; done) | (simp; omega)) _))⟩

set_option maxHeartbeats 1000000 in
theorem eqPartS_same (v v2 : Value) (B B2 n : Nat) (b : Nat → Bool) (x : Nat → Int) (w : World) (h : PartsAt w B v n b x) (h2 : PartsAt w B2 v2 n b x) (hn : n ≤ 1048576) :
    Calls Tryd.prog 27 #[v, v2] w fun e w' => e = .returned (.bool true) ∧ Below w.heap.size w w' := by
  obtain ⟨F, hR, hF⟩ := h
  obtain ⟨F2, hR2, hF2⟩ := h2
  obtain ⟨a, c, rfl⟩ := hR.slice
  obtain ⟨a2, c2, rfl⟩ := hR2.slice
  have bl : ((n : Int) != (n : Int)) = false := by simp
  go_enter Tryd.func27, Tryd.ntmps27
  go_wp2_with fail
  go_loopw [5] (fun ii wr => ∃ i : Nat, i ≤ n ∧ ii = .int .i64 i ∧ Below w.heap.size w wr) (fun ii _ => n - (intOf ii).toNat)
  case atStart => exact ⟨0, Nat.zero_le _, rfl, Below.refl _ _⟩
  case round =>
    rename World => wo
    obtain ⟨i, hi, rfl, hb⟩ := hrel
    have hzo := hb.size
    by_cases hlt : i < n
    · have hRo := hR.below hb
      have hRo2 := hR2.below hb
      rcases hRo.form with ⟨_, q⟩ | ⟨g, cap, q, _, _⟩
      · omega
      simp only [Value.slice.injEq] at q
      obtain ⟨rfl, _, rfl⟩ := q
      rcases hRo2.form with ⟨_, q⟩ | ⟨g2, cap2, q, _, _⟩
      · omega
      simp only [Value.slice.injEq] at q
      obtain ⟨rfl, _, rfl⟩ := q
      obtain ⟨e0, e1, ax, cx, e2⟩ := hF i hlt
      obtain ⟨d0, d1, ay, cy, d2⟩ := hF2 i hlt
      have x0 := hRo.cell (i * 3) (by omega)
      have x1 := hRo.cell (i * 3 + 1) (by omega)
      have x2 := hRo.cell (i * 3 + 2) (by omega)
      have y0 := hRo2.cell (i * 3) (by omega)
      have y1 := hRo2.cell (i * 3 + 1) (by omega)
      have y2 := hRo2.cell (i * 3 + 2) (by omega)
      rw [e0] at x0; rw [e1] at x1; rw [e2] at x2
      rw [d0] at y0; rw [d1] at y1; rw [d2] at y2
      have hltI : (i : Int) < (n : Int) := by omega
      have wk : IntKind.i64.wrap ((i : Int) + 1) = (i : Int) + 1 := IntWalk.i64_in _ (by omega)
      clear hR hR2 hRo hRo2 hF hF2 e0 e1 e2 d0 d1 d2
      go_wp2
      go_region_with (go_at_call 50; refine (eqPart_same _ _ _ _ _ _ _).mono ?_; rintro e w2 ⟨rfl, hb2⟩)
      all_goals
        go_wp2_with fail
        go_roundw
        case rel => exact ⟨i + 1, by omega, by go_num, bcall hb.drew hzo hb2⟩
        case measure => simp [intOf]; omega
    · have hnl : ¬ (i : Int) < (n : Int) := by omega
      go_wp2_with fail
      go_ret
      exact ⟨rfl, hb⟩

def markB (k0 : Int) (i : Nat) : Bool := decide ((k0 + 2 * (i : Int)) % 3 = 0)
def markX (k0 : Int) (i : Nat) : Int := k0 + 2 * (i : Int) + 1

set_option maxHeartbeats 1000000 in
theorem markPartS_any (k0 : Int) (v : Value) (B n : Nat) (b : Nat → Bool) (x : Nat → Int) (w : World) (h : PartsAt w B v n b x) (hn : n ≤ 1048576) (hk0 : 0 ≤ k0 ∧ k0 ≤ 1099511627776) :
    Calls Tryd.prog 32 #[v, .int .i64 k0] w fun e w' => e = .returned (.int .i64 (k0 + 2 * n)) ∧ PartsAt w' B v n (markB k0) (markX k0) ∧ w.grownBy w' v.ownBlock := by
  obtain ⟨a, c, rfl⟩ : ∃ a c, v = .slice a n c := by obtain ⟨F, hR, hF⟩ := h; exact hR.slice
  go_enter Tryd.func32, Tryd.ntmps32
  go_wp2
  go_loopw [1, 5] (fun kk ii wr => ∃ i : Nat, i ≤ n ∧ ii = .int .i64 i ∧ kk = .int .i64 (k0 + 2 * i) ∧ PartsAt wr B (.slice a n c) n (fun j => if j < i then markB k0 j else b j) (fun j => if j < i then markX k0 j else x j) ∧ w.grownBy wr (Value.slice a n c).ownBlock) (fun _ ii _ => n - (intOf ii).toNat)
  case atStart => exact ⟨0, Nat.zero_le _, rfl, by simp, by simpa using h, World.grownBy.refl _ _⟩
  case round =>
    rename World => wo
    obtain ⟨i, hi, rfl, rfl, hP, hg⟩ := hrel
    by_cases hlt : i < n
    · obtain ⟨F, hR, hF⟩ := hP
      rcases hR.form with ⟨_, q⟩ | ⟨g, cap, q, _, _⟩
      · omega
      simp only [Value.slice.injEq] at q
      obtain ⟨rfl, _, rfl⟩ := q
      obtain ⟨e0, e1, ax, cx, e2⟩ := hF i hlt
      have x0 := hR.cell (i * 3) (by omega)
      have x1 := hR.cell (i * 3 + 1) (by omega)
      have x2 := hR.cell (i * 3 + 2) (by omega)
      rw [e0] at x0; rw [e1] at x1; rw [e2] at x2
      have f0 := hR.thaw (i * 3)
      have f1 := hR.thaw (i * 3 + 1)
      have hltI : (i : Int) < (n : Int) := by omega
      have wk : IntKind.i64.wrap ((i : Int) + 1) = (i : Int) + 1 := IntWalk.i64_in _ (by omega)
      obtain ⟨r, er⟩ : ∃ r, r = (k0 + 2 * (i : Int)).tmod 3 := ⟨_, rfl⟩
      have hr : r = (k0 + 2 * (i : Int)) % 3 := er.trans (Int.tmod_eq_emod_of_nonneg (by omega))
      have er' := er.symm
      have hr2 : 0 ≤ r ∧ r < 3 := by omega
      have wr3 : IntKind.i64.wrap r = r := IntWalk.i64_in _ (by omega)
      have HR : Hid (r = (k0 + 2 * (i : Int)) % 3) := hr
      have HF : Hid (PartF F n (fun j => if j < i then markB k0 j else b j) (fun j => if j < i then markX k0 j else x j)) := hF
      have HRc : Hid (Rec wo B 56 3 (.slice (some ⟨g, 0, none⟩) n c) n F) := hR
      clear er hr hF hR e0 e1 e2 h
      go_wp2_with fail
      refine (markIntS_none _ _ _ _).mono ?_
      rintro e w1 ⟨rfl, rfl⟩
      have hR1 := (HRc.out.set (i * 3) (.bool (r == 0))).set (i * 3 + 1) (.int .i64 (k0 + 2 * (i : Int) + 1))
      have hg1 : w.grownBy ((wo.setCell ⟨g, i * 3, none⟩ (.bool (r == 0))).setCell ⟨g, i * 3 + 1, none⟩ (.int .i64 (k0 + 2 * (i : Int) + 1))) (some g) := grown_trans (grown_trans hg (grown_set _ _ _ _)) (grown_set _ _ _ _)
      have hP1 : PartsAt ((wo.setCell ⟨g, i * 3, none⟩ (.bool (r == 0))).setCell ⟨g, i * 3 + 1, none⟩ (.int .i64 (k0 + 2 * (i : Int) + 1))) B (.slice (some ⟨g, 0, none⟩) n c) n (fun j => if j < i + 1 then markB k0 j else b j) (fun j => if j < i + 1 then markX k0 j else x j) := by
        refine ⟨_, hR1, fun j hj => ?_⟩
        by_cases q : j = i
        · subst q
          obtain ⟨-, -, a3, c3, e3⟩ := HF.out j hj
          refine ⟨?_, ?_, a3, c3, ?_⟩
          · have : markB k0 j = (r == 0) := by
              unfold markB
              rw [← HR.out]
              rfl
            simp [this]
          · simp [markX]
          · simpa using e3
        · obtain ⟨d1, d2, a3, c3, e3⟩ := HF.out j hj
          have n1 : ¬ j * 3 = i * 3 := by omega
          have n2 : ¬ j * 3 = i * 3 + 1 := by omega
          have n3 : ¬ j * 3 + 1 = i * 3 := by omega
          have n4 : ¬ j * 3 + 1 = i * 3 + 1 := by omega
          have n5 : ¬ j * 3 + 2 = i * 3 := by omega
          have n6 : ¬ j * 3 + 2 = i * 3 + 1 := by omega
          have n7 : (j < i + 1) = (j < i) := by apply propext; omega
          refine ⟨?_, ?_, a3, c3, ?_⟩
          · simp only [n1, n2, if_false, n7]; exact d1
          · simp only [n3, n4, if_false, n7]; exact d2
          · simp only [n5, n6, if_false]; exact e3
      clear HRc HF HR hR1 hg
      go_wp2_with fail
      go_roundw
      case rel => exact ⟨i + 1, by omega, by go_num, by go_num, hP1, hg1⟩
      case measure => simp [intOf]; omega
    · have hin : i = n := by omega
      subst hin
      have hnl : ¬ (i : Int) < (i : Int) := by omega
      go_wp2_with fail
      go_ret
      refine ⟨rfl, ?_, hg⟩
      obtain ⟨F, hR, hF⟩ := hP
      refine ⟨F, hR, fun j hj => ?_⟩
      have := hF j hj
      simpa only [hj, if_true] using this

set_option maxHeartbeats 1000000 in
theorem heldPartS_any (k0 : Int) (v : Value) (B n : Nat) (w : World) (h : PartsAt w B v n (markB k0) (markX k0)) (hn : n ≤ 1048576) (hk0 : 0 ≤ k0 ∧ k0 ≤ 1099511627776) :
    Calls Tryd.prog 36 #[v, .int .i64 k0] w fun e w' => e = .returned (.int .i64 (k0 + 2 * n)) ∧ w' = w := by
  obtain ⟨F, hR, hF⟩ := h
  obtain ⟨a, c, rfl⟩ := hR.slice
  go_enter Tryd.func36, Tryd.ntmps36
  go_wp2
  go_loop [1, 5] (fun kk ii => ∃ i : Nat, i ≤ n ∧ ii = .int .i64 i ∧ kk = .int .i64 (k0 + 2 * i)) (fun _ ii => n - (intOf ii).toNat)
  case atStart => exact ⟨0, Nat.zero_le _, rfl, by simp⟩
  case round =>
    obtain ⟨i, hi, rfl, rfl⟩ := hrel
    by_cases hlt : i < n
    · rcases hR.form with ⟨_, q⟩ | ⟨g, cap, q, _, _⟩
      · omega
      simp only [Value.slice.injEq] at q
      obtain ⟨rfl, _, rfl⟩ := q
      obtain ⟨e0, e1, ax, cx, e2⟩ := hF i hlt
      have x0 := hR.cell (i * 3) (by omega)
      have x1 := hR.cell (i * 3 + 1) (by omega)
      have x2 := hR.cell (i * 3 + 2) (by omega)
      have hltI : (i : Int) < (n : Int) := by omega
      have wk : IntKind.i64.wrap ((i : Int) + 1) = (i : Int) + 1 := IntWalk.i64_in _ (by omega)
      obtain ⟨r, er⟩ : ∃ r, (k0 + 2 * (i : Int)).tmod 3 = r := ⟨_, rfl⟩
      have hr : (k0 + 2 * (i : Int)) % 3 = r := (Int.tmod_eq_emod_of_nonneg (by omega)).symm.trans er
      have hr2 : 0 ≤ r ∧ r < 3 := by omega
      have wr3 : IntKind.i64.wrap r = r := IntWalk.i64_in _ (by omega)
      have eb : markB k0 i = (r == 0) := by unfold markB; rw [hr]; rfl
      have en : ((r == 0) != (r == 0)) = false := by simp
      have ek : (k0 + 2 * (i : Int) + 1 != k0 + 2 * (i : Int) + 1) = false := by simp
      have nk : ¬ (k0 + 2 * (i : Int) + 1 + 1 < 0) := by omega
      rw [e0, eb] at x0; rw [e1] at x1; rw [e2] at x2
      unfold markX at x1
      clear hR hF e0 e1 e2 eb hr
      go_wp2_with fail
      refine (heldIntS_none _ _ _ _).mono ?_
      rintro e w1 ⟨rfl, rfl⟩
      go_wp2_with fail
      go_round
      case rel => exact ⟨i + 1, by omega, by go_num, by go_num⟩
      case measure => simp [intOf]; omega
    · have hin : i = n := by omega
      subst hin
      have hnl : ¬ (i : Int) < (i : Int) := by omega
      go_wp2_with fail
      go_ret
      exact ⟨rfl, rfl⟩
end Go.Proofs.YtjmdlppakinboaaDoor
