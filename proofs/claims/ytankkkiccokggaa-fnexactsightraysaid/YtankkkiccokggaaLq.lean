/-
  The contracts of the laws' own helpers that hold cells against each other.
-/
import Derived.Test.YtankkkiccokggaaOa
import Derived.Deep.RegionWith
namespace Go.Proofs.Ytankkkiccokggaa
open Go.RowKit

def eqC (k l k2 l2 : Int) : Bool := decide (k = k2 ∧ l = l2)
set_option maxHeartbeats 400000 in
theorem eqCell_any (k l k2 l2 : Int) (w : World) :
    Calls Try.prog 76 #[.agg #[.int .i64 k, .int .i64 l], .agg #[.int .i64 k2, .int .i64 l2]] w fun e w' => e = .returned (.bool (eqC k l k2 l2)) ∧ Below w.heap.size w w' := by
  by_cases h1 : k = k2
  · subst h1
    by_cases h2 : l = l2
    · subst h2
      go_enter Try.func76, Try.ntmps76
      go_wp2
      go_ret
      exact ⟨by simp [eqC], (by repeat (first | exact Below.refl _ _ | refine Below.alloc ?_ (by first | exact Nat.le_refl _ | (simp; done) | (simp; omega)) _ | refine Below.drew ?_ | refine Below.setCell ?_ (by first | exact Nat.le_refl _ | (simp; done) | (simp; omega)) _))⟩
    · go_enter Try.func76, Try.ntmps76
      go_wp2
      go_ret
      exact ⟨by simp [eqC, h2], (by repeat (first | exact Below.refl _ _ | refine Below.alloc ?_ (by first | exact Nat.le_refl _ | (simp; done) | (simp; omega)) _ | refine Below.drew ?_ | refine Below.setCell ?_ (by first | exact Nat.le_refl _ | (simp; done) | (simp; omega)) _))⟩
  · go_enter Try.func76, Try.ntmps76
    go_wp2
    go_ret
    exact ⟨by simp [eqC, h1], (by repeat (first | exact Below.refl _ _ | refine Below.alloc ?_ (by first | exact Nat.le_refl _ | (simp; done) | (simp; omega)) _ | refine Below.drew ?_ | refine Below.setCell ?_ (by first | exact Nat.le_refl _ | (simp; done) | (simp; omega)) _))⟩

set_option maxHeartbeats 400000 in
theorem eqCellS_any (a a2 : Option Addr) (cap cap2 : Nat) (cs ds : List (Int × Int)) (w : World) (h : CellsAt w a cs) (h2 : CellsAt w a2 ds) (hm : cs.length ≤ 1048576) (hm2 : ds.length ≤ 1048576) :
    Calls Try.prog 64 #[.slice a cs.length cap, .slice a2 ds.length cap2] w fun e w' => e = .returned (.bool (decide (cs = ds))) ∧ Below w.heap.size w w' := by
  by_cases hl : cs.length = ds.length
  · go_enter Try.func64, Try.ntmps64
    go_wp2
    go_loopw [5] (fun i wr => ∃ k : Nat, k ≤ cs.length ∧ i = .int .i64 k ∧ cs.take k = ds.take k ∧ Below w.heap.size w wr) (fun i _ => cs.length - (intOf i).toNat)
    case atStart => exact ⟨0, Nat.zero_le _, rfl, by simp, (by repeat (first | exact Below.refl _ _ | refine Below.alloc ?_ (by first | exact Nat.le_refl _ | (simp; done) | (simp; omega)) _ | refine Below.drew ?_ | refine Below.setCell ?_ (by first | exact Nat.le_refl _ | (simp; done) | (simp; omega)) _))⟩
    case round =>
      obtain ⟨k, hk, rfl, htk, hb⟩ := hrel
      have HT : Hid (cs.take k = ds.take k) := htk
      clear htk
      by_cases hlt : k < cs.length
      · have hlt2 : k < ds.length := by omega
        rcases h with h | ⟨b, off, rfl, hbl, hcell⟩
        · subst h; simp at hlt
        rcases h2 with h2 | ⟨b2, off2, rfl, hbl2, hcell2⟩
        · subst h2; simp at hlt2
        obtain ⟨hx, hy⟩ := hcell k hlt
        rw [← hb.cell (p := ⟨b, _, none⟩) hbl] at hx hy
        obtain ⟨hx2, hy2⟩ := hcell2 k hlt2
        rw [← hb.cell (p := ⟨b2, _, none⟩) hbl2] at hx2 hy2
        have hzr := hb.size
        have HL : Hid (cs.length = ds.length) := hl
        clear hl hcell hcell2
        by_cases hq : eqC cs[k].1 cs[k].2 ds[k].1 ds[k].2 = true
        · have HN : Hid (cs.take (k + 1) = ds.take (k + 1)) := by
            show _ = _
            rw [List.take_succ_eq_append_getElem hlt, List.take_succ_eq_append_getElem hlt2, HT.out]
            simp only [eqC, decide_eq_true_eq] at hq
            rw [Prod.ext hq.1 hq.2]
          go_wp2_with fail
          go_region_with (go_at_call 76; refine (eqCell_any _ _ _ _ _).mono ?_; rintro e w2 ⟨rfl, hb2⟩)
          all_goals
            go_wp2
            go_roundw
            case rel => exact ⟨k + 1, by omega, by go_num, HN.out, bcall hb.drew hzr hb2⟩
            case measure => simp [intOf]; omega
        · have hq' : eqC cs[k].1 cs[k].2 ds[k].1 ds[k].2 = false := by simpa using hq
          clear hq
          have HN : Hid (decide (cs = ds) = false) := by
            show _ = _
            simp
            intro hx
            subst hx
            simp [eqC] at hq'
          go_wp2_with fail
          go_region_with (go_at_call 76; refine (eqCell_any _ _ _ _ _).mono ?_; rintro e w2 ⟨rfl, hb2⟩)
          all_goals
            go_wp2
            go_ret
            exact ⟨by rw [HN.out]; rfl, bcall hb.drew hzr hb2⟩
      · have HN : Hid (decide (cs = ds) = true) := by
          show _ = _
          have := HT.out
          rw [List.take_of_length_le (by omega), List.take_of_length_le (by omega)] at this
          simp [this]
        go_wp2
        go_ret
        exact ⟨by rw [HN.out]; rfl, hb⟩
  · go_enter Try.func64, Try.ntmps64
    go_wp2
    go_ret
    exact ⟨by rw [show decide (cs = ds) = false from by simp; intro hx; exact hl (by rw [hx])]; rfl, (by repeat (first | exact Below.refl _ _ | refine Below.alloc ?_ (by first | exact Nat.le_refl _ | (simp; done) | (simp; omega)) _ | refine Below.drew ?_ | refine Below.setCell ?_ (by first | exact Nat.le_refl _ | (simp; done) | (simp; omega)) _))⟩

end Go.Proofs.Ytankkkiccokggaa
