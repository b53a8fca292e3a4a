/-
  Several texts in one: La, Lq, Le, Lb, Lc.
-/
import Derived.Test.YtjmdlppakinboaaDoorJa
import Derived.Deep.RegionWith

/-
  The contracts of the laws' own helpers on cells and grids: copying, holding against each other, marking, looking at marks.
-/
namespace Go.Proofs.YtjmdlppakinboaaDoor
open Go.RowKit

set_option maxHeartbeats 400000 in
theorem toCell_any (k l : Int) (w : World) :
    Calls Tryd.prog 45 #[.agg #[.int .i64 k, .int .i64 l]] w fun e w' => e = .returned (.agg #[.int .i64 k, .int .i64 l]) ∧ Below w.heap.size w w' := by
  go_enter Tryd.func45, Tryd.ntmps45
  go_wp2
  refine bodyPost_ret (v := .agg #[.int .i64 k, .int .i64 l]) (by simp [results, Tryd.results45, go_sem]) rfl ⟨rfl, ?_⟩
  exact (by repeat (first | exact Below.refl _ _ | refine Below.alloc ?_ (by first | exact Nat.le_refl _ | (simp; done) | (simp; omega)) _ | refine Below.drew ?_ | refine Below.setCell ?_ (by first | exact Nat.le_refl _ | (simp; done) | (simp; omega)) _))

set_option maxHeartbeats 400000 in
theorem szCellS_any (a : Option Addr) (n cap : Nat) (left : Int) (w : World) (hm : n ≤ 9223372036854775807) (hl : 0 ≤ left ∧ left ≤ 1048576) :
    Calls Tryd.prog 19 #[.slice a n cap, .int .i64 left] w fun e w' => e = .returned (.int .i64 (if left - n < 0 then -1 else left - n)) ∧ w' = w := by
  by_cases h : left - n < 0
  all_goals
    go_enter Tryd.func19, Tryd.ntmps19
    go_wp2
    go_ret
    exact ⟨rfl, rfl⟩

set_option maxHeartbeats 400000 in
theorem szGrid_any (wd : Int) (a : Option Addr) (n cap : Nat) (left : Int) (w : World) (hm : n ≤ 9223372036854775807) (hl : 0 ≤ left ∧ left ≤ 1048576) :
    Calls Tryd.prog 5 #[.agg #[.int .i64 wd, .slice a n cap], .int .i64 left] w fun e w' => e = .returned (.int .i64 (if left - n < 0 then -1 else left - n)) ∧ Below w.heap.size w w' := by
  by_cases h : left - n < 0
  all_goals
    go_enter Tryd.func5, Tryd.ntmps5
    go_wp2_with (go_at_call 19; refine (szCellS_any _ _ _ _ _ hm hl).mono ?_; rintro e w' ⟨rfl, rfl⟩)
    go_ret
    exact ⟨rfl, (by repeat (first | exact Below.refl _ _ | refine Below.alloc ?_ (by first | exact Nat.le_refl _ | (simp; done) | (simp; omega)) _ | refine Below.drew ?_ | refine Below.setCell ?_ (by first | exact Nat.le_refl _ | (simp; done) | (simp; omega)) _))⟩

set_option maxHeartbeats 400000 in
theorem toCellS_any (a : Option Addr) (cap : Nat) (cs : List (Int × Int)) (w : World) (h : CellsAt w a cs) (hm : cs.length ≤ 1048576) :
    Calls Tryd.prog 23 #[.slice a cs.length cap] w fun e w' => ∃ g, e = .returned (.slice (some ⟨g, 0, none⟩) cs.length cs.length) ∧ Own w' w.heap.size (.slice (some ⟨g, 0, none⟩) cs.length cs.length) cs ∧ Below w.heap.size w w' := by
  obtain ⟨i0, hi, hz0, hz1, hz2⟩ := info_parts infoCell
  go_enter Tryd.func23, Tryd.ntmps23
  go_wp2_with (at_make; refine wpList_make_full _ rfl _ _ 26 rfl w.heap.size 82 i0 (.agg #[.int .i64 0, .int .i64 0]) 2 Tryd.underlying26 hi hz0 hz1 .i64 .i64 _ _ cs.length rfl rfl rfl rfl ?_ ?_ ?_ ?_)
  · rw [hz2]; omega
  · unfold maxLen; omega
  · exact Nat.le_refl _
  intro w1 hO1 hg1
  have HO1 : Own w1 w.heap.size (.slice (some ⟨w.heap.size, 0, none⟩) cs.length cs.length) (List.replicate cs.length (0, 0)) := by
    unfold Own
    rw [List.length_replicate, ← made_two]
    exact hO1
  have hb1 : Below w.heap.size w w1 := (Below.refl _ _).grown hg1 (Nat.le_refl _) (fun k hk => by cases hk)
  have hz := HO1.lt.2
  clear hO1 hg1
  go_wp2
  go_loopw [4] (fun i wr => ∃ k : Nat, k ≤ cs.length ∧ i = .int .i64 k ∧ Own wr w.heap.size (.slice (some ⟨w.heap.size, 0, none⟩) cs.length cs.length) (cs.take k ++ List.replicate (cs.length - k) (0, 0)) ∧ Below w.heap.size w wr) (fun i _ => cs.length - (intOf i).toNat)
  case atStart => exact ⟨0, Nat.zero_le _, rfl, by simpa using HO1, hb1⟩
  case round =>
    obtain ⟨k, hk, rfl, hO, hb⟩ := hrel
    by_cases hlt : k < cs.length
    · rcases h with h | ⟨b, off, rfl, hbl, hcell⟩
      · subst h; simp at hlt
      obtain ⟨hx, hy⟩ := hcell k hlt
      rw [← hb.cell (p := ⟨b, _, none⟩) hbl] at hx hy
      have hzr := hb.size
      have hzo := hO.lt.2
      go_wp2_with fail
      refine (toCell_any _ _ _).mono ?_
      rintro e w2 ⟨rfl, hb2⟩
      have hO2 := hO.below hb2
      obtain ⟨c1, c2, f1, f2⟩ := hO2.cell (by simp; omega) k hlt
      go_wp2
      go_roundw
      case rel => exact ⟨k + 1, by omega, by go_num, by rw [← set_step cs k hlt]; exact hO2.set (by simp; omega) k _ _ hlt, ((bcall hb (by omega) hb2).setCell (p := ⟨w.heap.size, k * 2, none⟩) (Nat.le_refl _) _).setCell (p := ⟨w.heap.size, k * 2 + 1, none⟩) (Nat.le_refl _) _⟩
      case measure => simp [intOf]; omega
    · go_wp2
      go_ret
      exact ⟨_, rfl, by rw [List.take_of_length_le (by omega), show cs.length - k = 0 by omega] at hO; simpa using hO, hb⟩

set_option maxHeartbeats 400000 in
theorem toGrid_any (wd : Int) (a : Option Addr) (cap : Nat) (cs : List (Int × Int)) (w : World) (h : CellsAt w a cs) (hm : cs.length ≤ 1048576) :
    Calls Tryd.prog 7 #[.agg #[.int .i64 wd, .slice a cs.length cap]] w fun e w' => ∃ g, e = .returned (.agg #[.int .i64 wd, .slice (some ⟨g, 0, none⟩) cs.length cs.length]) ∧ Own w' w.heap.size (.slice (some ⟨g, 0, none⟩) cs.length cs.length) cs ∧ Below w.heap.size w w' := by
  go_enter Tryd.func7, Tryd.ntmps7
  go_wp2_with fail
  refine (toCellS_any _ _ cs _ (h.below (by repeat (first | exact Below.refl _ _ | refine Below.alloc ?_ (by first | exact Nat.le_refl _ | (simp; done) | (simp; omega)) _ | refine Below.drew ?_ | refine Below.setCell ?_ (by first | exact Nat.le_refl _ | (simp; done) | (simp; omega)) _))) hm).mono ?_
  rintro e w1 ⟨g, rfl, hO, hb1⟩
  have hz := hb1.size
  simp at hz
  have hg := hO.lt.1
  simp at hg
  obtain ⟨hc, hf⟩ := bcell hb1
  have q0 : w1.cell? ⟨w.heap.size + 1 + 1, 0, none⟩ = some (.int .i64 wd) := by rw [hc (w.heap.size + 1 + 1) 0 (by simp)]; simp [go_sem]
  have q1 : w1.cell? ⟨w.heap.size + 1 + 1, 1, none⟩ = some (.slice none 0 0) := by rw [hc (w.heap.size + 1 + 1) 1 (by simp)]; simp [go_sem]
  have q2 : w1.frozen? ⟨w.heap.size + 1 + 1, 1, none⟩ = false := by rw [hf (w.heap.size + 1 + 1) 1 (by simp)]; simp [go_sem]
  have q3 : w1.cell? ⟨w.heap.size + 1, 0, none⟩ = some (.int .i64 0) := by rw [hc (w.heap.size + 1) 0 (by simp)]; simp [go_sem]
  have q4 : w1.cell? ⟨w.heap.size + 1, 1, none⟩ = some (.slice none 0 0) := by rw [hc (w.heap.size + 1) 1 (by simp)]; simp [go_sem]
  have q5 : w1.frozen? ⟨w.heap.size + 1, 0, none⟩ = false := by rw [hf (w.heap.size + 1) 0 (by simp)]; simp [go_sem]
  have q6 : w1.frozen? ⟨w.heap.size + 1, 1, none⟩ = false := by rw [hf (w.heap.size + 1) 1 (by simp)]; simp [go_sem]
  clear hc hf
  go_wp2
  refine bodyPost_ret (v := .agg #[.int .i64 wd, .slice (some ⟨g, 0, none⟩) cs.length cs.length]) (by simp [results, Tryd.results7, go_sem, q3, q4]) rfl ⟨g, rfl, ?_, ?_⟩
  · exact ownsRow_setCell_below (ownsRow_setCell_below (ownsRow_setCell_below hO (by simp) _) (by simp) _) (by simp) _ |> fun h => Own.mono h (by simp; omega)
  · exact (((bcall (by repeat (first | exact Below.refl _ _ | refine Below.alloc ?_ (by first | exact Nat.le_refl _ | (simp; done) | (simp; omega)) _ | refine Below.drew ?_ | refine Below.setCell ?_ (by first | exact Nat.le_refl _ | (simp; done) | (simp; omega)) _)) (by simp; omega) hb1).setCell (by simp; omega) _).setCell (by simp) _).setCell (by simp) _

end Go.Proofs.YtjmdlppakinboaaDoor

/-
  The contracts of the laws' own helpers that hold cells against each other.
-/
namespace Go.Proofs.YtjmdlppakinboaaDoor
open Go.RowKit

def eqC (k l k2 l2 : Int) : Bool := decide (k = k2 ∧ l = l2)
set_option maxHeartbeats 400000 in
theorem eqCell_any (k l k2 l2 : Int) (w : World) :
    Calls Tryd.prog 52 #[.agg #[.int .i64 k, .int .i64 l], .agg #[.int .i64 k2, .int .i64 l2]] w fun e w' => e = .returned (.bool (eqC k l k2 l2)) ∧ Below w.heap.size w w' := by
  by_cases h1 : k = k2
  · subst h1
    by_cases h2 : l = l2
    · subst h2
      go_enter Tryd.func52, Tryd.ntmps52
      go_wp2
      go_ret
      exact ⟨by simp [eqC], (by repeat (first | exact Below.refl _ _ | refine Below.alloc ?_ (by first | exact Nat.le_refl _ | (simp; done) | (simp; omega)) _ | refine Below.drew ?_ | refine Below.setCell ?_ (by first | exact Nat.le_refl _ | (simp; done) | (simp; omega)) _))⟩
    · go_enter Tryd.func52, Tryd.ntmps52
      go_wp2
      go_ret
      exact ⟨by simp [eqC, h2], (by repeat (first | exact Below.refl _ _ | refine Below.alloc ?_ (by first | exact Nat.le_refl _ | (simp; done) | (simp; omega)) _ | refine Below.drew ?_ | refine Below.setCell ?_ (by first | exact Nat.le_refl _ | (simp; done) | (simp; omega)) _))⟩
  · go_enter Tryd.func52, Tryd.ntmps52
    go_wp2
    go_ret
    exact ⟨by simp [eqC, h1], (by repeat (first | exact Below.refl _ _ | refine Below.alloc ?_ (by first | exact Nat.le_refl _ | (simp; done) | (simp; omega)) _ | refine Below.drew ?_ | refine Below.setCell ?_ (by first | exact Nat.le_refl _ | (simp; done) | (simp; omega)) _))⟩

set_option maxHeartbeats 400000 in
theorem eqCellS_any (a a2 : Option Addr) (cap cap2 : Nat) (cs ds : List (Int × Int)) (w : World) (h : CellsAt w a cs) (h2 : CellsAt w a2 ds) (hm : cs.length ≤ 1048576) (hm2 : ds.length ≤ 1048576) :
    Calls Tryd.prog 29 #[.slice a cs.length cap, .slice a2 ds.length cap2] w fun e w' => e = .returned (.bool (decide (cs = ds))) ∧ Below w.heap.size w w' := by
  by_cases hl : cs.length = ds.length
  · go_enter Tryd.func29, Tryd.ntmps29
    go_wp2
    go_loopw [5] (fun i wr => ∃ k : Nat, k ≤ cs.length ∧ i = .int .i64 k ∧ cs.take k = ds.take k ∧ Below w.heap.size w wr) (fun i _ => cs.length - (intOf i).toNat)
    case atStart => exact ⟨0, Nat.zero_le _, rfl, by simp, (by repeat (first | exact Below.refl _ _ | refine Below.alloc ?_ (by first | exact Nat.le_refl _ | (simp; done) | (simp; omega)) _ | refine Below.drew ?_ | refine Below.setCell ?_ (by first | exact Nat.le_refl _ | (simp; done) | (simp; omega)) _))⟩
    case round =>
      obtain ⟨k, hk, rfl, htk, hb⟩ := hrel
      have HT : Hid (cs.take k = ds.take k) := htk
      clear htk
      by_cases hlt : k < cs.length
      · have hlt2 : k < ds.length := by omega
        rcases h with h | ⟨b, off, rfl, hbl, hcell⟩
        · subst h; simp at hlt
        rcases h2 with h2 | ⟨b2, off2, rfl, hbl2, hcell2⟩
        · subst h2; simp at hlt2
        obtain ⟨hx, hy⟩ := hcell k hlt
        rw [← hb.cell (p := ⟨b, _, none⟩) hbl] at hx hy
        obtain ⟨hx2, hy2⟩ := hcell2 k hlt2
        rw [← hb.cell (p := ⟨b2, _, none⟩) hbl2] at hx2 hy2
        have hzr := hb.size
        have HL : Hid (cs.length = ds.length) := hl
        clear hl hcell hcell2
        by_cases hq : eqC cs[k].1 cs[k].2 ds[k].1 ds[k].2 = true
        · have HN : Hid (cs.take (k + 1) = ds.take (k + 1)) := by
            show _ = _
            rw [List.take_succ_eq_append_getElem hlt, List.take_succ_eq_append_getElem hlt2, HT.out]
            simp only [eqC, decide_eq_true_eq] at hq
            rw [Prod.ext hq.1 hq.2]
          go_wp2_with fail
          go_region_with (go_at_call 52; refine (eqCell_any _ _ _ _ _).mono ?_; rintro e w2 ⟨rfl, hb2⟩)
          all_goals
            go_wp2
            go_roundw
            case rel => exact ⟨k + 1, by omega, by go_num, HN.out, bcall hb.drew hzr hb2⟩
            case measure => simp [intOf]; omega
        · have hq' : eqC cs[k].1 cs[k].2 ds[k].1 ds[k].2 = false := by simpa using hq
          clear hq
          have HN : Hid (decide (cs = ds) = false) := by
            show _ = _
            simp
            intro hx
            subst hx
            simp [eqC] at hq'
          go_wp2_with fail
          go_region_with (go_at_call 52; refine (eqCell_any _ _ _ _ _).mono ?_; rintro e w2 ⟨rfl, hb2⟩)
          all_goals
            go_wp2
            go_ret
            exact ⟨by rw [HN.out]; rfl, bcall hb.drew hzr hb2⟩
      · have HN : Hid (decide (cs = ds) = true) := by
          show _ = _
          have := HT.out
          rw [List.take_of_length_le (by omega), List.take_of_length_le (by omega)] at this
          simp [this]
        go_wp2
        go_ret
        exact ⟨by rw [HN.out]; rfl, hb⟩
  · go_enter Tryd.func29, Tryd.ntmps29
    go_wp2
    go_ret
    exact ⟨by rw [show decide (cs = ds) = false from by simp; intro hx; exact hl (by rw [hx])]; rfl, (by repeat (first | exact Below.refl _ _ | refine Below.alloc ?_ (by first | exact Nat.le_refl _ | (simp; done) | (simp; omega)) _ | refine Below.drew ?_ | refine Below.setCell ?_ (by first | exact Nat.le_refl _ | (simp; done) | (simp; omega)) _))⟩

end Go.Proofs.YtjmdlppakinboaaDoor

/-
  The contracts of the laws' own helpers on grids: holding two against each other, marking the cells, looking at the marks.
-/
namespace Go.Proofs.YtjmdlppakinboaaDoor
open Go.RowKit

def eqG (wd wd2 : Int) (cs ds : List (Int × Int)) : Bool := decide (wd = wd2 ∧ cs = ds)

set_option maxHeartbeats 400000 in
theorem eqGrid_any (wd wd2 : Int) (a a2 : Option Addr) (cap cap2 : Nat) (cs ds : List (Int × Int)) (w : World) (h : CellsAt w a cs) (h2 : CellsAt w a2 ds) (hm : cs.length ≤ 1048576) (hm2 : ds.length ≤ 1048576) :
    Calls Tryd.prog 10 #[.agg #[.int .i64 wd, .slice a cs.length cap], .agg #[.int .i64 wd2, .slice a2 ds.length cap2]] w fun e w' => e = .returned (.bool (eqG wd wd2 cs ds)) ∧ Below w.heap.size w w' := by
  by_cases h1 : wd = wd2
  · subst h1
    have hd : eqG wd wd cs ds = decide (cs = ds) := by simp [eqG]
    by_cases hc : decide (cs = ds) = true
    all_goals
      go_enter Tryd.func10, Tryd.ntmps10
      go_wp2_with fail
      refine (eqCellS_any _ _ _ _ cs ds _ (h.below (by repeat (first | exact Below.refl _ _ | refine Below.alloc ?_ (by first | exact Nat.le_refl _ | (simp; done) | (simp; omega)) _ | refine Below.drew ?_ | refine Below.setCell ?_ (by first | exact Nat.le_refl _ | (simp; done) | (simp; omega)) _))) (h2.below (by repeat (first | exact Below.refl _ _ | refine Below.alloc ?_ (by first | exact Nat.le_refl _ | (simp; done) | (simp; omega)) _ | refine Below.drew ?_ | refine Below.setCell ?_ (by first | exact Nat.le_refl _ | (simp; done) | (simp; omega)) _))) hm hm2).mono ?_
      rintro e w1 ⟨rfl, hb1⟩
      go_wp2
      go_ret
      exact ⟨by rw [hd]; simp [hc], bcall (by repeat (first | exact Below.refl _ _ | refine Below.alloc ?_ (by first | exact Nat.le_refl _ | (simp; done) | (simp; omega)) _ | refine Below.drew ?_ | refine Below.setCell ?_ (by first | exact Nat.le_refl _ | (simp; done) | (simp; omega)) _)) (by simp; omega) hb1⟩
  · go_enter Tryd.func10, Tryd.ntmps10
    go_wp2
    go_ret
    exact ⟨by simp [eqG, h1], (by repeat (first | exact Below.refl _ _ | refine Below.alloc ?_ (by first | exact Nat.le_refl _ | (simp; done) | (simp; omega)) _ | refine Below.drew ?_ | refine Below.setCell ?_ (by first | exact Nat.le_refl _ | (simp; done) | (simp; omega)) _))⟩


end Go.Proofs.YtjmdlppakinboaaDoor

/-
  The contracts of the laws' own helpers that mark cells and look at marks.
-/
namespace Go.Proofs.YtjmdlppakinboaaDoor
open Go.RowKit

/-- The marks: k, k+1, k+2 and so on, two a cell. -/
def marks (k : Int) (n : Nat) : List (Int × Int) := (List.range n).map fun (i : Nat) => (k + 2 * (i : Int), k + 2 * (i : Int) + 1)

theorem marks_len (k : Int) (n : Nat) : (marks k n).length = n := by simp [marks]
theorem marks_at (k : Int) (n i : Nat) (h : i < n) : (marks k n).getD i (0, 0) = (k + 2 * (i : Int), k + 2 * (i : Int) + 1) := by simp [marks, h]
theorem marks_step (k : Int) (cs : List (Int × Int)) (i : Nat) (h : i < cs.length) : (marks k i ++ cs.drop i).set i (k + 2 * (i : Int), k + 2 * (i : Int) + 1) = marks k (i + 1) ++ cs.drop (i + 1) := by
  rw [List.set_append_right _ _ (by rw [marks_len]; omega), marks_len, Nat.sub_self, List.drop_eq_getElem_cons h, List.set_cons_zero]
  simp only [marks, List.range_succ, List.map_append, List.map_cons, List.map_nil, List.append_assoc, List.cons_append, List.nil_append]

set_option maxHeartbeats 400000 in
theorem markCellS_any (k0 : Int) (B g n cap : Nat) (cs : List (Int × Int)) (w : World) (hO : Own w B (.slice (some ⟨g, 0, none⟩) n cap) cs) (hn : cs.length = n) (hm : n ≤ 1048576) (hk0 : 0 ≤ k0 ∧ k0 ≤ 1099511627776) :
    Calls Tryd.prog 30 #[.slice (some ⟨g, 0, none⟩) n cap, .int .i64 k0] w fun e w' => e = .returned (.int .i64 (k0 + 2 * n)) ∧ Own w' B (.slice (some ⟨g, 0, none⟩) n cap) (marks k0 n) ∧ w.grownBy w' (some g) := by
  go_enter Tryd.func30, Tryd.ntmps30
  go_wp2
  go_loopw [1, 5] (fun v i wr => ∃ k : Nat, k ≤ n ∧ i = .int .i64 k ∧ v = .int .i64 (k0 + 2 * k) ∧ Own wr B (.slice (some ⟨g, 0, none⟩) n cap) (marks k0 k ++ cs.drop k) ∧ w.grownBy wr (some g)) (fun _ i _ => n - (intOf i).toNat)
  case atStart => exact ⟨0, Nat.zero_le _, rfl, by simp, by simpa [marks] using hO, World.grownBy.refl _ _⟩
  case round =>
    obtain ⟨k, hk, rfl, rfl, hOk, hg⟩ := hrel
    by_cases hlt : k < n
    · have hlen : (marks k0 k ++ cs.drop k).length = n := by simp [marks_len]; omega
      obtain ⟨c1, c2, f1, f2⟩ := hOk.cell hlen k hlt
      have HS := hOk.set hlen k (k0 + 2 * (k : Int)) (k0 + 2 * (k : Int) + 1) hlt
      rw [marks_step k0 cs k (by omega)] at HS
      clear hO hOk hlen
      go_wp2
      go_roundw
      case rel => exact ⟨k + 1, by omega, by go_num, by go_num, HS, ⟨hg.os, hg.tape, hg.output, by simpa using hg.size, fun j hj hne => by rw [Below.heap_setCell _ _ _ _ (by intro e; exact hne (by simp [e])), Below.heap_setCell _ _ _ _ (by intro e; exact hne (by simp [e]))]; exact hg.block j hj hne⟩⟩
      case measure => simp [intOf]; omega
    · have hkn : k = n := by omega
      subst hkn
      go_wp2
      go_ret
      exact ⟨rfl, by rw [List.drop_of_length_le (by omega), List.append_nil] at hOk; exact hOk, hg⟩

set_option maxHeartbeats 400000 in
theorem heldCellS_any (k0 : Int) (a : Option Addr) (n cap : Nat) (w : World) (h : CellsAt w a (marks k0 n)) (hm : n ≤ 1048576) (hk0 : 0 ≤ k0 ∧ k0 ≤ 1099511627776) :
    Calls Tryd.prog 54 #[.slice a n cap, .int .i64 k0] w fun e w' => e = .returned (.int .i64 (k0 + 2 * n)) ∧ w' = w := by
  go_enter Tryd.func54, Tryd.ntmps54
  go_wp2
  go_loop [1, 5] (fun v i => ∃ k : Nat, k ≤ n ∧ i = .int .i64 k ∧ v = .int .i64 (k0 + 2 * k)) (fun _ i => n - (intOf i).toNat)
  case atStart => exact ⟨0, Nat.zero_le _, rfl, by simp⟩
  case round =>
    obtain ⟨k, hk, rfl, rfl⟩ := hrel
    by_cases hlt : k < n
    · rcases h with h | ⟨b, off, rfl, hbl, hcell⟩
      · have := marks_len k0 n; rw [h] at this; simp at this; omega
      obtain ⟨hx, hy⟩ := hcell k (by rw [marks_len]; exact hlt)
      rw [marks_at k0 n k hlt] at hx hy
      clear hcell
      go_wp2
      go_round
      case rel => exact ⟨k + 1, by omega, by go_num, by go_num⟩
      case measure => simp [intOf]; omega
    · have hkn : k = n := by omega
      subst hkn
      go_wp2
      go_ret
      exact ⟨rfl, rfl⟩

set_option maxHeartbeats 400000 in
theorem markGrid_any (wd k0 : Int) (B g n cap : Nat) (cs : List (Int × Int)) (w : World) (hO : Own w B (.slice (some ⟨g, 0, none⟩) n cap) cs) (hn : cs.length = n) (hm : n ≤ 1048576) (hk0 : 0 ≤ k0 ∧ k0 ≤ 1099511627776) :
    Calls Tryd.prog 11 #[.agg #[.int .i64 wd, .slice (some ⟨g, 0, none⟩) n cap], .int .i64 k0] w fun e w' => e = .returned (.int .i64 (k0 + 2 * n)) ∧ Own w' B (.slice (some ⟨g, 0, none⟩) n cap) (marks k0 n) ∧ w.grownBy w' (some g) := by
  go_enter Tryd.func11, Tryd.ntmps11
  go_wp2_with fail
  refine (markCellS_any k0 B g n cap cs _ (hO.alloc _) hn hm hk0).mono ?_
  rintro e w1 ⟨rfl, hO1, hg1⟩
  go_wp2
  go_ret
  exact ⟨rfl, hO1, ⟨hg1.os, hg1.tape, hg1.output, by have := hg1.size; simp at this; omega, fun j hj hne => by rw [hg1.block j (by simp; omega) hne]; exact Below.heap_alloc _ _ _ hj⟩⟩

set_option maxHeartbeats 400000 in
theorem heldGrid_any (wd k0 : Int) (a : Option Addr) (n cap : Nat) (w : World) (h : CellsAt w a (marks k0 n)) (hm : n ≤ 1048576) (hk0 : 0 ≤ k0 ∧ k0 ≤ 1099511627776) :
    Calls Tryd.prog 34 #[.agg #[.int .i64 wd, .slice a n cap], .int .i64 k0] w fun e w' => e = .returned (.int .i64 (k0 + 2 * n)) ∧ Below w.heap.size w w' := by
  go_enter Tryd.func34, Tryd.ntmps34
  go_wp2_with fail
  refine (heldCellS_any k0 _ n _ _ (h.below (by repeat (first | exact Below.refl _ _ | refine Below.alloc ?_ (by first | exact Nat.le_refl _ | (simp; done) | (simp; omega)) _ | refine Below.drew ?_ | refine Below.setCell ?_ (by first | exact Nat.le_refl _ | (simp; done) | (simp; omega)) _))) hm hk0).mono ?_
  rintro e w1 ⟨rfl, rfl⟩
  go_wp2
  go_ret
  exact ⟨rfl, (by repeat (first | exact Below.refl _ _ | refine Below.alloc ?_ (by first | exact Nat.le_refl _ | (simp; done) | (simp; omega)) _ | refine Below.drew ?_ | refine Below.setCell ?_ (by first | exact Nat.le_refl _ | (simp; done) | (simp; omega)) _))⟩

end Go.Proofs.YtjmdlppakinboaaDoor

/-
  Marking what a call owns, whether it is nil or not; and what stays behind it.
-/
namespace Go.Proofs.YtjmdlppakinboaaDoor
open Go.RowKit
set_option linter.unusedVariables false

set_option maxHeartbeats 400000 in
theorem markCellS_nil (k0 : Int) (a : Option Addr) (cap : Nat) (w : World) :
    Calls Tryd.prog 30 #[.slice a 0 cap, .int .i64 k0] w fun e w' => e = .returned (.int .i64 k0) ∧ w' = w := by
  go_enter Tryd.func30, Tryd.ntmps30
  go_wp2
  go_loop [1, 5] (fun v i => v = .int .i64 k0 ∧ i = .int .i64 0) (fun _ _ => 0)
  case atStart => exact ⟨rfl, rfl⟩
  case round =>
    obtain ⟨rfl, rfl⟩ := hrel
    go_wp2
    go_ret
    exact ⟨rfl, rfl⟩

theorem markGrid_own (wd k0 : Int) (B : Nat) (v : Value) (cs : List (Int × Int)) (w : World) (hO : Own w B v cs) (hm : cs.length ≤ 1048576) (hk0 : 0 ≤ k0 ∧ k0 ≤ 1099511627776) :
    Calls Tryd.prog 11 #[.agg #[.int .i64 wd, v], .int .i64 k0] w fun e w' => e = .returned (.int .i64 (k0 + 2 * cs.length)) ∧ Own w' B v (marks k0 cs.length) ∧ w.grownBy w' v.ownBlock := by
  obtain ⟨h1, h2⟩ := hO
  rcases h2 with ⟨rfl, h2⟩ | ⟨g, cap, cur, rfl, hg, hh, r⟩
  · obtain rfl : cs = [] := List.length_eq_zero_iff.1 h2
    go_enter Tryd.func11, Tryd.ntmps11
    go_wp2_with fail
    refine (markCellS_nil k0 _ _ _).mono ?_
    rintro e w1 ⟨rfl, rfl⟩
    go_wp2
    go_ret
    exact ⟨by simp, World.ownsRow_nil _ _ _ _, World.grownBy_alloc _ _ _⟩
  · refine (markGrid_any wd k0 B g cs.length cap cs w ⟨h1, Or.inr ⟨g, cap, cur, rfl, hg, hh, r⟩⟩ rfl hm hk0).mono ?_
    rintro e w' ⟨rfl, h, hgr⟩
    exact ⟨rfl, h, hgr⟩

theorem keepg {w w' : World} {blk : Option Nat} (hg : w.grownBy w' blk) {b o : Nat} {v : Value} (hne : some b ≠ blk) (h : w.cell? ⟨b, o, none⟩ = some v) : w'.cell? ⟨b, o, none⟩ = some v := hg.cell h hne
theorem Own.keptg {w w' : World} {B : Nat} {v : Value} {cs : List (Int × Int)} {blk : Option Nat} (h : Own w B v cs) (hg : w.grownBy w' blk) (hne : ∀ k, v.ownBlock = some k → blk ≠ some k) : Own w' B v cs := by
  refine World.ownsRow.kept h hg ?_
  cases hv : v.ownBlock with
  | none => exact Or.inl rfl
  | some k => exact Or.inr (fun e => hne k hv e.symm)
theorem Own.range {w : World} {B : Nat} {v : Value} {cs : List (Int × Int)} (h : Own w B v cs) : ∀ k, v.ownBlock = some k → B ≤ k ∧ k < w.heap.size := World.ownsRow.lt h
theorem ne_of_range {v : Value} {lo hi b : Nat} (h : ∀ k, v.ownBlock = some k → lo ≤ k ∧ k < hi) (hb : b < lo ∨ hi ≤ b) : some b ≠ v.ownBlock := by
  intro e
  have := h b e.symm
  omega

set_option maxHeartbeats 400000 in
theorem heldGrid_own (wd k0 : Int) (B : Nat) (v : Value) (n : Nat) (w : World) (hO : Own w B v (marks k0 n)) (hm : n ≤ 1048576) (hk0 : 0 ≤ k0 ∧ k0 ≤ 1099511627776) :
    Calls Tryd.prog 34 #[.agg #[.int .i64 wd, v], .int .i64 k0] w fun e w' => e = .returned (.int .i64 (k0 + 2 * n)) ∧ Below w.heap.size w w' := by
  obtain ⟨a, cap, rfl, hC⟩ := hO.slice
  rw [marks_len]
  exact heldGrid_any wd k0 a n cap w hC hm hk0

theorem eqGrid_own (wd wd2 : Int) (v v2 : Value) (B B2 : Nat) (cs ds : List (Int × Int)) (w : World) (h : Own w B v cs) (h2 : Own w B2 v2 ds) (hm : cs.length ≤ 1048576) (hm2 : ds.length ≤ 1048576) :
    Calls Tryd.prog 10 #[.agg #[.int .i64 wd, v], .agg #[.int .i64 wd2, v2]] w fun e w' => e = .returned (.bool (eqG wd wd2 cs ds)) ∧ Below w.heap.size w w' := by
  obtain ⟨a, cap, rfl, hC⟩ := h.slice
  obtain ⟨a2, cap2, rfl, hC2⟩ := h2.slice
  exact eqGrid_any wd wd2 a a2 cap cap2 cs ds w hC hC2 hm hm2

end Go.Proofs.YtjmdlppakinboaaDoor
