/-
  The contract of impl.GridTurn: the turned grid in new memory, or an empty one; it turns no memory that was there.
-/
import Derived.Test.YtmnninhifiajhaaJm
import Derived.Test.YtmnninhifiajhaaTb
import Derived.Test.YtmnninhifiajhaaJu
import Derived.Deep.QuietTactic
import Derived.BigQuiet
namespace Go.Proofs.Ytmnninhifiajhaa
open Go.RowKit
set_option linter.unusedVariables false

set_option maxHeartbeats 400000 in
theorem gridRows_any (W H : Nat) (a : Option Addr) (n cap : Nat) (w : World) (hW : 1 ≤ W) (hn : n ≤ 1048576) (hH : n / W = H) :
    Calls Try.prog 58 #[.agg #[.int .i64 (W : Int), .slice a n cap]] w fun e w' => e = .returned (.int .i64 (H : Int)) ∧ Below w.heap.size w w' := by
  have h0 : (0 : Int) ≤ (n : Int) / (W : Int) := Int.ediv_nonneg (by omega) (by omega)
  have h1 : (n : Int) / (W : Int) ≤ n := Int.ediv_le_self _ (by omega)
  have hw : (1 : Int) ≤ (W : Int) := by omega
  have HH : Hid ((n : Int) / (W : Int) = (H : Int)) := by show _ = _; rw [← hH]; simp
  clear hH
  go_enter Try.func58, Try.ntmps58
  go_wp2
  go_ret
  exact ⟨by rw [← HH.out]; rfl, (by repeat (first | exact Below.refl _ _ | refine Below.alloc ?_ (by first | exact Nat.le_refl _ | (simp; done) | (simp; omega)) _ | refine Below.drew ?_ | refine Below.setCell ?_ (by first | exact Nat.le_refl _ | (simp; done) | (simp; omega)) _))⟩

set_option maxHeartbeats 1000000 in
theorem implGridTurn_yes (W H : Nat) (b off cap : Nat) (cs : List (Int × Int)) (w : World) (hbl : b < w.heap.size)
    (hcell : ∀ i, i < cs.length → w.cell? ⟨b, off + i * 2, none⟩ = some (.int .i64 (cs.getD i (0, 0)).1) ∧ w.cell? ⟨b, off + i * 2 + 1, none⟩ = some (.int .i64 (cs.getD i (0, 0)).2))
    (hok : okG (W : Int) cs = true) (hW : 1 ≤ W ∧ W ≤ 5) (hH : 1 ≤ H ∧ H ≤ 5) (hn : cs.length = W * H) :
    Calls Try.prog 18 #[.agg #[.int .i64 (W : Int), .slice (some ⟨b, off, none⟩) cs.length cap]] w fun e w' => ∃ g, e = .returned (.agg #[.int .i64 (H : Int), .slice (some ⟨g, 0, none⟩) cs.length cs.length]) ∧ Own w' w.heap.size (.slice (some ⟨g, 0, none⟩) cs.length cs.length) (turnC W H cs) ∧ Below w.heap.size w w' := by
  obtain ⟨i0, hi, iz0, iz1, iz2⟩ := info_parts infoCell
  have hlen : 1 ≤ cs.length ∧ cs.length ≤ 25 := by
    obtain ⟨a1, a2⟩ := hW
    obtain ⟨a3, a4⟩ := hH
    rw [hn]
    rcases (show W = 1 ∨ W = 2 ∨ W = 3 ∨ W = 4 ∨ W = 5 by omega) with rfl | rfl | rfl | rfl | rfl <;> omega
  have hdiv : cs.length / W = H := by rw [hn]; exact Nat.mul_div_cancel_left H (by omega)
  have HN : Hid (cs.length = W * H) := hn
  have HD : Hid (cs.length / W = H) := hdiv
  clear hn hdiv
  go_enter Try.func18, Try.ntmps18
  go_wp2_with fail
  refine (implGridOk_any _ _ _ cs _ (Or.inr ⟨b, off, rfl, by simp; omega, fun i hi => by rw [World.cell?_alloc_past _ _ _ (by simp; omega), World.cell?_alloc_past _ _ _ (by omega), World.cell?_alloc_past _ _ _ (by simp; omega), World.cell?_alloc_past _ _ _ (by omega)]; exact hcell i hi⟩) (by omega)).mono ?_
  rintro e w1 ⟨rfl, hb1⟩
  have hz1 := hb1.size
  simp at hz1
  have hB1 : Below w.heap.size w w1 := bcall (by repeat (first | exact Below.refl _ _ | refine Below.alloc ?_ (by first | exact Nat.le_refl _ | (simp; done) | (simp; omega)) _ | refine Below.drew ?_ | refine Below.setCell ?_ (by first | exact Nat.le_refl _ | (simp; done) | (simp; omega)) _)) (by simp; omega) hb1
  have p0 : w1.cell? ⟨w.heap.size, 0, none⟩ = some (.int .i64 (W : Int)) := keepc hb1 (by simp [go_sem])
  have p1 : w1.cell? ⟨w.heap.size, 1, none⟩ = some (.slice (some ⟨b, off, none⟩) cs.length cap) := keepc hb1 (by simp [go_sem])
  have p4 : w1.cell? ⟨w.heap.size + 1, 0, none⟩ = some (.int .i64 0) := keepc hb1 (by simp [go_sem])
  have p5 : w1.cell? ⟨w.heap.size + 1, 1, none⟩ = some (.slice none 0 0) := keepc hb1 (by simp [go_sem])
  have f4 : w1.frozen? ⟨w.heap.size + 1, 0, none⟩ = false := keepf hb1 (v := .int .i64 0) (by simp [go_sem]) (by simp [go_sem])
  have f5 : w1.frozen? ⟨w.heap.size + 1, 1, none⟩ = false := keepf hb1 (v := .slice none 0 0) (by simp [go_sem]) (by simp [go_sem])
  clear hb1
  go_wp2_with fail
  refine (gridRows_any W H _ _ _ _ (by omega) (by omega) HD.out).mono ?_
  rintro e w2 ⟨rfl, hb2⟩
  have hz2 := hb2.size
  have hB2 : Below w.heap.size w w2 := bcall hB1 (by omega) hb2
  replace f4 := keepf hb2 p4 f4; replace f5 := keepf hb2 p5 f5; replace p0 := keepc hb2 p0; replace p1 := keepc hb2 p1; replace p4 := keepc hb2 p4; replace p5 := keepc hb2 p5
  clear hb2
  go_wp2_with (at_make; refine wpList_make_full _ rfl _ _ 23 rfl w.heap.size 27 i0 (.agg #[.int .i64 0, .int .i64 0]) 2 Try.underlying23 hi iz0 iz1 .i64 .i64 _ _ cs.length rfl rfl rfl rfl ?_ ?_ ?_ ?_)
  · rw [iz2]; omega
  · unfold maxLen; omega
  · omega
  intro w3 hO3' hg3
  have hb3 : Below w2.heap.size w2 w3 := (Below.refl _ _).grown hg3 (Nat.le_refl _) (fun k hk => by cases hk)
  have hz3 := hb3.size
  have hB3 : Below w.heap.size w w3 := bcall hB2 (by omega) hb3
  replace f4 := keepf hb3 p4 f4; replace f5 := keepf hb3 p5 f5; replace p0 := keepc hb3 p0; replace p1 := keepc hb3 p1; replace p4 := keepc hb3 p4; replace p5 := keepc hb3 p5
  have hO3 : Own w3 w.heap.size (.slice (some ⟨w2.heap.size, 0, none⟩) cs.length cs.length) (List.replicate cs.length (0, 0)) := by
    unfold Own
    rw [List.length_replicate, ← made_two]
    exact hO3'
  clear hg3 hb3 hO3'
  go_wp2
  go_loopw [22] (fun i wr => ∃ k : Nat, k ≤ cs.length ∧ i = .int .i64 k ∧ Own wr w.heap.size (.slice (some ⟨w2.heap.size, 0, none⟩) cs.length cs.length) ((List.range cs.length).map fun j => if turnAt W H j < k then (fun m => other (cs.getD m (0, 0))) (turnAt W H j) else (0, 0)) ∧ Below w.heap.size w wr ∧ wr.cell? ⟨w.heap.size, 0, none⟩ = some (.int .i64 (W : Int)) ∧ wr.cell? ⟨w.heap.size + 1, 0, none⟩ = some (.int .i64 0) ∧ wr.cell? ⟨w.heap.size + 1, 1, none⟩ = some (.slice none 0 0) ∧ wr.frozen? ⟨w.heap.size + 1, 0, none⟩ = false ∧ wr.frozen? ⟨w.heap.size + 1, 1, none⟩ = false) (fun i _ => cs.length - (intOf i).toNat)
  case atStart => exact ⟨0, Nat.zero_le _, rfl, by simpa [List.map_const'] using hO3, hB3, p0, p4, p5, f4, f5⟩
  case round =>
    clear hO3 p0 p1 p4 p5 f4 f5
    obtain ⟨k, hk, rfl, hO, hb, p0, p4, p5, f4, f5⟩ := hrel
    by_cases hlt : k < cs.length
    · obtain ⟨hx, hy⟩ := hcell k hlt
      rw [← hb.cell (p := ⟨b, _, none⟩) hbl] at hx hy
      have s0 : w.heap.size < wr.heap.size := World.block_lt_of_cell? wr _ p0
      have s1 : w.heap.size + 1 < wr.heap.size := World.block_lt_of_cell? wr _ p4
      have s2 := hO.lt.2
      have hw1 : (1 : Int) ≤ (W : Int) := by omega
      have hk0 : (0 : Int) ≤ (k : Int) := by omega
      have ht := turn_lt W H k hW hH (by rw [← HN.out]; exact hlt)
      have t1 : k / W < H := ht.2.2.1
      have t2 : k % W * H + H - 1 - k / W < cs.length := by have := ht.1; rw [HN.out]; exact this
      have d1 : (0 : Int) ≤ (k : Int) / (W : Int) := Int.ediv_nonneg hk0 (by omega)
      have d2 : (k : Int) / (W : Int) ≤ (H : Int) - 1 := by have : ((k / W : Nat) : Int) = (k : Int) / (W : Int) := by simp
                                                            omega
      have e0 : ((k % W * H : Nat) : Int) = (k : Int) % (W : Int) * (H : Int) := by simp
      have e1 : (0 : Int) ≤ (k : Int) % (W : Int) * (H : Int) := by omega
      have e2 : (k : Int) % (W : Int) * (H : Int) ≤ 25 := by omega
      have JJ : Hid (((k : Int) % (W : Int) * (H : Int) + (H : Int) - 1 - (k : Int) / (W : Int)) = ((k % W * H + H - 1 - k / W : Nat) : Int)) := by
        show _ = _
        have : ((k / W : Nat) : Int) = (k : Int) / (W : Int) := by simp
        omega
      have i2 : (k : Int) % (W : Int) * (H : Int) + (H : Int) - 1 - (k : Int) / (W : Int) < (cs.length : Int) := by have := JJ.out; omega
      clear ht e0
      go_wp2
      go_quiet (fail)
      go_wp2_with fail
      refine (leanCell_any _ _ _ (okG_cell _ _ hok k hlt)).mono ?_
      rintro e w4 ⟨rfl, hb4'⟩
      have hb4 : Below wr.heap.size wr w4 := bcall ((Below.refl _ _).alloc (Nat.le_refl _) _) (by simp) (bdrewN hb4')
      clear hb4'
      replace f4 := keepf hb4 p4 f4; replace f5 := keepf hb4 p5 f5; replace p0 := keepc hb4 p0; replace p4 := keepc hb4 p4; replace p5 := keepc hb4 p5
      have hO4 := hO.below hb4
      obtain ⟨c1, c2, g1, g2⟩ := hO4.cell (by simp) (k % W * H + H - 1 - k / W) t2
      have HS := hO4.set (by simp) (k % W * H + H - 1 - k / W) (otherK cs[k].1) cs[k].2 t2
      clear hO hO4
      have n1 : w.heap.size ≠ w2.heap.size := by omega
      have n2 : w.heap.size + 1 ≠ w2.heap.size := by omega
      have HT : Hid (((List.range cs.length).map fun j => if turnAt W H j < k then (fun m => other (cs.getD m (0, 0))) (turnAt W H j) else (0, 0)).set (k % W * H + H - 1 - k / W) (otherK cs[k].1, cs[k].2) = (List.range cs.length).map fun j => if turnAt W H j < k + 1 then (fun m => other (cs.getD m (0, 0))) (turnAt W H j) else (0, 0)) := by
        show _ = _
        rw [← scatter cs.length k (turnAt W H) (fun k => k % W * H + H - 1 - k / W) (fun m => other (cs.getD m (0, 0))) (0, 0) hlt t2 (fun j hj => turn_inv W H j k hW hH (by rw [← HN.out]; exact hj) (by rw [← HN.out]; exact hlt))]
        simp [other, hlt]
      rw [HT.out] at HS
      have hbb := hb4.mono (B' := w.heap.size) (by omega)
      go_wp2
      go_roundw
      case rel => exact ⟨k + 1, by omega, by go_num, HS, ((hb.trans hbb).setCell (p := ⟨w2.heap.size, _, none⟩) (by show w.heap.size ≤ w2.heap.size; omega) _).setCell (p := ⟨w2.heap.size, _, none⟩) (by show w.heap.size ≤ w2.heap.size; omega) _, setc n1 (setc n1 p0), setc n2 (setc n2 p4), setc n2 (setc n2 p5), setf n2 (setf n2 f4), setf n2 (setf n2 f5)⟩
      case measure => simp [intOf]; omega
    · have hkn : k = cs.length := by omega
      subst hkn
      have hT : ((List.range cs.length).map fun j => if turnAt W H j < cs.length then (fun m => other (cs.getD m (0, 0))) (turnAt W H j) else (0, 0)) = turnC W H cs := by
        unfold turnC
        apply List.map_congr_left
        intro j hj
        rw [if_pos (by rw [HN.out]; exact (turn_lt W H j hW hH (by rw [← HN.out]; exact List.mem_range.1 hj)).2.1)]
      rw [hT] at hO
      have s2 := hO.lt.2
      have n2 : w2.heap.size ≠ w.heap.size + 1 := by omega
      clear hT
      go_wp2
      refine bodyPost_ret (v := .agg #[.int .i64 (H : Int), .slice (some ⟨w2.heap.size, 0, none⟩) cs.length cs.length]) (by simp [results, Try.results18, go_sem, p4, p5]) rfl ⟨_, rfl, ?_, ?_⟩
      · exact (hO.other (p := ⟨w.heap.size + 1, 0, none⟩) n2 _).other (p := ⟨w.heap.size + 1, 1, none⟩) n2 _
      · exact (hb.setCell (p := ⟨w.heap.size + 1, 0, none⟩) (by simp) _).setCell (p := ⟨w.heap.size + 1, 1, none⟩) (by simp) _

end Go.Proofs.Ytmnninhifiajhaa
