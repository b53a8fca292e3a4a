/-
  The contract of impl.GridFlip: the mirrored grid in new memory, or an empty one; it turns no memory that was there.
-/
import Derived.Test.YtmnninhifiajhaaTc
import Derived.Deep.RegionHeld3
import Derived.Deep.DrawnRows
namespace Go.Proofs.Ytmnninhifiajhaa
open Go.RowKit
set_option linter.unusedVariables false
attribute [local go_sem ↓] Go.wp_at_zero Go.wp_at_succ

set_option maxRecDepth 100000 in
set_option maxHeartbeats 1000000 in
theorem implGridFlip_yes (W H : Nat) (b off cap : Nat) (cs : List (Int × Int)) (w : World) (hbl : b < w.heap.size)
    (hcell : ∀ i, i < cs.length → w.cell? ⟨b, off + i * 2, none⟩ = some (.int .i64 (cs.getD i (0, 0)).1) ∧ w.cell? ⟨b, off + i * 2 + 1, none⟩ = some (.int .i64 (cs.getD i (0, 0)).2))
    (hok : okG (W : Int) cs = true) (hW : 1 ≤ W ∧ W ≤ 5) (hH : 1 ≤ H ∧ H ≤ 5) (hn : cs.length = W * H) :
    Calls Try.prog 21 #[.agg #[.int .i64 (W : Int), .slice (some ⟨b, off, none⟩) cs.length cap]] w fun e w' => ∃ g, e = .returned (.agg #[.int .i64 (W : Int), .slice (some ⟨g, 0, none⟩) cs.length cs.length]) ∧ Own w' w.heap.size (.slice (some ⟨g, 0, none⟩) cs.length cs.length) (flipC W cs) ∧ Below w.heap.size w w' := by
  obtain ⟨i0, hi, iz0, iz1, iz2⟩ := info_parts infoCell
  have hlen : 1 ≤ cs.length ∧ cs.length ≤ 25 := by
    obtain ⟨a1, a2⟩ := hW
    obtain ⟨a3, a4⟩ := hH
    rw [hn]
    rcases (show W = 1 ∨ W = 2 ∨ W = 3 ∨ W = 4 ∨ W = 5 by omega) with rfl | rfl | rfl | rfl | rfl <;> omega
  have hdiv : cs.length / W = H := by rw [hn]; exact Nat.mul_div_cancel_left H (by omega)
  have HN : Hid (cs.length = W * H) := hn
  have HD : Hid (cs.length / W = H) := hdiv
  clear hn hdiv
  go_enter Try.func21, Try.ntmps21
  go_wp2_with fail
  refine (implGridOk_any _ _ _ cs _ (Or.inr ⟨b, off, rfl, by simp; omega, fun i hi => by rw [World.cell?_alloc_past _ _ _ (by simp; omega), World.cell?_alloc_past _ _ _ (by omega), World.cell?_alloc_past _ _ _ (by simp; omega), World.cell?_alloc_past _ _ _ (by omega)]; exact hcell i hi⟩) (by omega)).mono ?_
  rintro e w1 ⟨rfl, hb1⟩
  have hz1 := hb1.size
  simp at hz1
  have hB1 : Below w.heap.size w w1 := bcall (by repeat (first | exact Below.refl _ _ | refine Below.alloc ?_ (by first | exact Nat.le_refl _ | (simp; done) | (simp; omega)) _ | refine Below.drew ?_ | refine Below.setCell ?_ (by first | exact Nat.le_refl _ | (simp; done) | (simp; omega)) _)) (by simp; omega) hb1
  have p0 : w1.cell? ⟨w.heap.size, 0, none⟩ = some (.int .i64 (W : Int)) := keepc hb1 (by simp [go_sem])
  have p1 : w1.cell? ⟨w.heap.size, 1, none⟩ = some (.slice (some ⟨b, off, none⟩) cs.length cap) := keepc hb1 (by simp [go_sem])
  have p4 : w1.cell? ⟨w.heap.size + 1, 0, none⟩ = some (.int .i64 0) := keepc hb1 (by simp [go_sem])
  have p5 : w1.cell? ⟨w.heap.size + 1, 1, none⟩ = some (.slice none 0 0) := keepc hb1 (by simp [go_sem])
  have f4 : w1.frozen? ⟨w.heap.size + 1, 0, none⟩ = false := keepf hb1 (v := .int .i64 0) (by simp [go_sem]) (by simp [go_sem])
  have f5 : w1.frozen? ⟨w.heap.size + 1, 1, none⟩ = false := keepf hb1 (v := .slice none 0 0) (by simp [go_sem]) (by simp [go_sem])
  clear hb1
  go_wp2_with (at_make; refine wpList_make_full _ rfl _ _ 23 rfl w.heap.size 27 i0 (.agg #[.int .i64 0, .int .i64 0]) 2 Try.underlying23 hi iz0 iz1 .i64 .i64 _ _ cs.length rfl rfl rfl rfl ?_ ?_ ?_ ?_)
  · rw [iz2]; omega
  · unfold maxLen; omega
  · omega
  intro w3 hO3' hg3
  have hb3 : Below w1.heap.size w1 w3 := (Below.refl _ _).grown hg3 (Nat.le_refl _) (fun k hk => by cases hk)
  have hz3 := hb3.size
  have hB3 : Below w.heap.size w w3 := bcall hB1 (by omega) hb3
  replace f4 := keepf hb3 p4 f4; replace f5 := keepf hb3 p5 f5; replace p0 := keepc hb3 p0; replace p1 := keepc hb3 p1; replace p4 := keepc hb3 p4; replace p5 := keepc hb3 p5
  have hO3 : Own w3 w.heap.size (.slice (some ⟨w1.heap.size, 0, none⟩) cs.length cs.length) (List.replicate cs.length (0, 0)) := by
    unfold Own
    rw [List.length_replicate, ← made_two]
    exact hO3'
  clear hg3 hb3 hO3'
  go_wp2
  go_loopw [19] (fun i wr => ∃ k : Nat, k ≤ cs.length ∧ i = .int .i64 k ∧ Own wr w.heap.size (.slice (some ⟨w1.heap.size, 0, none⟩) cs.length cs.length) ((List.range cs.length).map fun j => if flipAt W j < k then (fun m => other (cs.getD m (0, 0))) (flipAt W j) else (0, 0)) ∧ Below w.heap.size w wr ∧ wr.cell? ⟨w.heap.size, 0, none⟩ = some (.int .i64 (W : Int)) ∧ wr.cell? ⟨w.heap.size + 1, 0, none⟩ = some (.int .i64 0) ∧ wr.cell? ⟨w.heap.size + 1, 1, none⟩ = some (.slice none 0 0) ∧ wr.frozen? ⟨w.heap.size + 1, 0, none⟩ = false ∧ wr.frozen? ⟨w.heap.size + 1, 1, none⟩ = false) (fun i _ => cs.length - (intOf i).toNat)
  case atStart => exact ⟨0, Nat.zero_le _, rfl, by simpa [List.map_const'] using hO3, hB3, p0, p4, p5, f4, f5⟩
  case round =>
    clear hO3 p0 p1 p4 p5 f4 f5
    obtain ⟨k, hk, rfl, hO, hb, p0, p4, p5, f4, f5⟩ := hrel
    by_cases hlt : k < cs.length
    · obtain ⟨hx, hy⟩ := hcell k hlt
      rw [← hb.cell (p := ⟨b, _, none⟩) hbl] at hx hy
      have s0 : w.heap.size < wr.heap.size := World.block_lt_of_cell? wr _ p0
      have s1 : w.heap.size + 1 < wr.heap.size := World.block_lt_of_cell? wr _ p4
      have s2 := hO.lt.2
      have hw1 : (1 : Int) ≤ (W : Int) := by omega
      have hk0 : (0 : Int) ≤ (k : Int) := by omega
      have hnW : cs.length % W = 0 := by rw [HN.out]; exact Nat.mul_mod_right W H
      have ht := flip_lt W k cs.length hW hnW hlt
      have t2 : k / W * W + W - 1 - k % W < cs.length := ht.1
      have t3 : k % W < W := ht.2.2
      have d0 : ((k / W : Nat) : Int) = (k : Int) / (W : Int) := by simp
      have d3 : ((k % W : Nat) : Int) = (k : Int) % (W : Int) := by simp
      have d1 : (0 : Int) ≤ (k : Int) / (W : Int) := Int.ediv_nonneg hk0 (by omega)
      have d2 : (k : Int) / (W : Int) ≤ (k : Int) := Int.ediv_le_self _ hk0
      have m1 : (0 : Int) ≤ (k : Int) % (W : Int) := by omega
      have m2 : (k : Int) % (W : Int) ≤ 4 := by omega
      have e0 : ((k / W * W : Nat) : Int) = (k : Int) / (W : Int) * (W : Int) := by simp
      have e3 : k / W * W ≤ k := Nat.div_mul_le_self k W
      have e1 : (0 : Int) ≤ (k : Int) / (W : Int) * (W : Int) := by omega
      have e2 : (k : Int) / (W : Int) * (W : Int) ≤ 25 := by omega
      have JJ : ((k : Int) / (W : Int) * (W : Int) + (W : Int) - 1 - (k : Int) % (W : Int)) = ((k / W * W + W - 1 - k % W : Nat) : Int) := by omega
      have ib : (0 : Int) ≤ (k : Int) / (W : Int) * (W : Int) + (W : Int) - 1 - (k : Int) % (W : Int) := by omega
      have i2 : (k : Int) / (W : Int) * (W : Int) + (W : Int) - 1 - (k : Int) % (W : Int) < (cs.length : Int) := by omega
      have v1 : IntKind.i64.wrap ((k : Int) / (W : Int) * (W : Int)) = (k : Int) / (W : Int) * (W : Int) := IntWalk.i64_in _ (by omega)
      have v2 : IntKind.i64.wrap ((k : Int) / (W : Int) * (W : Int) + (W : Int)) = (k : Int) / (W : Int) * (W : Int) + (W : Int) := IntWalk.i64_in _ (by omega)
      have v3 : IntKind.i64.wrap ((k : Int) / (W : Int) * (W : Int) + (W : Int) - 1) = (k : Int) / (W : Int) * (W : Int) + (W : Int) - 1 := IntWalk.i64_in _ (by omega)
      have v4 : IntKind.i64.wrap ((k : Int) / (W : Int) * (W : Int) + (W : Int) - 1 - (k : Int) % (W : Int)) = (k : Int) / (W : Int) * (W : Int) + (W : Int) - 1 - (k : Int) % (W : Int) := IntWalk.i64_in _ (by omega)
      have v5 : ((k : Int) / (W : Int) * (W : Int) + (W : Int) - 1 - (k : Int) % (W : Int)).toNat = k / W * W + W - 1 - k % W := by omega
      obtain ⟨kx, lx, hkl⟩ : ∃ kx lx : Int, cs.getD k (0, 0) = (kx, lx) := ⟨_, _, rfl⟩
      rw [hkl] at hx hy
      have hokk : okC kx lx = true := by
        have := okG_cell _ _ hok k hlt
        rw [show cs[k] = cs.getD k (0, 0) by simp [hlt], hkl] at this
        exact this
      have HT : Hid (((List.range cs.length).map fun j => if flipAt W j < k then (fun m => other (cs.getD m (0, 0))) (flipAt W j) else (0, 0)).set (k / W * W + W - 1 - k % W) (otherK kx, lx) = (List.range cs.length).map fun j => if flipAt W j < k + 1 then (fun m => other (cs.getD m (0, 0))) (flipAt W j) else (0, 0)) := by
        show _ = _
        rw [← scatter cs.length k (flipAt W) (fun k => k / W * W + W - 1 - k % W) (fun m => other (cs.getD m (0, 0))) (0, 0) hlt t2 (fun j hj => flip_inv W j k cs.length hW hnW hj hlt)]
        simp only [hkl, other]
      have n1 : w.heap.size ≠ w1.heap.size := by omega
      have n2 : w.heap.size + 1 ≠ w1.heap.size := by omega
      have nr : wr.heap.size ≠ w1.heap.size := by omega
      have JJ2 := JJ
      clear d0 d3 e0 e3 ht hkl hnW JJ JJ2
      go_wp2
      go_quiet (fail)
      go_wp2_with fail
      go_region_with (first
          | (go_at_call 59; refine (leanCell_any _ _ _ hokk).mono ?_; rintro e w4 ⟨rfl, hb4'⟩; have hb4 : Below wr.heap.size wr w4 := bcall ((Below.refl _ _).alloc (Nat.le_refl _) _) (by simp) (by first | exact bdrewN hb4' | exact bdrewN (bdrew hb4')); have b0' : w4.cell? ⟨wr.heap.size, 0, none⟩ = some (.int .i64 kx) := keepc hb4' (by simp [go_sem]); have b1' : w4.cell? ⟨wr.heap.size, 1, none⟩ = some (.int .i64 lx) := keepc hb4' (by simp [go_sem]); have p0' := keepc hb4 p0; have hO4 := hO.below hb4; obtain ⟨c1, c2, g1, g2⟩ := hO4.cell (by simp) (k / W * W + W - 1 - k % W) t2))
      all_goals
        have HS := hO4.set (by simp) (k / W * W + W - 1 - k % W) (otherK kx) lx t2
        rw [HT.out] at HS
        have hbb := hb4.mono (B' := w.heap.size) (by omega)
        replace f4 := keepf hb4 p4 f4; replace f5 := keepf hb4 p5 f5; replace p4 := keepc hb4 p4; replace p5 := keepc hb4 p5
        go_wp2
        go_roundw
        case rel => exact ⟨k + 1, by omega, by go_num, HS, ((hb.trans hbb).setCell (p := ⟨w1.heap.size, _, none⟩) (by show w.heap.size ≤ w1.heap.size; omega) _).setCell (p := ⟨w1.heap.size, _, none⟩) (by show w.heap.size ≤ w1.heap.size; omega) _, setc n1 (setc n1 p0'), setc n2 (setc n2 p4), setc n2 (setc n2 p5), setf n2 (setf n2 f4), setf n2 (setf n2 f5)⟩
        case measure => simp [intOf]; omega
    · have hkn : k = cs.length := by omega
      subst hkn
      have hT : ((List.range cs.length).map fun j => if flipAt W j < cs.length then (fun m => other (cs.getD m (0, 0))) (flipAt W j) else (0, 0)) = flipC W cs := by
        unfold flipC
        apply List.map_congr_left
        intro j hj
        rw [if_pos (flip_lt W j cs.length hW (by rw [HN.out]; exact Nat.mul_mod_right W H) (List.mem_range.1 hj)).2.1]
      rw [hT] at hO
      have s2 := hO.lt.2
      have n2 : w1.heap.size ≠ w.heap.size + 1 := by omega
      clear hT
      go_wp2
      refine bodyPost_ret (v := .agg #[.int .i64 (W : Int), .slice (some ⟨w1.heap.size, 0, none⟩) cs.length cs.length]) (by simp [results, Try.results21, go_sem, p4, p5]) rfl ⟨_, rfl, ?_, ?_⟩
      · exact (hO.other (p := ⟨w.heap.size + 1, 0, none⟩) n2 _).other (p := ⟨w.heap.size + 1, 1, none⟩) n2 _
      · exact (hb.setCell (p := ⟨w.heap.size + 1, 0, none⟩) (by simp) _).setCell (p := ⟨w.heap.size + 1, 1, none⟩) (by simp) _

end Go.Proofs.Ytmnninhifiajhaa
