/-
  The contract of spec.GridFlip: the mirrored grid in new memory, or an empty one; it turns no memory that was there.
-/
import Derived.Test.YtoegofbmdcdifaaTd
namespace Go.Proofs.Ytoegofbmdcdifaa
open Go.RowKit
set_option linter.unusedVariables false
attribute [local go_sem ↓] Go.wp_at_zero Go.wp_at_succ

theorem flip_step (W H c t R : Nat) (hW : 1 ≤ W ∧ W ≤ 5) (hH : 1 ≤ H ∧ H ≤ 5) (hc : c < H) (hR : R + t + 1 = W) : flipAt W (c * W + t) = c * W + R ∧ c * W + t < W * H ∧ c * W + R < W * H := by
  have h1 : (c * W + t) % W = t := by rw [Nat.add_comm, Nat.add_mul_mod_self_right]; exact Nat.mod_eq_of_lt (by omega)
  have h2 : (c * W + t) / W = c := by rw [Nat.add_comm, Nat.add_mul_div_right _ _ (by omega), Nat.div_eq_of_lt (by omega)]; omega
  have h3 : W - 1 - t = R := by omega
  have : (c + 1) * W ≤ H * W := Nat.mul_le_mul_right W hc
  rw [Nat.add_mul] at this
  rw [Nat.mul_comm W H]
  refine ⟨by unfold flipAt; rw [h1, h2, h3], by omega, by omega⟩
theorem flipC_step (W : Nat) (cs : List (Int × Int)) (m p : Nat) (hm : m < cs.length) (hp : flipAt W m = p) : (flipC W cs).take (m + 1) = (flipC W cs).take m ++ [other (cs.getD p (0, 0))] := by
  have hl : m < (flipC W cs).length := by simp [flipC, hm]
  rw [List.take_succ_eq_append_getElem hl]
  simp only [flipC, List.getElem_map, List.getElem_range, hp]

set_option maxHeartbeats 1000000 in
theorem specGridFlip_yes (W H : Nat) (b off cap : Nat) (cs : List (Int × Int)) (w : World) (hbl : b < w.heap.size)
    (hcell : ∀ i, i < cs.length → w.cell? ⟨b, off + i * 2, none⟩ = some (.int .i64 (cs.getD i (0, 0)).1) ∧ w.cell? ⟨b, off + i * 2 + 1, none⟩ = some (.int .i64 (cs.getD i (0, 0)).2))
    (hok : okG (W : Int) cs = true) (hW : 1 ≤ W ∧ W ≤ 5) (hH : 1 ≤ H ∧ H ≤ 5) (hn : cs.length = W * H) :
    Calls Try.prog 20 #[.agg #[.int .i64 (W : Int), .slice (some ⟨b, off, none⟩) cs.length cap]] w fun e w' => ∃ g cap', e = .returned (.agg #[.int .i64 (W : Int), .slice (some ⟨g, 0, none⟩) cs.length cap']) ∧ Own w' w.heap.size (.slice (some ⟨g, 0, none⟩) cs.length cap') (flipC W cs) ∧ Below w.heap.size w w' := by
  obtain ⟨i0, hi, iz0, iz1, iz2⟩ := info_parts infoCell
  have hlen : 1 ≤ cs.length ∧ cs.length ≤ 25 := by
    obtain ⟨a1, a2⟩ := hW
    obtain ⟨a3, a4⟩ := hH
    rw [hn]
    rcases (show W = 1 ∨ W = 2 ∨ W = 3 ∨ W = 4 ∨ W = 5 by omega) with rfl | rfl | rfl | rfl | rfl <;> omega
  have hdiv : cs.length / W = H := by rw [hn]; exact Nat.mul_div_cancel_left H (by omega)
  have HN : Hid (cs.length = W * H) := hn
  have HD : Hid (cs.length / W = H) := hdiv
  clear hn hdiv
  go_enter Try.func20, Try.ntmps20
  go_wp2_with fail
  refine (specGridOk_any _ _ _ cs _ (Or.inr ⟨b, off, rfl, by simp; omega, fun i hi => by rw [World.cell?_alloc_past _ _ _ (by simp; omega), World.cell?_alloc_past _ _ _ (by omega), World.cell?_alloc_past _ _ _ (by simp; omega), World.cell?_alloc_past _ _ _ (by omega)]; exact hcell i hi⟩) (by omega)).mono ?_
  rintro e w1 ⟨rfl, hb1⟩
  have hz1 := hb1.size
  simp at hz1
  have hB1 : Below w.heap.size w w1 := bcall (by repeat (first | exact Below.refl _ _ | refine Below.alloc ?_ (by first | exact Nat.le_refl _ | (simp; done) | (simp; omega)) _ | refine Below.drew ?_ | refine Below.setCell ?_ (by first | exact Nat.le_refl _ | (simp; done) | (simp; omega)) _)) (by simp; omega) hb1
  have p0 : w1.cell? ⟨w.heap.size, 0, none⟩ = some (.int .i64 (W : Int)) := keepc hb1 (by simp [go_sem])
  have p1 : w1.cell? ⟨w.heap.size, 1, none⟩ = some (.slice (some ⟨b, off, none⟩) cs.length cap) := keepc hb1 (by simp [go_sem])
  have p4 : w1.cell? ⟨w.heap.size + 1, 0, none⟩ = some (.int .i64 0) := keepc hb1 (by simp [go_sem])
  have p5 : w1.cell? ⟨w.heap.size + 1, 1, none⟩ = some (.slice none 0 0) := keepc hb1 (by simp [go_sem])
  have f4 : w1.frozen? ⟨w.heap.size + 1, 0, none⟩ = false := keepf hb1 (v := .int .i64 0) (by simp [go_sem]) (by simp [go_sem])
  have f5 : w1.frozen? ⟨w.heap.size + 1, 1, none⟩ = false := keepf hb1 (v := .slice none 0 0) (by simp [go_sem]) (by simp [go_sem])
  clear hb1
  have hbX : Below w1.heap.size w1 ((w1.alloc (.cells #[] 27)).alloc (.cells #[.int .i64 (W : Int), .slice (some ⟨w1.heap.size, 0, none⟩) 0 0] 25)) := (by repeat (first | exact Below.refl _ _ | refine Below.alloc ?_ (by first | exact Nat.le_refl _ | (simp; done) | (simp; omega)) _ | refine Below.drew ?_ | refine Below.setCell ?_ (by first | exact Nat.le_refl _ | (simp; done) | (simp; omega)) _))
  have hI : TurnInv w ((w1.alloc (.cells #[] 27)).alloc (.cells #[.int .i64 (W : Int), .slice (some ⟨w1.heap.size, 0, none⟩) 0 0] 25)) W W b off cs.length cap (w1.heap.size + 1) [] w1.heap.size 0 :=
    ⟨bcall hB1 (by omega) hbX, keepc hbX p0, keepc hbX p1, keepc hbX p4, keepc hbX p5, keepf hbX p4 f4, keepf hbX p5 f5, by simp [go_sem], by simp [go_sem], by simp [go_sem], (own_empty w1 (w.heap.size + 1 + 1) 27 2 (by omega)).alloc _, by omega, by omega, by omega⟩
  clear p1 p4 p5 f4 f5 hbX
  go_wp2
  go_loopw [4] (fun i wr => ∃ c g k : Nat, c ≤ H ∧ i = .int .i64 c ∧ TurnInv w wr W W b off cs.length cap (w1.heap.size + 1) ((flipC W cs).take (c * W)) g k) (fun i _ => H - (intOf i).toNat)
  case atStart => exact ⟨0, _, _, Nat.zero_le _, rfl, by simpa using hI⟩
  case round =>
    clear hI p0
    obtain ⟨c, g, k, hc, rfl, hI⟩ := hrel
    have hw1 : (1 : Int) ≤ (W : Int) := by omega
    obtain ⟨p0, p1⟩ := And.intro hI.p0 hI.p1
    by_cases hlt : c < H
    · go_wp2_with fail
      refine (l1High_any W H _ _ _ _ (by omega) (by omega) HD.out).mono ?_
      rintro e w3 ⟨rfl, hb3⟩
      have hI3 := hI.call hb3
      clear hI hb3 p0 p1
      have p0 := hI3.p0
      go_wp2
      go_loopw [5] (fun r wq => ∃ t g k : Nat, t ≤ W ∧ r = .int .i64 ((W : Int) - 1 - t) ∧ TurnInv w wq W W b off cs.length cap (w1.heap.size + 1) ((flipC W cs).take (c * W + t)) g k) (fun r _ => (intOf r + 1).toNat)
      case atStart => exact ⟨0, g, k, Nat.zero_le _, by simp, by simpa using hI3⟩
      case round =>
        clear hI3 p0
        obtain ⟨t, g, k, ht, rfl, hI⟩ := hrel
        by_cases htl : t < W
        · obtain ⟨R, hR⟩ : ∃ R : Nat, (W : Int) - 1 - t = (R : Int) := ⟨W - 1 - t, by omega⟩
          have HR : Hid (R + t + 1 = W) := by show _ = _; omega
          have HR2 : Hid ((W : Int) - 1 - t = (R : Int)) := hR
          have hRb : (R : Int) ≤ 5 := by omega
          rw [hR]
          clear hR
          have hm : flipAt W (c * W + t) = c * W + R ∧ c * W + t < W * H ∧ c * W + R < W * H := flip_step W H c t R hW hH hlt HR.out
          have i1 : c * W + R < cs.length := by rw [HN.out]; exact hm.2.2
          have e0 : ((c * W : Nat) : Int) = (c : Int) * (W : Int) := by simp
          have e1 : (0 : Int) ≤ (c : Int) * (W : Int) := by omega
          have e2 : (c : Int) * (W : Int) ≤ 25 := by omega
          have i2 : (c : Int) * (W : Int) + (R : Int) < (cs.length : Int) := by omega
          have HX : Hid ((flipC W cs).take (c * W + t + 1) = (flipC W cs).take (c * W + t) ++ [other (cs.getD (c * W + R) (0, 0))]) := flipC_step W cs _ _ (by rw [HN.out]; exact hm.2.1) hm.1
          have hxl : ((flipC W cs).take (c * W + t)).length ≤ 25 := by
            rw [List.length_take]
            have : (flipC W cs).length = cs.length := by simp [flipC]
            omega
          generalize (flipC W cs).take (c * W + t) = xs at *
          obtain ⟨hx, hy⟩ := hcell (c * W + R) i1
          rw [← hI.below.cell (p := ⟨b, _, none⟩) hbl] at hx hy
          obtain ⟨kx, lx, hkl⟩ : ∃ kx lx : Int, cs.getD (c * W + R) (0, 0) = (kx, lx) := ⟨_, _, rfl⟩
          rw [hkl] at hx hy
          have HXX : Hid ((flipC W cs).take (c * W + t + 1) = xs ++ [(otherK kx, lx)]) := by have := HX.out; rw [hkl] at this; exact this
          clear HX hkl
          have hz := hI.below.size
          have sl := hI.own.lt
          have so := World.block_lt_of_cell? _ _ hI.o1
          obtain ⟨p0, p1, o1, fo⟩ := And.intro hI.p0 (And.intro hI.p1 (And.intro hI.o1 hI.fo))
          have ib : (0 : Int) ≤ (c : Int) * (W : Int) + (R : Int) := by omega
          have v1 : IntKind.i64.wrap ((c : Int) * (W : Int)) = (c : Int) * (W : Int) := IntWalk.i64_in _ (by omega)
          have v2 : IntKind.i64.wrap ((c : Int) * (W : Int) + (R : Int)) = (c : Int) * (W : Int) + (R : Int) := IntWalk.i64_in _ (by omega)
          have v3 : ((c : Int) * (W : Int) + (R : Int)).toNat = c * W + R := by omega
          clear hm e0
          go_wp2
          go_region_law (first
              | (refine step_call1 rfl 36 (.tmp 38) 27 rfl (.agg #[.int .i64 kx, .int .i64 lx]) rfl (enterOther _ _) ?_; refine (l1Other_any _ _ _).mono ?_; rintro e w5 ⟨rfl, hb5'⟩; refine ⟨_, rfl, ?_⟩; have hb5 : Below wr.heap.size wr w5 := (by first | exact hb5' | exact bdrew hb5'); have hI5 := hI.call hb5; have o5 := hI5.o1; have so5 : w1.heap.size + 1 < w5.heap.size := World.block_lt_of_cell? w5 _ hI5.o1)
              | (refine step_append_lies _ (by rfl) _ _ _ (by rfl) (w.heap.size + 1 + 1) 27 i0 (.agg #[.int .i64 0, .int .i64 0]) 2 16 Try.underlying23 hi iz0 iz1 iz2 rfl (by omega) (.slice (some ⟨g, 0, none⟩) xs.length k) xs.length (flat xs) (by rfl) (by first | exact hI5.own.alloc _ | exact (hI5.own.alloc _).drew) ⟨w5.heap.size, 0, none⟩ 1 1 [.int .i64 (otherK kx), .int .i64 lx] (by rfl) (by rfl) (World.news_of_block (cs := #[.int .i64 (otherK kx), .int .i64 lx]) (t := 27) (fr := (0, 0)) (heap_alloc_new w5 _)) (by simp [Value.oneCell']) (by omega) (by unfold maxLen; omega) (by omega) (by have := hb5.size; simp; omega) (w5.heap.size + 1) (by simp) ?_; intro g6 k6 w6 hO6 hg6 hat6 hlt6; have o6 := hI5.far hg6 hI5.o1 (Or.inr rfl); have fo6 : w6.frozen? ⟨w1.heap.size + 1, 1, none⟩ = false := hI5.farf hg6 hI5.o1 hI5.fo (Or.inr rfl)))
          all_goals
            go_wp2
            have hI6 := hI5.push hg6 hO6 hat6
            rw [← HXX.out] at hI6
            go_roundw
            case rel => exact ⟨t + 1, g6, k6, by omega, valI (by have := HR2.out; omega), by rw [← Nat.add_assoc]; exact hI6⟩
            case measure => simp only [intOf]; omega
        · have htH : t = W := by omega
          subst htH
          go_wp2
          go_roundw
          case rel => exact ⟨c + 1, g, k, by omega, by go_num, by rw [Nat.add_mul, Nat.one_mul]; exact hI⟩
          case measure => simp [intOf]; omega
    · have hcW : c = H := by omega
      subst hcW
      go_wp2_with fail
      refine (l1High_any W c _ _ _ _ (by omega) (by omega) HD.out).mono ?_
      rintro e w3 ⟨rfl, hb3⟩
      have hI3 := hI.call hb3
      clear hI hb3 p0 p1
      have hT : (flipC W cs).take (c * W) = flipC W cs := by rw [Nat.mul_comm, ← HN.out]; exact List.take_of_length_le (by simp [flipC])
      rw [hT] at hI3
      have hTl : (flipC W cs).length = cs.length := by simp [flipC]
      have hO := hI3.own
      have o1 := hI3.o1
      rw [hTl] at hO o1
      have sl := hO.lt
      have n1 : g ≠ w.heap.size + 1 := by omega
      obtain ⟨o0, p4, p5, f4, f5, hb⟩ := And.intro hI3.o0 (And.intro hI3.p4 (And.intro hI3.p5 (And.intro hI3.f4 (And.intro hI3.f5 hI3.below))))
      clear hI3 hT
      go_wp2
      refine bodyPost_ret (v := .agg #[.int .i64 (W : Int), .slice (some ⟨g, 0, none⟩) cs.length k]) (by simp [results, Try.results20, go_sem, p4, p5]) rfl ⟨g, k, rfl, ?_, ?_⟩
      · exact ((hO.mono (B' := w.heap.size) (by omega)).other (p := ⟨w.heap.size + 1, 0, none⟩) n1 _).other (p := ⟨w.heap.size + 1, 1, none⟩) n1 _
      · exact (hb.setCell (p := ⟨w.heap.size + 1, 0, none⟩) (by simp) _).setCell (p := ⟨w.heap.size + 1, 1, none⟩) (by simp) _

end Go.Proofs.Ytoegofbmdcdifaa
