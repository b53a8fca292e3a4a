/-
  The contract of impl.GridRead: the walk.
-/
import Derived.Test.YteibklaabnnfbaaRd
namespace Go.Proofs.Yteibklaabnnfbaa
open Go.RowKit
set_option linter.unusedVariables false
attribute [local go_sem ↓] Go.wp_at_zero Go.wp_at_succ

theorem index10 (t : List UInt8) (q : Int) (h : firstIdx (str t) 10 = q) (w : World) : Calls Try.prog 22 #[.string (str t), .int .u8 10] w fun e w' => e = .returned (.int .i64 q) ∧ w' = w := by
  have := indexByte_any (str t) 10 w
  rw [show (Int.toNat 10).toUInt8 = 10 from rfl, h] at this
  exact this

theorem ownC_ge {w : World} {B g n c : Nat} {cs : List (Int × Int)} (h : Own w B (.slice (some ⟨g, 0, none⟩) n c) cs) : B ≤ g := by
  rcases h.2 with ⟨hn, h0⟩ | ⟨g', cap, cur, hv, hB, hg, h1⟩
  · simp at hn
  · simp only [Value.slice.injEq, Option.some.injEq, Addr.mk.injEq, and_true] at hv
    obtain ⟨rfl, _⟩ := hv
    exact hB

set_option maxRecDepth 100000 in
set_option maxHeartbeats 8000000 in
theorem implGridRead_any (t : List UInt8) (w : World) (hm : t.length ≤ 1048576) :
    Calls Try.prog 8 #[.string (str t)] w fun e w' => ReadAs t e w' w.heap.size ∧ Below w.heap.size w w' := by
  obtain ⟨i0, hi, iz0, iz1, iz2⟩ := info_parts infoCell
  have hb1 : Below w.heap.size w (w.alloc (.cells #[.int .i64 0, .slice none 0 0] 26)) := (by repeat (first | exact Below.refl _ _ | refine Below.alloc ?_ (by first | exact Nat.le_refl _ | (simp; done) | (simp; omega)) _ | refine Below.drew ?_ | refine Below.setCell ?_ (by first | exact Nat.le_refl _ | (simp; done) | (simp; omega)) _))
  have p0 : (w.alloc (.cells #[.int .i64 0, .slice none 0 0] 26)).cell? ⟨w.heap.size, 0, none⟩ = some (.int .i64 0) := by simp [go_sem]
  have p1 : (w.alloc (.cells #[.int .i64 0, .slice none 0 0] 26)).cell? ⟨w.heap.size, 1, none⟩ = some (.slice none 0 0) := by simp [go_sem]
  have f0 : (w.alloc (.cells #[.int .i64 0, .slice none 0 0] 26)).frozen? ⟨w.heap.size, 0, none⟩ = false := by simp [go_sem]
  have f1 : (w.alloc (.cells #[.int .i64 0, .slice none 0 0] 26)).frozen? ⟨w.heap.size, 1, none⟩ = false := by simp [go_sem]
  have hz1 : w.heap.size < (w.alloc (.cells #[.int .i64 0, .slice none 0 0] 26)).heap.size := by simp
  obtain ⟨w1, hw1⟩ : ∃ w1, w1 = w.alloc (.cells #[.int .i64 0, .slice none 0 0] 26) := ⟨_, rfl⟩
  rw [← hw1] at hb1 p0 p1 f0 f1 hz1
  obtain ⟨q, hq⟩ : ∃ q, firstIdx (str t) 10 = q := ⟨_, rfl⟩
  have HQ : Hid (firstIdx (str t) 10 = q) := hq
  by_cases hc1 : 1 ≤ q ∧ q ≤ 5
  · obtain ⟨W, rfl⟩ := Int.eq_ofNat_of_zero_le (show 0 ≤ q by omega)
    have hW : 1 ≤ W ∧ W ≤ 5 := by omega
    obtain ⟨n, hn⟩ : ∃ n, t.length = n := ⟨_, rfl⟩
    have hsz : (str t).size = n := by rw [str_size, hn]
    obtain ⟨L, hL⟩ : ∃ L, W + 1 = L := ⟨_, rfl⟩
    have vL : IntKind.i64.wrap ((W : Int) + 1) = (L : Int) := by rw [← hL]; exact IntWalk.i64_in _ (by omega)
    obtain ⟨R, hR⟩ : ∃ R, n / L = R := ⟨_, rfl⟩
    have hRn : R ≤ n := by rw [← hR]; exact Nat.div_le_self n L
    have vR : IntKind.i64.wrap ((n : Int) / (L : Int)) = (R : Int) := by
      rw [show (n : Int) / (L : Int) = (R : Int) by rw [← hR]; simp]
      exact IntWalk.i64_in _ (by omega)
    have hL0 : ((L : Int) == 0) = false := by simp; omega
    have hL1 : (1 : Int) ≤ (L : Int) := by omega
    have eM : (n : Int) % (L : Int) = ((n % L : Nat) : Int) := by simp
    have HN : Hid (t.length = n) := hn
    have HL : Hid (W + 1 = L) := hL
    have HR : Hid (n / L = R) := hR
    clear hn hL hR hq
    by_cases hc2 : n % L = 0 ∧ R ≤ 5
    · have m1 : ((n : Int) % (L : Int) != 0) = false := by rw [eM, hc2.1]; rfl
      have m2 : ¬ ((5 : Int) < (R : Int)) := by omega
      have hlen : n = L * R := by rw [← HR.out]; have := Nat.div_add_mod n L; omega
      obtain ⟨M, hM⟩ : ∃ M, R * W = M := ⟨_, rfl⟩
      have hM2 : M ≤ 25 := by rw [← hM]; exact Nat.le_trans (Nat.mul_le_mul hc2.2 hW.2) (by omega)
      have vM : IntKind.i64.wrap ((R : Int) * (W : Int)) = (M : Int) := by
        rw [show (R : Int) * (W : Int) = (M : Int) by rw [← hM]; simp]
        exact IntWalk.i64_in _ (by omega)
      have hmk := make_zeroC M (by omega)
      have HE : Hid (n = L * R) := hlen
      have hR1 : 1 ≤ R := by
        rcases first_spec t with ⟨q1, _⟩ | ⟨pre, rest, q1, _, q3⟩
        · rw [HQ.out] at q1; omega
        · rw [HQ.out] at q3
          have e1 := congrArg List.length q1
          rw [HN.out, hlen] at e1
          simp only [List.length_append, List.length_cons] at e1
          rcases Nat.eq_zero_or_pos R with h0 | h0
          · rw [h0] at e1; omega
          · exact h0
      clear hlen hM eM
      have hR5 := hc2.2
      clear hc2
      go_enter Try.func8, Try.ntmps8
      go_wp2_with fail
      refine (index10 t _ HQ.out _).mono ?_
      rintro e wi ⟨rfl, rfl⟩
      rw [← hw1]
      clear hw1
      have hO1 := made_ownC M (by omega) w1 w1.heap.size (Nat.le_refl _)
      have hbM : Below w1.heap.size w1 (w1.alloc (.cells (madeCells #[.int .i64 0, .int .i64 0] (M * 2)) 44)) := (by repeat (first | exact Below.refl _ _ | refine Below.alloc ?_ (by first | exact Nat.le_refl _ | (simp; done) | (simp; omega)) _ | refine Below.drew ?_ | refine Below.setCell ?_ (by first | exact Nat.le_refl _ | (simp; done) | (simp; omega)) _))
      go_wp2
      go_loopw [7, 43] (fun s i wr => ∃ (r g c : Nat) (xs : List (Int × Int)), r ≤ R ∧ s = .slice (some ⟨g, 0, none⟩) xs.length c ∧ i = .int .i64 r ∧ RowInv t W r 0 xs ∧ Below w1.heap.size w1 wr ∧ Own wr w1.heap.size (.slice (some ⟨g, 0, none⟩) xs.length c) xs) (fun _ i _ => R - (intOf i).toNat)
      case atStart => exact ⟨0, w1.heap.size, M, [], Nat.zero_le _, rfl, rfl, RowInv.zero t W, hbM, hO1⟩
      case round =>
        clear hO1 hbM hmk
        rename World => wo
        obtain ⟨r, g, c, xs, hr, rfl, rfl, hI, hb, hO⟩ := hrel
        have hz := hb.size
        by_cases hlt : r < R
        · obtain ⟨m, em⟩ : ∃ m, r * L = m := ⟨_, rfl⟩
          have hmL : m + L ≤ n := by
            have h1 : (r + 1) * L ≤ R * L := Nat.mul_le_mul_right L hlt
            rw [Nat.add_mul, Nat.one_mul, em, Nat.mul_comm R L, ← HE.out] at h1
            exact h1
          have v1 : IntKind.i64.wrap ((r : Int) * (L : Int)) = (m : Int) := by
            rw [show (r : Int) * (L : Int) = (m : Int) by rw [← em]; simp]
            exact IntWalk.i64_in _ (by have := HN.out; omega)
          obtain ⟨m2, em2⟩ : ∃ m2, m + W = m2 := ⟨_, rfl⟩
          have v2 : IntKind.i64.wrap ((m : Int) + (W : Int)) = (m2 : Int) := by
            rw [show (m : Int) + (W : Int) = (m2 : Int) by rw [← em2]; simp]
            exact IntWalk.i64_in _ (by have := HN.out; omega)
          have hsl := slice_str t m m2 (by omega) (by rw [HN.out]; have := HL.out; omega)
          rw [show m2 - m = W by omega] at hsl
          obtain ⟨row, hrow⟩ : ∃ row, (t.drop m).take W = row := ⟨_, rfl⟩
          rw [hrow] at hsl
          have hrl : row.length = W := by rw [← hrow, List.length_take, List.length_drop, HN.out]; have := HL.out; omega
          have HM : Hid (r * (W + 1) = m) := by show _ = _; rw [HL.out]; exact em
          have HM2 : Hid (m + W = m2) := em2
          obtain ⟨wx, cx, hcv, hbx, hsx, hbytes⟩ := conv_bytes row wo
          have hBy : ∀ j, j < W → ∃ b : UInt8, t[r * (W + 1) + j]? = some b ∧ wx.cell? ⟨wo.heap.size, j, none⟩ = some (.int .u8 (b.toNat : Int)) := by
            intro j hj
            have hj2 : j < row.length := by omega
            refine ⟨row[j], ?_, hbytes j hj2⟩
            rw [HM.out]
            have : row[j]? = t[m + j]? := by rw [← hrow, List.getElem?_take_of_lt hj, List.getElem?_drop]
            rw [← this]
            simp [hj2]
          rw [hrl] at hcv
          have HBy : Hid (∀ j, j < W → ∃ b : UInt8, t[r * (W + 1) + j]? = some b ∧ wx.cell? ⟨wo.heap.size, j, none⟩ = some (.int .u8 (b.toNat : Int))) := hBy
          have hgl := hO.lt
          have hOx := hO.below hbx
          have hBx := bcall hb hz hbx
          have hzx := hbx.size
          clear hbytes hBy hrl hrow em em2 hbx hO
          go_wp2
          go_loopw [7, 58] (fun s i wq => ∃ (j g c : Nat) (xs : List (Int × Int)), j ≤ W ∧ s = .slice (some ⟨g, 0, none⟩) xs.length c ∧ i = .int .i64 j ∧ RowInv t W r j xs ∧ Below w1.heap.size w1 wq ∧ Own wq w1.heap.size (.slice (some ⟨g, 0, none⟩) xs.length c) xs ∧ Hid (∀ j, j < W → ∃ b : UInt8, t[r * (W + 1) + j]? = some b ∧ wq.cell? ⟨wo.heap.size, j, none⟩ = some (.int .u8 (b.toNat : Int))) ∧ g ≠ wo.heap.size ∧ wo.heap.size < wq.heap.size) (fun _ i _ => W - (intOf i).toNat)
          case atStart => exact ⟨0, g, c, xs, Nat.zero_le _, rfl, rfl, hI, hBx, hOx, HBy, by omega, hsx⟩
          case round =>
            clear hI hBx hOx HBy hsx hgl hb hcv hsl
            rename World => wq
            obtain ⟨j, g, c, xs, hj, rfl, rfl, hI, hb, hO, HBy, hgo, hso⟩ := hrel
            have hz := hb.size
            have hB := bcall hb1 (by omega) hb
            have P0 := p0
            have P1 := p1
            have F0 := f0
            have F1 := f1
            have hlx := hI.len
            have hx25 : r * W ≤ 25 := Nat.le_trans (Nat.mul_le_mul (show r ≤ 5 by omega) hW.2) (by omega)
            have hxl : xs.length ≤ 30 := by omega
            clear hlx hx25
            by_cases hjl : j < W
            · obtain ⟨b, hbt, hbc⟩ := HBy.out j hjl
              have hb0 : 0 ≤ (b.toNat : Int) ∧ (b.toNat : Int) ≤ 255 := by have := b.toNat_lt; omega
              have HT : Hid (t[r * (W + 1) + j]? = some b) := hbt
              have hji : (j : Int) < (W : Int) := by omega
              clear hbt
              go_wp2_with fail
              refine (implCellOf_any _ hb0 _).mono ?_
              rintro e w5 ⟨k, l, bb, rfl, hC, hb5⟩
              have hz5 := hb5.size
              have hB5 := bcall hb hz hb5
              have HC : Hid (CellOf (b.toNat : Int) k l bb) := hC
              cases bb with
              | true =>
                have hc2 : cellI (b.toNat : Int) = (k, l) ∧ okC k l = true := by
                  rcases HC.out with ⟨_, q⟩ | ⟨q, _⟩
                  · exact q
                  · simp at q
                have hI6 := hI.cell b k l HT.out hc2.2 hc2.1
                have hbA : Below w5.heap.size w5 ((w5.alloc (.cells #[.int .i64 k, .int .i64 l] 44)).alloc (.cells #[.int .i64 k, .int .i64 l] 44)) := (by repeat (first | exact Below.refl _ _ | refine Below.alloc ?_ (by first | exact Nat.le_refl _ | (simp; done) | (simp; omega)) _ | refine Below.drew ?_ | refine Below.setCell ?_ (by first | exact Nat.le_refl _ | (simp; done) | (simp; omega)) _))
                have hOa := (hO.below hb5).below hbA
                have hBa := bcall hB5 (by omega) hbA
                have hza := hbA.size
                have hnew : ((w5.alloc (.cells #[.int .i64 k, .int .i64 l] 44)).alloc (.cells #[.int .i64 k, .int .i64 l] 44)).heap[w5.heap.size + 1]? = some (.cells #[.int .i64 k, .int .i64 l] 44) := by
                  have := heap_alloc_new (w5.alloc (.cells #[.int .i64 k, .int .i64 l] 44)) (.cells #[.int .i64 k, .int .i64 l] 44)
                  simpa using this
                have hgl := hO.lt
                have hya : ∀ i v, wq.cell? ⟨wo.heap.size, i, none⟩ = some v → ((w5.alloc (.cells #[.int .i64 k, .int .i64 l] 44)).alloc (.cells #[.int .i64 k, .int .i64 l] 44)).cell? ⟨wo.heap.size, i, none⟩ = some v := fun i v h => keepc hbA (keepc hb5 h)
                have HYA : Hid (∀ i v, wq.cell? ⟨wo.heap.size, i, none⟩ = some v → ((w5.alloc (.cells #[.int .i64 k, .int .i64 l] 44)).alloc (.cells #[.int .i64 k, .int .i64 l] 44)).cell? ⟨wo.heap.size, i, none⟩ = some v) := hya
                clear hC hc2 hbc hbA hya hb5
                go_wp2_with (at_builtin; refine wpList_append_lies _ rfl _ _ _ rfl w1.heap.size 44 i0 (.agg #[.int .i64 0, .int .i64 0]) 2 16 Try.underlying24 hi iz0 iz1 iz2 rfl (by omega) (.slice (some ⟨g, 0, none⟩) xs.length c) xs.length (flat xs) rfl hOa ⟨w5.heap.size + 1, 0, none⟩ 1 1 [.int .i64 k, .int .i64 l] rfl rfl (World.news_of_block (cs := #[.int .i64 k, .int .i64 l]) (t := 44) (fr := (0, 0)) hnew) (by simp [Value.oneCell']) (by omega) (by unfold maxLen; omega) (by omega) (by simp; omega) (w5.heap.size + 1 + 1) (by simp) ?_)
                intro g7 c7 w7 hO7 hg7 hat7 hlt7
                have hB7 : Below w1.heap.size w1 w7 := hBa.grown hg7 (by simp; omega) (fun k hk => by simp only [Value.ownBlock, Option.some.injEq] at hk; omega)
                have hBy7 : Hid (∀ j, j < W → ∃ b : UInt8, t[r * (W + 1) + j]? = some b ∧ w7.cell? ⟨wo.heap.size, j, none⟩ = some (.int .u8 (b.toNat : Int))) := by
                  intro i hi'
                  obtain ⟨b', q1, q2⟩ := HBy.out i hi'
                  exact ⟨b', q1, hg7.cell (HYA.out i _ q2) (by simp only [Value.ownBlock, ne_eq, Option.some.injEq]; omega)⟩
                have hg7n : g7 ≠ wo.heap.size := by
                  rcases hat7 with e | e
                  · simp only [Value.ownBlock, Option.some.injEq] at e; omega
                  · omega
                have hl : (xs ++ [(k, l)]).length = xs.length + 1 := by simp
                have hOw : Own w7 w1.heap.size (.slice (some ⟨g7, 0, none⟩) (xs.length + 1) c7) (xs ++ [(k, l)]) := by
                  unfold Own
                  rw [hl, flat_append]
                  exact hO7
                have HL7 : Hid ((xs ++ [(k, l)]).length = xs.length + 1) := hl
                have hz7 := hg7.size
                simp at hz7
                clear hg7 hat7 hO7 hl
                go_wp2
                go_roundw
                case rel => exact ⟨j + 1, g7, c7, xs ++ [(k, l)], by omega, by rw [HL7.out], by go_num, hI6, hB7, by rw [HL7.out]; exact hOw, hBy7, hg7n, by omega⟩
                case measure => simp [intOf]; omega
              | false =>
                have hc2 : cellI (b.toNat : Int) = (-1, 0) := by
                  rcases HC.out with ⟨q, _⟩ | ⟨_, _, _, q⟩
                  · simp at q
                  · exact q
                have HF : Hid (∀ wd cs, okG wd cs = true → textG wd cs ≠ t) := no_sign t W R r j HQ.out (by rw [HN.out, HL.out]; exact HE.out) hlt hjl b HT.out hc2
                have hbA : Below w5.heap.size w5 (w5.alloc (.cells #[.int .i64 k, .int .i64 l] 44)) := (by repeat (first | exact Below.refl _ _ | refine Below.alloc ?_ (by first | exact Nat.le_refl _ | (simp; done) | (simp; omega)) _ | refine Below.drew ?_ | refine Below.setCell ?_ (by first | exact Nat.le_refl _ | (simp; done) | (simp; omega)) _))
                have hBa := bcall hB5 (by omega) hbA
                have hBa2 := bcall hB hB.size (bcall hb5 hb5.size hbA)
                replace P0 := keepc hBa p0
                replace P1 := keepc hBa p1
                replace F0 := keepf hBa p0 f0
                replace F1 := keepf hBa p1 f1
                clear hC hc2 hbc hbA hb5
                go_wp2
                refine bodyPost_ret (v := .tuple #[.agg #[.int .i64 0, .slice none 0 0], .bool false]) (by simp [results, Try.results8, go_sem, P0, P1]) rfl ⟨Or.inr ⟨HF.out, rfl⟩, ?_⟩
                exact (hBa2.setCell (p := ⟨w.heap.size, 0, none⟩) (Nat.le_refl _) _).setCell (p := ⟨w.heap.size, 1, none⟩) (Nat.le_refl _) _
            · have ejW : j = W := by omega
              have hI2 : RowInv t W r W xs := by rw [ejW] at hI; exact hI
              have hm2 : m2 < n := by have := HM2.out; have := HL.out; omega
              have hm3 : m2 < t.length := by rw [HN.out]; exact hm2
              obtain ⟨b, hbt⟩ : ∃ b, t[m2]? = some b := ⟨t[m2], by simp [hm3]⟩
              have hix := idx_str t m2 b hbt
              have HT : Hid (t[r * (W + 1) + W]? = some b) := by show _ = _; rw [HM.out, HM2.out]; exact hbt
              have hjn : ¬ ((j : Int) < (W : Int)) := by omega
              clear ejW hbt hI hm3
              by_cases h10 : b = 10
              · have e10 : ((b.toNat : Int) != 10) = false := by rw [h10]; rfl
                have hI3 := hI2.line hW (h10 ▸ HT.out)
                clear h10 hI2
                go_wp2
                go_roundw
                case rel => exact ⟨r + 1, g, c, xs, by omega, rfl, by go_num, hI3, hb, hO⟩
                case measure => simp [intOf]; omega
              · have e10 : ((b.toNat : Int) != 10) = true := by
                  have : b.toNat ≠ 10 := fun x => h10 (by rw [← UInt8.toNat_inj]; exact x)
                  simp; omega
                have HF : Hid (∀ wd cs, okG wd cs = true → textG wd cs ≠ t) := no_line t W R r HQ.out (by rw [HN.out, HL.out]; exact HE.out) hlt b HT.out h10
                replace P0 := keepc hb p0
                replace P1 := keepc hb p1
                replace F0 := keepf hb p0 f0
                replace F1 := keepf hb p1 f1
                have hBa2 := hB
                clear h10 hI2
                go_wp2
                refine bodyPost_ret (v := .tuple #[.agg #[.int .i64 0, .slice none 0 0], .bool false]) (by simp [results, Try.results8, go_sem, P0, P1]) rfl ⟨Or.inr ⟨HF.out, rfl⟩, ?_⟩
                exact (hBa2.setCell (p := ⟨w.heap.size, 0, none⟩) (Nat.le_refl _) _).setCell (p := ⟨w.heap.size, 1, none⟩) (Nat.le_refl _) _
        · have hrR : r = R := by omega
          have hI2 : RowInv t W R 0 xs := by rw [hrR] at hI; exact hI
          have HK : Hid (okG (W : Int) xs = true ∧ textG (W : Int) xs = t) := hI2.whole hW ⟨hR1, hR5⟩ (by rw [HN.out, HL.out]; exact HE.out)
          have hrn : ¬ ((r : Int) < (R : Int)) := by omega
          have P0 := keepc hb p0
          have P1 := keepc hb p1
          have F0 := keepf hb p0 f0
          have F1 := keepf hb p1 f1
          have hB := bcall hb1 (by omega) hb
          have hgl := ownC_ge hO
          clear hrR hI hI2
          go_wp2
          refine bodyPost_ret (v := .tuple #[.agg #[.int .i64 (W : Int), .slice (some ⟨g, 0, none⟩) xs.length c], .bool true]) (by simp [results, Try.results8, go_sem, P0, P1]) rfl ⟨Or.inl ⟨(W : Int), _, xs, HK.out.1, HK.out.2, rfl, ?_⟩, ?_⟩
          · exact ownOther (ownOther (Own.mono (B' := w.heap.size) hO (by omega)) (p := ⟨w.heap.size, 0, none⟩) (by show g ≠ w.heap.size; omega) _) (p := ⟨w.heap.size, 1, none⟩) (by show g ≠ w.heap.size; omega) _
          · exact (hB.setCell (p := ⟨w.heap.size, 0, none⟩) (Nat.le_refl _) _).setCell (p := ⟨w.heap.size, 1, none⟩) (Nat.le_refl _) _
    · have HF : Hid (∀ wd cs, okG wd cs = true → textG wd cs ≠ t) := no_rows t W HQ.out hW (by rw [HN.out, HL.out, HR.out]; exact hc2)
      by_cases hc3 : n % L = 0
      · have m1 : ((n : Int) % (L : Int) != 0) = false := by rw [eM, hc3]; rfl
        have m2 : (5 : Int) < (R : Int) := by omega
        clear hc2 hc3 eM
        go_enter Try.func8, Try.ntmps8
        go_wp2_with fail
        refine (index10 t _ HQ.out _).mono ?_
        rintro e wi ⟨rfl, rfl⟩
        rw [← hw1]
        clear hw1
        have P0 := p0
        have P1 := p1
        have hBa2 := hb1
        go_wp2
        refine bodyPost_ret (v := .tuple #[.agg #[.int .i64 0, .slice none 0 0], .bool false]) (by simp [results, Try.results8, go_sem, P0, P1]) rfl ⟨Or.inr ⟨HF.out, rfl⟩, ?_⟩
        exact (hBa2.setCell (p := ⟨w.heap.size, 0, none⟩) (Nat.le_refl _) _).setCell (p := ⟨w.heap.size, 1, none⟩) (Nat.le_refl _) _
      · have m1 : ((n : Int) % (L : Int) != 0) = true := by rw [eM]; simp; omega
        clear hc2 hc3 eM
        go_enter Try.func8, Try.ntmps8
        go_wp2_with fail
        refine (index10 t _ HQ.out _).mono ?_
        rintro e wi ⟨rfl, rfl⟩
        rw [← hw1]
        clear hw1
        have P0 := p0
        have P1 := p1
        have hBa2 := hb1
        go_wp2
        refine bodyPost_ret (v := .tuple #[.agg #[.int .i64 0, .slice none 0 0], .bool false]) (by simp [results, Try.results8, go_sem, P0, P1]) rfl ⟨Or.inr ⟨HF.out, rfl⟩, ?_⟩
        exact (hBa2.setCell (p := ⟨w.heap.size, 0, none⟩) (Nat.le_refl _) _).setCell (p := ⟨w.heap.size, 1, none⟩) (Nat.le_refl _) _
  · have HF : Hid (∀ wd cs, okG wd cs = true → textG wd cs ≠ t) := no_first t (by rw [HQ.out]; exact hc1)
    rcases (show q < 1 ∨ (1 ≤ q ∧ 5 < q) by omega) with hc | ⟨hc, hc'⟩
    all_goals
      clear hc1 hq
      go_enter Try.func8, Try.ntmps8
      go_wp2_with fail
      refine (index10 t _ HQ.out _).mono ?_
      rintro e wi ⟨rfl, rfl⟩
      rw [← hw1]
      clear hw1
      have P0 := p0
      have P1 := p1
      have hBa2 := hb1
      go_wp2
      refine bodyPost_ret (v := .tuple #[.agg #[.int .i64 0, .slice none 0 0], .bool false]) (by simp [results, Try.results8, go_sem, P0, P1]) rfl ⟨Or.inr ⟨HF.out, rfl⟩, ?_⟩
      exact (hBa2.setCell (p := ⟨w.heap.size, 0, none⟩) (Nat.le_refl _) _).setCell (p := ⟨w.heap.size, 1, none⟩) (Nat.le_refl _) _

end Go.Proofs.Yteibklaabnnfbaa
