/-
  The contract of spec.GridRead: the walk.
-/
import Derived.Test.YteibklaabnnfbaaRt
namespace Go.Proofs.Yteibklaabnnfbaa
open Go.RowKit
set_option linter.unusedVariables false
attribute [local go_sem ↓] Go.wp_at_zero Go.wp_at_succ

theorem rd_none (t : List UInt8) (h : ¬ textG (rdW t t.length) (rdC t t.length) = t ∨ t = [] ∨ 30 < t.length) : ∀ wd cs, okG wd cs = true → textG wd cs ≠ t := by
  intro wd cs hok e
  obtain ⟨h1, h2, h3, h4⟩ := read_all t wd cs hok e
  rw [h1, h2] at h
  rcases h with h | h | h
  · exact h e
  · exact h4 h
  · omega

set_option maxHeartbeats 2000000 in
theorem specGridRead_any (t : List UInt8) (w : World) (hm : t.length ≤ 1048576) :
    Calls Try.prog 7 #[.string (str t)] w fun e w' => ReadAs t e w' w.heap.size ∧ Below w.heap.size w w' := by
  obtain ⟨i0, hi, iz0, iz1, iz2⟩ := info_parts infoCell
  obtain ⟨N, hN⟩ : ∃ N, t.length = N := ⟨_, rfl⟩
  have HN : Hid (t.length = N) := hN
  have hsz : (str t).size = N := by rw [str_size, hN]
  rw [hN] at hm
  clear hN
  by_cases hbig : 30 < N
  · have hb : (30 : Int) < (N : Int) := by omega
    have hno := rd_none t (Or.inr (Or.inr (by rw [HN.out]; exact hbig)))
    go_enter Try.func7, Try.ntmps7
    go_wp2
    refine bodyPost_ret (v := .tuple #[.agg #[.int .i64 0, .slice none 0 0], .bool false]) (by simp [results, Try.results7, go_sem]) rfl ⟨Or.inr ⟨hno, rfl⟩, ?_⟩
    exact (by repeat (first | exact Below.refl _ _ | refine Below.alloc ?_ (by first | exact Nat.le_refl _ | (simp; done) | (simp; omega)) _ | refine Below.drew ?_ | refine Below.setCell ?_ (by first | exact Nat.le_refl _ | (simp; done) | (simp; omega)) _))
  · have hsmall : (N : Int) ≤ 30 := by omega
    have hI : ReadInv w (((w.alloc (.cells #[.int .i64 0, .slice none 0 0] 26)).alloc (.cells #[] 44)).alloc (.cells #[.int .i64 0, .slice (some ⟨w.heap.size + 1, 0, none⟩) 0 0] 26)) 0 [] (w.heap.size + 1) 0 :=
      ⟨(by repeat (first | exact Below.refl _ _ | refine Below.alloc ?_ (by first | exact Nat.le_refl _ | (simp; done) | (simp; omega)) _ | refine Below.drew ?_ | refine Below.setCell ?_ (by first | exact Nat.le_refl _ | (simp; done) | (simp; omega)) _)), by simp [go_sem], by simp [go_sem], by simp [go_sem], by simp [go_sem], by simp [go_sem], by simp [go_sem], by simp [go_sem], by simp [go_sem], by have := (own_emptyR (w.alloc (.cells #[.int .i64 0, .slice none 0 0] 26)) (w.heap.size + 1) (by simp)).alloc (.cells #[.int .i64 0, .slice (some ⟨w.heap.size + 1, 0, none⟩) 0 0] 26); simpa using this, by omega⟩
    go_enter Try.func7, Try.ntmps7
    go_wp2
    go_loopw [5] (fun i wr => ∃ (k g c : Nat), k ≤ N ∧ i = .int .i64 k ∧ ReadInv w wr (rdW t k) (rdC t k) g c) (fun i _ => N - (intOf i).toNat)
    case atStart => exact ⟨0, w.heap.size + 1, 0, Nat.zero_le _, rfl, by rw [rdC_zero]; exact hI⟩
    case round =>
      clear hI
      obtain ⟨k, g, c, hk, rfl, hI⟩ := hrel
      by_cases hlt : k < N
      · obtain ⟨b, hb⟩ : ∃ b, t[k]? = some b := ⟨t[k]'(by rw [HN.out]; exact hlt), by rw [List.getElem?_eq_getElem]⟩
        have hix := idx_str t k b hb
        have hl := rdC_len t k
        have hw := rdW_in t k
        by_cases h10 : b = 10
        · subst h10
          have HC := rdC_line t k hb
          have HCC : Hid (rdC t (k + 1) = rdC t k) := HC
          by_cases h0 : rdW t k = 0
          · have HW : Hid (rdW t (k + 1) = (k : Int)) := rdW_first t k hb h0
            rw [h0] at hI
            generalize rdC t k = xs at *
            clear HC hb h0 hw
            have hI2 := hI.wide (k : Int)
            obtain ⟨o0, fo0⟩ := And.intro hI.o0 hI.fo0
            go_wp2
            go_roundw
            case rel => exact ⟨k + 1, g, c, by omega, by go_num, by rw [HW.out, HCC.out]; exact hI2⟩
            case measure => simp [intOf]; omega
          · have HW : Hid (rdW t (k + 1) = rdW t k) := rdW_later t k h0
            have hx0 : (rdW t k == 0) = false := by simp [h0]
            generalize rdC t k = xs at *
            generalize rdW t k = x at *
            clear HC hb h0 hw
            obtain ⟨o0, fo0⟩ := And.intro hI.o0 hI.fo0
            go_wp2
            go_roundw
            case rel => exact ⟨k + 1, g, c, by omega, by go_num, by rw [HW.out, HCC.out]; exact hI⟩
            case measure => simp [intOf]; omega
        · have HW : Hid (rdW t (k + 1) = rdW t k) := rdW_cell t k b hb h10
          have HC : Hid (rdC t (k + 1) = rdC t k ++ [cellI (b.toNat : Int)]) := rdC_cell t k b hb h10
          have hbn : ((b.toNat : Int) != 10) = true := by
            simp only [bne_iff_ne, ne_eq]
            intro e
            apply h10
            apply UInt8.toNat_inj.1
            show b.toNat = 10
            omega
          have hbb : 0 ≤ (b.toNat : Int) ∧ (b.toNat : Int) ≤ 255 := by have := b.toNat_lt; omega
          generalize rdC t k = xs at *
          generalize rdW t k = x at *
          generalize (b.toNat : Int) = y at *
          clear hb h10 hw
          obtain ⟨o1, fo1⟩ := And.intro hI.o1 hI.fo1
          have hz := hI.below.size
          have sl := hI.own.lt
          have so : w.heap.size + 1 + 1 < wr.heap.size := World.block_lt_of_cell? wr _ hI.o1
          go_wp2
          go_region_law (first
              | (refine step_callR rfl 21 (.tmp 26) 5 rfl (.int .u8 y) rfl (enterL1Cell _ _) ?_; refine (specCellOf_any y hbb _).mono ?_; rintro e w5 ⟨kx, lx, rfl, hcI, hb5'⟩; refine ⟨_, rfl, ?_⟩; have hb5 : Below wr.heap.size wr w5 := (by first | exact hb5' | exact bdrew hb5'); have hI5 := hI.call hb5; have o5 := hI5.o1; have so5 : w.heap.size + 1 + 1 < w5.heap.size := World.block_lt_of_cell? w5 _ hI5.o1)
              | (refine step_append_lies _ (by rfl) _ _ _ (by rfl) (w.heap.size + 1) 44 i0 (.agg #[.int .i64 0, .int .i64 0]) 2 16 Try.underlying24 hi iz0 iz1 iz2 rfl (by omega) (.slice (some ⟨g, 0, none⟩) xs.length c) xs.length (flat xs) (by rfl) (by first | exact hI5.own.alloc _ | exact (hI5.own.alloc _).drew) ⟨w5.heap.size, 0, none⟩ 1 1 [.int .i64 kx, .int .i64 lx] (by rfl) (by rfl) (World.news_of_block (cs := #[.int .i64 kx, .int .i64 lx]) (t := 44) (fr := (0, 0)) (heap_alloc_new w5 _)) (by simp [Value.oneCell']) (by omega) (by unfold maxLen; omega) (by omega) (by have := hb5.size; simp; omega) (w5.heap.size + 1) (by simp) ?_; intro g6 k6 w6 hO6 hg6 hat6 hlt6; have o6 := hI5.far hg6 hI5.o1 (Or.inr rfl); have fo6 : w6.frozen? ⟨w.heap.size + 1 + 1, 1, none⟩ = false := hI5.farf hg6 hI5.o1 hI5.fo1 (Or.inr rfl)))
          all_goals
            go_wp2
            have hI6 := hI5.push hg6 hO6 hat6
            go_roundw
            case rel => exact ⟨k + 1, g6, k6, by omega, by go_num, by rw [HW.out, HC.out, hcI]; exact hI6⟩
            case measure => simp only [intOf]; omega
      · obtain rfl : k = N := by omega
        obtain ⟨tx, hx⟩ : ∃ tx, textG (rdW t k) (rdC t k) = tx := ⟨_, rfl⟩
        have HX : Hid (textG (rdW t k) (rdC t k) = tx) := hx
        have hl := rdC_len t k
        have HNO : Hid (¬ tx = t ∨ t = [] → ∀ wd cs, okG wd cs = true → textG wd cs ≠ t) := fun q => rd_none t (by rw [HN.out, hx]; rcases q with q | q; exact Or.inl q; exact Or.inr (Or.inl q))
        have HYES : Hid (tx = t → t ≠ [] → okG (rdW t k) (rdC t k) = true) := fun q1 q2 => by
          by_cases q : okG (rdW t k) (rdC t k) = true
          · exact q
          · exact absurd (q1.symm.trans (hx.symm.trans ((text_nil _ _).2 (by simpa using q)))) q2
        clear hx
        generalize rdC t k = xs at *
        generalize rdW t k = x at *
        have hC := own_cellsD hI.own
        obtain ⟨o0, o1⟩ := And.intro hI.o0 hI.o1
        go_wp2_with fail
        refine (text_spec HX.out _ _ _ hC (by omega)).mono ?_
        rintro e w4 ⟨rfl, hb4⟩
        have hI4 := hI.call hb4
        clear hI o0 o1 hb4 hC
        obtain ⟨o0, o1, p0, p1, f0, f1⟩ := And.intro hI4.o0 (And.intro hI4.o1 (And.intro hI4.p0 (And.intro hI4.p1 (And.intro hI4.f0 hI4.f1))))
        by_cases e1 : tx = t
        · by_cases e2 : t = []
          · have hno := HNO.out (Or.inr e2)
            have b1 : ((str tx).toList == (str t).toList) = true := by rw [str_beq]; simp [e1]
            have b2 : (str t).toList.isEmpty = true := by rw [str_empty]; simp [e2]
            clear e1 e2
            go_wp2
            refine bodyPost_ret (v := .tuple #[.agg #[.int .i64 0, .slice none 0 0], .bool false]) (by simp [results, Try.results7, go_sem, p0, p1]) rfl ⟨Or.inr ⟨hno, rfl⟩, ?_⟩
            exact (hI4.below.setCell (p := ⟨w.heap.size, 0, none⟩) (Nat.le_refl _) _).setCell (p := ⟨w.heap.size, 1, none⟩) (Nat.le_refl _) _
          · have hyes := HYES.out e1 e2
            have htx : textG x xs = t := HX.out.trans e1
            have b1 : ((str tx).toList == (str t).toList) = true := by rw [str_beq]; simp [e1]
            have b2 : (str t).toList.isEmpty = false := by rw [str_empty]; simp [e2]
            have YY : Hid (okG x xs = true ∧ textG x xs = t) := ⟨hyes, htx⟩
            clear e1 e2 hyes htx
            have sl := hI4.own.lt
            have ng : g ≠ w.heap.size := by omega
            go_wp2
            refine bodyPost_ret (v := .tuple #[.agg #[.int .i64 x, .slice (some ⟨g, 0, none⟩) xs.length c], .bool true]) (by simp [results, Try.results7, go_sem, p0, p1]) rfl ⟨Or.inl ⟨x, _, xs, YY.out.1, YY.out.2, rfl, ?_⟩, ?_⟩
            · exact ((hI4.own.mono (B' := w.heap.size) (by omega)).otherR (p := ⟨w.heap.size, 0, none⟩) ng _).otherR (p := ⟨w.heap.size, 1, none⟩) ng _
            · exact (hI4.below.setCell (p := ⟨w.heap.size, 0, none⟩) (Nat.le_refl _) _).setCell (p := ⟨w.heap.size, 1, none⟩) (Nat.le_refl _) _
        · have hno := HNO.out (Or.inl e1)
          have b1 : ((str tx).toList == (str t).toList) = false := by rw [str_beq]; simp [e1]
          clear e1
          go_wp2
          refine bodyPost_ret (v := .tuple #[.agg #[.int .i64 0, .slice none 0 0], .bool false]) (by simp [results, Try.results7, go_sem, p0, p1]) rfl ⟨Or.inr ⟨hno, rfl⟩, ?_⟩
          exact (hI4.below.setCell (p := ⟨w.heap.size, 0, none⟩) (Nat.le_refl _) _).setCell (p := ⟨w.heap.size, 1, none⟩) (Nat.le_refl _) _
end Go.Proofs.Yteibklaabnnfbaa
