/-
  The contract of spec.GridPut: a grid with another cell in new memory, or nothing; it turns no memory that was there.
-/
import Derived.Test.YtkilnlfojjdpnaaPb
namespace Go.Proofs.Ytkilnlfojjdpnaa
open Go.RowKit

set_option maxHeartbeats 800000 in
theorem specGridPut_no (wd : Int) (a : Option Addr) (cap : Nat) (cs : List (Int × Int)) (at_ k l : Int) (w : World) (hC : CellsAt w a cs) (hm : cs.length ≤ 1048576) (hno : canPut wd cs at_ k l = false) :
    Calls Try.prog 8 #[.agg #[.int .i64 wd, .slice a cs.length cap], .int .i64 at_, .agg #[.int .i64 k, .int .i64 l]] w fun e w' => e = .returned (.tuple #[.agg #[.int .i64 0, .slice none 0 0], .bool false]) ∧ Below w.heap.size w w' := by
  by_cases h1 : okG wd cs = true
  · by_cases h2 : okC k l = true
    · have h3 : ¬ (0 ≤ at_ ∧ at_ < cs.length) := by simpa [canPut, h1, h2] using hno
      have h4 : inB at_ 0 ((cs.length : Int) - 1) = false := by simp only [inB, decide_eq_false_iff_not]; omega
      clear hno
      go_enter Try.func8, Try.ntmps8
      go_wp2_with fail
      refine (specGridOk_any _ _ _ cs _ (hC.below (by repeat (first | exact Below.refl _ _ | refine Below.alloc ?_ (by first | exact Nat.le_refl _ | (simp; done) | (simp; omega)) _ | refine Below.drew ?_ | refine Below.setCell ?_ (by first | exact Nat.le_refl _ | (simp; done) | (simp; omega)) _))) (by omega)).mono ?_
      rintro e w1 ⟨rfl, hb1⟩
      have hz1 := hb1.size
      simp at hz1
      have hB1 : Below w.heap.size w w1 := bcall (by repeat (first | exact Below.refl _ _ | refine Below.alloc ?_ (by first | exact Nat.le_refl _ | (simp; done) | (simp; omega)) _ | refine Below.drew ?_ | refine Below.setCell ?_ (by first | exact Nat.le_refl _ | (simp; done) | (simp; omega)) _)) (by simp; omega) hb1
      have p0 : w1.cell? ⟨w.heap.size, 0, none⟩ = some (.int .i64 wd) := keepc hb1 (by simp [go_sem])
      have p1 : w1.cell? ⟨w.heap.size, 1, none⟩ = some (.slice a cs.length cap) := keepc hb1 (by simp [go_sem])
      have p2 : w1.cell? ⟨w.heap.size + 1, 0, none⟩ = some (.int .i64 k) := keepc hb1 (by simp [go_sem])
      have p3 : w1.cell? ⟨w.heap.size + 1, 1, none⟩ = some (.int .i64 l) := keepc hb1 (by simp [go_sem])
      have p4 : w1.cell? ⟨w.heap.size + 1 + 1, 0, none⟩ = some (.int .i64 0) := keepc hb1 (by simp [go_sem])
      have p5 : w1.cell? ⟨w.heap.size + 1 + 1, 1, none⟩ = some (.slice none 0 0) := keepc hb1 (by simp [go_sem])
      have f4 : w1.frozen? ⟨w.heap.size + 1 + 1, 0, none⟩ = false := keepf hb1 (v := .int .i64 0) (by simp [go_sem]) (by simp [go_sem])
      have f5 : w1.frozen? ⟨w.heap.size + 1 + 1, 1, none⟩ = false := keepf hb1 (v := .slice none 0 0) (by simp [go_sem]) (by simp [go_sem])
      clear hb1
      go_wp2_with fail
      refine (specCellOk_any _ _ _).mono ?_
      rintro e w2 ⟨rfl, hb2⟩
      have hz2 := hb2.size
      have hB2 : Below w.heap.size w w2 := bcall hB1 (by omega) hb2
      replace f4 := keepf hb2 p4 f4; replace f5 := keepf hb2 p5 f5; replace p0 := keepc hb2 p0; replace p1 := keepc hb2 p1; replace p2 := keepc hb2 p2; replace p3 := keepc hb2 p3; replace p4 := keepc hb2 p4; replace p5 := keepc hb2 p5
      clear hb2
      go_wp2_with fail
      refine (l6In_any _ _ _ _).mono ?_
      rintro e w3 ⟨rfl, rfl⟩
      go_wp2
      refine bodyPost_ret (v := .tuple #[.agg #[.int .i64 0, .slice none 0 0], .bool false]) (by simp [results, Try.results8, go_sem, p4, p5]) rfl ⟨rfl, ?_⟩
      exact (hB2.setCell (by simp; omega) _).setCell (by simp; omega) _
    · have h2' : okC k l = false := by simpa using h2
      clear h2 hno
      go_enter Try.func8, Try.ntmps8
      go_wp2_with fail
      refine (specGridOk_any _ _ _ cs _ (hC.below (by repeat (first | exact Below.refl _ _ | refine Below.alloc ?_ (by first | exact Nat.le_refl _ | (simp; done) | (simp; omega)) _ | refine Below.drew ?_ | refine Below.setCell ?_ (by first | exact Nat.le_refl _ | (simp; done) | (simp; omega)) _))) (by omega)).mono ?_
      rintro e w1 ⟨rfl, hb1⟩
      have hz1 := hb1.size
      simp at hz1
      have hB1 : Below w.heap.size w w1 := bcall (by repeat (first | exact Below.refl _ _ | refine Below.alloc ?_ (by first | exact Nat.le_refl _ | (simp; done) | (simp; omega)) _ | refine Below.drew ?_ | refine Below.setCell ?_ (by first | exact Nat.le_refl _ | (simp; done) | (simp; omega)) _)) (by simp; omega) hb1
      have p0 : w1.cell? ⟨w.heap.size, 0, none⟩ = some (.int .i64 wd) := keepc hb1 (by simp [go_sem])
      have p1 : w1.cell? ⟨w.heap.size, 1, none⟩ = some (.slice a cs.length cap) := keepc hb1 (by simp [go_sem])
      have p2 : w1.cell? ⟨w.heap.size + 1, 0, none⟩ = some (.int .i64 k) := keepc hb1 (by simp [go_sem])
      have p3 : w1.cell? ⟨w.heap.size + 1, 1, none⟩ = some (.int .i64 l) := keepc hb1 (by simp [go_sem])
      have p4 : w1.cell? ⟨w.heap.size + 1 + 1, 0, none⟩ = some (.int .i64 0) := keepc hb1 (by simp [go_sem])
      have p5 : w1.cell? ⟨w.heap.size + 1 + 1, 1, none⟩ = some (.slice none 0 0) := keepc hb1 (by simp [go_sem])
      have f4 : w1.frozen? ⟨w.heap.size + 1 + 1, 0, none⟩ = false := keepf hb1 (v := .int .i64 0) (by simp [go_sem]) (by simp [go_sem])
      have f5 : w1.frozen? ⟨w.heap.size + 1 + 1, 1, none⟩ = false := keepf hb1 (v := .slice none 0 0) (by simp [go_sem]) (by simp [go_sem])
      clear hb1
      go_wp2_with fail
      refine (specCellOk_any _ _ _).mono ?_
      rintro e w2 ⟨rfl, hb2⟩
      have hz2 := hb2.size
      have hB2 : Below w.heap.size w w2 := bcall hB1 (by omega) hb2
      replace f4 := keepf hb2 p4 f4; replace f5 := keepf hb2 p5 f5; replace p0 := keepc hb2 p0; replace p1 := keepc hb2 p1; replace p2 := keepc hb2 p2; replace p3 := keepc hb2 p3; replace p4 := keepc hb2 p4; replace p5 := keepc hb2 p5
      clear hb2
      go_wp2
      refine bodyPost_ret (v := .tuple #[.agg #[.int .i64 0, .slice none 0 0], .bool false]) (by simp [results, Try.results8, go_sem, p4, p5]) rfl ⟨rfl, ?_⟩
      exact (hB2.setCell (by simp; omega) _).setCell (by simp; omega) _
  · have h1' : okG wd cs = false := by simpa using h1
    clear h1 hno
    go_enter Try.func8, Try.ntmps8
    go_wp2_with fail
    refine (specGridOk_any _ _ _ cs _ (hC.below (by repeat (first | exact Below.refl _ _ | refine Below.alloc ?_ (by first | exact Nat.le_refl _ | (simp; done) | (simp; omega)) _ | refine Below.drew ?_ | refine Below.setCell ?_ (by first | exact Nat.le_refl _ | (simp; done) | (simp; omega)) _))) (by omega)).mono ?_
    rintro e w1 ⟨rfl, hb1⟩
    have hz1 := hb1.size
    simp at hz1
    have hB1 : Below w.heap.size w w1 := bcall (by repeat (first | exact Below.refl _ _ | refine Below.alloc ?_ (by first | exact Nat.le_refl _ | (simp; done) | (simp; omega)) _ | refine Below.drew ?_ | refine Below.setCell ?_ (by first | exact Nat.le_refl _ | (simp; done) | (simp; omega)) _)) (by simp; omega) hb1
    have p0 : w1.cell? ⟨w.heap.size, 0, none⟩ = some (.int .i64 wd) := keepc hb1 (by simp [go_sem])
    have p1 : w1.cell? ⟨w.heap.size, 1, none⟩ = some (.slice a cs.length cap) := keepc hb1 (by simp [go_sem])
    have p2 : w1.cell? ⟨w.heap.size + 1, 0, none⟩ = some (.int .i64 k) := keepc hb1 (by simp [go_sem])
    have p3 : w1.cell? ⟨w.heap.size + 1, 1, none⟩ = some (.int .i64 l) := keepc hb1 (by simp [go_sem])
    have p4 : w1.cell? ⟨w.heap.size + 1 + 1, 0, none⟩ = some (.int .i64 0) := keepc hb1 (by simp [go_sem])
    have p5 : w1.cell? ⟨w.heap.size + 1 + 1, 1, none⟩ = some (.slice none 0 0) := keepc hb1 (by simp [go_sem])
    have f4 : w1.frozen? ⟨w.heap.size + 1 + 1, 0, none⟩ = false := keepf hb1 (v := .int .i64 0) (by simp [go_sem]) (by simp [go_sem])
    have f5 : w1.frozen? ⟨w.heap.size + 1 + 1, 1, none⟩ = false := keepf hb1 (v := .slice none 0 0) (by simp [go_sem]) (by simp [go_sem])
    clear hb1
    go_wp2
    refine bodyPost_ret (v := .tuple #[.agg #[.int .i64 0, .slice none 0 0], .bool false]) (by simp [results, Try.results8, go_sem, p4, p5]) rfl ⟨rfl, ?_⟩
    exact (hB1.setCell (by simp; omega) _).setCell (by simp; omega) _

set_option maxHeartbeats 800000 in
theorem specGridPut_yes (wd : Int) (a : Option Addr) (cap : Nat) (cs : List (Int × Int)) (at_ k l : Int) (w : World) (hC : CellsAt w a cs) (hm : cs.length ≤ 1048576) (hyes : canPut wd cs at_ k l = true) :
    Calls Try.prog 8 #[.agg #[.int .i64 wd, .slice a cs.length cap], .int .i64 at_, .agg #[.int .i64 k, .int .i64 l]] w fun e w' => ∃ g cap', e = .returned (.tuple #[.agg #[.int .i64 wd, .slice (some ⟨g, 0, none⟩) cs.length cap'], .bool true]) ∧ Own w' w.heap.size (.slice (some ⟨g, 0, none⟩) cs.length cap') (cs.set at_.toNat (k, l)) ∧ Below w.heap.size w w' := by
  simp only [canPut, Bool.and_eq_true, decide_eq_true_eq] at hyes
  obtain ⟨h1, h2, h3, h4⟩ := hyes
  obtain ⟨n, rfl⟩ := Int.eq_ofNat_of_zero_le h3
  have hlen := (okG_len wd cs h1).2.2.2.2.2.1
  have h5 : inB (n : Int) 0 ((cs.length : Int) - 1) = true := by simp only [inB, decide_eq_true_eq]; omega
  go_enter Try.func8, Try.ntmps8
  go_wp2_with fail
  refine (specGridOk_any _ _ _ cs _ (hC.below (by repeat (first | exact Below.refl _ _ | refine Below.alloc ?_ (by first | exact Nat.le_refl _ | (simp; done) | (simp; omega)) _ | refine Below.drew ?_ | refine Below.setCell ?_ (by first | exact Nat.le_refl _ | (simp; done) | (simp; omega)) _))) (by omega)).mono ?_
  rintro e w1 ⟨rfl, hb1⟩
  have hz1 := hb1.size
  simp at hz1
  have hB1 : Below w.heap.size w w1 := bcall (by repeat (first | exact Below.refl _ _ | refine Below.alloc ?_ (by first | exact Nat.le_refl _ | (simp; done) | (simp; omega)) _ | refine Below.drew ?_ | refine Below.setCell ?_ (by first | exact Nat.le_refl _ | (simp; done) | (simp; omega)) _)) (by simp; omega) hb1
  have p0 : w1.cell? ⟨w.heap.size, 0, none⟩ = some (.int .i64 wd) := keepc hb1 (by simp [go_sem])
  have p1 : w1.cell? ⟨w.heap.size, 1, none⟩ = some (.slice a cs.length cap) := keepc hb1 (by simp [go_sem])
  have p2 : w1.cell? ⟨w.heap.size + 1, 0, none⟩ = some (.int .i64 k) := keepc hb1 (by simp [go_sem])
  have p3 : w1.cell? ⟨w.heap.size + 1, 1, none⟩ = some (.int .i64 l) := keepc hb1 (by simp [go_sem])
  have p4 : w1.cell? ⟨w.heap.size + 1 + 1, 0, none⟩ = some (.int .i64 0) := keepc hb1 (by simp [go_sem])
  have p5 : w1.cell? ⟨w.heap.size + 1 + 1, 1, none⟩ = some (.slice none 0 0) := keepc hb1 (by simp [go_sem])
  have f4 : w1.frozen? ⟨w.heap.size + 1 + 1, 0, none⟩ = false := keepf hb1 (v := .int .i64 0) (by simp [go_sem]) (by simp [go_sem])
  have f5 : w1.frozen? ⟨w.heap.size + 1 + 1, 1, none⟩ = false := keepf hb1 (v := .slice none 0 0) (by simp [go_sem]) (by simp [go_sem])
  clear hb1
  go_wp2_with fail
  refine (specCellOk_any _ _ _).mono ?_
  rintro e w2 ⟨rfl, hb2⟩
  have hz2 := hb2.size
  have hB2 : Below w.heap.size w w2 := bcall hB1 (by omega) hb2
  replace f4 := keepf hb2 p4 f4; replace f5 := keepf hb2 p5 f5; replace p0 := keepc hb2 p0; replace p1 := keepc hb2 p1; replace p2 := keepc hb2 p2; replace p3 := keepc hb2 p3; replace p4 := keepc hb2 p4; replace p5 := keepc hb2 p5
  clear hb2
  go_wp2_with fail
  refine (l6In_any _ _ _ _).mono ?_
  rintro e w3 ⟨rfl, rfl⟩
  have hC3 := hC.below hB2
  rcases hC3 with h0 | ⟨b, off, rfl, hbl, hcell⟩
  · rw [h0] at hlen; simp at hlen
  go_wp2_with fail
  refine (l1Copy_any _ b off _ cs _ hbl hcell hm hlen).mono ?_
  rintro e w4 ⟨g, cap', rfl, hO4, hb4⟩
  have hz4 := hb4.size
  have hB4 : Below w.heap.size w w4 := bcall hB2 (by omega) hb4
  replace f4 := keepf hb4 p4 f4; replace f5 := keepf hb4 p5 f5; replace p0 := keepc hb4 p0; replace p1 := keepc hb4 p1; replace p2 := keepc hb4 p2; replace p3 := keepc hb4 p3; replace p4 := keepc hb4 p4; replace p5 := keepc hb4 p5
  have hgl := hO4.lt
  have hlt : n < cs.length := by omega
  obtain ⟨c1, c2, g1, g2⟩ := hO4.cell rfl n hlt
  have HS := (hO4.set rfl n k l hlt).mono (B' := w.heap.size) (by omega)
  obtain ⟨hg1, hg2⟩ := hgl
  have s0 : w.heap.size < w4.heap.size := by omega
  have s1 : w.heap.size + 1 < w4.heap.size := by omega
  have s2 : w.heap.size + 1 + 1 < w4.heap.size := by omega
  have n2 : w.heap.size + 1 + 1 ≠ g := by omega
  clear hb4 hcell hO4 hC
  go_wp2
  refine bodyPost_ret (v := .tuple #[.agg #[.int .i64 wd, .slice (some ⟨g, 0, none⟩) cs.length cap'], .bool true]) (by simp [results, Try.results8, go_sem, p4, p5, s2]) rfl ⟨g, cap', rfl, ?_, ?_⟩
  · rw [Int.toNat_natCast]
    refine Own.alloc ?_ _
    exact (HS.other (p := ⟨w.heap.size + 1 + 1, 0, none⟩) (Ne.symm n2) _).other (p := ⟨w.heap.size + 1 + 1, 1, none⟩) (Ne.symm n2) _
  · refine Below.alloc ?_ (by simp [World.setCell]; omega) _
    have e1 : w.heap.size ≤ g := by omega
    have e2 : w.heap.size ≤ w.heap.size + 1 + 1 := by omega
    exact (((hB4.setCell (p := ⟨g, n * 2, none⟩) e1 _).setCell (p := ⟨g, n * 2 + 1, none⟩) e1 _).setCell (p := ⟨w.heap.size + 1 + 1, 0, none⟩) e2 _).setCell (p := ⟨w.heap.size + 1 + 1, 1, none⟩) e2 _

end Go.Proofs.Ytkilnlfojjdpnaa
