/-
  l71Some once more: besides, its cells are not frozen, and its room is enough. So with DrawSightRay and DrawTrailEnds.
-/
import Derived.Test.YtmnninhifiajhaaJs
namespace Go.Proofs.Ytmnninhifiajhaa
open Go.RowKit
set_option linter.unusedVariables false
attribute [local go_sem ↓] Go.wp_at_zero Go.wp_at_succ

/-- Cells that may be written. -/
def UnF (w : World) (a : Option Addr) (xs : List (Int × Int)) : Prop := ∀ b off, a = some ⟨b, off, none⟩ → ∀ i, i < xs.length → w.frozen? ⟨b, off + i * 2, none⟩ = false ∧ w.frozen? ⟨b, off + i * 2 + 1, none⟩ = false
theorem UnF.set {w : World} {a : Option Addr} {xs : List (Int × Int)} (h : UnF w a xs) {p : Addr} {u : Value} : UnF (w.setCell p u) a xs := by
  intro b off e i hi
  obtain ⟨h1, h2⟩ := h b off e i hi
  rw [World.frozen?_setCell, World.frozen?_setCell]
  exact ⟨h1, h2⟩
theorem UnF.below {w w' : World} {a : Option Addr} {xs : List (Int × Int)} (h : UnF w a xs) (hC : CellsAt w a xs) (hb : Below w.heap.size w w') : UnF w' a xs := by
  intro b off e i hi
  obtain ⟨h1, h2⟩ := h b off e i hi
  rcases hC with q | ⟨b', off', e', hbl, hc⟩
  · rw [q] at hi; simp at hi
  · rw [e] at e'
    simp only [Option.some.injEq, Addr.mk.injEq, and_true] at e'
    obtain ⟨rfl, rfl⟩ := e'
    exact ⟨keepf hb (hc i hi).1 h1, keepf hb (hc i hi).2 h2⟩
theorem UnF.grown {w w' : World} {a : Option Addr} {xs : List (Int × Int)} {rb : Nat} (h : UnF w a xs) (hC : CellsAt w a xs) (hg : w.grownBy w' (some rb)) (hne : ∀ b off, a = some ⟨b, off, none⟩ → b ≠ rb) : UnF w' a xs := by
  intro b off e i hi
  obtain ⟨h1, h2⟩ := h b off e i hi
  have hn := hne b off e
  rcases hC with q | ⟨b', off', e', hbl, hc⟩
  · rw [q] at hi; simp at hi
  · rw [e] at e'
    simp only [Option.some.injEq, Addr.mk.injEq, and_true] at e'
    obtain ⟨rfl, rfl⟩ := e'
    exact ⟨gfroz hg hn (hc i hi).1 h1, gfroz hg hn (hc i hi).2 h2⟩
theorem own_unf {w : World} {B g cap : Nat} {cs : List (Int × Int)} (h : Own w B (.slice (some ⟨g, 0, none⟩) cs.length cap) cs) : UnF w (some ⟨g, 0, none⟩) cs := by
  intro b off e i hi
  simp only [Option.some.injEq, Addr.mk.injEq, and_true] at e
  obtain ⟨rfl, rfl⟩ := e
  obtain ⟨_, _, f1, f2⟩ := h.cell rfl i hi
  simp only [Nat.zero_add]
  exact ⟨f1, f2⟩
theorem tail_unf {w : World} {g off : Nat} {cs : List (Int × Int)} (h : UnF w (some ⟨g, off, none⟩) cs) : UnF w (some ⟨g, off + 2, none⟩) cs.tail := by
  intro b o e i hi
  simp only [Option.some.injEq, Addr.mk.injEq, and_true] at e
  obtain ⟨rfl, rfl⟩ := e
  have := h g off rfl (i + 1) (by rw [List.length_tail] at hi; omega)
  rw [show off + 2 + i * 2 = off + (i + 1) * 2 by omega]
  exact this
/-- What is drawn: it lies in new memory, may be written, has room. -/
structure SomeOk (w0 w' : World) (a : Option Addr) (c : Nat) (xs : List (Int × Int)) : Prop where
  cells : CellsAt w' a xs
  new : ∀ b off, a = some ⟨b, off, none⟩ → w0.heap.size ≤ b
  unf : UnF w' a xs
  cap : xs.length ≤ c
  max : c ≤ 9223372036854775807
theorem someOk_own {w0 w' : World} {B g cap : Nat} {cs : List (Int × Int)} (h : Own w' B (.slice (some ⟨g, 0, none⟩) cs.length cap) cs) (hg : w0.heap.size ≤ g) : SomeOk w0 w' (some ⟨g, 0, none⟩) cap cs :=
  ⟨own_cellsD h, newAt hg, own_unf h, (own_cap h).1, by have := (own_cap h).2; unfold maxLen at this; omega⟩

set_option maxRecDepth 20000 in
set_option maxHeartbeats 4000000 in
theorem l71SomeX_any (w : World) (rb L P : Nat) (h : RdQ w rb L P) (hp : P ≤ 800000) (hL : L ≤ w.heap.size) :
    Calls Try.prog 48 #[.pointer (some ⟨rb, 0, none⟩)] w fun e w' => ∃ (wd : Int) (a : Option Addr) (c : Nat) (xs : List (Int × Int)), e = .returned (.agg #[.int .i64 wd, .slice a xs.length c]) ∧ SomeOk w w' a c xs ∧ xs.length ≤ 31 ∧ RdQ w' rb L (P + 70) ∧ w.grownBy w' (some rb) := by
  obtain ⟨i0, hi, iz0, iz1, iz2⟩ := info_parts infoCell
  have hrb := h.lt
  have hbX : Below w.heap.size w (w.alloc (.cells #[.int .i64 0, .slice none 0 0] 25)) := (by repeat (first | exact Below.refl _ _ | refine Below.alloc ?_ (by first | exact Nat.le_refl _ | (simp; done) | (simp; omega)) _ | refine Below.drew ?_ | refine Below.setCell ?_ (by first | exact Nat.le_refl _ | (simp; done) | (simp; omega)) _))
  have hX := h.below (hbX.mono hL)
  go_enter Try.func48, Try.ntmps48
  go_wp2_with fail
  refine (l71Grid_any _ rb L P hX (by omega) (by simp; omega)).mono ?_
  rintro e w1 ⟨W, g, c, xs, rfl, hok, hO1, hr1, hg1'⟩
  have hne : w.heap.size ≠ rb := by omega
  have hz1 := hg1'.size
  simp at hz1
  have hxl : xs.length ≤ 25 ∧ 1 ≤ xs.length ∧ 1 ≤ W ∧ W ≤ 5 := by have := okG_lenD _ _ hok; omega
  have q0 : w1.cell? ⟨w.heap.size, 0, none⟩ = some (.int .i64 0) := gcell hg1' hne (by simp [go_sem])
  have q1 : w1.cell? ⟨w.heap.size, 1, none⟩ = some (.slice none 0 0) := gcell hg1' hne (by simp [go_sem])
  have f0 : w1.frozen? ⟨w.heap.size, 0, none⟩ = false := gfroz hg1' hne (v := .int .i64 0) (by simp [go_sem]) (by simp [go_sem])
  have f1 : w1.frozen? ⟨w.heap.size, 1, none⟩ = false := gfroz hg1' hne (v := .slice none 0 0) (by simp [go_sem]) (by simp [go_sem])
  have hg1 : w.grownBy w1 (some rb) := picks (belowP hbX) hg1'
  have hbY : Below w1.heap.size w1 (w1.alloc (.cells #[.int .i64 (W : Int), .slice (some ⟨g, 0, none⟩) xs.length c] 25)) := (by repeat (first | exact Below.refl _ _ | refine Below.alloc ?_ (by first | exact Nat.le_refl _ | (simp; done) | (simp; omega)) _ | refine Below.drew ?_ | refine Below.setCell ?_ (by first | exact Nat.le_refl _ | (simp; done) | (simp; omega)) _))
  have hI1 : SomeInv w (w1.alloc (.cells #[.int .i64 (W : Int), .slice (some ⟨g, 0, none⟩) xs.length c] 25)) rb L (P + 60) w1.heap.size (W : Int) (.slice (some ⟨g, 0, none⟩) xs.length c) :=
    ⟨picksB hg1 hbY, hr1.below (hbY.mono (by omega)), keepc hbY q0, keepc hbY q1, keepf hbY q0 f0, keepf hbY q1 f1, by simp [go_sem], by simp [go_sem], by simp [go_sem], by simp [go_sem], by omega⟩
  have hgr := hO1.lt
  simp at hgr
  have hO := hO1.below hbY
  clear hX hbX hg1' hr1 q0 q1 f0 f1 hg1 hbY hO1
  go_wp2_with fail
  refine (pickQ 24 _ rb L (P + 60) hI1.rd (by omega) (by omega)).mono ?_
  rintro e w2 ⟨u, rfl, hu1, hu2, hr2, hg2⟩
  have hI2 := hI1.call hg2 hr2
  have hO2 : Own w2 (w.heap.size + 1) (.slice (some ⟨g, 0, none⟩) xs.length c) xs := World.ownsRow.kept (hO.mono (by simp)) hg2 (Or.inr (by simp [Value.ownBlock]; omega))
  clear hI1 hO hg2 hr2
  by_cases hu : 0 < u
  · obtain ⟨p4, p5, f4, f5, o0, o1⟩ := And.intro hI2.p4 (And.intro hI2.p5 (And.intro hI2.f4 (And.intro hI2.f5 (And.intro hI2.o0 hI2.o1))))
    go_wp2
    refine bodyPost_ret (v := .agg #[.int .i64 (W : Int), .slice (some ⟨g, 0, none⟩) xs.length c]) (by simp [results, Try.results48, go_sem, p4, p5]) rfl ⟨(W : Int), some ⟨g, 0, none⟩, c, xs, rfl, ?_, by omega, ?_⟩
    · exact someOk_own (ownOther (ownOther hO2 (p := ⟨w.heap.size, 0, none⟩) (by show g ≠ w.heap.size; omega) _) (p := ⟨w.heap.size, 1, none⟩) (by show g ≠ w.heap.size; omega) _) (by omega)
    · exact ⟨(hI2.out _ _).1.more (by omega), (hI2.out _ _).2⟩
  have hu0 : u = 0 := by omega
  subst hu0
  go_wp2_with fail
  refine (pickQ 5 _ rb L (P + 61) hI2.rd (by omega) (by omega)).mono ?_
  rintro e w3 ⟨v, rfl, hv1, hv2, hr3, hg3⟩
  have hI3 := hI2.call hg3 hr3
  have hO3 : Own w3 (w.heap.size + 1) (.slice (some ⟨g, 0, none⟩) xs.length c) xs := World.ownsRow.kept hO2 hg3 (Or.inr (by simp [Value.ownBlock]; omega))
  have hz3 := hI3.g.size
  have so3 := World.block_lt_of_cell? _ _ hI3.o1
  simp only at so3
  clear hI2 hO2 hg3 hr3
  rcases (show v = 0 ∨ v = 1 ∨ v = 2 ∨ v = 3 ∨ v = 4 by omega) with rfl | rfl | rfl | rfl | rfl
  · have hbZ : Below w3.heap.size w3 (w3.alloc (.cells #[.int .i64 0, .int .i64 (-1), .int .i64 6] 3)) := (by repeat (first | exact Below.refl _ _ | refine Below.alloc ?_ (by first | exact Nat.le_refl _ | (simp; done) | (simp; omega)) _ | refine Below.drew ?_ | refine Below.setCell ?_ (by first | exact Nat.le_refl _ | (simp; done) | (simp; omega)) _))
    have hI4 := hI3.below hbZ
    have hO4 := hO3.below hbZ
    go_wp2_with fail
    refine (pickQ 3 _ rb L (P + 62) hI4.rd (by omega) (by omega)).mono ?_
    rintro e w5 ⟨u, rfl, hu1', hu2', hr5, hg5⟩
    have hI5 := hI4.call hg5 hr5
    have hO5 : Own w5 (w.heap.size + 1) (.slice (some ⟨g, 0, none⟩) xs.length c) xs := World.ownsRow.kept hO4 hg5 (Or.inr (by simp [Value.ownBlock]; omega))
    have nz : w3.heap.size ≠ rb := by omega
    have z0 : w5.cell? ⟨w3.heap.size, 0, none⟩ = some (.int .i64 0) := gcell hg5 nz (by simp [go_sem])
    have z1 : w5.cell? ⟨w3.heap.size, 1, none⟩ = some (.int .i64 (-1)) := gcell hg5 nz (by simp [go_sem])
    have z2 : w5.cell? ⟨w3.heap.size, 2, none⟩ = some (.int .i64 6) := gcell hg5 nz (by simp [go_sem])
    obtain ⟨p4, p5, f4, f5, o0, o1, fo0⟩ := And.intro hI5.p4 (And.intro hI5.p5 (And.intro hI5.f4 (And.intro hI5.f5 (And.intro hI5.o0 (And.intro hI5.o1 hI5.fo0)))))
    have n1 : w.heap.size ≠ w1.heap.size := by omega
    have FIN : Hid (∀ x : Int, SomeOk w (((w5.setCell ⟨w1.heap.size, 0, none⟩ (.int .i64 x)).setCell ⟨w.heap.size, 0, none⟩ (.int .i64 x)).setCell ⟨w.heap.size, 1, none⟩ (.slice (some ⟨g, 0, none⟩) xs.length c)) (some ⟨g, 0, none⟩) c xs ∧ xs.length ≤ 31 ∧ RdQ (((w5.setCell ⟨w1.heap.size, 0, none⟩ (.int .i64 x)).setCell ⟨w.heap.size, 0, none⟩ (.int .i64 x)).setCell ⟨w.heap.size, 1, none⟩ (.slice (some ⟨g, 0, none⟩) xs.length c)) rb L (P + 70) ∧ w.grownBy (((w5.setCell ⟨w1.heap.size, 0, none⟩ (.int .i64 x)).setCell ⟨w.heap.size, 0, none⟩ (.int .i64 x)).setCell ⟨w.heap.size, 1, none⟩ (.slice (some ⟨g, 0, none⟩) xs.length c)) (some rb)) := fun x =>
      ⟨someOk_own (ownOther (ownOther (ownOther hO5 (p := ⟨w1.heap.size, 0, none⟩) (by show g ≠ w1.heap.size; omega) _) (p := ⟨w.heap.size, 0, none⟩) (by show g ≠ w.heap.size; omega) _) (p := ⟨w.heap.size, 1, none⟩) (by show g ≠ w.heap.size; omega) _) (by omega), by omega, ((hI5.set0 x).out _ _).1.more (by omega), ((hI5.set0 x).out _ _).2⟩
    clear hI3 hI4 hO3 hO4 hbZ hg5 hr5 hI5 hO5
    rcases (show u = 0 ∨ u = 1 ∨ u = 2 by omega) with rfl | rfl | rfl
    · go_wp2
      exact bodyPost_ret (v := .agg #[.int .i64 0, .slice (some ⟨g, 0, none⟩) xs.length c]) (by simp [results, Try.results48, go_sem, p4, p5]) rfl ⟨0, some ⟨g, 0, none⟩, c, xs, rfl, FIN.out 0⟩
    · go_wp2
      exact bodyPost_ret (v := .agg #[.int .i64 (-1), .slice (some ⟨g, 0, none⟩) xs.length c]) (by simp [results, Try.results48, go_sem, p4, p5]) rfl ⟨-1, some ⟨g, 0, none⟩, c, xs, rfl, FIN.out (-1)⟩
    · go_wp2
      exact bodyPost_ret (v := .agg #[.int .i64 6, .slice (some ⟨g, 0, none⟩) xs.length c]) (by simp [results, Try.results48, go_sem, p4, p5]) rfl ⟨6, some ⟨g, 0, none⟩, c, xs, rfl, FIN.out 6⟩
  · obtain ⟨p4, p5, f4, f5, o0, o1, fo1⟩ := And.intro hI3.p4 (And.intro hI3.p5 (And.intro hI3.f4 (And.intro hI3.f5 (And.intro hI3.o0 (And.intro hI3.o1 hI3.fo1)))))
    have n1 : w.heap.size ≠ w1.heap.size := by omega
    have hcap := own_cap hO3
    have i1 : (1 : Int) ≤ (xs.length : Int) := by omega
    have i2 : (xs.length : Int) ≤ (c : Int) := by omega
    have i3 : (c : Int) ≤ 9223372036854775807 := by have := hcap.2; unfold maxLen at this; omega
    have hT := tail_cells (own_cellsD hO3)
    have ng : ∀ b off, some (⟨g, 0 + 2, none⟩ : Addr) = some ⟨b, off, none⟩ → b ≠ w1.heap.size ∧ b ≠ w.heap.size := by
      intro b off e
      simp only [Option.some.injEq, Addr.mk.injEq, and_true] at e
      omega
    by_cases hc1 : c = 1
    · subst hc1
      have hI4 := hI3.set1 (.slice (some ⟨g, 0, none⟩) 0 0)
      have ht : xs.length - 1 = 0 := by omega
      go_wp2
      refine bodyPost_ret (v := .agg #[.int .i64 (W : Int), .slice (some ⟨g, 0, none⟩) 0 0]) (by simp [results, Try.results48, go_sem, p4, p5]) rfl ⟨(W : Int), some ⟨g, 0, none⟩, 0, [], rfl, ⟨Or.inl rfl, newAt (by omega), fun b off e i hi => by simp at hi, by simp, by omega⟩, by simp, ?_⟩
      exact ⟨(hI4.out _ _).1.more (by omega), (hI4.out _ _).2⟩
    · have hI4 := hI3.set1 (.slice (some ⟨g, 2, none⟩) (xs.length - 1) (c - 1))
      have i4 : (2 : Int) ≤ (c : Int) := by omega
      go_wp2
      refine bodyPost_ret (v := .agg #[.int .i64 (W : Int), .slice (some ⟨g, 2, none⟩) (xs.length - 1) (c - 1)]) (by simp [results, Try.results48, go_sem, p4, p5]) rfl ⟨(W : Int), some ⟨g, 2, none⟩, c - 1, xs.tail, by rw [List.length_tail], ?_, by rw [List.length_tail]; omega, ?_⟩
      · exact ⟨((hT.set (bb := w1.heap.size) (fun b off e => (ng b off e).1) _).set (bb := w.heap.size) (fun b off e => (ng b off e).2) _).set (bb := w.heap.size) (fun b off e => (ng b off e).2) _, newAt (by omega), ((((tail_unf (own_unf hO3)).set).set).set), by rw [List.length_tail]; omega, by omega⟩
      · exact ⟨(hI4.out _ _).1.more (by omega), (hI4.out _ _).2⟩
  · obtain ⟨p4, p5, f4, f5, o0, o1, fo1⟩ := And.intro hI3.p4 (And.intro hI3.p5 (And.intro hI3.f4 (And.intro hI3.f5 (And.intro hI3.o0 (And.intro hI3.o1 hI3.fo1)))))
    have n1 : w.heap.size ≠ w1.heap.size := by omega
    have i1 : (1 : Int) ≤ (xs.length : Int) := by omega
    go_wp2
    go_region_held3 (fun w' => w'.cell? ⟨w1.heap.size, 1, none⟩ = some (.slice (some ⟨g, 0, none⟩) xs.length c))
      (first | exact setc ngo (setc ngo hI6.o1) | exact hI6.o1 | exact hI5.o1 | go_keep)
      (first
        | (go_at_call 50; refine (pickQ (xs.length : Int) _ rb L (P + 62) (by first | exact hI3.rd | exact hI3.rd.below (Below.refl _ _).drew) (by omega) (by omega)).mono ?_; rintro e w5 ⟨u, rfl, hu1', hu2', hr5, hg5'⟩; have hg5 : w3.grownBy w5 (some rb) := (by first | exact hg5' | exact gdrew hg5'); have hI5 := hI3.call hg5 hr5; obtain ⟨U, rfl⟩ := Int.eq_ofNat_of_zero_le hu1')
        | (go_at_call 51; refine (l71Off_any _ rb L (P + 63) hI5.rd (by omega) (by have := hI5.g.size; omega)).mono ?_; rintro e w6 ⟨kx, lx, rfl, hr6, hg6⟩; have hI6 := hI5.call hg6 hr6; have hO6 : Own w6 (w.heap.size + 1) (.slice (some ⟨g, 0, none⟩) xs.length c) xs := World.ownsRow.kept (World.ownsRow.kept hO3 hg5 (Or.inr (by simp [Value.ownBlock]; omega))) hg6 (Or.inr (by simp [Value.ownBlock]; omega)); have hU : U < xs.length := (by omega); obtain ⟨c1, c2, g1, g2⟩ := hO6.cell rfl U hU; have ngo : w1.heap.size ≠ g := (by omega)))
    all_goals
      have HS := hO6.set rfl U kx lx hU
      have hI7 := (hI6.setG (g := g) (j := U * 2) (by omega) (by omega) (.int .i64 kx)).setG (g := g) (j := U * 2 + 1) (by omega) (by omega) (.int .i64 lx)
      have hl : (xs.set U (kx, lx)).length = xs.length := by simp
      obtain ⟨p4, p5, f4, f5, o0, o1⟩ := And.intro hI7.p4 (And.intro hI7.p5 (And.intro hI7.f4 (And.intro hI7.f5 (And.intro hI7.o0 hI7.o1))))
      go_wp2
      refine bodyPost_ret (v := .agg #[.int .i64 (W : Int), .slice (some ⟨g, 0, none⟩) xs.length c]) (by simp [results, Try.results48, go_sem, p4, p5]) rfl ⟨(W : Int), some ⟨g, 0, none⟩, c, xs.set U (kx, lx), by rw [hl], ?_, by rw [hl]; omega, ?_⟩
      · rw [← hl] at HS
        have := ownOther (ownOther HS (p := ⟨w.heap.size, 0, none⟩) (by show g ≠ w.heap.size; omega) (.int .i64 (W : Int))) (p := ⟨w.heap.size, 1, none⟩) (by show g ≠ w.heap.size; omega) (.slice (some ⟨g, 0, none⟩) xs.length c)
        exact someOk_own this (by omega)
      · exact ⟨(hI7.out _ _).1.more (P' := P + 70) (by omega), (hI7.out _ _).2⟩
  · clear hv1 hv2
    have hW5 : (W : Int) * 5 ≤ 25 := by omega
    go_wp2
    go_loopw [] (fun wr => ∃ (ys : List (Int × Int)) (g c : Nat), ys.length ≤ 26 ∧ 1 ≤ ys.length ∧ SomeInv w wr rb L (P + 62) w1.heap.size (W : Int) (.slice (some ⟨g, 0, none⟩) ys.length c) ∧ Own wr (w.heap.size + 1) (.slice (some ⟨g, 0, none⟩) ys.length c) ys ∧ g ≠ w1.heap.size) (fun wr => 30 - slen (wr.cell? ⟨w1.heap.size, 1, none⟩))
    case atStart => exact ⟨xs, g, c, by omega, by omega, hI3, hO3, by omega⟩
    case round =>
      clear hI3 hO3
      obtain ⟨ys, g, c, hy1, hy2, hI, hO, hgo⟩ := hrel
      have hLL := hI.hL
      have hgl := hO.lt
      have so := World.block_lt_of_cell? _ _ hI.o1
      simp only at so
      obtain ⟨p4, p5, f4, f5, o0, o1, fo1⟩ := And.intro hI.p4 (And.intro hI.p5 (And.intro hI.f4 (And.intro hI.f5 (And.intro hI.o0 (And.intro hI.o1 hI.fo1)))))
      by_cases hlt : (ys.length : Int) ≤ (W : Int) * 5
      · go_wp2_with (at_builtin; refine wpList_append_lies _ rfl _ _ _ rfl (w.heap.size + 1) 27 i0 (.agg #[.int .i64 0, .int .i64 0]) 2 16 Try.underlying23 hi iz0 iz1 iz2 rfl (by omega) (.slice (some ⟨g, 0, none⟩) ys.length c) ys.length (flat ys) rfl (hO.alloc _) ⟨wr.heap.size, 0, none⟩ 1 1 [.int .i64 0, .int .i64 0] rfl rfl (World.news_of_block (cs := #[.int .i64 0, .int .i64 0]) (t := 27) (fr := (0, 0)) (heap_alloc_new wr _)) (by simp [Value.oneCell']) (by omega) (by unfold maxLen; omega) (by omega) (by simp; omega) (wr.heap.size + 1) (by simp) ?_)
        intro g6 k6 w6 hO6 hg6 hat6 hlt6
        have hI6 := hI.far (g := g) hg6 (by omega) hgo
        have hgn : g6 ≠ w1.heap.size := by
          rcases hat6 with e | e
          · simp only [Value.ownBlock, Option.some.injEq] at e; omega
          · omega
        have hI7 := hI6.set1 (.slice (some ⟨g6, 0, none⟩) (ys.length + 1) k6)
        have o6 := hI6.o1
        have fo6 := hI6.fo1
        have hl : (ys ++ [((0 : Int), (0 : Int))]).length = ys.length + 1 := by simp
        have hO7 : Own (w6.setCell ⟨w1.heap.size, 1, none⟩ (.slice (some ⟨g6, 0, none⟩) (ys.length + 1) k6)) (w.heap.size + 1) (.slice (some ⟨g6, 0, none⟩) (ys.length + 1) k6) (ys ++ [(0, 0)]) := by
          refine ownOther ?_ hgn _
          unfold Own
          rw [hl, flat_append]
          exact hO6
        clear hI hO hg6 hO6 p4 p5 f4 f5 hI6
        go_wp2
        go_roundw
        case rel => exact ⟨ys ++ [(0, 0)], g6, k6, by rw [hl]; omega, by rw [hl]; omega, by rw [hl]; exact hI7, by rw [hl]; exact hO7, hgn⟩
        case measure =>
          rw [World.cell?_setCell_same _ _ _ o6, o1]
          simp only [slen]
          omega
      · have hT := own_cellsD hO
        go_wp2
        refine bodyPost_ret (v := .agg #[.int .i64 (W : Int), .slice (some ⟨g, 0, none⟩) ys.length c]) (by simp [results, Try.results48, go_sem, p4, p5]) rfl ⟨(W : Int), some ⟨g, 0, none⟩, c, ys, rfl, ?_, by omega, ?_⟩
        · exact someOk_own (ownOther (ownOther hO (p := ⟨w.heap.size, 0, none⟩) (by show g ≠ w.heap.size; omega) _) (p := ⟨w.heap.size, 1, none⟩) (by show g ≠ w.heap.size; omega) _) (by omega)
        · exact ⟨(hI.out _ _).1.more (P' := P + 70) (by omega), (hI.out _ _).2⟩
  · obtain ⟨p4, p5, f4, f5, o0, o1, fo1⟩ := And.intro hI3.p4 (And.intro hI3.p5 (And.intro hI3.f4 (And.intro hI3.f5 (And.intro hI3.o0 (And.intro hI3.o1 hI3.fo1)))))
    have n1 : w.heap.size ≠ w1.heap.size := by omega
    have hI4 := hI3.set1 (.slice none 0 0)
    go_wp2
    refine bodyPost_ret (v := .agg #[.int .i64 (W : Int), .slice none 0 0]) (by simp [results, Try.results48, go_sem, p4, p5]) rfl ⟨(W : Int), none, 0, [], rfl, ⟨Or.inl rfl, fun _ _ e => (by cases e), fun _ _ e => (by cases e), by simp, by omega⟩, by simp, ?_⟩
    exact ⟨(hI4.out _ _).1.more (by omega), (hI4.out _ _).2⟩

set_option maxHeartbeats 2000000 in
theorem drawSightRayX_any (a : Option Addr) (n cap : Nat) (f : Nat → Int) (w : World) (h : BytesAt w a n f) (hn : n ≤ 1048576) (hcap : n ≤ cap) (hc2 : cap ≤ 9223372036854775807) :
    Calls Try.prog 67 #[.slice a n cap] w fun e w' => ∃ (wd : Int) (a : Option Addr) (c : Nat) (xs : List (Int × Int)) (k : Int), e = .returned (.tuple #[.agg #[.int .i64 wd, .slice a xs.length c], .int .i64 k]) ∧ SomeOk w w' a c xs ∧ xs.length ≤ 31 ∧ (-1 ≤ k ∧ k ≤ 20) ∧ Below w.heap.size w w' := by
  go_enter Try.func67, Try.ntmps67
  go_wp2_with fail
  refine (l6Open_any _ n _ f _ (h.below (by repeat (first | exact Below.refl _ _ | refine Below.alloc ?_ (by first | exact Nat.le_refl _ | (simp; done) | (simp; omega)) _ | refine Below.drew ?_ | refine Below.setCell ?_ (by first | exact Nat.le_refl _ | (simp; done) | (simp; omega)) _))) hn hcap hc2).mono ?_
  rintro e w1 ⟨rfl, hr1, hb1⟩
  have hz1 := hb1.size
  simp at hz1 hr1
  have s1 : w.heap.size + 1 < w1.heap.size := by have := hr1.lt; omega
  have p0 : w1.cell? ⟨w.heap.size, 0, none⟩ = some (.int .i64 0) := keepc hb1 (by simp [go_sem])
  have p1 : w1.cell? ⟨w.heap.size, 1, none⟩ = some (.slice none 0 0) := keepc hb1 (by simp [go_sem])
  have fp0 : w1.frozen? ⟨w.heap.size, 0, none⟩ = false := keepf hb1 (v := .int .i64 0) (by simp [go_sem]) (by simp [go_sem])
  have fp1 : w1.frozen? ⟨w.heap.size, 1, none⟩ = false := keepf hb1 (v := .slice none 0 0) (by simp [go_sem]) (by simp [go_sem])
  have hB1 : Below w.heap.size w w1 := bcall (by repeat (first | exact Below.refl _ _ | refine Below.alloc ?_ (by first | exact Nat.le_refl _ | (simp; done) | (simp; omega)) _ | refine Below.drew ?_ | refine Below.setCell ?_ (by first | exact Nat.le_refl _ | (simp; done) | (simp; omega)) _)) (by simp) hb1
  clear hb1
  go_wp2_with fail
  refine (l71SomeX_any _ (w.heap.size + 1) (w.heap.size + 1 + 1) 0 hr1 (by omega) (by omega)).mono ?_
  rintro e w2 ⟨wd, a2, c2, xs, rfl, hok2, hxl, hr2, hg2⟩
  have hC2 := hok2.cells
  have hn2 := hok2.new
  have hU2 := hok2.unf
  have hcp := hok2.cap
  have hcm := hok2.max
  clear hok2
  have hz2 := hg2.size
  have nr : w.heap.size ≠ w.heap.size + 1 := by omega
  replace fp0 := gfroz hg2 nr p0 fp0
  replace fp1 := gfroz hg2 nr p1 fp1
  replace p0 := gcell hg2 nr p0
  replace p1 := gcell hg2 nr p1
  have hB2 : Below w.heap.size w w2 := ⟨hg2.os.trans hB1.os, hg2.tape.trans hB1.tape, hg2.output.trans hB1.output, Nat.le_trans hB1.size hg2.size, fun k hk => (hg2.block k (by omega) (by simp; omega)).trans (hB1.block k hk)⟩
  have hbG : Below w2.heap.size w2 (w2.alloc (.cells #[.int .i64 wd, .slice a2 xs.length c2] 25)) := (by repeat (first | exact Below.refl _ _ | refine Below.alloc ?_ (by first | exact Nat.le_refl _ | (simp; done) | (simp; omega)) _ | refine Below.drew ?_ | refine Below.setCell ?_ (by first | exact Nat.le_refl _ | (simp; done) | (simp; omega)) _))
  clear hg2 hB1
  have hI : SigInv w (w2.alloc (.cells #[.int .i64 wd, .slice a2 xs.length c2] 25)) w2.heap.size wd (.slice a2 xs.length c2) :=
    ⟨bcall hB2 (by omega) hbG, keepc hbG p0, keepc hbG p1, keepf hbG p0 fp0, keepf hbG p1 fp1, by simp [go_sem], by simp [go_sem], by simp; omega⟩
  have hrz : RdQ (w2.alloc (.cells #[.int .i64 wd, .slice a2 xs.length c2] 25)) (w.heap.size + 1) (w.heap.size + 1 + 1) 90 := (hr2.below (hbG.mono (by omega))).more (by omega)
  have hCz := hC2.below hbG
  have hUz := hU2.below hC2 hbG
  go_wp2
  obtain ⟨wz, hwz⟩ : ∃ wz, wz = w2.alloc (.cells #[.int .i64 wd, .slice a2 xs.length c2] 25) := ⟨_, rfl⟩
  rw [← hwz] at hI hrz hCz hUz ⊢
  clear hwz fp0 fp1 p0 p1 hB2 hbG hC2 hU2 hr2 hr1
  have hz := hI.hb.size
  obtain ⟨p0, p1, fp0, fp1⟩ := And.intro hI.p0 (And.intro hI.p1 (And.intro hI.fp0 hI.fp1))
  obtain ⟨g0, g1⟩ := And.intro hI.g0 hI.g1
  obtain ⟨s1, s2⟩ := hI.sz
  have hLz : w.heap.size + 1 + 1 ≤ wz.heap.size := by omega
  have n1 : w2.heap.size ≠ w.heap.size := by omega
  go_region_held3 (fun w' => w'.cell? ⟨w2.heap.size, 0, none⟩ = some (.int .i64 wd) ∧ w'.cell? ⟨w2.heap.size, 1, none⟩ = some (.slice a2 xs.length c2))
    (first
      | with_reducible exact ⟨setc n1 (setc n1 hJ.g0), setc n1 (setc n1 hJ.g1)⟩
      | with_reducible exact ⟨hJ.g0, hJ.g1⟩
      | go_keep)
    (first
      | (go_at_call 78; refine (l71Sight_any _ (w.heap.size + 1) (w.heap.size + 1 + 1) 90 (by first | exact hrz | exact hrz.below (Below.refl _ _).drew) (by omega) (by first | exact hLz | (simp; omega)) wd a2 c2 xs (by first | exact hCz | exact hCz.below (Below.refl _ _).drew) hxl).mono ?_; rintro e w6 ⟨v6, rfl, hv1, hv2, hr6, hg6'⟩; have hg6 : wz.grownBy w6 (some (w.heap.size + 1)) := (by first | exact hg6' | exact gdrew hg6'); have hJ := hI.call hg6; have hC6 := hCz.grown hg6 (fun b off e => by have := hn2 b off e; omega); have hU6 := hUz.grown hCz hg6 (fun b off e => by have := hn2 b off e; omega); obtain ⟨p0, p1, fp0, fp1⟩ := And.intro hJ.p0 (And.intro hJ.p1 (And.intro hJ.fp0 hJ.fp1)))
      | fail)
  all_goals
    go_wp2
    refine bodyPost_ret (v := .tuple #[.agg #[.int .i64 wd, .slice a2 xs.length c2], .int .i64 v6]) (by simp [results, Try.results67, go_sem, p0, p1]) rfl ⟨wd, a2, c2, xs, v6, rfl, ⟨?_, fun b off e => by have := hn2 b off e; omega, hU6.set.set, hcp, hcm⟩, hxl, ⟨hv1, hv2⟩, ?_⟩
    · exact (hC6.set (bb := w.heap.size) (fun b off e => by have := hn2 b off e; omega) _).set (bb := w.heap.size) (fun b off e => by have := hn2 b off e; omega) _
    · exact (hJ.hb.setCell (p := ⟨w.heap.size, 0, none⟩) (Nat.le_refl _) _).setCell (p := ⟨w.heap.size, 1, none⟩) (Nat.le_refl _) _
set_option maxHeartbeats 400000 in
theorem drawTrailEndsX_any (a : Option Addr) (n cap : Nat) (f : Nat → Int) (w : World) (h : BytesAt w a n f) (hn : n ≤ 1048576) (hcap : n ≤ cap) (hc2 : cap ≤ 9223372036854775807) :
    Calls Try.prog 39 #[.slice a n cap] w fun e w' => ∃ (wd : Int) (a : Option Addr) (c : Nat) (xs : List (Int × Int)) (k : Int), e = .returned (.tuple #[.agg #[.int .i64 wd, .slice a xs.length c], .int .i64 k]) ∧ SomeOk w w' a c xs ∧ xs.length ≤ 31 ∧ (-1 ≤ k ∧ k ≤ 20) ∧ Below w.heap.size w w' := by
  go_enter Try.func39, Try.ntmps39
  go_wp2_with fail
  refine (drawSightRayX_any _ n _ f _ (h.below (by repeat (first | exact Below.refl _ _ | refine Below.alloc ?_ (by first | exact Nat.le_refl _ | (simp; done) | (simp; omega)) _ | refine Below.drew ?_ | refine Below.setCell ?_ (by first | exact Nat.le_refl _ | (simp; done) | (simp; omega)) _))) hn hcap hc2).mono ?_
  rintro e w1 ⟨wd, a1, c1, xs, k, rfl, hok1, hl1, hk1, hb1⟩
  have hC1 := hok1.cells
  have hn1 := hok1.new
  have hU1 := hok1.unf
  have hcp := hok1.cap
  have hcm := hok1.max
  clear hok1
  have p0 : w1.cell? ⟨w.heap.size, 0, none⟩ = some (.int .i64 0) := keepc hb1 (by simp [go_sem])
  have p1 : w1.cell? ⟨w.heap.size, 1, none⟩ = some (.slice none 0 0) := keepc hb1 (by simp [go_sem])
  have f0 : w1.frozen? ⟨w.heap.size, 0, none⟩ = false := keepf hb1 (v := .int .i64 0) (by simp [go_sem]) (by simp [go_sem])
  have f1 : w1.frozen? ⟨w.heap.size, 1, none⟩ = false := keepf hb1 (v := .slice none 0 0) (by simp [go_sem]) (by simp [go_sem])
  have hB1 : Below w.heap.size w w1 := bcall (by repeat (first | exact Below.refl _ _ | refine Below.alloc ?_ (by first | exact Nat.le_refl _ | (simp; done) | (simp; omega)) _ | refine Below.drew ?_ | refine Below.setCell ?_ (by first | exact Nat.le_refl _ | (simp; done) | (simp; omega)) _)) (by simp) hb1
  clear hb1
  go_wp2
  refine bodyPost_ret (v := .tuple #[.agg #[.int .i64 wd, .slice a1 xs.length c1], .int .i64 k]) (by simp [results, Try.results39, go_sem, p0, p1]) rfl ⟨wd, a1, c1, xs, k, rfl, ⟨?_, fun b off e => by have := hn1 b off e; simp at this; omega, hU1.set.set, hcp, hcm⟩, hl1, hk1, ?_⟩
  · exact (hC1.set (bb := w.heap.size) (fun b off e => by have := hn1 b off e; simp at this; omega) _).set (bb := w.heap.size) (fun b off e => by have := hn1 b off e; simp at this; omega) _
  · exact (hB1.setCell (p := ⟨w.heap.size, 0, none⟩) (Nat.le_refl _) _).setCell (p := ⟨w.heap.size, 1, none⟩) (Nat.le_refl _) _

end Go.Proofs.Ytmnninhifiajhaa
