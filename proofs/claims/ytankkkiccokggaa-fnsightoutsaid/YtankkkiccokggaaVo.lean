/-
  DrawSightOf draws a grid, a place and a way: all lies in memory, at most 31 cells, the place from -1 to 31, the way from 0 to 4.
-/
import Derived.Test.YtankkkiccokggaaDp
import Derived.Test.YtankkkiccokggaaVm
import Derived.Deep.RegionHeld3
import Derived.Deep.DeepCutAuto
namespace Go.Proofs.Ytankkkiccokggaa
open Go.RowKit
set_option linter.unusedVariables false
attribute [local go_sem ↓] Go.wp_at_zero Go.wp_at_succ

/-- What stands while DrawSightOf draws: the box of the answer, the grid's box gb. -/
structure OfInv (w wr : World) (gb : Nat) (wd : Int) (v : Value) : Prop where
  hb : Below w.heap.size w wr
  p0 : wr.cell? ⟨w.heap.size, 0, none⟩ = some (.int .i64 0)
  p1 : wr.cell? ⟨w.heap.size, 1, none⟩ = some (.slice none 0 0)
  fp0 : wr.frozen? ⟨w.heap.size, 0, none⟩ = false
  fp1 : wr.frozen? ⟨w.heap.size, 1, none⟩ = false
  g0 : wr.cell? ⟨gb, 0, none⟩ = some (.int .i64 wd)
  g1 : wr.cell? ⟨gb, 1, none⟩ = some v
  sz : w.heap.size + 2 ≤ gb ∧ gb < wr.heap.size
theorem OfInv.call {w wr w2 : World} {gb : Nat} {wd : Int} {v : Value} (h : OfInv w wr gb wd v) (hg : wr.grownBy w2 (some (w.heap.size + 1))) : OfInv w w2 gb wd v := by
  obtain ⟨s1, s2⟩ := h.sz
  have hz := hg.size
  have n1 : w.heap.size ≠ w.heap.size + 1 := by omega
  have n3 : gb ≠ w.heap.size + 1 := by omega
  exact ⟨⟨hg.os.trans h.hb.os, hg.tape.trans h.hb.tape, hg.output.trans h.hb.output, Nat.le_trans h.hb.size hg.size, fun k hk => (hg.block k (by omega) (by simp; omega)).trans (h.hb.block k hk)⟩,
    gcell hg n1 h.p0, gcell hg n1 h.p1, gfroz hg n1 h.p0 h.fp0, gfroz hg n1 h.p1 h.fp1, gcell hg n3 h.g0, gcell hg n3 h.g1, by omega⟩

theorem OfInv.below {w wr w2 : World} {gb : Nat} {wd : Int} {v : Value} (h : OfInv w wr gb wd v) (hb : Below wr.heap.size wr w2) : OfInv w w2 gb wd v :=
  h.call (belowP hb)
theorem OfInv.alloc {w wr : World} {gb : Nat} {wd : Int} {v : Value} (h : OfInv w wr gb wd v) (o : Obj) : OfInv w (wr.alloc o) gb wd v :=
  h.below ((Below.refl _ _).alloc (Nat.le_refl _) o)
theorem OfInv.set {w wr : World} {gb : Nat} {wd : Int} {v : Value} (h : OfInv w wr gb wd v) (blk j : Nat) (h1 : w.heap.size < blk) (h2 : blk ≠ gb) (u : Value) : OfInv w (wr.setCell ⟨blk, j, none⟩ u) gb wd v := by
  obtain ⟨s1, s2⟩ := h.sz
  exact ⟨h.hb.setCell (p := ⟨blk, j, none⟩) (Nat.le_of_lt h1) u, setc (by omega) h.p0, setc (by omega) h.p1, setf (by omega) h.fp0, setf (by omega) h.fp1, setc (by omega) h.g0, setc (by omega) h.g1, by simp; omega⟩

def yI (n : Nat) : Int := n
set_option maxRecDepth 100000 in
theorem ray_fin : ∀ W : Fin 5, ∀ H : Fin 5, ∀ k : Fin 20, k.val < 2 * (W.val + 1 + (H.val + 1)) →
    (0 ≤ (sRay (yI (W.val + 1)) (yI (H.val + 1)) (yI k.val)).1 ∧ (sRay (yI (W.val + 1)) (yI (H.val + 1)) (yI k.val)).1 ≤ 24) ∧ (0 ≤ (sRay (yI (W.val + 1)) (yI (H.val + 1)) (yI k.val)).2 ∧ (sRay (yI (W.val + 1)) (yI (H.val + 1)) (yI k.val)).2 ≤ 3) := by decide +kernel
theorem ray_in (W H k : Nat) (hW : 1 ≤ W ∧ W ≤ 5) (hH : 1 ≤ H ∧ H ≤ 5) (hk : k < 2 * (W + H)) (x d : Int) (hs : sRay W H k = (x, d)) : (0 ≤ x ∧ x ≤ 24) ∧ (0 ≤ d ∧ d ≤ 3) := by
  have h := ray_fin ⟨W - 1, by omega⟩ ⟨H - 1, by omega⟩ ⟨k, by omega⟩
  simp only [show W - 1 + 1 = W by omega, show H - 1 + 1 = H by omega, yI] at h
  rw [hs] at h
  exact h hk

set_option maxHeartbeats 8000000 in
theorem drawSightOf_any (a : Option Addr) (n cap : Nat) (f : Nat → Int) (w : World) (h : BytesAt w a n f) (hn : n ≤ 1048576) (hcap : n ≤ cap) (hc2 : cap ≤ 9223372036854775807) :
    Calls Try.prog 19 #[.slice a n cap] w fun e w' => ∃ (wd : Int) (a : Option Addr) (c : Nat) (xs : List (Int × Int)) (x d : Int), e = .returned (.tuple #[.agg #[.int .i64 wd, .slice a xs.length c], .int .i64 x, .int .i64 d]) ∧ CellsAt w' a xs ∧ xs.length ≤ 31 ∧ (-1 ≤ x ∧ x ≤ 31) ∧ (0 ≤ d ∧ d ≤ 4) ∧ Below w.heap.size w w' := by
  go_enter Try.func19, Try.ntmps19
  go_wp2_with fail
  refine (l6Open_any _ n _ f _ (h.below (by repeat (first | exact Below.refl _ _ | refine Below.alloc ?_ (by first | exact Nat.le_refl _ | (simp; done) | (simp; omega)) _ | refine Below.drew ?_ | refine Below.setCell ?_ (by first | exact Nat.le_refl _ | (simp; done) | (simp; omega)) _))) hn hcap hc2).mono ?_
  rintro e w1 ⟨rfl, hr1, hb1⟩
  have hz1 := hb1.size
  simp at hz1 hr1
  have s1 : w.heap.size + 1 < w1.heap.size := by have := hr1.lt; omega
  have p0 : w1.cell? ⟨w.heap.size, 0, none⟩ = some (.int .i64 0) := keepc hb1 (by simp [go_sem])
  have p1 : w1.cell? ⟨w.heap.size, 1, none⟩ = some (.slice none 0 0) := keepc hb1 (by simp [go_sem])
  have fp0 : w1.frozen? ⟨w.heap.size, 0, none⟩ = false := keepf hb1 (v := .int .i64 0) (by simp [go_sem]) (by simp [go_sem])
  have fp1 : w1.frozen? ⟨w.heap.size, 1, none⟩ = false := keepf hb1 (v := .slice none 0 0) (by simp [go_sem]) (by simp [go_sem])
  have hB1 : Below w.heap.size w w1 := bcall (by repeat (first | exact Below.refl _ _ | refine Below.alloc ?_ (by first | exact Nat.le_refl _ | (simp; done) | (simp; omega)) _ | refine Below.drew ?_ | refine Below.setCell ?_ (by first | exact Nat.le_refl _ | (simp; done) | (simp; omega)) _)) (by simp) hb1
  clear hb1
  go_wp2_with fail
  refine (l71Some_any _ (w.heap.size + 1) (w.heap.size + 1 + 1) 0 hr1 (by omega) (by omega)).mono ?_
  rintro e w2 ⟨wd, a2, c2, xs, rfl, ⟨hC2, hn2⟩, hxl, hr2, hg2⟩
  have hz2 := hg2.size
  have nr : w.heap.size ≠ w.heap.size + 1 := by omega
  replace fp0 := gfroz hg2 nr p0 fp0
  replace fp1 := gfroz hg2 nr p1 fp1
  replace p0 := gcell hg2 nr p0
  replace p1 := gcell hg2 nr p1
  have hB2 : Below w.heap.size w w2 := ⟨hg2.os.trans hB1.os, hg2.tape.trans hB1.tape, hg2.output.trans hB1.output, Nat.le_trans hB1.size hg2.size, fun k hk => (hg2.block k (by omega) (by simp; omega)).trans (hB1.block k hk)⟩
  have hbG : Below w2.heap.size w2 (w2.alloc (.cells #[.int .i64 wd, .slice a2 xs.length c2] 25)) := (by repeat (first | exact Below.refl _ _ | refine Below.alloc ?_ (by first | exact Nat.le_refl _ | (simp; done) | (simp; omega)) _ | refine Below.drew ?_ | refine Below.setCell ?_ (by first | exact Nat.le_refl _ | (simp; done) | (simp; omega)) _))
  clear hg2 hB1
  have hI : OfInv w (w2.alloc (.cells #[.int .i64 wd, .slice a2 xs.length c2] 25)) w2.heap.size wd (.slice a2 xs.length c2) :=
    ⟨bcall hB2 (by omega) hbG, keepc hbG p0, keepc hbG p1, keepf hbG p0 fp0, keepf hbG p1 fp1, by simp [go_sem], by simp [go_sem], by simp; omega⟩
  have hrz : RdQ (w2.alloc (.cells #[.int .i64 wd, .slice a2 xs.length c2] 25)) (w.heap.size + 1) (w.heap.size + 1 + 1) 90 := (hr2.below (hbG.mono (by omega))).more (by omega)
  have hCz := hC2.below hbG
  go_wp2_with fail
  obtain ⟨wz, hwz⟩ : ∃ wz, wz = w2.alloc (.cells #[.int .i64 wd, .slice a2 xs.length c2] 25) := ⟨_, rfl⟩
  rw [← hwz] at hI hrz hCz ⊢
  clear hwz fp0 fp1 p0 p1 hB2 hbG hC2 hr2 hr1
  have hz := hI.hb.size
  obtain ⟨s1, s2⟩ := hI.sz
  have n1 : w2.heap.size ≠ w.heap.size := by omega
  refine (pickQ 2 _ (w.heap.size + 1) (w.heap.size + 1 + 1) 90 hrz (by omega) (by omega)).mono ?_
  rintro e w3 ⟨v3, rfl, hv31, hv32, hr3, hg3⟩
  have hz3 := hg3.size
  have hI3 := hI.call hg3
  have hC3 := hCz.grown hg3 (fun b off e => by have := hn2 b off e; omega)
  clear hg3 hI hrz hCz
  by_cases hv0 : v3 = 0
  · have b0 : (v3 == 0) = true := by simp [hv0]
    obtain ⟨g0, g1⟩ := And.intro hI3.g0 hI3.g1
    go_wp2_with fail
    refine (specGridOk_any _ _ _ xs _ hC3 (by omega)).mono ?_
    rintro e w4 ⟨rfl, hb4⟩
    have hz4 := hb4.size
    have hI4 := hI3.below hb4
    have hC4 := hC3.below hb4
    have hr4 := hr3.below (hb4.mono (by omega))
    clear hb4 g0 g1 hI3 hC3 hr3
    rcases hk : okG wd xs with _ | _
    · skip
      obtain ⟨p0, p1, fp0, fp1⟩ := And.intro hI4.p0 (And.intro hI4.p1 (And.intro hI4.fp0 hI4.fp1))
      obtain ⟨g0, g1⟩ := And.intro hI4.g0 hI4.g1
      have hLz : w.heap.size + 1 + 1 ≤ w4.heap.size := by omega
      go_wp2_with fail
      go_region_held3 (fun w' => w'.cell? ⟨w2.heap.size, 0, none⟩ = some (.int .i64 wd) ∧ w'.cell? ⟨w2.heap.size, 1, none⟩ = some (.slice a2 xs.length c2))
        (first
          | with_reducible exact ⟨setc n1 (setc n1 hL.g0), setc n1 (setc n1 hL.g1)⟩
          | with_reducible exact ⟨hL.g0, hL.g1⟩
          | with_reducible exact ⟨hK.g0, hK.g1⟩
          | with_reducible exact ⟨hJ.g0, hJ.g1⟩
          | go_keep)
        (first
          | (go_at_call 55; refine (l71Place_any _ (w.heap.size + 1) (w.heap.size + 1 + 1) 91 (by first | exact hr4 | exact hr4.below (Below.refl _ _).drew) (by omega) (by first | exact hLz | (simp; omega)) wd a2 xs.length c2 hxl).mono ?_; rintro e w6 ⟨v6, rfl, hv1, hv2, hr6, hg6'⟩; have hg6 : w4.grownBy w6 (some (w.heap.size + 1)) := (by first | exact hg6' | exact gdrew hg6'); have hJ := hI4.call hg6; have hC6 := hC4.grown hg6 (fun b off e => by have := hn2 b off e; omega))
          | (go_at_call 53; refine (pickQ 24 _ (w.heap.size + 1) (w.heap.size + 1 + 1) 94 hr7 (by omega) (by omega)).mono ?_; rintro e w8 ⟨v8, rfl, hv5, hv6, hr8, hg8⟩; have hL := hK.call hg8; have hC8 := hC7.grown hg8 (fun b off e => by have := hn2 b off e; omega); obtain ⟨p0, p1, fp0, fp1⟩ := And.intro hL.p0 (And.intro hL.p1 (And.intro hL.fp0 hL.fp1)))
          | (go_at_call 53; refine (pickQ 4 _ (w.heap.size + 1) (w.heap.size + 1 + 1) 93 hr6 (by omega) (by omega)).mono ?_; rintro e w7 ⟨v7, rfl, hv3, hv4, hr7, hg7⟩; have hK := hJ.call hg7; have hC7 := hC6.grown hg7 (fun b off e => by have := hn2 b off e; omega))
          | fail)
      all_goals
        go_wp2
        have e1 : v8.tdiv 23 = v8 / 23 := Int.tdiv_eq_ediv_of_nonneg hv5
        have e2 : IntKind.i64.wrap (v8.tdiv 23) = v8 / 23 := by rw [e1]; exact IntWalk.i64_in _ (by omega)
        have e3 : IntKind.i64.wrap (v7 + IntKind.i64.wrap (v8.tdiv 23)) = v7 + v8 / 23 := by rw [e2]; exact IntWalk.i64_in _ (by omega)
        refine bodyPost_ret (v := .tuple #[.agg #[.int .i64 wd, .slice a2 xs.length c2], .int .i64 v6, .int .i64 (v7 + v8 / 23)]) (by simp [results, Try.results19, go_sem, p0, p1, e3]) rfl ⟨wd, a2, c2, xs, v6, v7 + v8 / 23, rfl, ?_, hxl, ⟨hv1, hv2⟩, by omega, ?_⟩
        · exact (hC8.set (bb := w.heap.size) (fun b off e => by have := hn2 b off e; omega) _).set (bb := w.heap.size) (fun b off e => by have := hn2 b off e; omega) _
        · exact (hL.hb.setCell (p := ⟨w.heap.size, 0, none⟩) (Nat.le_refl _) _).setCell (p := ⟨w.heap.size, 1, none⟩) (Nat.le_refl _) _
    · obtain ⟨W, H, rfl, h1, h2, h3, h4, el, hH, hHI⟩ := okG_nat wd xs hk
      obtain ⟨M, hM⟩ : ∃ M, 2 * ((W : Int) + (H : Int)) = M := ⟨_, rfl⟩
      have CM : Hid (∀ (w : World), Calls Try.prog 38 #[.agg #[.int .i64 (W : Int), .slice a2 xs.length c2]] w fun e w' => e = .returned (.int .i64 M) ∧ Below w.heap.size w w') := by
        intro w
        have := l3Many_any W H a2 xs.length c2 w ⟨h1, h2⟩ h4 (by omega) hH
        rw [hM] at this
        exact this
      have hM1 : 4 ≤ M ∧ M ≤ 20 := by omega
      have HS : Hid (∀ v rx rd : Int, 0 ≤ v → v < M → sRay (W : Int) (H : Int) v = (rx, rd) → (0 ≤ rx ∧ rx ≤ 24) ∧ (0 ≤ rd ∧ rd ≤ 3)) := by
        intro v rx rd q1 q2 q3
        obtain ⟨K, rfl⟩ := Int.eq_ofNat_of_zero_le q1
        have := ray_in W H K ⟨h1, h2⟩ ⟨h3, h4⟩ (by omega) rx rd q3
        exact this
      have hn3 : ∀ b off, a2 = some ⟨b, off, none⟩ → b < w4.heap.size := by
        have hpos : 1 ≤ W * H := Nat.mul_pos h1 h3
        intro b off e2
        rcases hC4 with h0 | ⟨b', off', e, hbl, _⟩
        · rw [h0] at el; simp at el; omega
        · rw [e] at e2
          simp only [Option.some.injEq, Addr.mk.injEq] at e2
          omega
      have EL : Hid (xs.length = W * H) := el
      clear el hH hHI hM
      have hbZ : Below w4.heap.size w4 (w4.alloc (.cells #[.int .i64 0, .int .i64 0] 29)) := (by repeat (first | exact Below.refl _ _ | refine Below.alloc ?_ (by first | exact Nat.le_refl _ | (simp; done) | (simp; omega)) _ | refine Below.drew ?_ | refine Below.setCell ?_ (by first | exact Nat.le_refl _ | (simp; done) | (simp; omega)) _))
      have hIZ := hI4.alloc (.cells #[.int .i64 0, .int .i64 0] 29)
      obtain ⟨p0, p1, fp0, fp1⟩ := And.intro hI4.p0 (And.intro hI4.p1 (And.intro hI4.fp0 hI4.fp1))
      obtain ⟨g0, g1⟩ := And.intro hI4.g0 hI4.g1
      go_wp2_with fail
      go_cut [7] (fun s7 w7 => ∃ (blk : Nat) (rx rd : Int), s7 = .pointer (some ⟨blk, 0, none⟩) ∧ ((0 ≤ rx ∧ rx ≤ 24) ∧ (0 ≤ rd ∧ rd ≤ 3)) ∧ w7.cell? ⟨blk, 0, none⟩ = some (.int .i64 rx) ∧ w7.cell? ⟨blk, 1, none⟩ = some (.int .i64 rd) ∧ w.heap.size + 1 < blk ∧ OfInv w w7 w2.heap.size (W : Int) (.slice a2 xs.length c2) ∧ CellsAt w7 a2 xs)
      case first =>
        go_region_held3 (fun w' => w'.cell? ⟨w2.heap.size, 0, none⟩ = some (.int .i64 (W : Int)) ∧ w'.cell? ⟨w2.heap.size, 1, none⟩ = some (.slice a2 xs.length c2))
          (first
              | with_reducible exact ⟨hICV.g0, hICV.g1⟩
              | with_reducible exact ⟨hICZ.g0, hICZ.g1⟩
              | with_reducible exact ⟨hIC.g0, hIC.g1⟩
              | with_reducible exact ⟨hIBZ.g0, hIBZ.g1⟩
              | with_reducible exact ⟨hIB.g0, hIB.g1⟩
              | with_reducible exact ⟨hIAZ.g0, hIAZ.g1⟩
              | with_reducible exact ⟨hIA.g0, hIA.g1⟩
              | with_reducible exact ⟨hIZ.g0, hIZ.g1⟩
              | with_reducible exact ⟨hI4.g0, hI4.g1⟩
              | exact ⟨setc (by omega) (setc (by omega) hIC.g0), setc (by omega) (setc (by omega) hIC.g1)⟩
              | go_keep)
          (first
              | (go_at_call 38; refine (CM.out _).mono ?_; rintro e wA ⟨rfl, hbA'⟩; have hbA : Below w4.heap.size w4 wA := (by first | exact hbA' | exact bdrew hbA'); have hzA := hbA.size; have hIA := hI4.below hbA; have hIAZ := hIA.alloc (.cells #[.int .i64 0, .int .i64 0] 29); have hrA := hr4.below (hbA.mono (by omega)); have hCA := hC4.below hbA)
              | (go_at_call 38; refine (CM.out _).mono ?_; rintro e wA ⟨rfl, hbA'⟩; have hbA2 : Below (w4.alloc (.cells #[.int .i64 0, .int .i64 0] 29)).heap.size (w4.alloc (.cells #[.int .i64 0, .int .i64 0] 29)) wA := (by first | exact hbA' | exact bdrew hbA'); have hbA : Below w4.heap.size w4 wA := bcall hbZ hbZ.size hbA2; have hzA := hbA2.size; simp at hzA; have hIA := hI4.below hbA; have hrA := hr4.below (hbA.mono (by omega)); have hCA := hC4.below hbA; have z0 : wA.cell? ⟨w4.heap.size, 0, none⟩ = some (.int .i64 0) := keepc hbA2 (by simp [go_sem]); have z1 : wA.cell? ⟨w4.heap.size, 1, none⟩ = some (.int .i64 0) := keepc hbA2 (by simp [go_sem]); have zf0 : wA.frozen? ⟨w4.heap.size, 0, none⟩ = false := keepf hbA2 (v := .int .i64 0) (by simp [go_sem]) (by simp [go_sem]); have zf1 : wA.frozen? ⟨w4.heap.size, 1, none⟩ = false := keepf hbA2 (v := .int .i64 0) (by simp [go_sem]) (by simp [go_sem]))
              | (go_at_call 53; refine (pickQ M _ (w.heap.size + 1) (w.heap.size + 1 + 1) 92 (hrA.more (by omega)) (by omega) (by omega)).mono ?_; rintro e wB ⟨vB, rfl, hvB1, hvB2, hrB, hgB'⟩; have hgB : wA.grownBy wB (some (w.heap.size + 1)) := hgB'; have hzB := hgB.size; have hIB := hIA.call hgB; have hIBZ := hIB.alloc (.cells #[.int .i64 0, .int .i64 0] 29); have hCB := hCA.grown hgB (fun b off e => by have := hn2 b off e; omega); obtain ⟨rx, rd, hray⟩ : ∃ rx rd, sRay (W : Int) (H : Int) vB = (rx, rd) := ⟨_, _, rfl⟩; have HR : Hid (sRay (W : Int) (H : Int) vB = (rx, rd)) := hray; clear hray; (try (replace zf0 := gfroz hgB (by omega) z0 zf0; replace zf1 := gfroz hgB (by omega) z1 zf1; replace z0 := gcell hgB (by omega) z0; replace z1 := gcell hgB (by omega) z1)))
              | (go_at_call 53; refine (pickQ M _ (w.heap.size + 1) (w.heap.size + 1 + 1) 92 ((hrA.below ((Below.refl _ wA).alloc (by omega) (.cells #[.int .i64 0, .int .i64 0] 29))).more (by omega)) (by omega) (by omega)).mono ?_; rintro e wB ⟨vB, rfl, hvB1, hvB2, hrB, hgB'⟩; have hgB : (wA.alloc (.cells #[.int .i64 0, .int .i64 0] 29)).grownBy wB (some (w.heap.size + 1)) := hgB'; have hzB := hgB.size; simp at hzB; have hIB := hIAZ.call hgB; have hIBZ := hIB.alloc (.cells #[.int .i64 0, .int .i64 0] 29); have hCB := (hCA.below ((Below.refl _ wA).alloc (Nat.le_refl _) (.cells #[.int .i64 0, .int .i64 0] 29))).grown hgB (fun b off e => by have := hn2 b off e; omega); obtain ⟨rx, rd, hray⟩ : ∃ rx rd, sRay (W : Int) (H : Int) vB = (rx, rd) := ⟨_, _, rfl⟩; have HR : Hid (sRay (W : Int) (H : Int) vB = (rx, rd)) := hray; clear hray; have y0 : wB.cell? ⟨wA.heap.size, 0, none⟩ = some (.int .i64 0) := gcell hgB (by omega) (by simp [go_sem]); have y1 : wB.cell? ⟨wA.heap.size, 1, none⟩ = some (.int .i64 0) := gcell hgB (by omega) (by simp [go_sem]); have yf0 : wB.frozen? ⟨wA.heap.size, 0, none⟩ = false := gfroz hgB (by omega) (v := .int .i64 0) (by simp [go_sem]) (by simp [go_sem]); have yf1 : wB.frozen? ⟨wA.heap.size, 1, none⟩ = false := gfroz hgB (by omega) (v := .int .i64 0) (by simp [go_sem]) (by simp [go_sem]))
              | (go_at_call 39; refine (l3Ray_any W H _ _ _ _ ⟨h1, h2⟩ ⟨h3, h4⟩ EL.out vB (by omega) rx rd HR.out).mono ?_; rintro e wC ⟨rfl, hbC'⟩; have hbC : Below wB.heap.size wB wC := hbC'; have hzC := hbC.size; have hIC := hIB.below hbC; have hICZ := hIC.alloc (.cells #[.int .i64 0, .int .i64 0] 29); have hICV := hIC.alloc (.cells #[.int .i64 rx, .int .i64 rd] 29); have hCC := hCB.below hbC; (try (replace zf0 := keepf hbC z0 zf0; replace zf1 := keepf hbC z1 zf1; replace z0 := keepc hbC z0; replace z1 := keepc hbC z1)); (try (replace yf0 := keepf hbC y0 yf0; replace yf1 := keepf hbC y1 yf1; replace y0 := keepc hbC y0; replace y1 := keepc hbC y1)))
              | (go_at_call 39; refine (l3Ray_any W H _ _ _ _ ⟨h1, h2⟩ ⟨h3, h4⟩ EL.out vB (by omega) rx rd HR.out).mono ?_; rintro e wC ⟨rfl, hbC'⟩; have hbC2 : Below (wB.alloc (.cells #[.int .i64 0, .int .i64 0] 29)).heap.size (wB.alloc (.cells #[.int .i64 0, .int .i64 0] 29)) wC := hbC'; have hbC : Below wB.heap.size wB wC := bcall ((Below.refl _ _).alloc (Nat.le_refl _) _) (by simp) hbC2; have hzC := hbC2.size; simp at hzC; have hIC := hIB.below hbC; have hCC := hCB.below hbC; have x0 : wC.cell? ⟨wB.heap.size, 0, none⟩ = some (.int .i64 0) := keepc hbC2 (by simp [go_sem]); have x1 : wC.cell? ⟨wB.heap.size, 1, none⟩ = some (.int .i64 0) := keepc hbC2 (by simp [go_sem]); have xf0 : wC.frozen? ⟨wB.heap.size, 0, none⟩ = false := keepf hbC2 (v := .int .i64 0) (by simp [go_sem]) (by simp [go_sem]); have xf1 : wC.frozen? ⟨wB.heap.size, 1, none⟩ = false := keepf hbC2 (v := .int .i64 0) (by simp [go_sem]) (by simp [go_sem]))
              | fail)
        · have hC7 := hCC.below ((Below.refl _ wC).alloc (Nat.le_refl _) (.cells #[.int .i64 rx, .int .i64 rd] 29))
          have hz7 := hIC.hb.size
          have t0 : (wC.alloc (.cells #[.int .i64 rx, .int .i64 rd] 29)).cell? ⟨wC.heap.size, 0, none⟩ = some (.int .i64 rx) := by simp [go_sem]
          have t1 : (wC.alloc (.cells #[.int .i64 rx, .int .i64 rd] 29)).cell? ⟨wC.heap.size, 1, none⟩ = some (.int .i64 rd) := by simp [go_sem]
          go_wp2_with fail
          go_meet
          case rel => exact ⟨_, _, _, rfl, HS.out vB rx rd hvB1 hvB2 HR.out, t0, t1, by have := hIC.sz; omega, hICV, hC7⟩
        · have hz7 := hIC.hb.size
          have hC7 := (hCC.set (bb := wB.heap.size) (fun b off e => by have := hn3 b off e; omega) (j := 0) (.int .i64 rx)).set (bb := wB.heap.size) (fun b off e => by have := hn3 b off e; omega) (j := 1) (.int .i64 rd)
          have hI7 := (hIC.set wB.heap.size 0 (by omega) (by omega) (.int .i64 rx)).set wB.heap.size 1 (by omega) (by omega) (.int .i64 rd)
          have t0 : ((wC.setCell ⟨wB.heap.size, 0, none⟩ (.int .i64 rx)).setCell ⟨wB.heap.size, 1, none⟩ (.int .i64 rd)).cell? ⟨wB.heap.size, 0, none⟩ = some (.int .i64 rx) := by simp [go_sem, x0]
          have t1 : ((wC.setCell ⟨wB.heap.size, 0, none⟩ (.int .i64 rx)).setCell ⟨wB.heap.size, 1, none⟩ (.int .i64 rd)).cell? ⟨wB.heap.size, 1, none⟩ = some (.int .i64 rd) := by simp [go_sem, x1]
          go_wp2_with fail
          go_meet
          case rel => exact ⟨_, _, _, rfl, HS.out vB rx rd hvB1 hvB2 HR.out, t0, t1, by omega, hI7, hC7⟩
        · have hz7 := hIC.hb.size
          have hC7 := (hCC.set (bb := wA.heap.size) (fun b off e => by have := hn3 b off e; omega) (j := 0) (.int .i64 rx)).set (bb := wA.heap.size) (fun b off e => by have := hn3 b off e; omega) (j := 1) (.int .i64 rd)
          have hI7 := (hIC.set wA.heap.size 0 (by omega) (by omega) (.int .i64 rx)).set wA.heap.size 1 (by omega) (by omega) (.int .i64 rd)
          have t0 : ((wC.setCell ⟨wA.heap.size, 0, none⟩ (.int .i64 rx)).setCell ⟨wA.heap.size, 1, none⟩ (.int .i64 rd)).cell? ⟨wA.heap.size, 0, none⟩ = some (.int .i64 rx) := by simp [go_sem, y0]
          have t1 : ((wC.setCell ⟨wA.heap.size, 0, none⟩ (.int .i64 rx)).setCell ⟨wA.heap.size, 1, none⟩ (.int .i64 rd)).cell? ⟨wA.heap.size, 1, none⟩ = some (.int .i64 rd) := by simp [go_sem, y1]
          go_wp2_with fail
          go_meet
          case rel => exact ⟨_, _, _, rfl, HS.out vB rx rd hvB1 hvB2 HR.out, t0, t1, by omega, hI7, hC7⟩
        · have hz7 := hIC.hb.size
          have hC7 := (hCC.set (bb := w4.heap.size) (fun b off e => by have := hn3 b off e; omega) (j := 0) (.int .i64 rx)).set (bb := w4.heap.size) (fun b off e => by have := hn3 b off e; omega) (j := 1) (.int .i64 rd)
          have hI7 := (hIC.set w4.heap.size 0 (by omega) (by omega) (.int .i64 rx)).set w4.heap.size 1 (by omega) (by omega) (.int .i64 rd)
          have t0 : ((wC.setCell ⟨w4.heap.size, 0, none⟩ (.int .i64 rx)).setCell ⟨w4.heap.size, 1, none⟩ (.int .i64 rd)).cell? ⟨w4.heap.size, 0, none⟩ = some (.int .i64 rx) := by simp [go_sem, z0]
          have t1 : ((wC.setCell ⟨w4.heap.size, 0, none⟩ (.int .i64 rx)).setCell ⟨w4.heap.size, 1, none⟩ (.int .i64 rd)).cell? ⟨w4.heap.size, 1, none⟩ = some (.int .i64 rd) := by simp [go_sem, z1]
          go_wp2_with fail
          go_meet
          case rel => exact ⟨_, _, _, rfl, HS.out vB rx rd hvB1 hvB2 HR.out, t0, t1, by omega, hI7, hC7⟩
      case rest =>
        rename World => w7
        obtain ⟨blk, rx, rd, rfl, ⟨⟨hx1, hx2⟩, ⟨hd1, hd2⟩⟩, t0, t1, hblk, hI7, hC7⟩ := hcut
        clear p0 p1 fp0 fp1 g0 g1
        obtain ⟨p0, p1, fp0, fp1⟩ := And.intro hI7.p0 (And.intro hI7.p1 (And.intro hI7.fp0 hI7.fp1))
        obtain ⟨g0, g1⟩ := And.intro hI7.g0 hI7.g1
        have n1 : w2.heap.size ≠ w.heap.size := by omega
        have n2 : blk ≠ w.heap.size := by omega
        go_wp2_with fail
        go_region_held3 (fun w' => w'.cell? ⟨w2.heap.size, 0, none⟩ = some (.int .i64 (W : Int)) ∧ w'.cell? ⟨w2.heap.size, 1, none⟩ = some (.slice a2 xs.length c2) ∧ w'.cell? ⟨blk, 0, none⟩ = some (.int .i64 rx) ∧ w'.cell? ⟨blk, 1, none⟩ = some (.int .i64 rd))
          (first
            | with_reducible exact ⟨g0, g1, t0, t1⟩
            | exact ⟨setc n1 (setc n1 g0), setc n1 (setc n1 g1), setc n2 (setc n2 t0), setc n2 (setc n2 t1)⟩
            | go_keep)
          (first
            | (go_at_call 54; refine (l2Back_any rd hd1 hd2 _).mono ?_; rintro e w' ⟨rfl, rfl⟩)
            | fail)
        all_goals
          go_wp2
          refine bodyPost_ret (v := .tuple #[.agg #[.int .i64 (W : Int), .slice a2 xs.length c2], .int .i64 rx, .int .i64 ((rd + 2) % 4)]) (by simp [results, Try.results19, go_sem, p0, p1]) rfl ⟨(W : Int), a2, c2, xs, rx, (rd + 2) % 4, rfl, ?_, hxl, by omega, by omega, ?_⟩
          · first
              | exact (hC7.set (bb := w.heap.size) (fun b off e => by have := hn2 b off e; omega) _).set (bb := w.heap.size) (fun b off e => by have := hn2 b off e; omega) _
              | exact ((hC7.set (bb := w.heap.size) (fun b off e => by have := hn2 b off e; omega) _).set (bb := w.heap.size) (fun b off e => by have := hn2 b off e; omega) _).below (Below.refl _ _).drew
          · first
              | exact (hI7.hb.setCell (p := ⟨w.heap.size, 0, none⟩) (Nat.le_refl _) _).setCell (p := ⟨w.heap.size, 1, none⟩) (Nat.le_refl _) _
              | exact ((hI7.hb.setCell (p := ⟨w.heap.size, 0, none⟩) (Nat.le_refl _) _).setCell (p := ⟨w.heap.size, 1, none⟩) (Nat.le_refl _) _).drew
  · have b0 : (v3 == 0) = false := by simp [hv0]
    obtain ⟨p0, p1, fp0, fp1⟩ := And.intro hI3.p0 (And.intro hI3.p1 (And.intro hI3.fp0 hI3.fp1))
    obtain ⟨g0, g1⟩ := And.intro hI3.g0 hI3.g1
    have hLz : w.heap.size + 1 + 1 ≤ w3.heap.size := by omega
    go_wp2_with fail
    go_region_held3 (fun w' => w'.cell? ⟨w2.heap.size, 0, none⟩ = some (.int .i64 wd) ∧ w'.cell? ⟨w2.heap.size, 1, none⟩ = some (.slice a2 xs.length c2))
      (first
        | with_reducible exact ⟨setc n1 (setc n1 hL.g0), setc n1 (setc n1 hL.g1)⟩
        | with_reducible exact ⟨hL.g0, hL.g1⟩
        | with_reducible exact ⟨hK.g0, hK.g1⟩
        | with_reducible exact ⟨hJ.g0, hJ.g1⟩
        | go_keep)
      (first
        | (go_at_call 55; refine (l71Place_any _ (w.heap.size + 1) (w.heap.size + 1 + 1) 91 (by first | exact hr3 | exact hr3.below (Below.refl _ _).drew) (by omega) (by first | exact hLz | (simp; omega)) wd a2 xs.length c2 hxl).mono ?_; rintro e w6 ⟨v6, rfl, hv1, hv2, hr6, hg6'⟩; have hg6 : w3.grownBy w6 (some (w.heap.size + 1)) := (by first | exact hg6' | exact gdrew hg6'); have hJ := hI3.call hg6; have hC6 := hC3.grown hg6 (fun b off e => by have := hn2 b off e; omega))
        | (go_at_call 53; refine (pickQ 24 _ (w.heap.size + 1) (w.heap.size + 1 + 1) 94 hr7 (by omega) (by omega)).mono ?_; rintro e w8 ⟨v8, rfl, hv5, hv6, hr8, hg8⟩; have hL := hK.call hg8; have hC8 := hC7.grown hg8 (fun b off e => by have := hn2 b off e; omega); obtain ⟨p0, p1, fp0, fp1⟩ := And.intro hL.p0 (And.intro hL.p1 (And.intro hL.fp0 hL.fp1)))
        | (go_at_call 53; refine (pickQ 4 _ (w.heap.size + 1) (w.heap.size + 1 + 1) 93 hr6 (by omega) (by omega)).mono ?_; rintro e w7 ⟨v7, rfl, hv3, hv4, hr7, hg7⟩; have hK := hJ.call hg7; have hC7 := hC6.grown hg7 (fun b off e => by have := hn2 b off e; omega))
        | fail)
    all_goals
      go_wp2
      have e1 : v8.tdiv 23 = v8 / 23 := Int.tdiv_eq_ediv_of_nonneg hv5
      have e2 : IntKind.i64.wrap (v8.tdiv 23) = v8 / 23 := by rw [e1]; exact IntWalk.i64_in _ (by omega)
      have e3 : IntKind.i64.wrap (v7 + IntKind.i64.wrap (v8.tdiv 23)) = v7 + v8 / 23 := by rw [e2]; exact IntWalk.i64_in _ (by omega)
      refine bodyPost_ret (v := .tuple #[.agg #[.int .i64 wd, .slice a2 xs.length c2], .int .i64 v6, .int .i64 (v7 + v8 / 23)]) (by simp [results, Try.results19, go_sem, p0, p1, e3]) rfl ⟨wd, a2, c2, xs, v6, v7 + v8 / 23, rfl, ?_, hxl, ⟨hv1, hv2⟩, by omega, ?_⟩
      · exact (hC8.set (bb := w.heap.size) (fun b off e => by have := hn2 b off e; omega) _).set (bb := w.heap.size) (fun b off e => by have := hn2 b off e; omega) _
      · exact (hL.hb.setCell (p := ⟨w.heap.size, 0, none⟩) (Nat.le_refl _) _).setCell (p := ⟨w.heap.size, 1, none⟩) (Nat.le_refl _) _
end Go.Proofs.Ytankkkiccokggaa
