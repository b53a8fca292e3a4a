/-
  DrawTrailTo draws a grid and two sights: the cells lie in new memory, at most 31.
-/
import Derived.Test.YtdlnmdmdoebecaaDw
import Derived.Test.YtdlnmdmdoebecaaUk
namespace Go.Proofs.Ytdlnmdmdoebecaa
open Go.RowKit
set_option linter.unusedVariables false
attribute [local go_sem ↓] Go.wp_at_zero Go.wp_at_succ

theorem r3_new {w : World} {B : Nat} {t : TypeId} {v : Value} {es : List (Int × Int × Int)} (h : w.ownsRow B t 3 v es.length (flat3 es)) : ∃ a cap, v = .slice a es.length cap ∧ R3At w a es ∧ ∀ b off, a = some ⟨b, off, none⟩ → B ≤ b := by
  obtain ⟨a, cap, e, hR⟩ := row3_at h
  refine ⟨a, cap, e, hR, fun b off ea => ?_⟩
  rcases h.2 with ⟨q, _⟩ | ⟨g, c, cur, q, hg, _⟩
  · rw [e, ea] at q; simp at q
  · rw [e, ea] at q
    simp only [Value.slice.injEq, Option.some.injEq, Addr.mk.injEq, and_true] at q
    omega
theorem R3At.grown {w w' : World} {rb : Nat} {a : Option Addr} {es : List (Int × Int × Int)} (h : R3At w a es) (hg : w.grownBy w' (some rb)) (hne : ∀ b off, a = some ⟨b, off, none⟩ → b ≠ rb) : R3At w' a es := by
  rcases h with q | ⟨b, off, rfl, hbl, hc⟩
  · exact Or.inl q
  · have := hne b off rfl
    exact Or.inr ⟨b, off, rfl, Nat.lt_of_lt_of_le hbl hg.size, fun i hi => ⟨gcell hg this (hc i hi).1, gcell hg this (hc i hi).2.1, gcell hg this (hc i hi).2.2⟩⟩

/-- What stands while the second sight is sought. -/
structure DT (w wr : World) (gb : Nat) (wd : Int) (a : Option Addr) (c : Nat) (xs : List (Int × Int)) (P : Nat) : Prop where
  sig : SigInv w wr gb wd (.slice a xs.length c)
  rd : RdQ wr (w.heap.size + 1) (w.heap.size + 1 + 1) P
  cells : CellsAt wr a xs
  new : ∀ b off, a = some ⟨b, off, none⟩ → xs ≠ [] → w.heap.size + 2 ≤ b
theorem DT.lt {w wr : World} {gb : Nat} {wd : Int} {a : Option Addr} {c : Nat} {xs : List (Int × Int)} {P : Nat} (h : DT w wr gb wd a c xs P) : w.heap.size + 1 + 1 ≤ wr.heap.size := by have := h.sig.sz; omega
theorem DT.more {w wr : World} {gb : Nat} {wd : Int} {a : Option Addr} {c : Nat} {xs : List (Int × Int)} {P P' : Nat} (h : DT w wr gb wd a c xs P) (hp : P ≤ P') : DT w wr gb wd a c xs P' := ⟨h.sig, h.rd.more hp, h.cells, h.new⟩
theorem DT.call {w wr w2 : World} {gb : Nat} {wd : Int} {a : Option Addr} {c : Nat} {xs : List (Int × Int)} {P P' : Nat} (h : DT w wr gb wd a c xs P) (hg : wr.grownBy w2 (some (w.heap.size + 1))) (hr : RdQ w2 (w.heap.size + 1) (w.heap.size + 1 + 1) P') : DT w w2 gb wd a c xs P' :=
  ⟨h.sig.call hg, hr, by
    by_cases hx : xs = []
    · exact Or.inl hx
    · exact h.cells.grown hg (fun b off e => by have := h.new b off e hx; omega), h.new⟩
theorem DT.below {w wr w2 : World} {gb : Nat} {wd : Int} {a : Option Addr} {c : Nat} {xs : List (Int × Int)} {P : Nat} (h : DT w wr gb wd a c xs P) (hb : Below wr.heap.size wr w2) : DT w w2 gb wd a c xs P :=
  ⟨h.sig.below hb, h.rd.below (hb.mono h.lt), h.cells.below hb, h.new⟩

set_option maxRecDepth 20000 in
set_option maxHeartbeats 4000000 in
theorem drawTrailTo_any (a : Option Addr) (n cap : Nat) (f : Nat → Int) (w : World) (h : BytesAt w a n f) (hn : n ≤ 1048576) (hcap : n ≤ cap) (hc2 : cap ≤ 9223372036854775807) :
    Calls Try.prog 12 #[.slice a n cap] w fun e w' => ∃ (wd : Int) (a : Option Addr) (c : Nat) (xs : List (Int × Int)) (k q : Int), e = .returned (.tuple #[.agg #[.int .i64 wd, .slice a xs.length c], .int .i64 k, .int .i64 q]) ∧ CellsAt w' a xs ∧ xs.length ≤ 31 ∧ Below w.heap.size w w' := by
  go_enter Try.func12, Try.ntmps12
  go_wp2_with fail
  refine (l6Open_any _ n _ f _ (h.below (by repeat (first | exact Below.refl _ _ | refine Below.alloc ?_ (by first | exact Nat.le_refl _ | (simp; done) | (simp; omega)) _ | refine Below.drew ?_ | refine Below.setCell ?_ (by first | exact Nat.le_refl _ | (simp; done) | (simp; omega)) _))) hn hcap hc2).mono ?_
  rintro e w1 ⟨rfl, hr1, hb1⟩
  have hz1 := hb1.size
  simp at hz1 hr1
  have s1 : w.heap.size + 1 < w1.heap.size := by have := hr1.lt; omega
  have p0 : w1.cell? ⟨w.heap.size, 0, none⟩ = some (.int .i64 0) := keepc hb1 (by simp [go_sem])
  have p1 : w1.cell? ⟨w.heap.size, 1, none⟩ = some (.slice none 0 0) := keepc hb1 (by simp [go_sem])
  have fp0 : w1.frozen? ⟨w.heap.size, 0, none⟩ = false := keepf hb1 (v := .int .i64 0) (by simp [go_sem]) (by simp [go_sem])
  have fp1 : w1.frozen? ⟨w.heap.size, 1, none⟩ = false := keepf hb1 (v := .slice none 0 0) (by simp [go_sem]) (by simp [go_sem])
  have hB1 : Below w.heap.size w w1 := bcall (by repeat (first | exact Below.refl _ _ | refine Below.alloc ?_ (by first | exact Nat.le_refl _ | (simp; done) | (simp; omega)) _ | refine Below.drew ?_ | refine Below.setCell ?_ (by first | exact Nat.le_refl _ | (simp; done) | (simp; omega)) _)) (by simp) hb1
  clear hb1
  go_wp2_with fail
  refine (l71Bright_any _ (w.heap.size + 1) (w.heap.size + 1 + 1) 0 hr1 (by omega) (by omega)).mono ?_
  rintro e w2 ⟨wd, a2, c2, xs, rfl, hC2, hn2, hxl, hr2, hg2⟩
  have hz2 := hg2.size
  have nr : w.heap.size ≠ w.heap.size + 1 := by omega
  replace fp0 := gfroz hg2 nr p0 fp0
  replace fp1 := gfroz hg2 nr p1 fp1
  replace p0 := gcell hg2 nr p0
  replace p1 := gcell hg2 nr p1
  have hB2 : Below w.heap.size w w2 := ⟨hg2.os.trans hB1.os, hg2.tape.trans hB1.tape, hg2.output.trans hB1.output, Nat.le_trans hB1.size hg2.size, fun k hk => (hg2.block k (by omega) (by simp; omega)).trans (hB1.block k hk)⟩
  have hbG : Below w2.heap.size w2 (w2.alloc (.cells #[.int .i64 wd, .slice a2 xs.length c2] 25)) := (by repeat (first | exact Below.refl _ _ | refine Below.alloc ?_ (by first | exact Nat.le_refl _ | (simp; done) | (simp; omega)) _ | refine Below.drew ?_ | refine Below.setCell ?_ (by first | exact Nat.le_refl _ | (simp; done) | (simp; omega)) _))
  clear hg2 hB1
  have hI : SigInv w (w2.alloc (.cells #[.int .i64 wd, .slice a2 xs.length c2] 25)) w2.heap.size wd (.slice a2 xs.length c2) :=
    ⟨bcall hB2 (by omega) hbG, keepc hbG p0, keepc hbG p1, keepf hbG p0 fp0, keepf hbG p1 fp1, by simp [go_sem], by simp [go_sem], by simp; omega⟩
  have hD : DT w (w2.alloc (.cells #[.int .i64 wd, .slice a2 xs.length c2] 25)) w2.heap.size wd a2 c2 xs 100 :=
    ⟨hI, (hr2.below (hbG.mono (by omega))).more (by omega), hC2.below hbG, fun b off e hx => by have := hn2 b off e hx; omega⟩
  clear hI hbG hB2 hC2 hn2 hr2 hr1 fp0 fp1 p0 p1
  obtain ⟨wz, hwz⟩ : ∃ wz, wz = w2.alloc (.cells #[.int .i64 wd, .slice a2 xs.length c2] 25) := ⟨_, rfl⟩
  obtain ⟨gb, egb⟩ : ∃ gb, w2.heap.size = gb := ⟨_, rfl⟩
  have hlz := hD.lt
  obtain ⟨g0, g1⟩ := And.intro hD.sig.g0 hD.sig.g1
  go_wp2_with fail
  refine (l71Sight_any _ (w.heap.size + 1) (w.heap.size + 1 + 1) 100 hD.rd (by omega) hlz wd a2 c2 xs hD.cells hxl).mono ?_
  rintro e w3 ⟨k3, rfl, hk1, hk2, hr3, hg3⟩
  have hD3 := hD.call hg3 hr3
  clear hD hr3 hg3 g0 g1 hlz hwz wz
  rw [egb] at hD3
  try rw [egb]
  clear egb
  have hl3 := hD3.lt
  obtain ⟨g0, g1⟩ := And.intro hD3.sig.g0 hD3.sig.g1
  go_wp2_with fail
  refine (l71Sight_any _ (w.heap.size + 1) (w.heap.size + 1 + 1) 102 hD3.rd (by omega) hl3 wd a2 c2 xs hD3.cells hxl).mono ?_
  rintro e w4 ⟨k4, rfl, hk3, hk4, hr4, hg4⟩
  have hD4 := hD3.call hg4 hr4
  clear hD3 hr4 hg4 g0 g1 hl3
  obtain ⟨ES, hES⟩ : ∃ ES, (trailT wd xs k3).2 = ES := ⟨_, rfl⟩
  have EE : Hid ((trailT wd xs k3).2 = ES) := hES
  have ke4 := (ends_known (rfl : trailT wd xs k3 = trailT wd xs k3)).2.2.2.1
  rw [hES] at ke4
  clear hES
  have hl4 := hD4.lt
  obtain ⟨g0, g1⟩ := And.intro hD4.sig.g0 hD4.sig.g1
  go_wp2_with fail
  refine (specEnds_any wd a2 c2 xs _ hD4.cells (by omega) k3).mono ?_
  rw [EE.out]
  rintro e w5 ⟨a9, c9, rfl, hO5, hb5⟩
  obtain ⟨a9', c9', e9, hR5, hN5⟩ := r3_new hO5
  simp only [Value.slice.injEq, true_and] at e9
  obtain ⟨rfl, rfl⟩ := e9
  have hD5 := hD4.below hb5
  have hN : ∀ b off, a9 = some ⟨b, off, none⟩ → b ≠ w.heap.size + 1 := fun b off e => by have := hN5 b off e; omega
  clear hD4 hb5 hO5 hN5 g0 g1 hl4
  go_wp2_with fail
  go_loopw [8, 10] (fun tt ii wr => ∃ (i : Nat) (q : Int), i ≤ ES.length ∧ ii = .int .i64 i ∧ tt = .int .i64 q ∧ R3At wr a9 ES ∧ DT w wr gb wd a2 c2 xs (104 + i)) (fun _ ii _ => ES.length - (intOf ii).toNat)
  case atStart => exact ⟨0, k4, by omega, rfl, rfl, hR5, hD5⟩
  case round =>
    rename World => wp
    obtain ⟨i, q, hi, rfl, rfl, hR, hDp⟩ := hrel
    have hlp := hDp.lt
    by_cases hlt : i < ES.length
    · obtain ⟨b, off, ea, z0, z1, z2⟩ := hR.at hlt
      subst ea
      obtain ⟨t, et⟩ : ∃ t, ES.getD i (0, 0, 0) = t := ⟨_, rfl⟩
      rw [et] at z0 z1 z2
      obtain ⟨t0, t1, t2⟩ := t
      simp only at z0 z1 z2
      clear et z2
      by_cases q0 : t0 = 0
      · have b0 : (t0 == 0) = true := by simp [q0]
        clear q0
        go_wp2_with fail
        refine (pickQ 3 _ (w.heap.size + 1) (w.heap.size + 1 + 1) (104 + i) hDp.rd (by omega) (by omega)).mono ?_
        rintro e wq ⟨u, rfl, hu1, hu2, hrq, hgq⟩
        have hDq := hDp.call hgq hrq
        have hRq := hR.grown hgq hN
        replace z1 := gcell hgq (hN _ _ rfl) z1
        by_cases hu : 0 < u
        · have bu : decide ((0 : Int) < u) = true := decide_eq_true hu
          go_wp2_with fail
          go_roundw
          case rel => exact ⟨i + 1, t1, by omega, by go_num, rfl, hRq, hDq.more (by omega)⟩
          case measure => simp [intOf]; omega
        · have bu : decide ((0 : Int) < u) = false := decide_eq_false hu
          go_wp2_with fail
          go_roundw
          case rel => exact ⟨i + 1, q, by omega, by go_num, rfl, hRq, hDq.more (by omega)⟩
          case measure => simp [intOf]; omega
      · have b0 : (t0 == 0) = false := by simp [q0]
        clear q0
        go_wp2_with fail
        go_roundw
        case rel => exact ⟨i + 1, q, by omega, by go_num, rfl, hR, hDp.more (by omega)⟩
        case measure => simp [intOf]; omega
    · obtain ⟨p0, p1, fp0, fp1⟩ := And.intro hDp.sig.p0 (And.intro hDp.sig.p1 (And.intro hDp.sig.fp0 hDp.sig.fp1))
      obtain ⟨g0, g1⟩ := And.intro hDp.sig.g0 hDp.sig.g1
      have hf : CellsAt ((wp.setCell ⟨w.heap.size, 0, none⟩ (.int .i64 wd)).setCell ⟨w.heap.size, 1, none⟩ (.slice a2 xs.length c2)) a2 xs ∧ Below w.heap.size w ((wp.setCell ⟨w.heap.size, 0, none⟩ (.int .i64 wd)).setCell ⟨w.heap.size, 1, none⟩ (.slice a2 xs.length c2)) := by
        refine ⟨?_, (hDp.sig.hb.setCell (p := ⟨w.heap.size, 0, none⟩) (Nat.le_refl _) _).setCell (p := ⟨w.heap.size, 1, none⟩) (Nat.le_refl _) _⟩
        by_cases hx : xs = []
        · exact Or.inl hx
        · exact (hDp.cells.set (bb := w.heap.size) (fun b off e => by have := hDp.new b off e hx; omega) _).set (bb := w.heap.size) (fun b off e => by have := hDp.new b off e hx; omega) _
      go_wp2
      refine bodyPost_ret (v := .tuple #[.agg #[.int .i64 wd, .slice a2 xs.length c2], .int .i64 k3, .int .i64 q]) (by simp [results, Try.results12, go_sem, p0, p1]) rfl ⟨wd, a2, c2, xs, k3, q, rfl, hf.1, hxl, hf.2⟩
end Go.Proofs.Ytdlnmdmdoebecaa
