/-
  DrawTrailLight draws a grid and a sight: the cells lie in new memory, at most 31, the sight from -1 to 20.
-/
import Derived.Test.YtmnninhifiajhaaDy
import Derived.Test.YtmnninhifiajhaaJp
import Derived.Test.YtmnninhifiajhaaJk
import Derived.Deep.DeepCutAuto
namespace Go.Proofs.Ytmnninhifiajhaa
open Go.RowKit
set_option linter.unusedVariables false
attribute [local go_sem ↓] Go.wp_at_zero Go.wp_at_succ

theorem SigInv.below {w wr w2 : World} {gb : Nat} {wd : Int} {v : Value} (h : SigInv w wr gb wd v) (hb : Below wr.heap.size wr w2) : SigInv w w2 gb wd v := by
  obtain ⟨s1, s2⟩ := h.sz
  have hz := hb.size
  exact ⟨bcall h.hb h.hb.size hb, keepc hb h.p0, keepc hb h.p1, keepf hb h.p0 h.fp0, keepf hb h.p1 h.fp1, keepc hb h.g0, keepc hb h.g1, by omega⟩
theorem SigInv.set {w wr : World} {gb : Nat} {wd : Int} {v : Value} (h : SigInv w wr gb wd v) {b j : Nat} (h1 : w.heap.size < b) (h2 : b ≠ gb) (u : Value) : SigInv w (wr.setCell ⟨b, j, none⟩ u) gb wd v := by
  have n1 : w.heap.size ≠ b := by omega
  have n2 : gb ≠ b := fun e => h2 e.symm
  exact ⟨h.hb.setCell (p := ⟨b, j, none⟩) (by show w.heap.size ≤ b; omega) _, setc n1 h.p0, setc n1 h.p1, setf n1 h.fp0, setf n1 h.fp1, setc n2 h.g0, setc n2 h.g1, by simpa using h.sz⟩

/-- What stands while a grid is drawn and written. -/
structure DI (w wr : World) (gb : Nat) (wd : Int) (a : Option Addr) (c : Nat) (xs : List (Int × Int)) (P : Nat) : Prop where
  sig : SigInv w wr gb wd (.slice a xs.length c)
  rd : RdQ wr (w.heap.size + 1) (w.heap.size + 1 + 1) P
  cells : CellsAt wr a xs
  unf : UnF wr a xs
  new : ∀ b off, a = some ⟨b, off, none⟩ → xs ≠ [] → w.heap.size + 2 ≤ b ∧ b ≠ gb
theorem DI.lt {w wr : World} {gb : Nat} {wd : Int} {a : Option Addr} {c : Nat} {xs : List (Int × Int)} {P : Nat} (h : DI w wr gb wd a c xs P) : w.heap.size + 1 + 1 ≤ wr.heap.size := by have := h.sig.sz; omega
theorem DI.more {w wr : World} {gb : Nat} {wd : Int} {a : Option Addr} {c : Nat} {xs : List (Int × Int)} {P P' : Nat} (h : DI w wr gb wd a c xs P) (hp : P ≤ P') : DI w wr gb wd a c xs P' := ⟨h.sig, h.rd.more hp, h.cells, h.unf, h.new⟩
theorem DI.call {w wr w2 : World} {gb : Nat} {wd : Int} {a : Option Addr} {c : Nat} {xs : List (Int × Int)} {P P' : Nat} (h : DI w wr gb wd a c xs P) (hg : wr.grownBy w2 (some (w.heap.size + 1))) (hr : RdQ w2 (w.heap.size + 1) (w.heap.size + 1 + 1) P') : DI w w2 gb wd a c xs P' :=
  ⟨h.sig.call hg, hr, by
    by_cases hx : xs = []
    · exact Or.inl hx
    · exact h.cells.grown hg (fun b off e => by have := h.new b off e hx; omega), by
    by_cases hx : xs = []
    · intro b off e i hi; rw [hx] at hi; simp at hi
    · exact h.unf.grown h.cells hg (fun b off e => by have := h.new b off e hx; omega), h.new⟩
theorem DI.below {w wr w2 : World} {gb : Nat} {wd : Int} {a : Option Addr} {c : Nat} {xs : List (Int × Int)} {P : Nat} (h : DI w wr gb wd a c xs P) (hb : Below wr.heap.size wr w2) : DI w w2 gb wd a c xs P :=
  ⟨h.sig.below hb, h.rd.below (hb.mono h.lt), h.cells.below hb, h.unf.below h.cells hb, h.new⟩
/-- A cell is put. -/
theorem DI.put {w wr : World} {gb : Nat} {wd : Int} {b off : Nat} {c : Nat} {xs : List (Int × Int)} {P : Nat} (h : DI w wr gb wd (some ⟨b, off, none⟩) c xs P) (i : Nat) (hi : i < xs.length) (k l : Int) :
    DI w ((wr.setCell ⟨b, off + i * 2, none⟩ (.int .i64 k)).setCell ⟨b, off + i * 2 + 1, none⟩ (.int .i64 l)) gb wd (some ⟨b, off, none⟩) c (xs.set i (k, l)) P := by
  have hx : xs ≠ [] := by intro q; rw [q] at hi; simp at hi
  obtain ⟨n1, n2⟩ := h.new b off rfl hx
  have hlen : (xs.set i (k, l)).length = xs.length := by simp
  have hb2 : Below (w.heap.size + 1 + 1) wr ((wr.setCell ⟨b, off + i * 2, none⟩ (.int .i64 k)).setCell ⟨b, off + i * 2 + 1, none⟩ (.int .i64 l)) :=
    ((Below.refl _ _).setCell (p := ⟨b, off + i * 2, none⟩) (by show w.heap.size + 1 + 1 ≤ b; omega) _).setCell (p := ⟨b, off + i * 2 + 1, none⟩) (by show w.heap.size + 1 + 1 ≤ b; omega) _
  refine ⟨?_, h.rd.below hb2, ?_, ?_, fun b' off' e _ => h.new b' off' e hx⟩
  · rw [hlen]
    exact (h.sig.set (by omega) n2 _).set (by omega) n2 _
  · rcases h.cells with q | ⟨b', off', e, hbl, hc⟩
    · rw [q] at hi; simp at hi
    · simp only [Option.some.injEq, Addr.mk.injEq, and_true] at e
      obtain ⟨rfl, rfl⟩ := e
      refine Or.inr ⟨b, off, rfl, by simpa using hbl, fun j hj => ?_⟩
      rw [hlen] at hj
      by_cases e : j = i
      · subst e
        have g : (xs.set j (k, l)).getD j (0, 0) = (k, l) := by simp [hj]
        rw [g]
        refine ⟨?_, ?_⟩
        · exact setO (by omega) (World.cell?_setCell_same _ _ _ (by rw [(hc j hj).1]))
        · exact World.cell?_setCell_same _ _ _ (by rw [setO (show off + j * 2 + 1 ≠ off + j * 2 by omega) (hc j hj).2])
      · have g : (xs.set i (k, l)).getD j (0, 0) = xs.getD j (0, 0) := by simp [Ne.symm e]
        rw [g]
        exact ⟨setO (by omega) (setO (by omega) (hc j hj).1), setO (by omega) (setO (by omega) (hc j hj).2)⟩
  · intro b' off' e j hj
    rw [hlen] at hj
    exact h.unf.set.set b' off' e j hj
/-- The cell at a place. -/
theorem DI.at {w wr : World} {gb : Nat} {wd : Int} {a : Option Addr} {c : Nat} {xs : List (Int × Int)} {P : Nat} (h : DI w wr gb wd a c xs P) (i : Nat) (hi : i < xs.length) :
    ∃ b off, a = some ⟨b, off, none⟩ ∧ (∃ u, wr.cell? ⟨b, off + i * 2, none⟩ = some (.int .i64 u)) ∧ (∃ u, wr.cell? ⟨b, off + i * 2 + 1, none⟩ = some (.int .i64 u)) ∧ wr.frozen? ⟨b, off + i * 2, none⟩ = false ∧ wr.frozen? ⟨b, off + i * 2 + 1, none⟩ = false := by
  rcases h.cells with q | ⟨b, off, e, hbl, hc⟩
  · rw [q] at hi; simp at hi
  · obtain ⟨f1, f2⟩ := h.unf b off e i hi
    exact ⟨b, off, e, ⟨_, (hc i hi).1⟩, ⟨_, (hc i hi).2⟩, f1, f2⟩

set_option maxRecDepth 20000 in
set_option maxHeartbeats 4000000 in
theorem drawTrailLight_any (a : Option Addr) (n cap : Nat) (f : Nat → Int) (w : World) (h : BytesAt w a n f) (hn : n ≤ 1048576) (hcap : n ≤ cap) (hc2 : cap ≤ 9223372036854775807) :
    Calls Try.prog 44 #[.slice a n cap] w fun e w' => ∃ (wd : Int) (a : Option Addr) (c : Nat) (xs : List (Int × Int)) (k : Int), e = .returned (.tuple #[.agg #[.int .i64 wd, .slice a xs.length c], .int .i64 k]) ∧ CellsAt w' a xs ∧ xs.length ≤ 31 ∧ (-1 ≤ k ∧ k ≤ 20) ∧ Below w.heap.size w w' := by
  go_enter Try.func44, Try.ntmps44
  go_wp2_with fail
  refine (l6Open_any _ n _ f _ (h.below (by repeat (first | exact Below.refl _ _ | refine Below.alloc ?_ (by first | exact Nat.le_refl _ | (simp; done) | (simp; omega)) _ | refine Below.drew ?_ | refine Below.setCell ?_ (by first | exact Nat.le_refl _ | (simp; done) | (simp; omega)) _))) hn hcap hc2).mono ?_
  rintro e w1 ⟨rfl, hr1, hb1⟩
  have hz1 := hb1.size
  simp at hz1 hr1
  have s1 : w.heap.size + 1 < w1.heap.size := by have := hr1.lt; omega
  have p0 : w1.cell? ⟨w.heap.size, 0, none⟩ = some (.int .i64 0) := keepc hb1 (by simp [go_sem])
  have p1 : w1.cell? ⟨w.heap.size, 1, none⟩ = some (.slice none 0 0) := keepc hb1 (by simp [go_sem])
  have fp0 : w1.frozen? ⟨w.heap.size, 0, none⟩ = false := keepf hb1 (v := .int .i64 0) (by simp [go_sem]) (by simp [go_sem])
  have fp1 : w1.frozen? ⟨w.heap.size, 1, none⟩ = false := keepf hb1 (v := .slice none 0 0) (by simp [go_sem]) (by simp [go_sem])
  have hB1 : Below w.heap.size w w1 := bcall (by repeat (first | exact Below.refl _ _ | refine Below.alloc ?_ (by first | exact Nat.le_refl _ | (simp; done) | (simp; omega)) _ | refine Below.drew ?_ | refine Below.setCell ?_ (by first | exact Nat.le_refl _ | (simp; done) | (simp; omega)) _)) (by simp) hb1
  clear hb1
  go_wp2_with fail
  refine (l71SomeX_any _ (w.heap.size + 1) (w.heap.size + 1 + 1) 0 hr1 (by omega) (by omega)).mono ?_
  rintro e w2 ⟨wd, a2, c2, xs, rfl, hok2, hxl, hr2, hg2⟩
  have hC2 := hok2.cells
  have hn2 := hok2.new
  have hU2 := hok2.unf
  clear hok2
  have hz2 := hg2.size
  have nr : w.heap.size ≠ w.heap.size + 1 := by omega
  replace fp0 := gfroz hg2 nr p0 fp0
  replace fp1 := gfroz hg2 nr p1 fp1
  replace p0 := gcell hg2 nr p0
  replace p1 := gcell hg2 nr p1
  have hB2 : Below w.heap.size w w2 := ⟨hg2.os.trans hB1.os, hg2.tape.trans hB1.tape, hg2.output.trans hB1.output, Nat.le_trans hB1.size hg2.size, fun k hk => (hg2.block k (by omega) (by simp; omega)).trans (hB1.block k hk)⟩
  have hbG : Below w2.heap.size w2 (w2.alloc (.cells #[.int .i64 wd, .slice a2 xs.length c2] 25)) := (by repeat (first | exact Below.refl _ _ | refine Below.alloc ?_ (by first | exact Nat.le_refl _ | (simp; done) | (simp; omega)) _ | refine Below.drew ?_ | refine Below.setCell ?_ (by first | exact Nat.le_refl _ | (simp; done) | (simp; omega)) _))
  clear hg2 hB1
  have hI : SigInv w (w2.alloc (.cells #[.int .i64 wd, .slice a2 xs.length c2] 25)) w2.heap.size wd (.slice a2 xs.length c2) :=
    ⟨bcall hB2 (by omega) hbG, keepc hbG p0, keepc hbG p1, keepf hbG p0 fp0, keepf hbG p1 fp1, by simp [go_sem], by simp [go_sem], by simp; omega⟩
  have hD : DI w (w2.alloc (.cells #[.int .i64 wd, .slice a2 xs.length c2] 25)) w2.heap.size wd a2 c2 xs 90 := by
    refine ⟨hI, (hr2.below (hbG.mono (by omega))).more (by omega), hC2.below hbG, hU2.below hC2 hbG, fun b off e hx => ⟨by have := hn2 b off e; omega, ?_⟩⟩
    rcases hC2 with q | ⟨b', off', e', hbl, _⟩
    · exact absurd q hx
    · rw [e] at e'
      simp only [Option.some.injEq, Addr.mk.injEq, and_true] at e'
      omega
  clear hI hbG hB2 hC2 hn2 hU2 hr2 hr1 fp0 fp1 p0 p1
  go_wp2_with fail
  obtain ⟨wz, hwz⟩ : ∃ wz, wz = w2.alloc (.cells #[.int .i64 wd, .slice a2 xs.length c2] 25) := ⟨_, rfl⟩
  rw [← hwz] at hD ⊢
  clear hwz
  refine (pickQ 3 _ (w.heap.size + 1) (w.heap.size + 1 + 1) 90 hD.rd (by omega) (by omega)).mono ?_
  rintro e w3 ⟨v3, rfl, hv1, hv2, hr3, hg3⟩
  have hD3 := (hD.call hg3 hr3).more (P' := 100 - 2 * v3.toNat) (by omega)
  obtain ⟨M, rfl⟩ := Int.eq_ofNat_of_zero_le hv1
  simp only [Int.toNat_natCast] at hD3
  obtain ⟨gb, egb⟩ : ∃ gb, w2.heap.size = gb := ⟨_, rfl⟩
  rw [egb] at hD3 ⊢
  clear hD hg3 hr3 hv1 egb
  go_wp2_with fail
  go_loopw [6] (fun nn wr => ∃ (m : Nat) (ys : List (Int × Int)), m ≤ 3 ∧ nn = .int .i64 m ∧ ys.length = xs.length ∧ DI w wr gb wd a2 c2 ys (100 - 2 * m)) (fun nn _ => (intOf nn).toNat)
  case atStart => exact ⟨M, xs, by omega, rfl, rfl, hD3⟩
  case round =>
    rename World => wo
    obtain ⟨m, ys, hm, rfl, hyl, hDo⟩ := hrel
    have g1 := hDo.sig.g1
    have hlo := hDo.lt
    rw [hyl] at g1
    by_cases hgo : 0 < m ∧ 0 < xs.length
    · obtain ⟨hm0, hx0⟩ := hgo
      have b0 : decide ((0 : Int) < (m : Int)) = true := decide_eq_true (by omega)
      have b1 : decide ((0 : Int) < (xs.length : Int)) = true := decide_eq_true (by omega)
      have i0 : (0 : Int) < (m : Int) := by omega
      have i1 : (0 : Int) < (xs.length : Int) := by omega
      go_wp2
      go_region_held3 (fun w' => w'.cell? ⟨gb, 1, none⟩ = some (.slice a2 xs.length c2))
        (first
          | exact g1
          | exact hD6.sig.g1.trans (by rw [hyl])
          | exact hD5.sig.g1.trans (by rw [hyl])
          | exact hDF.sig.g1.trans (by rw [hl6])
          | go_keep)
        (first
          | (have hguard := hD5; go_at_call 50; refine (pickQ 9 _ (w.heap.size + 1) (w.heap.size + 1 + 1) (100 - 2 * m + 1) (by first | exact hD5.rd | exact hD5.rd.below (Below.refl _ _).drew) (by omega) (by omega)).mono ?_; rintro e w6 ⟨u6, rfl, hu3, hu4, hr6, hg6'⟩; have hg6 : w5.grownBy w6 (some (w.heap.size + 1)) := (by first | exact hg6' | exact gdrew hg6'); have hD6 := hD5.call hg6 hr6; obtain ⟨b, off, rfl, ⟨k1, c1'⟩, ⟨k2, c2'⟩, f1, f2⟩ := hD6.at U (by omega); have hDF := (hD6.put U (by omega) 7 (IntKind.i64.wrap (1 + u6))).more (P' := 100 - 2 * (m - 1)) (by omega); have hl6 : (ys.set U (7, IntKind.i64.wrap (1 + u6))).length = xs.length := (by rw [List.length_set]; exact hyl))
          | (go_at_call 50; refine (pickQ (xs.length : Int) _ (w.heap.size + 1) (w.heap.size + 1 + 1) (100 - 2 * m) (by first | exact hDo.rd | exact hDo.rd.below (Below.refl _ _).drew) (by omega) (by omega)).mono ?_; rintro e w5 ⟨u5, rfl, hu1, hu2, hr5, hg5'⟩; have hg5 : wo.grownBy w5 (some (w.heap.size + 1)) := (by first | exact hg5' | exact gdrew hg5'); have hD5 := hDo.call hg5 hr5; obtain ⟨U, rfl⟩ := Int.eq_ofNat_of_zero_le hu1)
          | fail)
      all_goals
        have hmm : (m : Int) - 1 = ((m - 1 : Nat) : Int) := by omega
        have hwrap : IntKind.i64.wrap (1 + u6) = 1 + u6 := IntWalk.i64_in _ (by omega)
        rw [hwrap] at hDF hl6
        clear hwrap
        go_wp2_with fail
        go_roundw
        case rel => exact ⟨m - 1, ys.set U (7, 1 + u6), by omega, by first | rw [hmm] | (simp; done) | (simp; omega), hl6, by first | exact hDF | exact hDF.below (Below.refl _ _).drew⟩
        case measure => simp [intOf]; omega
    · have g0 := hDo.sig.g0
      have hD9 := hDo.more (P' := 100) (by omega)
      have hyl31 : ys.length ≤ 31 := by omega
      rw [← hyl] at g1 hgo
      clear hDo hyl hD3
      by_cases hm0 : 0 < m
      all_goals
        first
          | (have hx0 : ¬ 0 < ys.length := fun q => hgo ⟨hm0, q⟩
             have b0 : decide ((0 : Int) < (m : Int)) = true := decide_eq_true (by omega)
             have b1 : decide ((0 : Int) < (ys.length : Int)) = false := decide_eq_false (by omega)
             have i1 : ¬ (0 : Int) < (ys.length : Int) := by omega)
          | (have b0 : decide ((0 : Int) < (m : Int)) = false := decide_eq_false (by omega)
             have i1 : ¬ (0 : Int) < (m : Int) := by omega)
        go_wp2_with fail
        clear b0 i1 hm0 hgo hm
        refine (l71Sight_any _ (w.heap.size + 1) (w.heap.size + 1 + 1) 100 hD9.rd (by omega) hlo wd a2 c2 ys hD9.cells hyl31).mono ?_
        rintro e w8 ⟨k8, rfl, hk1, hk2, hr8, hg8⟩
        have hD8 := hD9.call hg8 hr8
        clear hD9 hr8 hg8 g0 g1 hlo
        go_wp2_with fail
        go_loopw [7, 8] (fun kk ii wr => ∃ (i : Nat) (q : Int), i ≤ 8 ∧ ii = .int .i64 i ∧ kk = .int .i64 q ∧ (-1 ≤ q ∧ q ≤ 20) ∧ DI w wr gb wd a2 c2 ys (102 + 3 * i)) (fun _ ii _ => 8 - (intOf ii).toNat)
        case atStart => exact ⟨0, k8, by omega, rfl, rfl, ⟨hk1, hk2⟩, hD8⟩
        case round =>
          rename World => wp
          obtain ⟨i, q, hi, rfl, rfl, hq, hDp⟩ := hrel
          have hlp := hDp.lt
          obtain ⟨p0, p1, fp0, fp1⟩ := And.intro hDp.sig.p0 (And.intro hDp.sig.p1 (And.intro hDp.sig.fp0 hDp.sig.fp1))
          obtain ⟨g0, g1⟩ := And.intro hDp.sig.g0 hDp.sig.g1
          have FIN : Hid (∀ wf, (∃ P, DI w wf gb wd a2 c2 ys P) → CellsAt ((wf.setCell ⟨w.heap.size, 0, none⟩ (.int .i64 wd)).setCell ⟨w.heap.size, 1, none⟩ (.slice a2 ys.length c2)) a2 ys ∧ Below w.heap.size w ((wf.setCell ⟨w.heap.size, 0, none⟩ (.int .i64 wd)).setCell ⟨w.heap.size, 1, none⟩ (.slice a2 ys.length c2))) := by
            rintro wf ⟨P, hDf⟩
            refine ⟨?_, (hDf.sig.hb.setCell (p := ⟨w.heap.size, 0, none⟩) (Nat.le_refl _) _).setCell (p := ⟨w.heap.size, 1, none⟩) (Nat.le_refl _) _⟩
            by_cases hx : ys = []
            · exact Or.inl hx
            · exact (hDf.cells.set (bb := w.heap.size) (fun b off e => by have := hDf.new b off e hx; omega) _).set (bb := w.heap.size) (fun b off e => by have := hDf.new b off e hx; omega) _
          by_cases h8 : i < 8
          · have b8 : decide ((i : Int) < 8) = true := decide_eq_true (by omega)
            have i8 : (i : Int) < 8 := by omega
            go_wp2_with fail
            refine (pickQ 8 _ (w.heap.size + 1) (w.heap.size + 1 + 1) (102 + 3 * i) hDp.rd (by omega) (by omega)).mono ?_
            rintro e wq ⟨u, rfl, hu1, hu2, hrq, hgq⟩
            have hDq := hDp.call hgq hrq
            clear p0 p1 fp0 fp1 g0 g1 hgq hrq hDp
            obtain ⟨p0, p1, fp0, fp1⟩ := And.intro hDq.sig.p0 (And.intro hDq.sig.p1 (And.intro hDq.sig.fp0 hDq.sig.fp1))
            obtain ⟨g0, g1⟩ := And.intro hDq.sig.g0 hDq.sig.g1
            have hlq := hDq.lt
            by_cases hu : 0 < u
            · have bu : decide ((0 : Int) < u) = true := decide_eq_true hu
              obtain ⟨lt, elt⟩ : ∃ l, lightN wd ys q = l := ⟨_, rfl⟩
              have ELT : Hid (lightN wd ys q = lt) := elt
              clear elt
              go_wp2_with fail
              refine (specLight_any wd a2 c2 ys _ hDq.cells (by omega) q).mono ?_
              rintro e wl ⟨rfl, hbl⟩
              rw [ELT.out]
              have hDl := hDq.below hbl
              clear p0 p1 fp0 fp1 g0 g1 hDq hbl
              obtain ⟨p0, p1, fp0, fp1⟩ := And.intro hDl.sig.p0 (And.intro hDl.sig.p1 (And.intro hDl.sig.fp0 hDl.sig.fp1))
              obtain ⟨g0, g1⟩ := And.intro hDl.sig.g0 hDl.sig.g1
              have hll := hDl.lt
              by_cases hl0 : lt = 0
              · have bl : (lt == 0) = true := by simp [hl0]
                clear hl0
                go_wp2_with fail
                refine (l71Sight_any _ (w.heap.size + 1) (w.heap.size + 1 + 1) (102 + 3 * i + 1) hDl.rd (by omega) hll wd a2 c2 ys hDl.cells hyl31).mono ?_
                rintro e wm ⟨k9, rfl, hk3, hk4, hrm, hgm⟩
                have hDm := hDl.call hgm hrm
                go_wp2_with fail
                go_roundw
                case rel => exact ⟨i + 1, k9, by omega, by go_num, rfl, ⟨hk3, hk4⟩, hDm.more (by omega)⟩
                case measure => simp [intOf]; omega
              · have bl : (lt == 0) = false := by simp [hl0]
                have hf := FIN.out _ ⟨_, hDl⟩
                clear hl0
                go_wp2
                refine bodyPost_ret (v := .tuple #[.agg #[.int .i64 wd, .slice a2 ys.length c2], .int .i64 q]) (by simp [results, Try.results44, go_sem, p0, p1]) rfl ⟨wd, a2, c2, ys, q, rfl, hf.1, hyl31, hq, hf.2⟩
            · have bu : decide ((0 : Int) < u) = false := decide_eq_false hu
              have hf := FIN.out _ ⟨_, hDq⟩
              go_wp2
              refine bodyPost_ret (v := .tuple #[.agg #[.int .i64 wd, .slice a2 ys.length c2], .int .i64 q]) (by simp [results, Try.results44, go_sem, p0, p1]) rfl ⟨wd, a2, c2, ys, q, rfl, hf.1, hyl31, hq, hf.2⟩
          · have b8 : decide ((i : Int) < 8) = false := decide_eq_false (by omega)
            have hf := FIN.out _ ⟨_, hDp⟩
            go_wp2
            refine bodyPost_ret (v := .tuple #[.agg #[.int .i64 wd, .slice a2 ys.length c2], .int .i64 q]) (by simp [results, Try.results44, go_sem, p0, p1]) rfl ⟨wd, a2, c2, ys, q, rfl, hf.1, hyl31, hq, hf.2⟩
end Go.Proofs.Ytmnninhifiajhaa
