/-
  Several texts in one: Xi, Xk, Xl, Xm, Xn, Xo.
-/
import Derived.Test.YtmnninhifiajhaaJl
import Derived.BigQuiet
import Derived.Deep.RegionHeld3

/-
  spec.l11Light and spec.TrailLight: how bright it is at a sight.
-/
namespace Go.Proofs.Ytmnninhifiajhaa
open Go.RowKit
set_option linter.unusedVariables false

/-- How bright the cell at a place is. -/
def ltC (cs : List (Int × Int)) (x : Int) : Int := (cs.getD x.toNat (0, 0)).2
/-- How bright ends are. -/
def sumL (cs : List (Int × Int)) : List (Int × Int × Int) → Int
  | [] => 0
  | t :: r => (if t.1 = 2 then t.2.2 * ltC cs t.2.1 else 0) + sumL cs r
theorem sumL_append (cs : List (Int × Int)) (a b : List (Int × Int × Int)) : sumL cs (a ++ b) = sumL cs a + sumL cs b := by
  induction a with
  | nil => simp [sumL]
  | cons t r ih => simp only [List.cons_append, sumL, ih]; omega
/-- Ends whose lamps are such. -/
def LampOk (cs : List (Int × Int)) (u : Int × Int × Int) : Prop := 1 ≤ u.2.2 ∧ (u.1 = 2 → (0 ≤ u.2.1 ∧ u.2.1 < (cs.length : Int)) ∧ 1 ≤ ltC cs u.2.1 ∧ ltC cs u.2.1 ≤ 9)
theorem sumL_in (cs : List (Int × Int)) (l : List (Int × Int × Int)) (h : ∀ u ∈ l, LampOk cs u) : 0 ≤ sumL cs l ∧ sumL cs l ≤ 9 * sumW l := by
  induction l with
  | nil => simp [sumL, sumW]
  | cons t r ih =>
    obtain ⟨h1, h2⟩ := h t (by simp)
    have h3 := ih (fun u hu => h u (by simp [hu]))
    simp only [sumL, sumW]
    split
    · next q =>
      obtain ⟨_, q1, q2⟩ := h2 q
      have m1 : 0 ≤ t.2.2 * ltC cs t.2.1 := Int.mul_nonneg (by omega) (by omega)
      have m2 : t.2.2 * ltC cs t.2.1 ≤ t.2.2 * 9 := Int.mul_le_mul_of_nonneg_left q2 (by omega)
      omega
    · omega
theorem lamp_of {wd : Int} {cs : List (Int × Int)} (hok : okG wd cs = true) {u : Int × Int × Int} (h : EndOk wd cs u) : LampOk cs u := by
  refine ⟨h.1, fun e => ?_⟩
  rcases h.2 with ⟨q, _⟩ | ⟨hx, q | q | q⟩
  · omega
  · omega
  · refine ⟨hx, ?_⟩
    obtain ⟨Y, hY⟩ := Int.eq_ofNat_of_zero_le hx.1
    have hlt : Y < cs.length := by omega
    have hc := okG_cell wd cs hok Y hlt
    have hk := q.2
    rw [hY] at hk ⊢
    simp only [kd, ltC, Int.toNat_natCast, List.getD_eq_getElem?_getD, List.getElem?_eq_getElem hlt, Option.getD_some] at hk ⊢
    rw [hk] at hc
    simpa [okC] using hc
  · omega

set_option maxRecDepth 20000 in
set_option maxHeartbeats 4000000 in
theorem l11Light_any (wd : Int) (a : Option Addr) (cap : Nat) (cs : List (Int × Int)) (w : World) (h : CellsAt w a cs) (hm : cs.length ≤ 1048576) (a2 : Option Addr) (c2 : Nat) (es : List (Int × Int × Int)) (hR : R3At w a2 es) (hP : ∀ u ∈ es, LampOk cs u) (hsum : sumW es ≤ 64) :
    Calls Try.prog 79 #[.agg #[.int .i64 wd, .slice a cs.length cap], .slice a2 es.length c2] w fun e w' => e = .returned (.int .i64 (sumL cs es)) ∧ Below w.heap.size w w' := by
  have hpos : ∀ u ∈ es, 1 ≤ u.2.2 := fun u hu => (hP u hu).1
  have hlen : es.length ≤ 64 := by
    have key : ∀ l : List (Int × Int × Int), (∀ u ∈ l, 1 ≤ u.2.2) → (l.length : Int) ≤ sumW l := by
      intro l
      induction l with
      | nil => intro _; simp [sumW]
      | cons t r ih =>
        intro q
        have q1 := q t (by simp)
        have q2 := ih (fun u hu => q u (by simp [hu]))
        simp only [sumW, List.length_cons]
        omega
    have := key es hpos
    omega
  obtain ⟨R, hRR⟩ : ∃ R, sumL cs es = R := ⟨_, rfl⟩
  rw [hRR]
  have ER : Hid (sumL cs es = R) := hRR
  have HB : Hid (∀ i, 0 ≤ sumL cs (es.take i) ∧ sumL cs (es.take i) ≤ 576) := by
    intro i
    have q1 := sumL_in cs (es.take i) (fun u hu => hP u (List.mem_of_mem_take hu))
    have q2 := sum_take hpos i
    omega
  have HP : Hid (∀ u ∈ es, LampOk cs u) := hP
  have HQ : Hid (∀ u ∈ es, u.2.2 ≤ 64) := by
    intro u hu
    obtain ⟨l1, l2, e⟩ := List.append_of_mem hu
    have q1 := sumW_append l1 (u :: l2)
    rw [← e] at q1
    simp only [sumW] at q1
    have q2 := sumW_pos l1 (fun z hz => hpos z (by rw [e]; simp [hz]))
    have q3 := sumW_pos l2 (fun z hz => hpos z (by rw [e]; simp [hz]))
    omega
  have hb0 : Below w.heap.size w (w.alloc (.cells #[.int .i64 wd, .slice a cs.length cap] 25)) := (by repeat (first | exact Below.refl _ _ | refine Below.alloc ?_ (by first | exact Nat.le_refl _ | (simp; done) | (simp; omega)) _ | refine Below.drew ?_ | refine Below.setCell ?_ (by first | exact Nat.le_refl _ | (simp; done) | (simp; omega)) _))
  have g1 : (w.alloc (.cells #[.int .i64 wd, .slice a cs.length cap] 25)).cell? ⟨w.heap.size, 1, none⟩ = some (.slice a cs.length cap) := by simp [go_sem]
  have hC0 := h.below hb0
  have hR0 := hR.below hb0
  clear hRR hP hpos h hR
  go_enter Try.func79, Try.ntmps79
  go_wp2_with fail
  obtain ⟨w0, hw0⟩ : ∃ w0, w0 = w.alloc (.cells #[.int .i64 wd, .slice a cs.length cap] 25) := ⟨_, rfl⟩
  rw [← hw0] at hb0 g1 hC0 hR0 ⊢
  clear hw0
  go_loopw [5, 6] (fun nn ii wr => ∃ i : Nat, i ≤ es.length ∧ ii = .int .i64 i ∧ nn = .int .i64 (sumL cs (es.take i)) ∧ Below w0.heap.size w0 wr) (fun _ ii _ => es.length - (intOf ii).toNat)
  case atStart => exact ⟨0, Nat.zero_le _, rfl, rfl, Below.refl _ _⟩
  case round =>
    rename World => wo
    obtain ⟨i, hi, rfl, rfl, hb⟩ := hrel
    replace g1 := keepc hb g1
    replace hC0 := hC0.below hb
    replace hR0 := hR0.below hb
    obtain ⟨s, es0⟩ : ∃ s, sumL cs (es.take i) = s := ⟨_, rfl⟩
    have hsb := HB.out i
    have hsb2 := HB.out (i + 1)
    rw [es0] at hsb ⊢
    by_cases hlt : i < es.length
    · rcases hR0 with q | ⟨b, off, rfl, hbl, hc⟩
      · rw [q] at hlt; simp at hlt
      obtain ⟨t, et⟩ : ∃ t, es.getD i (0, 0, 0) = t := ⟨_, rfl⟩
      have hmem : t ∈ es := by rw [← et]; simp [List.getElem?_eq_getElem hlt]
      obtain ⟨z0, z1, z2⟩ := hc i hlt
      rw [et] at z0 z1 z2
      obtain ⟨hw1, hlm⟩ := HP.out t hmem
      have hw2 := HQ.out t hmem
      have hst : sumL cs (es.take (i + 1)) = s + (if t.1 = 2 then t.2.2 * ltC cs t.2.1 else 0) := by
        rw [take_one es i (0, 0, 0) hlt, sumL_append, es0, et]
        simp [sumL]
      obtain ⟨t0, t1, t2⟩ := t
      simp only at z0 z1 z2 hw1 hw2 hst hlm
      clear hmem et hc
      by_cases e0 : t0 = 2
      · rw [if_pos e0] at hst
        obtain ⟨hx, hl1, hl2⟩ := hlm e0
        obtain ⟨Y, rfl⟩ := Int.eq_ofNat_of_zero_le hx.1
        have hY : Y < cs.length := by omega
        obtain ⟨lt', elt⟩ : ∃ l, ltC cs (Y : Int) = l := ⟨_, rfl⟩
        rw [elt] at hst hl1 hl2
        rcases hC0 with q | ⟨bc, oc, rfl, hbc, hcc⟩
        · rw [q] at hY; simp at hY
        have zc := (hcc Y hY).2
        have zc' : wo.cell? ⟨bc, oc + Y * 2 + 1, none⟩ = some (.int .i64 lt') := by
          rw [zc, ← elt]; simp [ltC]
        obtain ⟨p, ep⟩ : ∃ p, t2 * lt' = p := ⟨_, rfl⟩
        rw [ep] at hst
        have hp0 : 0 ≤ p := by rw [← ep]; exact Int.mul_nonneg (by omega) (by omega)
        have hp1 : p ≤ 576 := by
          rw [← ep]
          exact Int.le_trans (Int.mul_le_mul hw2 hl2 (by omega) (by omega)) (by omega)
        have wp : IntKind.i64.wrap (t2 * lt') = p := by rw [ep]; exact IntWalk.i64_in _ (by omega)
        have ws : IntKind.i64.wrap (s + p) = s + p := IntWalk.i64_in _ (by omega)
        have HST : Hid (sumL cs (es.take (i + 1)) = s + p) := hst
        have b0 : (t0 == 2) = true := by simp [e0]
        have hYl : (Y : Int) < (cs.length : Int) := by omega
        clear hst e0 es0 zc ep elt hcc hlm hsb2
        go_wp2_with fail
        go_quiet (fail)
        have hbq : Below w0.heap.size w0 (wo.drewN nq) := ⟨hb.os, hb.tape, hb.output, hb.size, hb.block⟩
        go_wp2_with fail
        go_roundw
        case rel => exact ⟨i + 1, by omega, by go_num, by rw [HST.out], hbq⟩
        case measure => simp [intOf]; omega
      · rw [if_neg e0] at hst
        have HST : Hid (sumL cs (es.take (i + 1)) = s) := by show _ = _; rw [hst]; omega
        have b0 : (t0 == 2) = false := by simp [e0]
        clear hst e0 es0 hlm hsb2
        go_wp2_with fail
        go_roundw
        case rel => exact ⟨i + 1, by omega, by go_num, by rw [HST.out], hb⟩
        case measure => simp [intOf]; omega
    · have hfin : s = R := by rw [← es0, ← ER.out, List.take_of_length_le (by omega)]
      subst hfin
      clear es0
      go_wp2_with fail
      go_ret
      exact ⟨rfl, bcall hb0 hb0.size hb⟩

/-- How bright it is at a sight. -/
def lightN (wd : Int) (cs : List (Int × Int)) (k : Int) : Int := sumL cs (trailT wd cs k).2

set_option maxRecDepth 20000 in
set_option maxHeartbeats 2000000 in
theorem specLight_any (wd : Int) (a : Option Addr) (cap : Nat) (cs : List (Int × Int)) (w : World) (h : CellsAt w a cs) (hm : cs.length ≤ 1048576) (k : Int) :
    Calls Try.prog 46 #[.agg #[.int .i64 wd, .slice a cs.length cap], .int .i64 k] w fun e w' => e = .returned (.int .i64 (lightN wd cs k)) ∧ Below w.heap.size w w' := by
  rcases hs : inS wd cs k with _ | _
  · have hv : lightN wd cs k = 0 := by unfold lightN trailT; rw [if_neg (by simp [hs])]; rfl
    rw [hv]
    clear hv
    go_enter Try.func46, Try.ntmps46
    go_wp2_with fail
    refine (l11Is_any _ _ _ cs _ (h.below (by repeat (first | exact Below.refl _ _ | refine Below.alloc ?_ (by first | exact Nat.le_refl _ | (simp; done) | (simp; omega)) _ | refine Below.drew ?_ | refine Below.setCell ?_ (by first | exact Nat.le_refl _ | (simp; done) | (simp; omega)) _))) hm k).mono ?_
    rintro e x0 ⟨rfl, hb0⟩
    rw [hs]
    go_wp2_with fail
    go_ret
    exact ⟨rfl, bcall (by repeat (first | exact Below.refl _ _ | refine Below.alloc ?_ (by first | exact Nat.le_refl _ | (simp; done) | (simp; omega)) _ | refine Below.drew ?_ | refine Below.setCell ?_ (by first | exact Nat.le_refl _ | (simp; done) | (simp; omega)) _)) (by simp) hb0⟩
  · have hok := inS_ok hs
    obtain ⟨W, H, S⟩ := siz_of hok
    have hT := trail_ok hs
    obtain ⟨L, hL⟩ : ∃ L, trailT wd cs k = L := ⟨_, rfl⟩
    rw [hL] at hT
    obtain ⟨es, hes⟩ : ∃ es, L.2 = es := ⟨_, rfl⟩
    have HP : Hid (∀ u ∈ es, LampOk cs u) := fun u hu => lamp_of hok (hT.ends u (by rw [hes]; exact hu))
    have HSM : Hid (sumW es ≤ 64) := by show _ ≤ _; rw [← hes, hT.sum]; omega
    obtain ⟨R, hR⟩ : ∃ R, lightN wd cs k = R := ⟨_, rfl⟩
    rw [hR]
    have ER : Hid (sumL cs es = R) := by show _ = _; rw [← hR]; unfold lightN; rw [hL, hes]
    have EL : Hid (trailT wd cs k = L) := hL
    have ES : Hid (L.2 = es) := hes
    have HSS : Hid (inS wd cs k = true) := hs
    clear hR hL hes hT hs hok
    go_enter Try.func46, Try.ntmps46
    go_wp2_with fail
    refine (l11Is_any _ _ _ cs _ (h.below (by repeat (first | exact Below.refl _ _ | refine Below.alloc ?_ (by first | exact Nat.le_refl _ | (simp; done) | (simp; omega)) _ | refine Below.drew ?_ | refine Below.setCell ?_ (by first | exact Nat.le_refl _ | (simp; done) | (simp; omega)) _))) hm k).mono ?_
    rintro e x0 ⟨rfl, hb0⟩
    rw [HSS.out]
    have g0 : x0.cell? ⟨w.heap.size, 0, none⟩ = some (.int .i64 wd) := keepc hb0 (by simp [go_sem])
    have g1 : x0.cell? ⟨w.heap.size, 1, none⟩ = some (.slice a cs.length cap) := keepc hb0 (by simp [go_sem])
    have hB0 : Below w.heap.size w x0 := bcall (by repeat (first | exact Below.refl _ _ | refine Below.alloc ?_ (by first | exact Nat.le_refl _ | (simp; done) | (simp; omega)) _ | refine Below.drew ?_ | refine Below.setCell ?_ (by first | exact Nat.le_refl _ | (simp; done) | (simp; omega)) _)) (by simp) hb0
    have hC0 := h.below hB0
    clear hb0
    go_wp2_with fail
    first
      | (go_region_with
          (first
            | (go_at_call 70; refine (l11Go_any S a cap _ (by first | with_reducible exact hC0 | with_reducible exact hC0.below (Below.refl _ _).drew) k HSS.out).mono ?_; rintro e x1 ⟨pb, v1, e1, rfl, hW1, hb6'⟩; have hb6 : Below x0.heap.size x0 x1 := (by first | with_reducible exact hb6' | with_reducible exact bdrew hb6'); obtain ⟨a2, c2, rfl, hR3⟩ := row3_at hW1.oe; rw [EL.out, ES.out] at hR3; have c3 := hW1.c3; rw [EL.out, ES.out] at c3; have g06 := keepc hb6 g0; have g16 := keepc hb6 g1)
            | (go_at_call 79; refine (l11Light_any wd a cap cs _ (hC0.below hb6) hm a2 c2 es hR3 HP.out HSM.out).mono ?_; rintro e x2 ⟨rfl, hb7'⟩; rw [ER.out]; have hb7 : Below x0.heap.size x0 x2 := bcall hb6 hb6.size hb7')
            | fail))
      | fail
    all_goals
      have hBf := bcall hB0 hB0.size hb7
      go_wp2
      go_ret
      exact ⟨rfl, by first | exact hBf | exact hBf.drew⟩
end Go.Proofs.Ytmnninhifiajhaa

/-
  As much goes there as comes back: what ends at a sight is told by ways through the grid and how often each is halved, and each way can be gone back.
-/
namespace Go.Proofs.Ytmnninhifiajhaa
open Go.RowKit
set_option linter.unusedVariables false

/-- A step of a way: the place, where light comes in, where it leaves. -/
abbrev Stp := Int × Int × Int
/-- Where light leaves a cell of a kind, that came in so. -/
def outs (k d : Int) : List Int := if k = 1 ∨ k = 7 then [] else if k = 6 then [d] else if k = 4 ∨ k = 5 then [d, turnD k d] else [turnD k d]
/-- Whether it is halved there. -/
def cst (k : Int) : Nat := if k = 6 ∨ k = 4 ∨ k = 5 then 1 else 0
/-- All ways from a cell to a sight, of at most so many cells, halved so often. -/
def paths (wd : Int) (cs : List (Int × Int)) (q : Int) : Nat → Int → Int → Nat → List (List Stp)
  | 0 => fun _ _ _ => []
  | f + 1 => fun x d n => if n < cst (kd cs x) then [] else (outs (kd cs x) d).flatMap fun e =>
      if (rayN wd cs x e).2.2 = true then (paths wd cs q f (rayN wd cs x e).1 e (n - cst (kd cs x))).map (fun p => (x, d, e) :: p) else if n = cst (kd cs x) ∧ outOf wd cs x e = q then [[(x, d, e)]] else []
/-- How many there are behind a cell. -/
def lvP (wd : Int) (cs : List (Int × Int)) (q : Int) (f : Nat) (x e : Int) (n : Nat) : Nat := if (rayN wd cs x e).2.2 = true then (paths wd cs q f (rayN wd cs x e).1 e n).length else if n = 0 ∧ outOf wd cs x e = q then 1 else 0

/-- Ways, each as much as is left behind its halves. -/
def wsum (a : Nat → Nat) (wt : Nat) : Nat := a 0 * wt + a 1 * (wt / 2) + a 2 * (wt / 4) + a 3 * (wt / 8) + a 4 * (wt / 16) + a 5 * (wt / 32) + a 6 * (wt / 64)
theorem wsum_add (a b : Nat → Nat) (wt : Nat) : wsum (fun n => a n + b n) wt = wsum a wt + wsum b wt := by
  simp only [wsum, Nat.add_mul]; omega
theorem wsum_zero (a : Nat → Nat) : wsum a 0 = 0 := by simp [wsum]
theorem wsum_none (wt : Nat) : wsum (fun _ => 0) wt = 0 := by simp [wsum]
theorem wsum_half (b : Nat → Nat) (wt : Nat) (h : wt < 128) : wsum (fun n => if n < 1 then 0 else b (n - 1)) wt = wsum b (wt / 2) := by
  simp only [wsum, Nat.div_div_eq_div_mul]
  simp
  have e : wt / 128 = 0 := by omega
  rw [e]
  omega

theorem paths_len (wd : Int) (cs : List (Int × Int)) (q : Int) (f : Nat) (x d : Int) (n : Nat) : (paths wd cs q (f + 1) x d n).length = if n < cst (kd cs x) then 0 else ((outs (kd cs x) d).map fun e => lvP wd cs q f x e (n - cst (kd cs x))).sum := by
  simp only [paths]
  split
  · rfl
  · next hn =>
    rw [List.length_flatMap]
    congr 1
    apply List.map_congr_left
    intro e _
    unfold lvP
    split
    · simp
    · have : (n = cst (kd cs x) ∧ outOf wd cs x e = q) ↔ (n - cst (kd cs x) = 0 ∧ outOf wd cs x e = q) := by
        constructor <;> (rintro ⟨h1, h2⟩; exact ⟨by omega, h2⟩)
      by_cases c : n = cst (kd cs x) ∧ outOf wd cs x e = q
      · rw [if_pos c, if_pos (this.1 c)]; rfl
      · rw [if_neg c, if_neg (fun z => c (this.2 z))]; rfl

theorem amt_lv {wd : Int} {cs : List (Int × Int)} {q : Int} {f : Nat} (ih : ∀ x d wt, wt < 128 → sumTo q (comeT wd cs f x d wt).2 = (wsum (fun n => (paths wd cs q f x d n).length) wt : Nat)) (x e : Int) (h : Nat) (hh : h < 128) :
    sumTo q (lvT wd cs (comeT wd cs f) x e h).2 = (wsum (lvP wd cs q f x e) h : Nat) := by
  unfold lvT
  by_cases h0 : h = 0
  · subst h0; rw [if_pos rfl, wsum_zero]; rfl
  · rw [if_neg h0]
    by_cases c : (rayN wd cs x e).2.2 = true
    · rw [if_pos c, ih _ _ _ hh]
      have : (fun n => (paths wd cs q f (rayN wd cs x e).1 e n).length) = lvP wd cs q f x e := by
        funext n; unfold lvP; rw [if_pos c]
      rw [this]
    · rw [if_neg c]
      have e1 : ∀ n, lvP wd cs q f x e n = if n = 0 ∧ outOf wd cs x e = q then 1 else 0 := by intro n; unfold lvP; rw [if_neg c]
      unfold endT
      rw [if_neg h0]
      simp only [sumTo, wsum, e1]
      by_cases z : outOf wd cs x e = q
      · simp [z]
      · simp [z]
theorem sumTo_end (q k x : Int) (wt : Nat) (hk : k ≠ 0) : sumTo q (endT k x wt).2 = 0 := by
  unfold endT
  split
  · rfl
  · simp [sumTo, hk]

theorem amt (wd : Int) (cs : List (Int × Int)) (q : Int) : ∀ f x d wt, wt < 128 → sumTo q (comeT wd cs f x d wt).2 = (wsum (fun n => (paths wd cs q f x d n).length) wt : Nat) := by
  intro f
  induction f with
  | zero => intro x d wt _; simp [comeT, paths, wsum, sumTo]
  | succ f ih =>
    intro x d wt hw
    by_cases h0 : wt = 0
    · subst h0; rw [comeT_zero, wsum_zero]; rfl
    · have hfun : (fun n => (paths wd cs q (f + 1) x d n).length) = fun n => if n < cst (kd cs x) then 0 else ((outs (kd cs x) d).map fun e => lvP wd cs q f x e (n - cst (kd cs x))).sum := by
        funext n; exact paths_len wd cs q f x d n
      rw [hfun]
      simp only [comeT]
      rw [if_neg h0]
      simp only [tapp, List.nil_append]
      unfold inCell
      by_cases k1 : kd cs x = 1
      · rw [if_pos k1, sumTo_end _ _ _ _ (by omega), k1]; simp [outs, wsum]
      rw [if_neg k1]
      by_cases k7 : kd cs x = 7
      · rw [if_pos k7, sumTo_end _ _ _ _ (by omega), k7]; simp [outs, wsum]
      rw [if_neg k7]
      by_cases k6 : kd cs x = 6
      · rw [if_pos k6]
        simp only [tapp, sumTo_append]
        rw [sumTo_end _ _ _ _ (by omega), amt_lv ih _ _ _ (by omega), ← wsum_half _ _ hw, k6]
        simp [outs, cst]
      rw [if_neg k6]
      by_cases k45 : kd cs x = 4 ∨ kd cs x = 5
      · rw [if_pos k45]
        simp only [tapp, sumTo_append]
        rw [sumTo_end _ _ _ _ (by omega), amt_lv ih _ _ _ (by omega), amt_lv ih _ _ _ (by omega), ← wsum_half _ _ hw, ← wsum_half _ _ hw]
        have ec : cst (kd cs x) = 1 := by unfold cst; rw [if_pos (Or.inr k45)]
        have eo : outs (kd cs x) d = [d, turnD (kd cs x) d] := by unfold outs; rw [if_neg (by omega), if_neg k6, if_pos k45]
        rw [ec, eo]
        have : (fun n => if n < 1 then 0 else ([d, turnD (kd cs x) d].map fun e => lvP wd cs q f x e (n - 1)).sum) = fun n => (if n < 1 then 0 else lvP wd cs q f x d (n - 1)) + (if n < 1 then 0 else lvP wd cs q f x (turnD (kd cs x) d) (n - 1)) := by
          funext n
          split <;> simp
        rw [this, wsum_add]
        omega
      · rw [if_neg k45, amt_lv ih _ _ _ hw]
        have ec : cst (kd cs x) = 0 := by unfold cst; rw [if_neg (by omega)]
        have eo : outs (kd cs x) d = [turnD (kd cs x) d] := by unfold outs; rw [if_neg (by omega), if_neg k6, if_neg k45]
        rw [ec, eo]
        simp
end Go.Proofs.Ytmnninhifiajhaa

/-
  Each way from sight to sight can be gone back, and is halved as often: as much goes there as comes back.
-/
namespace Go.Proofs.Ytmnninhifiajhaa
open Go.RowKit
set_option linter.unusedVariables false

def bkD (d : Int) : Int := (d + 2) % 4
theorem bkD_in (d : Int) : 0 ≤ bkD d ∧ bkD d ≤ 3 := by unfold bkD; omega
theorem bkD_two {d : Int} (h : 0 ≤ d ∧ d ≤ 3) : bkD (bkD d) = d := by unfold bkD; omega

theorem outs_in {k d e : Int} (hd : 0 ≤ d ∧ d ≤ 3) (h : e ∈ outs k d) : 0 ≤ e ∧ e ≤ 3 := by
  unfold outs at h
  split at h
  · simp at h
  · split at h
    · simp at h; subst h; exact hd
    · split at h
      · simp at h; rcases h with rfl | rfl
        · exact hd
        · exact turnD_range hd
      · simp at h; subst h; exact turnD_range hd
theorem turnD_back {k d : Int} (hd : 0 ≤ d ∧ d ≤ 3) : turnD k (bkD (turnD k d)) = bkD d := by
  rw [turnD_in k d hd.1 hd.2]
  rcases (show d = 0 ∨ d = 1 ∨ d = 2 ∨ d = 3 by omega) with rfl | rfl | rfl | rfl <;>
    (by_cases c1 : k = 2 ∨ k = 4
     · simp [turnD, slashD, bkD, c1]
     · by_cases c2 : k = 3 ∨ k = 5
       · simp [turnD, bkD, c1, c2]
       · simp [turnD, bkD, c1, c2])
theorem outs_back {k d e : Int} (hd : 0 ≤ d ∧ d ≤ 3) (h : e ∈ outs k d) : bkD d ∈ outs k (bkD e) := by
  have tb := turnD_back (k := k) hd
  unfold outs at h ⊢
  split at h
  · simp at h
  · next n1 =>
    rw [if_neg n1]
    split at h
    · next n2 => rw [if_pos n2]; simp at h; subst h; simp
    · next n2 =>
      rw [if_neg n2]
      split at h
      · next n3 =>
        rw [if_pos n3]
        simp at h
        rcases h with rfl | rfl
        · simp
        · simp [tb]
      · next n3 => rw [if_neg n3]; simp at h; subst h; simp [tb]
theorem outs_nodup {k d : Int} (hd : 0 ≤ d ∧ d ≤ 3) : (outs k d).Nodup := by
  unfold outs
  split
  · simp
  · split
    · simp
    · split
      · next n3 =>
        rw [turnD_in k d hd.1 hd.2]
        simp
        unfold slashD
        split
        · split <;> omega
        · split <;> omega
      · simp

/-- A step that there may be. -/
def okStp (cs : List (Int × Int)) (t : Stp) : Prop := t.2.2 ∈ outs (kd cs t.1) t.2.1 ∧ okS cs (t.1, t.2.1)
/-- One step behind the other. -/
def linked (wd : Int) (cs : List (Int × Int)) (t u : Stp) : Prop := (rayN wd cs t.1 t.2.2).2.2 = true ∧ (rayN wd cs t.1 t.2.2).1 = u.1 ∧ u.2.1 = t.2.2
def chainL (R : Stp → Stp → Prop) : List Stp → Prop
  | [] => True
  | [_] => True
  | a :: b :: l => R a b ∧ chainL R (b :: l)
def costL (cs : List (Int × Int)) : List Stp → Nat
  | [] => 0
  | t :: r => cst (kd cs t.1) + costL cs r
theorem costL_append (cs : List (Int × Int)) (a b : List Stp) : costL cs (a ++ b) = costL cs a + costL cs b := by
  induction a with
  | nil => simp [costL]
  | cons t r ih => simp only [List.cons_append, costL, ih]; omega
theorem chain_snoc {R : Stp → Stp → Prop} : ∀ (l : List Stp) (a b : Stp), chainL R (l ++ [a]) → R a b → chainL R (l ++ [a] ++ [b])
  | [], a, b, _, h => ⟨h, trivial⟩
  | [c], a, b, h, h2 => ⟨h.1, h2, trivial⟩
  | c :: c2 :: l, a, b, h, h2 => ⟨h.1, chain_snoc (c2 :: l) a b h.2 h2⟩
theorem chain_rev {R Q : Stp → Stp → Prop} {g : Stp → Stp} : ∀ (l : List Stp), (∀ a ∈ l, ∀ b ∈ l, R a b → Q (g b) (g a)) → chainL R l → chainL Q (l.map g).reverse
  | [], _, _ => trivial
  | [a], _, _ => trivial
  | a :: b :: l, hR, h => by
    have ih := chain_rev (b :: l) (fun x hx y hy => hR x (List.mem_cons_of_mem _ hx) y (List.mem_cons_of_mem _ hy)) h.2
    simp only [List.map_cons, List.reverse_cons] at ih ⊢
    exact chain_snoc _ _ _ ih (hR a (by simp) b (by simp) h.1)

/-- A way from a cell to a sight. -/
structure isPath (wd : Int) (cs : List (Int × Int)) (q x d : Int) (n : Nat) (p : List Stp) : Prop where
  first : ∃ e r, p = (x, d, e) :: r
  oks : ∀ t ∈ p, okStp cs t
  chain : chainL (linked wd cs) p
  cost : costL cs p = n
  last : ∃ l t, p = l ++ [t] ∧ (rayN wd cs t.1 t.2.2).2.2 = false ∧ outOf wd cs t.1 t.2.2 = q

theorem mem_paths (wd : Int) (cs : List (Int × Int)) (q : Int) : ∀ f x d n p, okS cs (x, d) → (p ∈ paths wd cs q f x d n ↔ isPath wd cs q x d n p ∧ p.length ≤ f) := by
  intro f
  induction f with
  | zero =>
    intro x d n p _
    simp only [paths]
    constructor
    · intro h; simp at h
    · rintro ⟨h, hl⟩
      obtain ⟨e, r, rfl⟩ := h.first
      simp at hl
  | succ f ih =>
    intro x d n p hs
    simp only [paths]
    constructor
    · intro h
      split at h
      · simp at h
      · next hn =>
        rw [List.mem_flatMap] at h
        obtain ⟨e, he, h⟩ := h
        have hstp : okStp cs (x, d, e) := ⟨he, hs⟩
        split at h
        · next c =>
          rw [List.mem_map] at h
          obtain ⟨p', hp', rfl⟩ := h
          obtain ⟨r1, r2, _⟩ := rayN_back c
          obtain ⟨hi, hl⟩ := (ih _ _ _ _ (show okS cs ((rayN wd cs x e).1, e) from ⟨r1, r2⟩)).1 hp'
          obtain ⟨e', r', rfl⟩ := hi.first
          refine ⟨⟨⟨e, _, rfl⟩, ?_, ⟨⟨c, rfl, rfl⟩, hi.chain⟩, ?_, ?_⟩, by simp at hl ⊢; omega⟩
          · intro t ht
            rcases List.mem_cons.1 ht with rfl | ht
            · exact hstp
            · exact hi.oks t ht
          · have := hi.cost
            simp only [costL] at this ⊢
            omega
          · obtain ⟨l, t, e1, e2, e3⟩ := hi.last
            exact ⟨(x, d, e) :: l, t, by rw [e1]; rfl, e2, e3⟩
        · next c =>
          split at h
          · next z =>
            simp at h
            subst h
            refine ⟨⟨⟨e, [], rfl⟩, ?_, trivial, ?_, ⟨[], _, rfl, by simpa using c, z.2⟩⟩, by simp⟩
            · intro t ht
              simp at ht
              subst ht
              exact hstp
            · simp only [costL]; omega
          · simp at h
    · rintro ⟨h, hl⟩
      obtain ⟨e, r, rfl⟩ := h.first
      have hst := h.oks (x, d, e) (by simp)
      have hc := h.cost
      simp only [costL] at hc
      rw [if_neg (by omega), List.mem_flatMap]
      refine ⟨e, hst.1, ?_⟩
      cases r with
      | nil =>
        obtain ⟨l, t, e1, e2, e3⟩ := h.last
        have e4 : l = [] ∧ t = (x, d, e) := by
          cases l with
          | nil => simp at e1; exact ⟨rfl, e1.symm⟩
          | cons a l => simp at e1
        obtain ⟨rfl, rfl⟩ := e4
        simp only at e2 e3
        rw [if_neg (by simp [e2]), if_pos ⟨by simp only [costL] at hc; omega, e3⟩]
        simp
      | cons u r =>
        obtain ⟨⟨k1, k2, k3⟩, hch⟩ := h.chain
        simp only at k1 k2 k3
        rw [if_pos k1, List.mem_map]
        obtain ⟨r1, r2, _⟩ := rayN_back k1
        refine ⟨u :: r, (ih _ _ _ _ (show okS cs ((rayN wd cs x e).1, e) from ⟨r1, r2⟩)).2 ⟨⟨⟨u.2.2, r, ?_⟩, fun t ht => h.oks t (List.mem_cons_of_mem _ ht), hch, by omega, ?_⟩, by simp at hl ⊢; omega⟩, rfl⟩
        · rw [k2, ← k3]
        · obtain ⟨l, t, e1, e2, e3⟩ := h.last
          cases l with
          | nil => simp at e1
          | cons a l =>
            simp only [List.cons_append, List.cons.injEq] at e1
            exact ⟨l, t, e1.2, e2, e3⟩

theorem flat_nodup {α β : Type} (g : α → List β) : ∀ l : List α, l.Nodup → (∀ a ∈ l, (g a).Nodup) → (∀ a ∈ l, ∀ b ∈ l, a ≠ b → ∀ x ∈ g a, x ∉ g b) → (l.flatMap g).Nodup := by
  intro l
  induction l with
  | nil => intro _ _ _; simp
  | cons a l ih =>
    intro h1 h2 h3
    rw [List.flatMap_cons, List.nodup_append]
    rw [List.nodup_cons] at h1
    refine ⟨h2 a (by simp), ih h1.2 (fun b hb => h2 b (by simp [hb])) (fun b hb c hc => h3 b (by simp [hb]) c (by simp [hc])), ?_⟩
    intro x hx y hy e
    subst e
    rw [List.mem_flatMap] at hy
    obtain ⟨b, hb, hy⟩ := hy
    exact h3 a (by simp) b (by simp [hb]) (fun e => h1.1 (e ▸ hb)) x hx hy
theorem map_nodup {α β : Type} (g : α → β) (hg : ∀ a b, g a = g b → a = b) : ∀ l : List α, l.Nodup → (l.map g).Nodup := by
  intro l
  induction l with
  | nil => intro _; simp
  | cons a l ih =>
    intro h
    rw [List.nodup_cons] at h
    rw [List.map_cons, List.nodup_cons]
    refine ⟨fun q => ?_, ih h.2⟩
    rw [List.mem_map] at q
    obtain ⟨b, hb, e⟩ := q
    exact h.1 (hg b a e ▸ hb)
theorem paths_nodup (wd : Int) (cs : List (Int × Int)) (q : Int) : ∀ f x d n, (0 ≤ d ∧ d ≤ 3) → (paths wd cs q f x d n).Nodup := by
  intro f
  induction f with
  | zero => intro x d n _; simp [paths]
  | succ f ih =>
    intro x d n hd
    simp only [paths]
    split
    · simp
    · refine flat_nodup _ _ (outs_nodup hd) ?_ ?_
      · intro e he
        split
        · exact map_nodup _ (fun a b h => by simpa using h) _ (ih _ _ _ (outs_in hd he))
        · split <;> simp
      · intro e _ e2 _ hne p hp hp2
        have key : ∀ e', p ∈ (if (rayN wd cs x e').2.2 = true then (paths wd cs q f (rayN wd cs x e').1 e' (n - cst (kd cs x))).map (fun p => (x, d, e') :: p) else if n = cst (kd cs x) ∧ outOf wd cs x e' = q then [[(x, d, e')]] else []) → ∃ r, p = (x, d, e') :: r := by
          intro e' h
          split at h
          · rw [List.mem_map] at h
            obtain ⟨r, _, e⟩ := h
            exact ⟨r, e.symm⟩
          · split at h
            · simp at h; exact ⟨[], h⟩
            · simp at h
        obtain ⟨r1, q1⟩ := key e hp
        obtain ⟨r2, q2⟩ := key e2 hp2
        rw [q1] at q2
        simp at q2
        exact hne q2.1

theorem nodup_le {α : Type} [DecidableEq α] : ∀ (l1 l2 : List α), l1.Nodup → (∀ a ∈ l1, a ∈ l2) → l1.length ≤ l2.length := by
  intro l1
  induction l1 with
  | nil => intro _ _ _; simp
  | cons a r ih =>
    intro l2 h1 h2
    rw [List.nodup_cons] at h1
    have ha := h2 a (by simp)
    have h3 := ih (l2.erase a) h1.2 (fun b hb => (List.mem_erase_of_ne (fun e => by subst e; exact h1.1 hb)).2 (h2 b (by simp [hb])))
    have h4 := List.length_erase_of_mem ha
    have h5 := List.length_pos_of_mem ha
    simp only [List.length_cons]
    omega
theorem count_le {α β : Type} [DecidableEq β] (g : α → β) (g' : β → α) (l1 : List α) (l2 : List β) (h1 : l1.Nodup) (h2 : ∀ p ∈ l1, g p ∈ l2) (h3 : ∀ p ∈ l1, g' (g p) = p) : l1.length ≤ l2.length := by
  have hm : (l1.map g).Nodup := by
    clear h2
    induction l1 with
    | nil => simp
    | cons a l ih =>
      rw [List.nodup_cons] at h1
      rw [List.map_cons, List.nodup_cons]
      refine ⟨fun q => ?_, ih h1.2 (fun p hp => h3 p (by simp [hp]))⟩
      rw [List.mem_map] at q
      obtain ⟨b, hb, e⟩ := q
      have e1 := h3 b (by simp [hb])
      have e2 := h3 a (by simp)
      rw [e, e2] at e1
      exact h1.1 (e1 ▸ hb)
  have := nodup_le (l1.map g) l2 hm (fun b hb => by rw [List.mem_map] at hb; obtain ⟨a, ha, rfl⟩ := hb; exact h2 a ha)
  simpa using this

/-- A step gone back, and a way. -/
def rvS (t : Stp) : Stp := (t.1, bkD t.2.2, bkD t.2.1)
def rvP (p : List Stp) : List Stp := (p.map rvS).reverse
theorem rvP_two {cs : List (Int × Int)} {p : List Stp} (h : ∀ t ∈ p, okStp cs t) : rvP (rvP p) = p := by
  unfold rvP
  rw [List.map_reverse, List.reverse_reverse, List.map_map]
  have : p.map (rvS ∘ rvS) = p.map id := by
    apply List.map_congr_left
    intro t ht
    have hs := h t ht
    have hd : 0 ≤ t.2.1 ∧ t.2.1 ≤ 3 := hs.2.2
    have he := outs_in hd hs.1
    show (t.1, bkD (bkD t.2.1), bkD (bkD t.2.2)) = t
    rw [bkD_two hd, bkD_two he]
  rw [this, List.map_id]
theorem rv_ok {cs : List (Int × Int)} {t : Stp} (h : okStp cs t) : okStp cs (rvS t) := ⟨outs_back h.2.2 h.1, h.2.1, bkD_in _⟩
theorem rv_linked {wd : Int} {cs : List (Int × Int)} {t u : Stp} (h : linked wd cs t u) : linked wd cs (rvS u) (rvS t) := by
  obtain ⟨h1, h2, h3⟩ := h
  have b := (rayN_back h1).2.2
  rw [h2] at b
  have e : (rayN wd cs (rvS u).1 (rvS u).2.2) = (t.1, (t.2.2 + 2) % 4, true) := by
    show rayN wd cs u.1 (bkD u.2.1) = _
    rw [h3]; exact b
  exact ⟨by rw [e], by rw [e]; rfl, by show bkD t.2.2 = bkD u.2.1; rw [h3]⟩
theorem rv_cost (cs : List (Int × Int)) (p : List Stp) : costL cs (rvP p) = costL cs p := by
  unfold rvP
  induction p with
  | nil => rfl
  | cons t r ih =>
    simp only [List.map_cons, List.reverse_cons, costL_append, ih]
    simp only [costL, rvS]
    omega

/-- A way from sight to sight, gone back. -/
theorem rv_path {wd : Int} {cs : List (Int × Int)} (hok : okG wd cs = true) {k q x d y e : Int} {n : Nat} {p : List Stp} (hk : inRay wd cs k = (x, d, true)) (hq : inRay wd cs q = (y, e, true)) (h : isPath wd cs q x d n p) : isPath wd cs k y e n (rvP p) := by
  obtain ⟨e1, r, hp⟩ := h.first
  obtain ⟨l, t, hl, ht1, ht2⟩ := h.last
  have htm : t ∈ p := by rw [hl]; simp
  have hts := h.oks t htm
  have hte := outs_in hts.2.2 hts.1
  have hst : inRay wd cs q = (t.1, (t.2.2 + 2) % 4, true) := by
    rcases out_fact hok (x := t.1) (d := t.2.2) hts.2.1 hte with ⟨x2, d2, z, _⟩ | ⟨_, z⟩
    · rw [z] at ht1; cases ht1
    · rw [ht2] at z; exact z
  rw [hq] at hst
  simp only [Prod.mk.injEq] at hst
  obtain ⟨hd, b1, b2, _⟩ := back_fact hk
  refine ⟨⟨bkD t.2.1, (l.map rvS).reverse, ?_⟩, ?_, chain_rev p (fun a _ b _ z => rv_linked z) h.chain, by rw [rv_cost]; exact h.cost, ⟨(r.map rvS).reverse, rvS (x, d, e1), ?_, ?_, ?_⟩⟩
  · unfold rvP
    rw [hl, List.map_append, List.reverse_append]
    show rvS t :: (l.map rvS).reverse = _
    rw [hst.1, hst.2.1]
    rfl
  · intro u hu
    unfold rvP at hu
    rw [List.mem_reverse, List.mem_map] at hu
    obtain ⟨z, hz, rfl⟩ := hu
    exact rv_ok (h.oks z hz)
  · unfold rvP
    rw [hp, List.map_cons, List.reverse_cons]
  · show (rayN wd cs x (bkD d)).2.2 = false
    rw [show rayN wd cs x (bkD d) = (0, 0, false) from b1]
  · exact b2

theorem paths_back {wd : Int} {cs : List (Int × Int)} (hok : okG wd cs = true) {k q x d y e : Int} (hk : inRay wd cs k = (x, d, true)) (hq : inRay wd cs q = (y, e, true)) (f n : Nat) : (paths wd cs q f x d n).length ≤ (paths wd cs k f y e n).length := by
  have s1 := (enough_sight hk).1
  have s2 := (enough_sight hq).1
  refine count_le rvP rvP _ _ (paths_nodup wd cs q f x d n s1.2) ?_ ?_
  · intro p hp
    obtain ⟨h, hl⟩ := (mem_paths wd cs q f x d n p s1).1 hp
    exact (mem_paths wd cs k f y e n (rvP p) s2).2 ⟨rv_path hok hk hq h, by simpa [rvP] using hl⟩
  · intro p hp
    exact rvP_two ((mem_paths wd cs q f x d n p s1).1 hp).1.oks

theorem inS_ray {wd : Int} {cs : List (Int × Int)} {k : Int} (h : inS wd cs k = true) : ∃ x d, inRay wd cs k = (x, d, true) := by
  have hok := inS_ok h
  simp only [inS, decide_eq_true_eq] at h
  unfold inRay
  rw [if_pos ⟨hok, h.1, h.2⟩]
  exact ⟨_, _, rfl⟩
/-- As much goes there as comes back. -/
theorem to_back {wd : Int} {cs : List (Int × Int)} {k q : Int} (hk : inS wd cs k = true) (hq : inS wd cs q = true) : toN wd cs k q = toN wd cs q k := by
  have hok := inS_ok hk
  obtain ⟨x, d, r1⟩ := inS_ray hk
  obtain ⟨y, e, r2⟩ := inS_ray hq
  unfold toN trailT
  rw [if_pos hk, if_pos hq, r1, r2]
  simp only
  rw [amt wd cs q 707 x d 64 (by omega), amt wd cs k 707 y e 64 (by omega)]
  have : (fun n => (paths wd cs q 707 x d n).length) = fun n => (paths wd cs k 707 y e n).length := by
    funext n
    exact Nat.le_antisymm (paths_back hok r1 r2 707 n) (paths_back hok r2 r1 707 n)
  rw [this]
end Go.Proofs.Ytmnninhifiajhaa

/-
  More plain facts on light: what is not seen changes nothing; a lamp is as good as a wall; light is halved and halved again; what is half as much ends as half as much; light goes from cell to cell.
-/
namespace Go.Proofs.Ytmnninhifiajhaa
open Go.RowKit
set_option linter.unusedVariables false

theorem rayN_same {wd : Int} {cs cs' : List (Int × Int)} (h : okG wd cs = true) (h' : okG wd cs' = true) (hl : cs'.length = cs.length) (x d : Int) : rayN wd cs' x d = rayN wd cs x d := by
  unfold rayN
  rw [h, h', hl]
theorem manyG_same {wd : Int} {cs cs' : List (Int × Int)} (h : okG wd cs = true) (h' : okG wd cs' = true) (hl : cs'.length = cs.length) : manyG wd cs' = manyG wd cs := by
  unfold manyG
  rw [h, h', hl]
theorem outOf_same {wd : Int} {cs cs' : List (Int × Int)} (h : okG wd cs = true) (h' : okG wd cs' = true) (hl : cs'.length = cs.length) (x d : Int) : outOf wd cs' x d = outOf wd cs x d := by
  unfold outOf
  rw [manyG_same h h' hl, h, h', hl]
theorem inRay_same {wd : Int} {cs cs' : List (Int × Int)} (h : okG wd cs = true) (h' : okG wd cs' = true) (hl : cs'.length = cs.length) (k : Int) : inRay wd cs' k = inRay wd cs k := by
  unfold inRay
  rw [manyG_same h h' hl, h, h', hl]
theorem inS_same {wd : Int} {cs cs' : List (Int × Int)} (h : okG wd cs = true) (h' : okG wd cs' = true) (hl : cs'.length = cs.length) (k : Int) : inS wd cs' k = inS wd cs k := by
  unfold inS
  rw [manyG_same h h' hl]

/-- What is not seen changes nothing. -/
theorem lv_same {wd : Int} {cs cs' : List (Int × Int)} (h : okG wd cs = true) (h' : okG wd cs' = true) (hl : cs'.length = cs.length) {f : Nat} (ih : ∀ x d wt, (∀ u ∈ (comeT wd cs f x d wt).1, kd cs' u.1 = kd cs u.1) → comeT wd cs' f x d wt = comeT wd cs f x d wt) (x e : Int) (n : Nat)
    (hv : ∀ u ∈ (lvT wd cs (comeT wd cs f) x e n).1, kd cs' u.1 = kd cs u.1) : lvT wd cs' (comeT wd cs' f) x e n = lvT wd cs (comeT wd cs f) x e n := by
  unfold lvT at hv ⊢
  rw [rayN_same h h' hl, outOf_same h h' hl]
  by_cases h0 : n = 0
  · rw [if_pos h0, if_pos h0]
  · rw [if_neg h0] at hv ⊢
    rw [if_neg h0]
    by_cases c : (rayN wd cs x e).2.2 = true
    · rw [if_pos c] at hv ⊢
      rw [if_pos c]
      exact ih _ _ _ hv
    · rw [if_neg c, if_neg c]
theorem come_same {wd : Int} {cs cs' : List (Int × Int)} (h : okG wd cs = true) (h' : okG wd cs' = true) (hl : cs'.length = cs.length) : ∀ f x d wt, (∀ u ∈ (comeT wd cs f x d wt).1, kd cs' u.1 = kd cs u.1) → comeT wd cs' f x d wt = comeT wd cs f x d wt := by
  intro f
  induction f with
  | zero => intro x d wt _; rfl
  | succ f ih =>
    intro x d wt hv
    simp only [comeT] at hv ⊢
    by_cases h0 : wt = 0
    · rw [if_pos h0, if_pos h0]
    · rw [if_neg h0] at hv ⊢
      rw [if_neg h0]
      have hk : kd cs' x = kd cs x := hv (x, d, (wt : Int)) (by simp [tapp])
      have hI : ∀ u ∈ (inCell wd cs (comeT wd cs f) x d wt).1, kd cs' u.1 = kd cs u.1 := fun u hu => hv u (by simp [tapp, hu])
      congr 1
      unfold inCell at hI ⊢
      rw [hk]
      by_cases k1 : kd cs x = 1
      · rw [if_pos k1, if_pos k1]
      rw [if_neg k1] at hI ⊢
      rw [if_neg k1]
      by_cases k7 : kd cs x = 7
      · rw [if_pos k7, if_pos k7]
      rw [if_neg k7] at hI ⊢
      rw [if_neg k7]
      by_cases k6 : kd cs x = 6
      · rw [if_pos k6] at hI ⊢
        rw [if_pos k6, lv_same h h' hl ih _ _ _ (fun u hu => hI u (by simp [tapp, hu]))]
      rw [if_neg k6] at hI ⊢
      rw [if_neg k6]
      by_cases k45 : kd cs x = 4 ∨ kd cs x = 5
      · rw [if_pos k45] at hI ⊢
        rw [if_pos k45, lv_same h h' hl ih _ _ _ (fun u hu => hI u (by simp [tapp, hu])), lv_same h h' hl ih _ _ _ (fun u hu => hI u (by simp [tapp, hu]))]
      · rw [if_neg k45] at hI ⊢
        rw [if_neg k45, lv_same h h' hl ih _ _ _ hI]
theorem trail_same {wd : Int} {cs cs' : List (Int × Int)} (h : okG wd cs = true) (h' : okG wd cs' = true) (hl : cs'.length = cs.length) (k : Int) (hv : ∀ u ∈ (trailT wd cs k).1, kd cs' u.1 = kd cs u.1) : trailT wd cs' k = trailT wd cs k := by
  unfold trailT at hv ⊢
  rw [inS_same h h' hl, inRay_same h h' hl]
  split
  · next c =>
    rw [if_pos c] at hv
    exact come_same h h' hl _ _ _ _ hv
  · rfl

/-- Ends in lamps as ends in walls. -/
def toWall (t : Int × Int × Int) : Int × Int × Int := if t.1 = 2 then (1, t.2.1, t.2.2) else t
def wallT (t : Tr) : Tr := (t.1, t.2.map toWall)
theorem wallT_app (a b : Tr) : wallT (tapp a b) = tapp (wallT a) (wallT b) := by simp [wallT, tapp]
theorem wallT_end (k x : Int) (wt : Nat) : wallT (endT k x wt) = endT (if k = 2 then 1 else k) x wt := by
  unfold wallT endT
  by_cases h : wt = 0
  · simp [h]
  · by_cases c : k = 2
    · simp [h, toWall, c]
    · simp [h, toWall, c]
theorem lv_wall {wd : Int} {cs cs' : List (Int × Int)} (h : okG wd cs = true) (h' : okG wd cs' = true) (hl : cs'.length = cs.length) {f : Nat} (ih : ∀ x d wt, comeT wd cs' f x d wt = wallT (comeT wd cs f x d wt)) (x e : Int) (n : Nat) :
    lvT wd cs' (comeT wd cs' f) x e n = wallT (lvT wd cs (comeT wd cs f) x e n) := by
  unfold lvT
  rw [rayN_same h h' hl, outOf_same h h' hl]
  by_cases h0 : n = 0
  · rw [if_pos h0, if_pos h0]; rfl
  · rw [if_neg h0, if_neg h0]
    by_cases c : (rayN wd cs x e).2.2 = true
    · rw [if_pos c, if_pos c]; exact ih _ _ _
    · rw [if_neg c, if_neg c, wallT_end, if_neg (by omega)]
/-- To light a lamp is as good as a wall. -/
theorem come_wall {wd : Int} {cs cs' : List (Int × Int)} (h : okG wd cs = true) (h' : okG wd cs' = true) (hl : cs'.length = cs.length) (hk : ∀ x, kd cs' x = if kd cs x = 7 then 1 else kd cs x) : ∀ f x d wt, comeT wd cs' f x d wt = wallT (comeT wd cs f x d wt) := by
  intro f
  induction f with
  | zero => intro x d wt; rfl
  | succ f ih =>
    intro x d wt
    simp only [comeT]
    by_cases h0 : wt = 0
    · rw [if_pos h0, if_pos h0]; rfl
    · rw [if_neg h0, if_neg h0, wallT_app]
      have e0 : wallT ([(x, d, (wt : Int))], []) = ([(x, d, (wt : Int))], []) := by simp [wallT]
      rw [e0]
      congr 1
      unfold inCell
      rw [hk x]
      by_cases k7 : kd cs x = 7
      · rw [if_pos k7, if_pos rfl, if_neg (by omega), if_pos k7, wallT_end, if_pos rfl]
      rw [if_neg k7]
      by_cases k1 : kd cs x = 1
      · rw [if_pos k1, if_pos k1, wallT_end, if_neg (by omega)]
      rw [if_neg k1, if_neg k1, if_neg k7, if_neg k7]
      by_cases k6 : kd cs x = 6
      · rw [if_pos k6, if_pos k6, wallT_app, wallT_end, if_neg (by omega), lv_wall h h' hl ih]
      rw [if_neg k6, if_neg k6]
      by_cases k45 : kd cs x = 4 ∨ kd cs x = 5
      · rw [if_pos k45, if_pos k45, wallT_app, wallT_app, wallT_end, if_neg (by omega), lv_wall h h' hl ih, lv_wall h h' hl ih]
      · rw [if_neg k45, if_neg k45, lv_wall h h' hl ih]

/-- One of 64, 32 and so on. -/
def IsHalf (n : Int) : Prop := n = 64 ∨ n = 32 ∨ n = 16 ∨ n = 8 ∨ n = 4 ∨ n = 2 ∨ n = 1
theorem half_half {n : Nat} (h : n = 0 ∨ IsHalf (n : Int)) : n / 2 = 0 ∨ IsHalf ((n / 2 : Nat) : Int) := by
  unfold IsHalf at *
  omega
def HalfT (t : Tr) : Prop := (∀ u ∈ t.1, IsHalf u.2.2) ∧ ∀ u ∈ t.2, u.1 ≠ 3 → IsHalf u.2.2
theorem halfT_app {a b : Tr} (ha : HalfT a) (hb : HalfT b) : HalfT (tapp a b) := by
  constructor
  · intro u hu
    simp only [tapp, List.mem_append] at hu
    rcases hu with q | q
    · exact ha.1 u q
    · exact hb.1 u q
  · intro u hu
    simp only [tapp, List.mem_append] at hu
    rcases hu with q | q
    · exact ha.2 u q
    · exact hb.2 u q
theorem halfT_end (k x : Int) (wt : Nat) (h : k = 3 ∨ wt = 0 ∨ IsHalf (wt : Int)) : HalfT (endT k x wt) := by
  refine ⟨by simp [endT], ?_⟩
  intro u hu
  unfold endT at hu
  split at hu
  · simp at hu
  · next h0 =>
    simp at hu
    subst hu
    intro hk
    rcases h with q | q | q
    · exact absurd q hk
    · exact absurd q h0
    · exact q
theorem halfT_lv {wd : Int} {cs : List (Int × Int)} {f : Nat} (ih : ∀ x d wt, (wt = 0 ∨ IsHalf ((wt : Nat) : Int)) → HalfT (comeT wd cs f x d wt)) (x e : Int) (n : Nat) (hn : n = 0 ∨ IsHalf (n : Int)) : HalfT (lvT wd cs (comeT wd cs f) x e n) := by
  unfold lvT
  split
  · exact ⟨by simp, by simp⟩
  · split
    · exact ih _ _ _ hn
    · exact halfT_end _ _ _ (Or.inr hn)
/-- Light is halved, and halved again. -/
theorem halfT_come (wd : Int) (cs : List (Int × Int)) : ∀ f x d wt, (wt = 0 ∨ IsHalf ((wt : Nat) : Int)) → HalfT (comeT wd cs f x d wt) := by
  intro f
  induction f with
  | zero => intro x d wt _; exact ⟨by simp [comeT], by simp [comeT]⟩
  | succ f ih =>
    intro x d wt hw
    simp only [comeT]
    split
    · exact ⟨by simp, by simp⟩
    · next h0 =>
      have hw2 : IsHalf (wt : Int) := hw.resolve_left h0
      refine halfT_app ⟨by intro u hu; simp at hu; subst hu; exact hw2, by simp⟩ ?_
      unfold inCell
      split
      · exact halfT_end _ _ _ (Or.inr hw)
      · split
        · exact halfT_end _ _ _ (Or.inr hw)
        · split
          · exact halfT_app (halfT_end _ _ _ (Or.inl rfl)) (halfT_lv ih _ _ _ (half_half hw))
          · split
            · exact halfT_app (halfT_end _ _ _ (Or.inl rfl)) (halfT_app (halfT_lv ih _ _ _ (half_half hw)) (halfT_lv ih _ _ _ (half_half hw)))
            · exact halfT_lv ih _ _ _ hw

/-- How much ends at a sight, each end halved. -/
def sumToH (q : Int) : List (Int × Int × Int) → Int
  | [] => 0
  | t :: r => (if t.1 = 0 ∧ t.2.1 = q then t.2.2 / 2 else 0) + sumToH q r
theorem sumToH_append (q : Int) (a b : List (Int × Int × Int)) : sumToH q (a ++ b) = sumToH q a + sumToH q b := by
  induction a with
  | nil => simp [sumToH]
  | cons t r ih => simp only [List.cons_append, sumToH, ih]; omega
theorem sumToH_end (q k x : Int) (wt : Nat) (hk : k ≠ 0) : sumToH q (endT k x wt).2 = 0 := by
  unfold endT
  split
  · rfl
  · simp [sumToH, hk]
theorem dim_lv {wd : Int} {cs : List (Int × Int)} {q : Int} {f : Nat} (ih : ∀ x d wt, sumToH q (comeT wd cs f x d wt).2 = sumTo q (comeT wd cs f x d (wt / 2)).2) (x e : Int) (n : Nat) :
    sumToH q (lvT wd cs (comeT wd cs f) x e n).2 = sumTo q (lvT wd cs (comeT wd cs f) x e (n / 2)).2 := by
  unfold lvT
  by_cases h0 : n = 0
  · subst h0; simp [sumToH, sumTo]
  · rw [if_neg h0]
    by_cases c : (rayN wd cs x e).2.2 = true
    · rw [if_pos c, ih, if_pos c]
      by_cases h1 : n / 2 = 0
      · rw [if_pos h1, h1, comeT_zero]
      · rw [if_neg h1]
    · rw [if_neg c, if_neg c]
      unfold endT
      rw [if_neg h0]
      by_cases h1 : n / 2 = 0
      · rw [if_pos h1]
        simp only [sumToH, sumTo]
        split <;> omega
      · rw [if_neg h1, if_neg h1]
        simp only [sumToH, sumTo]
        split <;> omega
/-- Of half as much half as much ends there. -/
theorem dim_come (wd : Int) (cs : List (Int × Int)) (q : Int) : ∀ f x d wt, sumToH q (comeT wd cs f x d wt).2 = sumTo q (comeT wd cs f x d (wt / 2)).2 := by
  intro f
  induction f with
  | zero => intro x d wt; rfl
  | succ f ih =>
    intro x d wt
    by_cases h0 : wt = 0
    · subst h0; simp only [Nat.zero_div, comeT_zero]; rfl
    · have hz : wt / 2 = 0 ∨ ¬ wt / 2 = 0 := by omega
      have key : sumToH q (inCell wd cs (comeT wd cs f) x d wt).2 = sumTo q (inCell wd cs (comeT wd cs f) x d (wt / 2)).2 := by
        unfold inCell
        split
        · rw [sumToH_end _ _ _ _ (by omega), sumTo_end _ _ _ _ (by omega)]
        · split
          · rw [sumToH_end _ _ _ _ (by omega), sumTo_end _ _ _ _ (by omega)]
          · split
            · simp only [tapp, sumToH_append, sumTo_append]
              rw [sumToH_end _ _ _ _ (by omega), sumTo_end _ _ _ _ (by omega), dim_lv ih]
            · split
              · simp only [tapp, sumToH_append, sumTo_append]
                rw [sumToH_end _ _ _ _ (by omega), sumTo_end _ _ _ _ (by omega), dim_lv ih, dim_lv ih]
              · exact dim_lv ih _ _ _
      rcases hz with hz | hz
      · rw [hz, comeT_zero]
        rw [hz] at key
        simp only [comeT]
        rw [if_neg h0]
        simp only [tapp, List.nil_append]
        rw [key]
        unfold inCell
        split
        · exact sumTo_end _ _ _ _ (by omega)
        · split
          · exact sumTo_end _ _ _ _ (by omega)
          · split
            · simp [tapp, sumTo_end, lvT, sumTo]
            · split
              · simp [tapp, sumTo_end, lvT, sumTo]
              · simp [lvT, sumTo]
      · simp only [comeT]
        rw [if_neg h0, if_neg hz]
        simp only [tapp, List.nil_append]
        exact key
end Go.Proofs.Ytmnninhifiajhaa

/-
  Light where nothing halves it: it ends once, it comes to no cell twice going the same way, it does not come back where it came in; with mirrors alone sights are in pairs.
-/
namespace Go.Proofs.Ytmnninhifiajhaa
open Go.RowKit
set_option linter.unusedVariables false

/-- Neither glass, nor what dims. -/
def clearG (cs : List (Int × Int)) : Prop := ∀ x : Int, 0 ≤ x ∧ x < (cs.length : Int) → kd cs x ≠ 4 ∧ kd cs x ≠ 5 ∧ kd cs x ≠ 6

theorem clear_pure {cs : List (Int × Int)} (h : clearG cs) {x : Int} (hx : 0 ≤ x ∧ x < (cs.length : Int)) (h1 : kd cs x ≠ 1) (h7 : kd cs x ≠ 7) : pureK (kd cs x) := by
  obtain ⟨a, b, c⟩ := h x hx
  exact ⟨h1, h7, c, a, b⟩

/-- Fresh light that goes on undivided is at no cell twice, going the same way. -/
theorem it_apart {wd : Int} {cs : List (Int × Int)} {s : Int × Int} (hs : okS cs s) (hf : fresh wd cs s.1 s.2) (m : Nat) (ha : ∀ i, i < m → alive wd cs (itS wd cs s i)) : ∀ i j, i < j → j ≤ m → itS wd cs s i ≠ itS wd cs s j := by
  have hok : ∀ i, i ≤ m → okS cs (itS wd cs s i) := by
    intro i
    cases i with
    | zero => intro _; exact hs
    | succ i => intro hi; exact nx_ok (ha i (by omega))
  intro i
  induction i with
  | zero =>
    intro j hj hj2 e
    obtain ⟨p, rfl⟩ : ∃ p, j = p + 1 := ⟨j - 1, by omega⟩
    exact nx_fresh (s := s) (ha p (by omega)) e.symm hf
  | succ i ih =>
    intro j hj hj2 e
    obtain ⟨p, rfl⟩ : ∃ p, j = p + 1 := ⟨j - 1, by omega⟩
    exact ih p (by omega) (by omega) (nx_inj (hok i (by omega)) (hok p (by omega)) (ha i (by omega)) (ha p (by omega)) e)
theorem it_shift (wd : Int) (cs : List (Int × Int)) (s : Int × Int) : ∀ i, itS wd cs (nxS wd cs s) i = itS wd cs s (i + 1) := by
  intro i
  induction i with
  | zero => rfl
  | succ i ih => show nxS wd cs _ = nxS wd cs _; rw [ih]

/-- It ends once, and goes from cell to cell. -/
theorem clear_come {wd : Int} {cs : List (Int × Int)} (hc : clearG cs) : ∀ f (s : Int × Int) (wt : Nat), 0 < wt → okS cs s → enough wd cs f s.1 s.2 wt →
    (∃ t, (comeT wd cs f s.1 s.2 wt).2 = [t] ∧ t.2.2 = (wt : Int) ∧ (t.1 = 0 ∨ t.1 = 1 ∨ t.1 = 2)) ∧ ∃ m, (comeT wd cs f s.1 s.2 wt).1 = (List.range (m + 1)).map (fun i => ((itS wd cs s i).1, (itS wd cs s i).2, (wt : Int))) ∧ ∀ i, i < m → alive wd cs (itS wd cs s i) := by
  intro f
  induction f with
  | zero =>
    intro s wt hw _ hE
    have : wt = 0 := hE
    omega
  | succ f ih =>
    intro s wt hw hs hE
    have h0 : ¬ wt = 0 := by omega
    have one : (List.range (0 + 1)).map (fun i => ((itS wd cs s i).1, (itS wd cs s i).2, (wt : Int))) = [(s.1, s.2, (wt : Int))] := rfl
    simp only [comeT]
    rw [if_neg h0]
    unfold inCell
    by_cases k1 : kd cs s.1 = 1
    · rw [if_pos k1]
      refine ⟨⟨(1, s.1, (wt : Int)), by simp [tapp, endT, h0], rfl, Or.inr (Or.inl rfl)⟩, 0, ?_, fun i hi => absurd hi (by omega)⟩
      rw [one]; simp [tapp, endT]
    rw [if_neg k1]
    by_cases k7 : kd cs s.1 = 7
    · rw [if_pos k7]
      refine ⟨⟨(2, s.1, (wt : Int)), by simp [tapp, endT, h0], rfl, Or.inr (Or.inr rfl)⟩, 0, ?_, fun i hi => absurd hi (by omega)⟩
      rw [one]; simp [tapp, endT]
    have hp := clear_pure hc hs.1 k1 k7
    rw [if_neg k7, if_neg hp.2.2.1, if_neg (fun q => by rcases q with q | q; exact hp.2.2.2.1 q; exact hp.2.2.2.2 q)]
    have hE1 : lvE wd cs (enough wd cs f) s.1 (turnD (kd cs s.1) s.2) wt := by
      rcases hE with q | q | ⟨q, _⟩ | ⟨q, _⟩ | ⟨_, q⟩
      · exact absurd q h0
      · rcases q with q | q
        · exact absurd q k1
        · exact absurd q k7
      · exact absurd q hp.2.2.1
      · rcases q with q | q
        · exact absurd q hp.2.2.2.1
        · exact absurd q hp.2.2.2.2
      · exact q
    unfold lvT
    rw [if_neg h0]
    by_cases c : (rayN wd cs s.1 (turnD (kd cs s.1) s.2)).2.2 = true
    · rw [if_pos c]
      have hE2 : enough wd cs f (nxS wd cs s).1 (nxS wd cs s).2 wt := by
        rcases hE1 with q | q | q
        · exact absurd q h0
        · rw [c] at q; cases q
        · exact q
      have hal : alive wd cs s := ⟨hp, c⟩
      obtain ⟨⟨t, e1, e2, e3⟩, m, e4, e5⟩ := ih (nxS wd cs s) wt hw (nx_ok hal) hE2
      refine ⟨⟨t, by simp only [tapp, List.nil_append]; exact e1, e2, e3⟩, m + 1, ?_, ?_⟩
      · simp only [tapp]
        rw [show comeT wd cs f (rayN wd cs s.1 (turnD (kd cs s.1) s.2)).1 (turnD (kd cs s.1) s.2) wt = comeT wd cs f (nxS wd cs s).1 (nxS wd cs s).2 wt from rfl, e4, List.range_succ_eq_map (n := m + 1), List.map_cons, List.map_map]
        show [(s.1, s.2, (wt : Int))] ++ _ = (s.1, s.2, (wt : Int)) :: _
        rw [List.singleton_append]
        congr 1
        apply List.map_congr_left
        intro i _
        simp only [Function.comp, it_shift, Nat.succ_eq_add_one]
      · intro i hi
        cases i with
        | zero => exact hal
        | succ i => rw [← it_shift]; exact e5 i (by omega)
    · rw [if_neg c]
      refine ⟨⟨(0, _, (wt : Int)), by simp [tapp, endT, h0]; rfl, rfl, Or.inl rfl⟩, 0, ?_, fun i hi => absurd hi (by omega)⟩
      rw [one]; simp [tapp, endT]

/-- There is at most one way. -/
theorem clear_one {wd : Int} {cs : List (Int × Int)} (hc : clearG cs) (q : Int) : ∀ f x d n, okS cs (x, d) → (paths wd cs q f x d n).length ≤ 1 := by
  intro f
  induction f with
  | zero => intro x d n _; simp [paths]
  | succ f ih =>
    intro x d n hs
    rw [paths_len]
    split
    · omega
    · obtain ⟨a, b, c6⟩ := hc x hs.1
      have hone : outs (kd cs x) d = [] ∨ outs (kd cs x) d = [turnD (kd cs x) d] := by
        unfold outs
        by_cases z1 : kd cs x = 1 ∨ kd cs x = 7
        · rw [if_pos z1]; exact Or.inl rfl
        · rw [if_neg z1, if_neg c6, if_neg (fun z => by rcases z with z | z; exact a z; exact b z)]; exact Or.inr rfl
      rcases hone with z | z
      · rw [z]; simp
      · rw [z]
        simp only [List.map_cons, List.map_nil, List.sum_cons, List.sum_nil, Nat.add_zero]
        unfold lvP
        split
        · next c =>
          obtain ⟨r1, r2, _⟩ := rayN_back c
          exact ih _ _ _ ⟨r1, r2⟩
        · split <;> omega
theorem mem_one {α : Type} {l : List α} (h : l.length ≤ 1) {a b : α} (ha : a ∈ l) (hb : b ∈ l) : a = b := by
  match l, h with
  | [], _ => simp at ha
  | [c], _ => simp at ha hb; rw [ha, hb]

theorem rayN_moves {wd : Int} {cs : List (Int × Int)} {x e : Int} (h : (rayN wd cs x e).2.2 = true) : (rayN wd cs x e).1 ≠ x := by
  obtain ⟨x2, d2, b2, ev⟩ : ∃ x2 d2 b2, rayN wd cs x e = (x2, d2, b2) := ⟨_, _, _, rfl⟩
  rw [ev] at h ⊢
  simp only at h ⊢
  subst h
  obtain ⟨_, he, _, _, hw, _, hst⟩ := ray_back ev
  unfold stepD at hst
  intro q
  split at hst <;> (try split at hst) <;> (try split at hst) <;> omega
theorem pure_straight {k d : Int} (hk : k ≠ 1 ∧ k ≠ 7 ∧ k ≠ 6 ∧ k ≠ 4 ∧ k ≠ 5) (hd : 0 ≤ d ∧ d ≤ 3) {e : Int} (he : e ∈ outs k d) : bkD e ≠ d := by
  unfold outs at he
  rw [if_neg (by omega), if_neg hk.2.2.1, if_neg (by omega)] at he
  simp at he
  subst he
  rw [turnD_in k d hd.1 hd.2]
  unfold slashD bkD
  split
  · split <;> omega
  · split <;> omega

theorem chain_at {R : Stp → Stp → Prop} : ∀ (l : List Stp), chainL R l → ∀ i a b, l[i]? = some a → l[i + 1]? = some b → R a b
  | [], _, i, a, b, h, _ => by simp at h
  | [c], _, i, a, b, _, h => by simp at h
  | c :: c2 :: l, h, 0, a, b, h1, h2 => by
    simp at h1 h2
    subst h1 h2
    exact h.1
  | c :: c2 :: l, h, i + 1, a, b, h1, h2 => chain_at (c2 :: l) h.2 i a b (by simpa using h1) (by simpa using h2)

/-- No way goes back as it came. -/
theorem no_mirror {wd : Int} {cs : List (Int × Int)} (hc : clearG cs) {q x d : Int} {n : Nat} {p : List Stp} (h : isPath wd cs q x d n p) : rvP p ≠ p := by
  intro e
  have hlen : 0 < p.length := by obtain ⟨e1, r, rfl⟩ := h.first; simp
  have key : ∀ i, i < p.length → ∀ t u, p[i]? = some t → p[p.length - 1 - i]? = some u → t = rvS u := by
    intro i hi t u ht hu
    rw [← e] at ht
    unfold rvP at ht
    rw [List.getElem?_reverse (by simpa using hi)] at ht
    simp only [List.length_map, List.getElem?_map] at ht
    rw [hu] at ht
    simpa using ht.symm
  have stp : ∀ t, t ∈ p → bkD t.2.2 ≠ t.2.1 := by
    intro t ht
    have hs := h.oks t ht
    refine pure_straight ?_ hs.2.2 hs.1
    obtain ⟨a, b, c⟩ := hc t.1 hs.2.1
    refine ⟨fun z => ?_, fun z => ?_, c, a, b⟩
    · have := hs.1; unfold outs at this; rw [if_pos (Or.inl z)] at this; simp at this
    · have := hs.1; unfold outs at this; rw [if_pos (Or.inr z)] at this; simp at this
  rcases (show (∃ m, p.length = 2 * m + 1) ∨ ∃ m, p.length = 2 * m + 2 from by
    rcases (show p.length % 2 = 0 ∨ p.length % 2 = 1 by omega) with z | z
    · exact Or.inr ⟨p.length / 2 - 1, by omega⟩
    · exact Or.inl ⟨p.length / 2, by omega⟩) with ⟨m, hm⟩ | ⟨m, hm⟩
  · have ht := List.getElem?_eq_getElem (l := p) (i := m) (by omega)
    have hk := key m (by omega) _ _ ht (by rw [show p.length - 1 - m = m by omega]; exact ht)
    refine stp _ (List.getElem_mem (show m < p.length by omega)) ?_
    have := congrArg (fun z => z.2.1) hk
    exact this.symm
  · have ht := List.getElem?_eq_getElem (l := p) (i := m) (by omega)
    have hu := List.getElem?_eq_getElem (l := p) (i := m + 1) (by omega)
    have hk := key m (by omega) _ _ ht (by rw [show p.length - 1 - m = m + 1 by omega]; exact hu)
    have hl := chain_at p h.chain m _ _ ht hu
    have e1 : (p[m]'(by omega)).1 = (p[m + 1]'(by omega)).1 := congrArg (fun z => z.1) hk
    exact rayN_moves hl.1 (hl.2.1.trans e1.symm)

/-- Without glass no light comes back where it came in. -/
theorem never_back {wd : Int} {cs : List (Int × Int)} (hc : clearG cs) {k : Int} (hk : inS wd cs k = true) : toN wd cs k k = 0 := by
  have hok := inS_ok hk
  obtain ⟨x, d, r1⟩ := inS_ray hk
  have s1 := (enough_sight r1).1
  unfold toN trailT
  rw [if_pos hk, r1]
  simp only
  rw [amt wd cs k 707 x d 64 (by omega)]
  have : (fun n => (paths wd cs k 707 x d n).length) = fun _ => 0 := by
    funext n
    rcases hl : paths wd cs k 707 x d n with _ | ⟨p, r⟩
    · rfl
    · have hp : p ∈ paths wd cs k 707 x d n := by rw [hl]; simp
      obtain ⟨hi, hle⟩ := (mem_paths wd cs k 707 x d n p s1).1 hp
      have hr : rvP p ∈ paths wd cs k 707 x d n := (mem_paths wd cs k 707 x d n (rvP p) s1).2 ⟨rv_path hok r1 r1 hi, by simpa [rvP] using hle⟩
      exact absurd (mem_one (clear_one hc k 707 x d n s1) hr hp) (no_mirror hc hi)
  rw [this, wsum_none]
  rfl
end Go.Proofs.Ytmnninhifiajhaa

/-
  More plain facts on light: with mirrors alone sights are in pairs; at a wall all ends; light goes from cell to cell; moved about by a turn or in a mirror, light goes as it went.
-/
namespace Go.Proofs.Ytmnninhifiajhaa
open Go.RowKit
set_option linter.unusedVariables false

theorem trail_at {wd : Int} {cs : List (Int × Int)} {k x d : Int} (hk : inS wd cs k = true) (hr : inRay wd cs k = (x, d, true)) : trailT wd cs k = comeT wd cs 707 x d 64 := by
  unfold trailT
  rw [if_pos hk, hr]

/-- With mirrors alone sights are in pairs. -/
theorem mirror_one {wd : Int} {cs : List (Int × Int)} (hc : clearG cs) (hn : ∀ x : Int, 0 ≤ x ∧ x < (cs.length : Int) → kd cs x ≠ 1 ∧ kd cs x ≠ 7) {k : Int} (hk : inS wd cs k = true) : ∃ q, (trailT wd cs k).2 = [(0, q, 64)] ∧ inS wd cs q = true := by
  obtain ⟨x, d, hr⟩ := inS_ray hk
  obtain ⟨hs, hE⟩ := enough_sight hr
  obtain ⟨⟨t, e1, e2, e3⟩, _⟩ := clear_come hc 707 (x, d) 64 (by omega) hs hE
  have hT := trail_at hk hr
  have hO := (trail_ok hk).ends t (by rw [hT]; simp only at e1; rw [e1]; simp)
  obtain ⟨t0, t1, t2⟩ := t
  simp only at e1 e2 e3
  rcases hO.2 with ⟨z1, z2⟩ | ⟨hx, z | z | z⟩
  · simp only at z1 z2
    subst z1 e2
    exact ⟨t1, by rw [hT, e1]; rfl, decide_eq_true z2⟩
  · exact absurd z.2 (hn _ hx).1
  · exact absurd z.2 (hn _ hx).2
  · have z1 := z.1
    simp only at z1
    omega
theorem mirror_pairs {wd : Int} {cs : List (Int × Int)} (hc : clearG cs) (hn : ∀ x : Int, 0 ≤ x ∧ x < (cs.length : Int) → kd cs x ≠ 1 ∧ kd cs x ≠ 7) {k : Int} (hk : inS wd cs k = true) : ∃ q, (trailT wd cs k).2 = [(0, q, 64)] ∧ inS wd cs q = true ∧ q ≠ k ∧ (trailT wd cs q).2 = [(0, k, 64)] := by
  obtain ⟨q, h1, h2⟩ := mirror_one hc hn hk
  obtain ⟨q2, h3, h4⟩ := mirror_one hc hn h2
  have n1 : toN wd cs k q = 64 := by unfold toN; rw [h1]; simp [sumTo]
  have n2 := to_back hk h2
  rw [n1] at n2
  refine ⟨q, h1, h2, ?_, ?_⟩
  · intro e
    subst e
    rw [never_back hc hk] at n1
    omega
  · have : q2 = k := by
      refine Classical.byContradiction fun z => ?_
      unfold toN at n2
      rw [h3] at n2
      simp [sumTo, z] at n2
    rw [h3, this]

/-- At a wall all ends. -/
theorem wall_ends {wd : Int} {cs : List (Int × Int)} {k x d : Int} (hk : inS wd cs k = true) (hr : inRay wd cs k = (x, d, true)) (hw : kd cs x = 1) : trailT wd cs k = ([(x, d, 64)], [(1, x, 64)]) := by
  rw [trail_at hk hr]
  simp [comeT, inCell, hw, tapp, endT]
theorem wall_none {wd : Int} {cs : List (Int × Int)} {k x d i : Int} (hk : inS wd cs k = true) (hr : inRay wd cs k = (x, d, true)) (hw : kd cs x = 1) (hi : inS wd cs i = true) : toN wd cs i k = 0 := by
  rw [to_back hi hk]
  unfold toN
  rw [wall_ends hk hr hw]
  simp [sumTo]

/-- Light goes on from one visit to the other. -/
def par (wd : Int) (cs : List (Int × Int)) (u v : Int × Int × Int) : Prop :=
  (kd cs u.1 ≠ 1 ∧ kd cs u.1 ≠ 7) ∧ v.2.2 = (if kd cs u.1 = 4 ∨ kd cs u.1 = 5 ∨ kd cs u.1 = 6 then u.2.2 / 2 else u.2.2) ∧
    ((rayN wd cs u.1 (turnD (kd cs u.1) u.2.1) = (v.1, v.2.1, true)) ∨ ((kd cs u.1 = 4 ∨ kd cs u.1 = 5) ∧ rayN wd cs u.1 u.2.1 = (v.1, v.2.1, true)))
/-- Each has one ahead of it that it comes from; the first has h. -/
def HPar (wd : Int) (cs : List (Int × Int)) (h : Int × Int × Int) (l : List (Int × Int × Int)) : Prop := ∀ a v b, l = a ++ v :: b → (a = [] ∧ par wd cs h v) ∨ (∃ u ∈ a, par wd cs u v)
def OPar (wd : Int) (cs : List (Int × Int)) (l : List (Int × Int × Int)) : Prop := ∀ a v b, l = a ++ v :: b → a = [] ∨ ∃ u ∈ a, par wd cs u v
theorem hpar_nil (wd : Int) (cs : List (Int × Int)) (h : Int × Int × Int) : HPar wd cs h [] := by
  intro a v b e
  simp at e
theorem opar_cons {wd : Int} {cs : List (Int × Int)} {h : Int × Int × Int} {l : List (Int × Int × Int)} (hl : ∀ a v b, l = a ++ v :: b → par wd cs h v ∨ ∃ u ∈ a, par wd cs u v) : OPar wd cs (h :: l) := by
  intro a v b e
  cases a with
  | nil => exact Or.inl rfl
  | cons c a =>
    simp only [List.cons_append, List.cons.injEq] at e
    right
    rcases hl a v b e.2 with q | ⟨u, hu, q⟩
    · exact ⟨c, by simp, e.1 ▸ q⟩
    · exact ⟨u, by simp [hu], q⟩
theorem hpar_app {wd : Int} {cs : List (Int × Int)} {h : Int × Int × Int} {l1 l2 : List (Int × Int × Int)} (h1 : HPar wd cs h l1) (h2 : HPar wd cs h l2) : ∀ a v b, l1 ++ l2 = a ++ v :: b → par wd cs h v ∨ ∃ u ∈ a, par wd cs u v := by
  intro a v b e
  rcases List.append_eq_append_iff.1 e with ⟨c, e1, e2⟩ | ⟨c, e1, e2⟩
  · rcases h2 c v b e2 with ⟨_, q⟩ | ⟨u, hu, q⟩
    · exact Or.inl q
    · exact Or.inr ⟨u, by rw [e1]; simp [hu], q⟩
  · cases c with
    | nil =>
      simp at e1 e2
      rcases h2 [] v b (by simpa using e2.symm) with ⟨_, q⟩ | ⟨u, hu, _⟩
      · exact Or.inl q
      · simp at hu
    | cons c0 c =>
      simp only [List.cons_append, List.cons.injEq] at e2
      rcases h1 a v c (by rw [e1, e2.1]) with ⟨_, q⟩ | ⟨u, hu, q⟩
      · exact Or.inl q
      · exact Or.inr ⟨u, hu, q⟩
theorem come_head (wd : Int) (cs : List (Int × Int)) (f : Nat) (x d : Int) (wt : Nat) : (comeT wd cs f x d wt).1 = [] ∨ ∃ l, (comeT wd cs f x d wt).1 = (x, d, (wt : Int)) :: l := by
  cases f with
  | zero => exact Or.inl rfl
  | succ f =>
    simp only [comeT]
    split
    · exact Or.inl rfl
    · exact Or.inr ⟨_, rfl⟩
theorem hpar_lv {wd : Int} {cs : List (Int × Int)} {f : Nat} (ih : ∀ x d wt, OPar wd cs (comeT wd cs f x d wt).1) (h : Int × Int × Int) (x e : Int) (n : Nat) (hp : ∀ x2, rayN wd cs x e = (x2, e, true) → par wd cs h (x2, e, (n : Int))) : HPar wd cs h (lvT wd cs (comeT wd cs f) x e n).1 := by
  unfold lvT
  split
  · exact hpar_nil wd cs h
  · split
    · next c =>
      intro a v b q
      have e2 : rayN wd cs x e = ((rayN wd cs x e).1, e, true) := by
        obtain ⟨x2, d2, b2, ev⟩ : ∃ x2 d2 b2, rayN wd cs x e = (x2, d2, b2) := ⟨_, _, _, rfl⟩
        rw [ev] at c
        simp only at c
        subst c
        have := (ray_back ev).1
        rw [ev, this]
      rcases ih _ _ _ a v b q with z | z
      · subst z
        refine Or.inl ⟨rfl, ?_⟩
        rcases come_head wd cs f (rayN wd cs x e).1 e n with y | ⟨l, y⟩
        · rw [y] at q; simp at q
        · rw [y] at q
          simp only [List.nil_append, List.cons.injEq] at q
          rw [← q.1]
          exact hp _ e2
      · exact Or.inr z
    · simp only [endT]
      exact hpar_nil wd cs h
/-- Light goes from cell to cell. -/
theorem come_par {wd : Int} {cs : List (Int × Int)} : ∀ f x d wt, OPar wd cs (comeT wd cs f x d wt).1 := by
  intro f
  induction f with
  | zero => intro x d wt a v b e; simp [comeT] at e
  | succ f ih =>
    intro x d wt
    simp only [comeT]
    by_cases h0 : wt = 0
    · rw [if_pos h0]; intro a v b e; simp at e
    · rw [if_neg h0]
      show OPar wd cs ([(x, d, (wt : Int))] ++ (inCell wd cs (comeT wd cs f) x d wt).1)
      rw [List.singleton_append]
      apply opar_cons
      unfold inCell
      by_cases k1 : kd cs x = 1
      · rw [if_pos k1]; intro a v b e; simp [endT] at e
      rw [if_neg k1]
      by_cases k7 : kd cs x = 7
      · rw [if_pos k7]; intro a v b e; simp [endT] at e
      rw [if_neg k7]
      have hhalf : ((wt : Int) / 2) = ((wt / 2 : Nat) : Int) := by omega
      by_cases k6 : kd cs x = 6
      · rw [if_pos k6]
        intro a v b e
        have e' : (lvT wd cs (comeT wd cs f) x d (wt / 2)).1 = a ++ v :: b := by simpa [tapp, endT] using e
        have hp : HPar wd cs (x, d, (wt : Int)) (lvT wd cs (comeT wd cs f) x d (wt / 2)).1 := by
          refine hpar_lv ih _ _ _ _ fun x2 z => ⟨⟨k1, k7⟩, ?_, Or.inl ?_⟩
          · rw [if_pos (Or.inr (Or.inr k6))]; exact hhalf.symm
          · have hd := (rayN_true z).2.2.1
            have : turnD (kd cs x) d = d := by rw [turnD_in _ d hd.1 hd.2, k6]; simp
            show rayN wd cs x (turnD (kd cs x) d) = _
            rw [this]; exact z
        rcases hp a v b e' with ⟨_, q⟩ | q
        · exact Or.inl q
        · exact Or.inr q
      rw [if_neg k6]
      by_cases k45 : kd cs x = 4 ∨ kd cs x = 5
      · rw [if_pos k45]
        have p1 : HPar wd cs (x, d, (wt : Int)) (lvT wd cs (comeT wd cs f) x d (wt / 2)).1 := by
          refine hpar_lv ih _ _ _ _ fun x2 z => ⟨⟨k1, k7⟩, ?_, Or.inr ⟨k45, z⟩⟩
          rw [if_pos (by rcases k45 with q | q; exact Or.inl q; exact Or.inr (Or.inl q))]; exact hhalf.symm
        have p2 : HPar wd cs (x, d, (wt : Int)) (lvT wd cs (comeT wd cs f) x (turnD (kd cs x) d) (wt / 2)).1 := by
          refine hpar_lv ih _ _ _ _ fun x2 z => ⟨⟨k1, k7⟩, ?_, Or.inl z⟩
          rw [if_pos (by rcases k45 with q | q; exact Or.inl q; exact Or.inr (Or.inl q))]; exact hhalf.symm
        intro a v b e
        refine hpar_app p1 p2 a v b ?_
        simpa [tapp, endT] using e
      · rw [if_neg k45]
        have p1 : HPar wd cs (x, d, (wt : Int)) (lvT wd cs (comeT wd cs f) x (turnD (kd cs x) d) wt).1 := by
          refine hpar_lv ih _ _ _ _ fun x2 z => ⟨⟨k1, k7⟩, ?_, Or.inl z⟩
          rw [if_neg (by rintro (q | q | q); exact k45 (Or.inl q); exact k45 (Or.inr q); exact k6 q)]
        intro a v b e
        rcases p1 a v b e with ⟨_, q⟩ | q
        · exact Or.inl q
        · exact Or.inr q
end Go.Proofs.Ytmnninhifiajhaa
