/-
  DrawPicText draws a grid and a picture: both in new memory, the picture of at most 21 numbers.
-/
import Derived.Test.YtnochicpkcjjlaaDoorHj
namespace Go.Proofs.YtnochicpkcjjlaaDoor
open Go.RowKit
set_option linter.unusedVariables false
attribute [local go_sem ↓] Go.wp_at_zero Go.wp_at_succ

theorem own_capI {w : World} {B : Nat} {v : Value} {xs : List Int} (h : OwnI w B v xs) : ∃ a cap, v = .slice a xs.length cap ∧ R1At w a xs ∧ xs.length ≤ cap ∧ ∀ b off, a = some ⟨b, off, none⟩ → B ≤ b := by
  have h0 := h
  obtain ⟨h1, h2⟩ := h
  obtain ⟨a, cap, rfl, hR⟩ := row1_at h0
  refine ⟨a, cap, rfl, hR, ?_, ?_⟩
  · rcases h2 with ⟨q, hn⟩ | ⟨g, c2, cur, q, _, _, hc, _⟩
    · rw [hn]; exact Nat.zero_le _
    · simp only [Value.slice.injEq] at q
      rw [q.2.2]; exact hc
  · intro b off e
    rcases h2 with ⟨q, hn⟩ | ⟨g, c2, cur, q, hg, _⟩
    · simp only [Value.slice.injEq] at q
      rw [q.1] at e; cases e
    · simp only [Value.slice.injEq] at q
      rw [q.1] at e
      simp only [Option.some.injEq, Addr.mk.injEq] at e
      omega
def litP (j : Nat) : Int := if j = 0 then -5 else if j = 1 then 9223372036854775807 else -9223372036854775808
theorem litP_at (w : World) (j : Nat) (hj : j < 3) : (w.alloc (.cells #[.int .i64 (-5), .int .i64 9223372036854775807, .int .i64 (-9223372036854775808)] 3)).cell? ⟨w.heap.size, j, none⟩ = some (.int .i64 (litP j)) := by
  rcases j with _ | _ | _ | j
  · simp [go_sem, litP]
  · simp [go_sem, litP]
  · simp [go_sem, litP]
  · omega

/-- What a drawn picture is. -/
def PicOk (ps : List Int) : Prop := ps.length ≤ 21 ∧ ∀ x ∈ ps, -9223372036854775808 ≤ x ∧ x ≤ 9223372036854775807

set_option maxRecDepth 100000 in
set_option maxHeartbeats 2000000 in
theorem drawPicText_any (a : Option Addr) (n cap : Nat) (f : Nat → Int) (w : World) (h : BytesAt w a n f) (hn : n ≤ 1048576) (hcap : n ≤ cap) (hc2 : cap ≤ 9223372036854775807) :
    Calls Tryd.prog 5 #[.slice a n cap] w fun e w' => ∃ (wd : Int) (a : Option Addr) (c : Nat) (xs : List (Int × Int)) (pa : Option Addr) (pc : Nat) (ps : List Int), e = .returned (.tuple #[.agg #[.int .i64 wd, .slice a xs.length c], .slice pa ps.length pc]) ∧ CellsAt w' a xs ∧ xs.length ≤ 31 ∧ R1At w' pa ps ∧ ps.length ≤ pc ∧ PicOk ps ∧ Below w.heap.size w w' := by
  obtain ⟨i0, hi, iz0, iz1, iz2⟩ := info_parts infoIntP
  go_enter Tryd.func5, Tryd.ntmps5
  go_wp2_with fail
  refine (l6Open_any _ n _ f _ (h.below (by repeat (first | exact Below.refl _ _ | refine Below.alloc ?_ (by first | exact Nat.le_refl _ | (simp; done) | (simp; omega)) _ | refine Below.drew ?_ | refine Below.setCell ?_ (by first | exact Nat.le_refl _ | (simp; done) | (simp; omega)) _))) hn hcap hc2).mono ?_
  rintro e w1 ⟨rfl, hr1, hb1⟩
  have hz1 := hb1.size
  simp at hz1 hr1
  have s1 : w.heap.size + 1 < w1.heap.size := by have := hr1.lt; omega
  have p0 : w1.cell? ⟨w.heap.size, 0, none⟩ = some (.int .i64 0) := keepc hb1 (by simp [go_sem])
  have p1 : w1.cell? ⟨w.heap.size, 1, none⟩ = some (.slice none 0 0) := keepc hb1 (by simp [go_sem])
  have fp0 : w1.frozen? ⟨w.heap.size, 0, none⟩ = false := keepf hb1 (v := .int .i64 0) (by simp [go_sem]) (by simp [go_sem])
  have fp1 : w1.frozen? ⟨w.heap.size, 1, none⟩ = false := keepf hb1 (v := .slice none 0 0) (by simp [go_sem]) (by simp [go_sem])
  have hB1 : Below w.heap.size w w1 := bcall (by repeat (first | exact Below.refl _ _ | refine Below.alloc ?_ (by first | exact Nat.le_refl _ | (simp; done) | (simp; omega)) _ | refine Below.drew ?_ | refine Below.setCell ?_ (by first | exact Nat.le_refl _ | (simp; done) | (simp; omega)) _)) (by simp) hb1
  clear hb1
  go_wp2_with fail
  refine (l71SomeX_any _ (w.heap.size + 1) (w.heap.size + 1 + 1) 0 hr1 (by omega) (by omega)).mono ?_
  rintro e w2 ⟨wd, a2, c2, xs, rfl, hok2, hxl, hr2, hg2⟩
  have hC2 := hok2.cells
  have hn2 := hok2.new
  have hU2 := hok2.unf
  clear hok2
  have hz2 := hg2.size
  have nr : w.heap.size ≠ w.heap.size + 1 := by omega
  replace fp0 := gfroz hg2 nr p0 fp0
  replace fp1 := gfroz hg2 nr p1 fp1
  replace p0 := gcell hg2 nr p0
  replace p1 := gcell hg2 nr p1
  have hB2 : Below w.heap.size w w2 := ⟨hg2.os.trans hB1.os, hg2.tape.trans hB1.tape, hg2.output.trans hB1.output, Nat.le_trans hB1.size hg2.size, fun k hk => (hg2.block k (by omega) (by simp; omega)).trans (hB1.block k hk)⟩
  have hbG : Below w2.heap.size w2 (w2.alloc (.cells #[.int .i64 wd, .slice a2 xs.length c2] 25)) := (by repeat (first | exact Below.refl _ _ | refine Below.alloc ?_ (by first | exact Nat.le_refl _ | (simp; done) | (simp; omega)) _ | refine Below.drew ?_ | refine Below.setCell ?_ (by first | exact Nat.le_refl _ | (simp; done) | (simp; omega)) _))
  clear hg2 hB1
  have hI : SigInv w (w2.alloc (.cells #[.int .i64 wd, .slice a2 xs.length c2] 25)) w2.heap.size wd (.slice a2 xs.length c2) :=
    ⟨bcall hB2 (by omega) hbG, keepc hbG p0, keepc hbG p1, keepf hbG p0 fp0, keepf hbG p1 fp1, by simp [go_sem], by simp [go_sem], by simp; omega⟩
  have hlt2 : ∀ b off, a2 = some ⟨b, off, none⟩ → xs ≠ [] → b < w2.heap.size := by
    intro b off e hx
    rcases hC2 with q | ⟨b', off', e', hbl, _⟩
    · exact absurd q hx
    · rw [e] at e'
      simp only [Option.some.injEq, Addr.mk.injEq, and_true] at e'
      omega
  have hD : DI w (w2.alloc (.cells #[.int .i64 wd, .slice a2 xs.length c2] 25)) w2.heap.size wd a2 c2 xs 90 := by
    refine ⟨hI, (hr2.below (hbG.mono (by omega))).more (by omega), hC2.below hbG, hU2.below hC2 hbG, fun b off e hx => ⟨by have := hn2 b off e; omega, ?_⟩⟩
    have := hlt2 b off e hx
    omega
  have hwzs : (w2.alloc (.cells #[.int .i64 wd, .slice a2 xs.length c2] 25)).heap.size = w2.heap.size + 1 := by simp
  clear hI hbG hB2 hC2 hn2 hU2 hr2 hr1 fp0 fp1 p0 p1
  go_wp2_with fail
  obtain ⟨wz, hwz⟩ : ∃ wz, wz = w2.alloc (.cells #[.int .i64 wd, .slice a2 xs.length c2] 25) := ⟨_, rfl⟩
  rw [← hwz] at hD hwzs ⊢
  clear hwz
  have HLZ : Hid (wz.heap.size = w2.heap.size + 1) := hwzs
  clear hwzs
  refine (specPicOf_any wd a2 c2 xs _ hD.cells (by omega)).mono ?_
  rintro e w3 ⟨v, rfl, hO3, hb3⟩
  have hD3 := hD.below hb3
  obtain ⟨qs, eqs⟩ : ∃ qs, picN wd xs = qs := ⟨_, rfl⟩
  have hq1 := picN_in wd xs
  have hq2 := (picN_len wd xs).2
  rw [eqs] at hO3 hq1 hq2
  have HQ : Hid (∀ x ∈ qs, 0 ≤ x ∧ x ≤ 576) := hq1
  have hz3 := hb3.size
  clear hb3 hD eqs hq1
  go_wp2_with fail
  refine (pickQ 12 _ (w.heap.size + 1) (w.heap.size + 1 + 1) 90 hD3.rd (by omega) (by omega)).mono ?_
  rintro e w4 ⟨u, rfl, hu1, hu2, hr4, hg4⟩
  have hD4 := hD3.call hg4 hr4
  have hlz := HLZ.out
  have hsz := hD4.sig.sz
  have hO4 := hO3.kept hg4 (by
    rcases q : v.ownBlock with _ | k
    · exact Or.inl rfl
    · have := (hO3.lt k q).1
      refine Or.inr (fun e => ?_)
      simp only [Option.some.injEq] at e
      omega)
  have hz4 := hg4.size
  have hP4 : PD w w4 w2.heap.size wd a2 c2 xs (w2.heap.size + 1) := ⟨hD4.sig, hD4.cells, hD4.new, by omega, by omega, fun b off e hx => by have := hlt2 b off e hx; omega⟩
  have hO4' : OwnI w4 (w2.heap.size + 1) v qs := ownsRow_mono hO4 (by omega)
  clear hO3 hO4 hD3 hg4 hr4
  have hnew : ∀ {wq : World} {vq : Value} {zs : List Int}, OwnI wq (w2.heap.size + 1) vq zs → ∃ pa pc, vq = .slice pa zs.length pc ∧ R1At wq pa zs ∧ zs.length ≤ pc ∧ ∀ b off, pa = some ⟨b, off, none⟩ → zs ≠ [] → w2.heap.size + 1 ≤ b := fun hh => by
    obtain ⟨pa, pc, e1, e2, e3, e4⟩ := own_capI hh
    exact ⟨pa, pc, e1, e2, e3, fun b off e _ => e4 b off e⟩
  have HN : Hid (∀ {wq : World} {vq : Value} {zs : List Int}, OwnI wq (w2.heap.size + 1) vq zs → ∃ pa pc, vq = .slice pa zs.length pc ∧ R1At wq pa zs ∧ zs.length ≤ pc ∧ ∀ b off, pa = some ⟨b, off, none⟩ → zs ≠ [] → w2.heap.size + 1 ≤ b) := @hnew
  clear hnew hlt2
  by_cases hu0 : u = 0
  · subst hu0
    unfold OwnI at hO4'
    have hlow : w2.heap.size + 1 ≤ w4.heap.size := hP4.l
    go_wp2_with (at_builtin; refine wpList_append_lies _ rfl _ _ _ rfl (w2.heap.size + 1) 3 i0 (.int .i64 0) 1 8 Tryd.underlying26 hi iz0 iz1 iz2 rfl (by omega) _ qs.length (intsV qs) rfl (World.ownsRow.alloc hO4' _) ⟨w4.heap.size, 0, none⟩ 1 1 [.int .i64 1] rfl rfl (World.news_of_block (cs := #[.int .i64 1]) (t := 3) (fr := (0, 0)) (heap_alloc_new w4 _)) (by simp [Value.oneCell']) (by omega) (by unfold maxLen; omega) (by omega) (by simp; omega) (w4.heap.size + 1) (by simp) ?_)
    intro g6 k6 w6 hO6 hg6 hat6 hlt6
    have hown := fun k q => (World.ownsRow.lt hO4' k q).1
    have hB6 : Below (w2.heap.size + 1) w4 w6 := (((Below.refl _ _).alloc (by omega) _ : Below (w2.heap.size + 1) w4 (w4.alloc (.cells #[.int .i64 1] 3)))).grown hg6 (by simp; omega) (fun k hk => by have := hown k hk; omega)
    have hP6 := hP4.low hB6
    have hO7 : OwnI w6 (w2.heap.size + 1) (.slice (some ⟨g6, 0, none⟩) (qs.length + 1) k6) (qs ++ [1]) := by
      unfold OwnI
      rw [show (qs ++ [(1 : Int)]).length = qs.length + 1 by simp, show intsV (qs ++ [1]) = intsV qs ++ [.int .i64 1] by simp [intsV]]
      exact hO6
    obtain ⟨pa, pc, ev, hR, hpc, hnw⟩ := HN.out hO7
    obtain ⟨f1, f2, f3⟩ := hP6.fin hR hnw
    have p0 := hP6.sig.p0
    have p1 := hP6.sig.p1
    have fp0 := hP6.sig.fp0
    have fp1 := hP6.sig.fp1
    have g0 := hP6.sig.g0
    have g1 := hP6.sig.g1
    have hpk : PicOk (qs ++ [1]) := ⟨by simp; omega, fun x hx => by
      rcases List.mem_append.1 hx with q | q
      · have := HQ.out x q; omega
      · simp at q; omega⟩
    clear hO6 hg6 hat6 hO4' hP4 hP6 hO7 hR hnw
    go_wp2
    refine bodyPost_ret (v := .tuple #[.agg #[.int .i64 wd, .slice a2 xs.length c2], .slice (some ⟨g6, 0, none⟩) (qs.length + 1) k6]) (by simp [results, Tryd.results5, go_sem, p0, p1]) rfl ⟨wd, a2, c2, xs, pa, pc, qs ++ [1], by rw [ev], f1, hxl, f2, hpc, hpk, f3⟩
  · have bu0 : (u == 0) = false := by simp [hu0]
    obtain ⟨pa, pc, rfl, hR, hpc, hnw⟩ := HN.out hO4'
    by_cases hu1' : u = 1
    · subst hu1'
      by_cases hq0 : 0 < qs.length
      · have hqI : (0 : Int) < (qs.length : Int) := by omega
        have bq : decide ((0 : Int) < (qs.length : Int)) = true := decide_eq_true hqI
        obtain ⟨b, off, rfl, hbl, hc0⟩ := hR.at hq0
        have hoff : off = 0 := by
          rcases hO4'.2 with ⟨q, _⟩ | ⟨g, c9, cur, q, _⟩
          · simp at q
          · simp only [Value.slice.injEq, Option.some.injEq, Addr.mk.injEq] at q; exact q.1.2.1
        subst hoff
        rw [Nat.add_zero] at hc0
        have hfz : w4.frozen? ⟨b, 0, none⟩ = false := hO4'.frozenAt 0
        have hbL := hnw b 0 rfl (by intro q; rw [q] at hq0; simp at hq0)
        have hbA : Below w4.heap.size w4 (w4.alloc (.cells #[.int .i64 (-5), .int .i64 9223372036854775807, .int .i64 (-9223372036854775808)] 3)) := (by repeat (first | exact Below.refl _ _ | refine Below.alloc ?_ (by first | exact Nat.le_refl _ | (simp; done) | (simp; omega)) _ | refine Below.drew ?_ | refine Below.setCell ?_ (by first | exact Nat.le_refl _ | (simp; done) | (simp; omega)) _))
        have hla := litP_at w4
        have hD5 := hD4.below hbA
        have hP5 := hP4.low (hbA.mono hP4.l)
        have hO5 := owns_belowP hO4' hbA
        have hz5 : (w4.alloc (.cells #[.int .i64 (-5), .int .i64 9223372036854775807, .int .i64 (-9223372036854775808)] 3)).heap.size = w4.heap.size + 1 := by simp
        have hl4 := hP4.l
        obtain ⟨w5, hw5⟩ : ∃ w5, w5 = w4.alloc (.cells #[.int .i64 (-5), .int .i64 9223372036854775807, .int .i64 (-9223372036854775808)] 3) := ⟨_, rfl⟩
        have hc5 := keepc hbA hc0
        have hf5 := keepf hbA hc0 hfz
        rw [← hw5] at hla hD5 hP5 hO5 hz5 hc5 hf5
        clear hbA hD4 hP4 hO4' hR hc0 hfz hnw
        go_wp2_with fail
        rw [← hw5]
        clear hw5
        refine (pickQ 3 _ (w.heap.size + 1) (w.heap.size + 1 + 1) 91 hD5.rd (by omega) (by omega)).mono ?_
        rintro e w6 ⟨u6, rfl, hu3, hu4, hr6, hg6⟩
        obtain ⟨U, rfl⟩ := Int.eq_ofNat_of_zero_le hu3
        dsimp only
        have hD6 := hD5.call hg6 hr6
        have hz6 := hg6.size
        have l0 := gcellP hg6 (show some w4.heap.size ≠ some (w.heap.size + 1) by simp; omega) (hla U (by omega))
        have hc6 := gcellP hg6 (show some b ≠ some (w.heap.size + 1) by simp; omega) hc5
        have hf6 : w6.frozen? ⟨b, 0, none⟩ = false := gfroz hg6 (show b ≠ w.heap.size + 1 by omega) hc5 hf5
        have hO6 := hO5.kept hg6 (Or.inr (by simp [Value.ownBlock]; omega))
        have hP6 : PD w w6 w2.heap.size wd a2 c2 xs (w2.heap.size + 1) := ⟨hD6.sig, hD6.cells, hP5.new, hP5.g, by omega, hP5.lt⟩
        have hst := hO6.stored 0 (.int .i64 (litP U))
        have hB7 : Below (w2.heap.size + 1) w6 (w6.setCell ⟨b, 0, none⟩ (.int .i64 (litP U))) := (Below.refl _ _).setCell (p := ⟨b, 0, none⟩) hbL _
        have hP7 := hP6.low hB7
        have hO7 : OwnI (w6.setCell ⟨b, 0, none⟩ (.int .i64 (litP U))) (w2.heap.size + 1) (.slice (some ⟨b, 0, none⟩) qs.length pc) (qs.set 0 (litP U)) := by
          unfold OwnI
          rw [show (qs.set 0 (litP U)).length = qs.length by simp, show intsV (qs.set 0 (litP U)) = (intsV qs).set 0 (.int .i64 (litP U)) by simp [intsV, List.map_set]]
          exact hst.1
        obtain ⟨pa, pc2, ev, hR7, hpc7, hnw7⟩ := HN.out hO7
        have ev2 := ev
        simp only [Value.slice.injEq] at ev2
        obtain ⟨e1, ee, e2⟩ := ev2
        subst e1
        subst e2
        clear ev ee
        obtain ⟨f1, f2, f3⟩ := hP7.fin hR7 hnw7
        have hpk : PicOk (qs.set 0 (litP U)) := ⟨by simp; omega, fun x hx => by
          rcases List.mem_or_eq_of_mem_set hx with q | q
          · have := HQ.out x q; omega
          · rw [q]; unfold litP; split
            · omega
            · split <;> omega⟩
        have p0 := hP6.sig.p0
        have p1 := hP6.sig.p1
        have fp0 := hP6.sig.fp0
        have fp1 := hP6.sig.fp1
        have g0 := hP6.sig.g0
        have g1 := hP6.sig.g1
        have n1 : b ≠ w.heap.size := by omega
        have n2 : b ≠ w2.heap.size := by omega
        have n1' : w.heap.size ≠ b := by omega
        have n2' : w2.heap.size ≠ b := by omega
        have hU3 : (U : Int) < 3 := by omega
        have hlq : (qs.set 0 (litP U)).length = qs.length := by simp
        obtain ⟨Y, eY⟩ : ∃ Y, litP U = Y := ⟨_, rfl⟩
        rw [eY] at f1 f2 f3 l0 hpk hlq hpc7
        have P0 := hP7.sig.p0
        have P1 := hP7.sig.p1
        have FP0 := hP7.sig.fp0
        have FP1 := hP7.sig.fp1
        have G0 := hP7.sig.g0
        have G1 := hP7.sig.g1
        rw [eY] at P0 P1 FP0 FP1 G0 G1
        have HLQ : Hid ((qs.set 0 Y).length = qs.length) := hlq
        clear hlq hz5 hlz hz6 hz4 hz3 hz2 hu3 hu4 hl4 hsz hbl
        clear hla hD5 hP5 hO5 hc5 hf5 hg6 hr6 hD6 hO6 hP6 hst hB7 hP7 hO7 hR7 hnw7 eY
        go_wp2
        refine bodyPost_ret (v := .tuple #[.agg #[.int .i64 wd, .slice a2 xs.length c2], .slice (some ⟨b, 0, none⟩) qs.length pc]) (by simp [results, Tryd.results5, go_sem, P0, P1]) rfl ⟨wd, a2, c2, xs, _, pc, qs.set 0 Y, by rw [HLQ.out], f1, hxl, f2, hpc7, hpk, f3⟩
      · have bq : decide ((0 : Int) < (qs.length : Int)) = false := decide_eq_false (by omega)
        have hqI : ¬ (0 : Int) < (qs.length : Int) := by omega
        obtain ⟨f1, f2, f3⟩ := hP4.fin hR hnw
        have p0 := hP4.sig.p0
        have p1 := hP4.sig.p1
        have fp0 := hP4.sig.fp0
        have fp1 := hP4.sig.fp1
        have g0 := hP4.sig.g0
        have g1 := hP4.sig.g1
        have hpk : PicOk qs := ⟨by omega, fun x hx => by have := HQ.out x hx; omega⟩
        clear hO4' hP4 hR hnw hD4
        go_wp2
        refine bodyPost_ret (v := .tuple #[.agg #[.int .i64 wd, .slice a2 xs.length c2], .slice pa qs.length pc]) (by simp [results, Tryd.results5, go_sem, p0, p1]) rfl ⟨wd, a2, c2, xs, pa, pc, qs, rfl, f1, hxl, f2, hpc, hpk, f3⟩
    · have bu1 : (u == 1) = false := by simp [hu1']
      obtain ⟨f1, f2, f3⟩ := hP4.fin hR hnw
      have p0 := hP4.sig.p0
      have p1 := hP4.sig.p1
      have fp0 := hP4.sig.fp0
      have fp1 := hP4.sig.fp1
      have g0 := hP4.sig.g0
      have g1 := hP4.sig.g1
      have hpk : PicOk qs := ⟨by omega, fun x hx => by have := HQ.out x hx; omega⟩
      clear hO4' hP4 hR hnw hD4 hu0 hu1'
      go_wp2
      refine bodyPost_ret (v := .tuple #[.agg #[.int .i64 wd, .slice a2 xs.length c2], .slice pa qs.length pc]) (by simp [results, Tryd.results5, go_sem, p0, p1]) rfl ⟨wd, a2, c2, xs, pa, pc, qs, rfl, f1, hxl, f2, hpc, hpk, f3⟩
end Go.Proofs.YtnochicpkcjjlaaDoor
