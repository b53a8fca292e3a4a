/-
  What the laws on trails ask: whether two rows are the same, whether a number is in a row, whether there is such a sight, whether a grid is clear.
-/
import Derived.Test.YtmnninhifiajhaaJt
import Derived.Test.YtmnninhifiajhaaKb
import Derived.Test.YtmnninhifiajhaaJp
import Derived.BigQuiet
namespace Go.Proofs.Ytmnninhifiajhaa
open Go.RowKit
set_option linter.unusedVariables false
attribute [local go_sem ↓] Go.wp_at_zero Go.wp_at_succ

theorem own_r3 {w : World} {B : Nat} {t : TypeId} {a : Option Addr} {c : Nat} {es : List (Int × Int × Int)} (h : w.ownsRow B t 3 (.slice a es.length c) es.length (flat3 es)) : R3At w a es := by
  obtain ⟨a2, c2, e, hR⟩ := row3_at h
  simp only [Value.slice.injEq, true_and] at e
  rw [e.1]
  exact hR
theorem R3At.at {w : World} {a : Option Addr} {es : List (Int × Int × Int)} (h : R3At w a es) {i : Nat} (hi : i < es.length) : ∃ b off, a = some ⟨b, off, none⟩ ∧ w.cell? ⟨b, off + i * 3, none⟩ = some (.int .i64 (es.getD i (0, 0, 0)).1) ∧ w.cell? ⟨b, off + i * 3 + 1, none⟩ = some (.int .i64 (es.getD i (0, 0, 0)).2.1) ∧ w.cell? ⟨b, off + i * 3 + 2, none⟩ = some (.int .i64 (es.getD i (0, 0, 0)).2.2) := by
  rcases h with q | ⟨b, off, e, _, hc⟩
  · rw [q] at hi; simp at hi
  · exact ⟨b, off, e, hc i hi⟩
/-- Numbers in a row, from an address on. -/
def R1At (w : World) (a : Option Addr) (xs : List Int) : Prop := xs = [] ∨ ∃ b off, a = some ⟨b, off, none⟩ ∧ b < w.heap.size ∧ ∀ i, i < xs.length → w.cell? ⟨b, off + i, none⟩ = some (.int .i64 (xs.getD i 0))
theorem R1At.below {w w' : World} {a : Option Addr} {xs : List Int} (h : R1At w a xs) (hb : Below w.heap.size w w') : R1At w' a xs := by
  rcases h with h | ⟨b, off, rfl, hbl, hc⟩
  · exact Or.inl h
  · exact Or.inr ⟨b, off, rfl, Nat.lt_of_lt_of_le hbl hb.size, fun i hi => keepc hb (hc i hi)⟩
theorem row1_at {w : World} {B : Nat} {v : Value} {xs : List Int} (h : OwnI w B v xs) : ∃ a cap, v = .slice a xs.length cap ∧ R1At w a xs := by
  obtain ⟨h1, h2⟩ := h
  rcases h2 with ⟨rfl, h2⟩ | ⟨g, cap, cur, rfl, hg, hh, _, _, _, ht⟩
  · exact ⟨none, 0, by rw [h2], Or.inl (List.length_eq_zero_iff.1 h2)⟩
  · refine ⟨_, cap, rfl, Or.inr ⟨g, 0, rfl, (Array.getElem?_eq_some_iff.1 hh).1, fun i hi => ?_⟩⟩
    simp only [Nat.zero_add]
    have e : (intsV xs)[i]? = some (.int .i64 (xs.getD i 0)) := by simp [intsV, List.getElem?_eq_getElem hi]
    rw [cell_of_row w g i cur 3 (0, 0) hh, ← e, ← ht, List.getElem?_take_of_lt (by omega)]
    simp

theorem usEnd : Try.prog.underlying 68 = some (.struct (Try.prog.fieldsOf 68)) := by kernel_rfl
theorem hsEnd : Try.prog.stoodInHeld 68 = false := by kernel_rfl
theorem neqEnd (x y z : Int) (w : World) : Sem.run Try.prog (binOp .neq 68 (.agg #[.int .i64 x, .int .i64 y, .int .i64 z]) (.agg #[.int .i64 x, .int .i64 y, .int .i64 z])) w = .ok (.bool false) w := by
  rw [run_neq_struct, run_equalIn_agg _ _ _ _ _ usEnd hsEnd]
  simp [Op.eqFields, go_sem]
theorem eqlEnd (x y z : Int) (w : World) : Sem.run Try.prog (binOp .eql 68 (.agg #[.int .i64 x, .int .i64 y, .int .i64 z]) (.agg #[.int .i64 x, .int .i64 y, .int .i64 z])) w = .ok (.bool true) w := by
  rw [run_eql_struct, run_equalIn_agg _ _ _ _ _ usEnd hsEnd]
  simp [Op.eqFields, go_sem]

theorem usVis : Try.prog.underlying 70 = some (.struct (Try.prog.fieldsOf 70)) := by kernel_rfl
theorem hsVis : Try.prog.stoodInHeld 70 = false := by kernel_rfl
theorem neqVis (x y z : Int) (w : World) : Sem.run Try.prog (binOp .neq 70 (.agg #[.int .i64 x, .int .i64 y, .int .i64 z]) (.agg #[.int .i64 x, .int .i64 y, .int .i64 z])) w = .ok (.bool false) w := by
  rw [run_neq_struct, run_equalIn_agg _ _ _ _ _ usVis hsVis]
  simp [Op.eqFields, go_sem]
theorem eqlVis (x y z : Int) (w : World) : Sem.run Try.prog (binOp .eql 70 (.agg #[.int .i64 x, .int .i64 y, .int .i64 z]) (.agg #[.int .i64 x, .int .i64 y, .int .i64 z])) w = .ok (.bool true) w := by
  rw [run_eql_struct, run_equalIn_agg _ _ _ _ _ usVis hsVis]
  simp [Op.eqFields, go_sem]

set_option maxHeartbeats 1000000 in
theorem llEnds_same (a a2 : Option Addr) (c c2 : Nat) (es : List (Int × Int × Int)) (w : World) (h : R3At w a es) (h2 : R3At w a2 es) (hm : es.length ≤ 1000000) :
    Calls Try.prog 37 #[.slice a es.length c, .slice a2 es.length c2] w fun e w' => e = .returned (.bool true) ∧ Below w.heap.size w w' := by
  have bl : ((es.length : Int) != (es.length : Int)) = false := by simp
  go_enter Try.func37, Try.ntmps37
  go_wp2_with fail
  go_loopw [5] (fun ii wr => ∃ i : Nat, i ≤ es.length ∧ ii = .int .i64 i ∧ Below w.heap.size w wr) (fun ii _ => es.length - (intOf ii).toNat)
  case atStart => exact ⟨0, Nat.zero_le _, rfl, Below.refl _ _⟩
  case round =>
    rename World => wo
    obtain ⟨i, hi, rfl, hb⟩ := hrel
    by_cases hlt : i < es.length
    · obtain ⟨b, off, ea, x0, x1, x2⟩ := (h.below hb).at hlt
      obtain ⟨b2, off2, ea2, y0, y1, y2⟩ := (h2.below hb).at hlt
      subst ea
      subst ea2
      obtain ⟨t, et⟩ : ∃ t, es.getD i (0, 0, 0) = t := ⟨_, rfl⟩
      rw [et] at x0 x1 x2 y0 y1 y2
      obtain ⟨t0, t1, t2⟩ := t
      simp only at x0 x1 x2 y0 y1 y2
      have hne := neqEnd t0 t1 t2
      clear h h2 et
      go_wp2_with fail
      go_quiet (fail)
      have hbq : Below w.heap.size w (wo.drewN nq) := ⟨hb.os, hb.tape, hb.output, hb.size, hb.block⟩
      go_wp2_with fail
      go_roundw
      case rel => exact ⟨i + 1, by omega, by go_num, hbq⟩
      case measure => simp [intOf]; omega
    · go_wp2_with fail
      go_ret
      exact ⟨rfl, hb⟩

set_option maxHeartbeats 1000000 in
theorem llVisits_same (a a2 : Option Addr) (c c2 : Nat) (es : List (Int × Int × Int)) (w : World) (h : R3At w a es) (h2 : R3At w a2 es) (hm : es.length ≤ 1000000) :
    Calls Try.prog 31 #[.slice a es.length c, .slice a2 es.length c2] w fun e w' => e = .returned (.bool true) ∧ Below w.heap.size w w' := by
  have bl : ((es.length : Int) != (es.length : Int)) = false := by simp
  go_enter Try.func31, Try.ntmps31
  go_wp2_with fail
  go_loopw [5] (fun ii wr => ∃ i : Nat, i ≤ es.length ∧ ii = .int .i64 i ∧ Below w.heap.size w wr) (fun ii _ => es.length - (intOf ii).toNat)
  case atStart => exact ⟨0, Nat.zero_le _, rfl, Below.refl _ _⟩
  case round =>
    rename World => wo
    obtain ⟨i, hi, rfl, hb⟩ := hrel
    by_cases hlt : i < es.length
    · obtain ⟨b, off, ea, x0, x1, x2⟩ := (h.below hb).at hlt
      obtain ⟨b2, off2, ea2, y0, y1, y2⟩ := (h2.below hb).at hlt
      subst ea
      subst ea2
      obtain ⟨t, et⟩ : ∃ t, es.getD i (0, 0, 0) = t := ⟨_, rfl⟩
      rw [et] at x0 x1 x2 y0 y1 y2
      obtain ⟨t0, t1, t2⟩ := t
      simp only at x0 x1 x2 y0 y1 y2
      have hne := neqVis t0 t1 t2
      clear h h2 et
      go_wp2_with fail
      go_quiet (fail)
      have hbq : Below w.heap.size w (wo.drewN nq) := ⟨hb.os, hb.tape, hb.output, hb.size, hb.block⟩
      go_wp2_with fail
      go_roundw
      case rel => exact ⟨i + 1, by omega, by go_num, hbq⟩
      case measure => simp [intOf]; omega
    · go_wp2_with fail
      go_ret
      exact ⟨rfl, hb⟩

set_option maxHeartbeats 1000000 in
theorem llHas_any (a : Option Addr) (c : Nat) (es : List Int) (n : Int) (w : World) (h : R1At w a es) (hm : es.length ≤ 1000000) :
    Calls Try.prog 36 #[.slice a es.length c, .int .i64 n] w fun e w' => e = .returned (.bool (decide (n ∈ es))) ∧ w' = w := by
  obtain ⟨r, hr⟩ : ∃ r, decide (n ∈ es) = r := ⟨_, rfl⟩
  rw [hr]
  have HR : Hid (decide (n ∈ es) = r) := hr
  clear hr
  go_enter Try.func36, Try.ntmps36
  go_wp2_with fail
  go_loopw [5] (fun ii wr => ∃ i : Nat, i ≤ es.length ∧ ii = .int .i64 i ∧ wr = w ∧ ¬ n ∈ es.take i) (fun ii _ => es.length - (intOf ii).toNat)
  case atStart => exact ⟨0, Nat.zero_le _, rfl, rfl, by simp⟩
  case round =>
    obtain ⟨i, hi, rfl, rfl, hno⟩ := hrel
    by_cases hlt : i < es.length
    · rcases h with q | ⟨b, off, ea, _, hc⟩
      · rw [q] at hlt; simp at hlt
      subst ea
      have x0 := hc i hlt
      obtain ⟨t, et⟩ : ∃ t, es.getD i 0 = t := ⟨_, rfl⟩
      rw [et] at x0
      have htk := take_one es i 0 hlt
      rw [et] at htk
      by_cases e0 : t = n
      · have hr : r = true := by
          rw [← HR.out]
          refine decide_eq_true ?_
          rw [← e0, ← et]
          simp [List.getElem?_eq_getElem hlt]
        subst hr
        have b0 : (t == n) = true := by simp [e0]
        clear hc et htk hno e0
        go_wp2_with fail
        go_ret
        exact ⟨rfl, rfl⟩
      · have hn2 : ¬ n ∈ es.take (i + 1) := by
          rw [htk]
          simp only [List.mem_append, List.mem_singleton]
          rintro (q | q)
          · exact hno q
          · exact e0 q.symm
        have HN : Hid (¬ n ∈ es.take (i + 1)) := hn2
        have b0 : (t == n) = false := by simp [e0]
        clear hc et htk hno e0 hn2
        go_wp2_with fail
        go_roundw
        case rel => exact ⟨i + 1, by omega, by go_num, by first | trivial | rfl, HN.out⟩
        case measure => simp [intOf]; omega
    · have hr : r = false := by
        rw [← HR.out]
        refine decide_eq_false ?_
        rw [List.take_of_length_le (by omega)] at hno
        exact hno
      subst hr
      clear hno
      go_wp2_with fail
      go_ret
      exact ⟨rfl, rfl⟩

set_option maxHeartbeats 1000000 in
theorem llSight_any (wd : Int) (a : Option Addr) (cap : Nat) (cs : List (Int × Int)) (w : World) (h : CellsAt w a cs) (hm : cs.length ≤ 1048576) (k : Int) :
    Calls Try.prog 33 #[.agg #[.int .i64 wd, .slice a cs.length cap], .int .i64 k] w fun e w' => e = .returned (.bool (inS wd cs k)) ∧ Below w.heap.size w w' := by
  obtain ⟨M, hM⟩ : ∃ M, manyG wd cs = M := ⟨_, rfl⟩
  have EM : Hid (manyG wd cs = M) := hM
  have hbX : Below w.heap.size w (w.alloc (.cells #[.int .i64 wd, .slice a cs.length cap] 25)) := (by repeat (first | exact Below.refl _ _ | refine Below.alloc ?_ (by first | exact Nat.le_refl _ | (simp; done) | (simp; omega)) _ | refine Below.drew ?_ | refine Below.setCell ?_ (by first | exact Nat.le_refl _ | (simp; done) | (simp; omega)) _))
  have hC := h.below hbX
  by_cases h0 : 0 ≤ k
  · by_cases h1 : k < M
    · have hv : inS wd cs k = true := by unfold inS; rw [hM]; exact decide_eq_true ⟨h0, h1⟩
      rw [hv]
      clear hv hM
      go_enter Try.func33, Try.ntmps33
      go_wp2_with fail
      refine (specMany_any wd a cap cs _ hC hm).mono ?_
      rintro e w1 ⟨rfl, hb1⟩
      rw [EM.out]
      have hB := bcall hbX (by simp) hb1
      go_wp2
      go_ret
      exact ⟨rfl, hB⟩
    · have hv : inS wd cs k = false := by unfold inS; rw [hM]; exact decide_eq_false (fun q => h1 q.2)
      rw [hv]
      clear hv hM
      have b1 : decide (k < M) = false := decide_eq_false h1
      clear h1
      go_enter Try.func33, Try.ntmps33
      go_wp2_with fail
      refine (specMany_any wd a cap cs _ hC hm).mono ?_
      rintro e w1 ⟨rfl, hb1⟩
      rw [EM.out]
      have hB := bcall hbX (by simp) hb1
      go_wp2
      go_ret
      exact ⟨rfl, hB⟩
  · have hv : inS wd cs k = false := by unfold inS; exact decide_eq_false (fun q => h0 q.1)
    rw [hv]
    have h0' : k < 0 := by omega
    clear hv hM h0
    go_enter Try.func33, Try.ntmps33
    go_wp2
    go_ret
    exact ⟨rfl, hbX⟩

def clearB (cs : List (Int × Int)) : Bool := decide (cntK 4 cs = 0 ∧ cntK 6 cs = 0)
theorem clearB_is {cs : List (Int × Int)} (h : clearB cs = true) : clearG cs := by
  simp only [clearB, decide_eq_true_eq, cntK, List.countP_eq_zero] at h
  intro x hx
  obtain ⟨X, rfl⟩ := Int.eq_ofNat_of_zero_le hx.1
  have hX : X < cs.length := by omega
  have e : kd cs (X : Int) = cs[X].1 := by simp [kd, List.getElem?_eq_getElem hX]
  have h4 := h.1 cs[X] (List.getElem_mem hX)
  have h6 := h.2 cs[X] (List.getElem_mem hX)
  simp only [isK, normK, backK, beq_iff_eq] at h4 h6
  rw [e]
  refine ⟨fun q => ?_, fun q => ?_, fun q => ?_⟩
  · rw [q] at h4; simp at h4
  · rw [q] at h4; simp at h4
  · rw [q] at h6; simp at h6
theorem clearB_of {cs : List (Int × Int)} (h : ∀ c ∈ cs, c.1 ≠ 4 ∧ c.1 ≠ 5 ∧ c.1 ≠ 6) : clearB cs = true := by
  simp only [clearB, decide_eq_true_eq, cntK, List.countP_eq_zero]
  refine ⟨fun c hc => ?_, fun c hc => ?_⟩
  all_goals
    have q := h c hc
    simp only [isK, normK, backK, beq_iff_eq]
    by_cases k3 : c.1 = 3
    · simp [k3]
    · simp [k3, q.2.1]; omega
theorem clearB_not {cs : List (Int × Int)} {c : Int × Int} (hc : c ∈ cs) (h : c.1 = 4 ∨ c.1 = 5 ∨ c.1 = 6) : clearB cs = false := by
  cases hb : clearB cs with
  | false => rfl
  | true =>
    simp only [clearB, decide_eq_true_eq, cntK, List.countP_eq_zero] at hb
    have h4 := hb.1 c hc
    have h6 := hb.2 c hc
    simp only [isK, normK, backK, beq_iff_eq] at h4 h6
    rcases h with q | q | q
    · rw [q] at h4; simp at h4
    · rw [q] at h4; simp at h4
    · rw [q] at h6; simp at h6
theorem implVisitsR {wd : Int} {cs : List (Int × Int)} {k : Int} {L : List (Int × Int × Int)} (hL : (trailT wd cs k).1 = L) (a : Option Addr) (cap : Nat) (w : World) (h : CellsAt w a cs) (hm : cs.length ≤ 1048576) :
    Calls Try.prog 30 #[.agg #[.int .i64 wd, .slice a cs.length cap], .int .i64 k] w fun r w' => ∃ a2 c2, r = .returned (.slice a2 L.length c2) ∧ R3At w' a2 L ∧ Below w.heap.size w w' := by
  refine (implVisits_any wd a cap cs w h hm k).mono ?_
  rw [hL]
  rintro r w' ⟨a2, c2, rfl, ho, hb⟩
  exact ⟨a2, c2, rfl, own_r3 ho, hb⟩

theorem implEndsR {wd : Int} {cs : List (Int × Int)} {k : Int} {L : List (Int × Int × Int)} (hL : (trailT wd cs k).2 = L) (a : Option Addr) (cap : Nat) (w : World) (h : CellsAt w a cs) (hm : cs.length ≤ 1048576) :
    Calls Try.prog 38 #[.agg #[.int .i64 wd, .slice a cs.length cap], .int .i64 k] w fun r w' => ∃ a2 c2, r = .returned (.slice a2 L.length c2) ∧ R3At w' a2 L ∧ Below w.heap.size w w' := by
  refine (implEnds_any wd a cap cs w h hm k).mono ?_
  rw [hL]
  rintro r w' ⟨a2, c2, rfl, ho, hb⟩
  exact ⟨a2, c2, rfl, own_r3 ho, hb⟩

theorem implFootR {wd : Int} {cs : List (Int × Int)} {k : Int} {L : List Int} (hL : footN wd cs k = L) (a : Option Addr) (cap : Nat) (w : World) (h : CellsAt w a cs) (hm : cs.length ≤ 1048576) :
    Calls Try.prog 35 #[.agg #[.int .i64 wd, .slice a cs.length cap], .int .i64 k] w fun r w' => ∃ a2 c2, r = .returned (.slice a2 L.length c2) ∧ R1At w' a2 L ∧ Below w.heap.size w w' := by
  refine (implFoot_any wd a cap cs w h hm k).mono ?_
  rw [hL]
  rintro r w' ⟨v, rfl, ho, hb⟩
  obtain ⟨a2, c2, rfl, hR⟩ := row1_at ho
  exact ⟨a2, c2, rfl, hR, hb⟩

theorem implToR {wd : Int} {cs : List (Int × Int)} {k q0 : Int} {v : Int} (hv : toN wd cs k q0 = v) (a : Option Addr) (cap : Nat) (w : World) (h : CellsAt w a cs) (hm : cs.length ≤ 1048576) :
    Calls Try.prog 43 #[.agg #[.int .i64 wd, .slice a cs.length cap], .int .i64 k, .int .i64 q0] w fun r w' => r = .returned (.int .i64 v) ∧ Below w.heap.size w w' := by
  have q := implTo_any wd a cap cs w h hm k q0
  rw [hv] at q
  exact q

theorem implLightR {wd : Int} {cs : List (Int × Int)} {k : Int} {v : Int} (hv : lightN wd cs k = v) (a : Option Addr) (cap : Nat) (w : World) (h : CellsAt w a cs) (hm : cs.length ≤ 1048576) :
    Calls Try.prog 45 #[.agg #[.int .i64 wd, .slice a cs.length cap], .int .i64 k] w fun r w' => r = .returned (.int .i64 v) ∧ Below w.heap.size w w' := by
  have q := implLight_any wd a cap cs w h hm k
  rw [hv] at q
  exact q

theorem specVisitsR {wd : Int} {cs : List (Int × Int)} {k : Int} {L : List (Int × Int × Int)} (hL : (trailT wd cs k).1 = L) (a : Option Addr) (cap : Nat) (w : World) (h : CellsAt w a cs) (hm : cs.length ≤ 1048576) :
    Calls Try.prog 32 #[.agg #[.int .i64 wd, .slice a cs.length cap], .int .i64 k] w fun r w' => ∃ a2 c2, r = .returned (.slice a2 L.length c2) ∧ R3At w' a2 L ∧ Below w.heap.size w w' := by
  refine (specVisits_any wd a cap cs w h hm k).mono ?_
  rw [hL]
  rintro r w' ⟨a2, c2, rfl, ho, hb⟩
  exact ⟨a2, c2, rfl, own_r3 ho, hb⟩

theorem specEndsR {wd : Int} {cs : List (Int × Int)} {k : Int} {L : List (Int × Int × Int)} (hL : (trailT wd cs k).2 = L) (a : Option Addr) (cap : Nat) (w : World) (h : CellsAt w a cs) (hm : cs.length ≤ 1048576) :
    Calls Try.prog 40 #[.agg #[.int .i64 wd, .slice a cs.length cap], .int .i64 k] w fun r w' => ∃ a2 c2, r = .returned (.slice a2 L.length c2) ∧ R3At w' a2 L ∧ Below w.heap.size w w' := by
  refine (specEnds_any wd a cap cs w h hm k).mono ?_
  rw [hL]
  rintro r w' ⟨a2, c2, rfl, ho, hb⟩
  exact ⟨a2, c2, rfl, own_r3 ho, hb⟩

theorem specLightR {wd : Int} {cs : List (Int × Int)} {k : Int} {v : Int} (hv : lightN wd cs k = v) (a : Option Addr) (cap : Nat) (w : World) (h : CellsAt w a cs) (hm : cs.length ≤ 1048576) :
    Calls Try.prog 46 #[.agg #[.int .i64 wd, .slice a cs.length cap], .int .i64 k] w fun r w' => r = .returned (.int .i64 v) ∧ Below w.heap.size w w' := by
  have q := specLight_any wd a cap cs w h hm k
  rw [hv] at q
  exact q

end Go.Proofs.Ytmnninhifiajhaa
