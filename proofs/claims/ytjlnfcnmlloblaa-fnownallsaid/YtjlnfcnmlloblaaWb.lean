/-
  impl.PaintOwn and spec.PaintOwn answer, in new memory, from id - 1 on each many-th sight.
-/
import Derived.Test.YtjlnfcnmlloblaaWa
import Derived.Test.YtjlnfcnmlloblaaJh
import Derived.Test.YtjlnfcnmlloblaaJa
import Derived.Test.YtjlnfcnmlloblaaJi
namespace Go.Proofs.Ytjlnfcnmlloblaa
open Go.RowKit
set_option linter.unusedVariables false
attribute [local go_sem ↓] Go.wp_at_zero Go.wp_at_succ

theorem ownsRow_below {w w' : World} {B e size n : Nat} {v : Value} {xs : List Value} (h : w.ownsRow B e size v n xs) (hb : Below w.heap.size w w') : w'.ownsRow B e size v n xs := by
  obtain ⟨h1, h2⟩ := h
  refine ⟨h1, ?_⟩
  rcases h2 with h2 | ⟨g, cap, cur, hv, hg, hh, r⟩
  · exact Or.inl h2
  · exact Or.inr ⟨g, cap, cur, hv, hg, by rw [hb.block g (Array.getElem?_eq_some_iff.1 hh).1]; exact hh, r⟩
/-- From k on each m-th below M, n of them at most. -/
def ownF : Nat → Int → Int → Int → List Int
  | 0, _, _, _ => []
  | n + 1, k, m, M => if k < M then k :: ownF n (k + m) m M else []
/-- Whether there is such a painter. -/
def isP (id m : Int) : Bool := decide (m ≤ 3) && decide (1 ≤ id) && decide (id ≤ m)
/-- The sights of one of so many painters. -/
def ownN (wd : Int) (cs : List (Int × Int)) (id m : Int) : List Int := if isP id m = true then ownF 20 (id - 1) m (manyG wd cs) else []
theorem ownF_le (n : Nat) : ∀ (k m M : Int), (ownF n k m M).length ≤ n := by
  induction n with
  | zero => intro k m M; simp [ownF]
  | succ n ih =>
    intro k m M
    unfold ownF
    split
    · have := ih (k + m) m M; simp; omega
    · simp
theorem ownN_le (wd : Int) (cs : List (Int × Int)) (id m : Int) : (ownN wd cs id m).length ≤ 20 := by
  unfold ownN
  split
  · exact ownF_le 20 _ _ _
  · simp
theorem ownF_stop (n : Nat) (k m M : Int) (h : ¬ k < M) : ownF n k m M = [] := by
  cases n with
  | zero => rfl
  | succ n => unfold ownF; rw [if_neg h]
theorem ownF_go (n : Nat) (k m M : Int) (h : k < M) : ownF (n + 1) k m M = k :: ownF n (k + m) m M := by
  show (if k < M then k :: ownF n (k + m) m M else []) = _
  rw [if_pos h]
theorem manyG_le (wd : Int) (cs : List (Int × Int)) : 0 ≤ manyG wd cs ∧ manyG wd cs ≤ 20 := by
  rcases hk : okG wd cs with _ | _
  · rw [manyG_bad hk]; omega
  · obtain ⟨W, H, rfl, h1, h2, h3, h4, el, hH, hHI⟩ := okG_nat wd cs hk
    rw [manyG_ok hk hHI]; omega
theorem painterOk_any (id m : Int) (w : World) :
    Calls Try.prog 22 #[.int .i64 id, .int .i64 m] w fun e w' => e = .returned (.bool (isP id m)) ∧ w' = w := by
  by_cases h1 : m ≤ 3
  · by_cases h2 : 1 ≤ id
    · by_cases h3 : id ≤ m
      · have e : isP id m = true := by simp [isP, h1, h2, h3]
        rw [e]
        have b1 : decide (m ≤ 3) = true := decide_eq_true h1
        have b2 : decide (id ≥ 1) = true := decide_eq_true h2
        have b3 : decide (id ≤ m) = true := decide_eq_true h3
        go_enter Try.func22, Try.ntmps22
        go_wp2_with fail
        go_ret
        exact ⟨rfl, rfl⟩
      · have e : isP id m = false := by simp [isP, h3]
        rw [e]
        have b1 : decide (m ≤ 3) = true := decide_eq_true h1
        have b2 : decide (id ≥ 1) = true := decide_eq_true h2
        have b3 : decide (id ≤ m) = false := decide_eq_false h3
        go_enter Try.func22, Try.ntmps22
        go_wp2_with fail
        go_ret
        exact ⟨rfl, rfl⟩
    · have e : isP id m = false := by simp [isP, h2]
      rw [e]
      have b1 : decide (m ≤ 3) = true := decide_eq_true h1
      have b2 : decide (id ≥ 1) = false := decide_eq_false h2
      go_enter Try.func22, Try.ntmps22
      go_wp2_with fail
      go_ret
      exact ⟨rfl, rfl⟩
  · have e : isP id m = false := by simp [isP, h1]
    rw [e]
    have b1 : decide (m ≤ 3) = false := decide_eq_false h1
    go_enter Try.func22, Try.ntmps22
    go_wp2_with fail
    go_ret
    exact ⟨rfl, rfl⟩
theorem l21Id_any (id m : Int) (w : World) :
    Calls Try.prog 23 #[.int .i64 id, .int .i64 m] w fun e w' => e = .returned (.bool (isP id m)) ∧ w' = w := by
  have C1 : Hid (∀ w : World, Calls Try.prog 25 #[.int .i64 m, .int .i64 1, .int .i64 3] w fun e w' => e = .returned (.bool (inB m 1 3)) ∧ w' = w) := fun w => l6In_any m 1 3 w
  have C2 : Hid (∀ w : World, Calls Try.prog 25 #[.int .i64 id, .int .i64 1, .int .i64 m] w fun e w' => e = .returned (.bool (inB id 1 m)) ∧ w' = w) := fun w => l6In_any id 1 m w
  rcases h1 : inB m 1 3 with _ | _
  · have e : isP id m = false := by
      unfold isP
      simp only [inB, Bool.and_eq_false_iff, decide_eq_false_iff_not] at h1 ⊢
      omega
    rw [e]
    go_enter Try.func23, Try.ntmps23
    go_wp2_with fail
    refine (C1.out _).mono ?_
    rintro e' w' ⟨rfl, rfl⟩
    rw [h1]
    go_wp2_with fail
    go_ret
    exact ⟨rfl, rfl⟩
  · have e : isP id m = inB id 1 m := by
      unfold isP
      simp only [inB, decide_eq_true_eq] at h1
      simp [inB, h1.2]
    rw [e]
    go_enter Try.func23, Try.ntmps23
    go_wp2_with fail
    refine (C1.out _).mono ?_
    rintro e' w' ⟨rfl, rfl⟩
    rw [h1]
    go_wp2_with fail
    refine (C2.out _).mono ?_
    rintro e' w' ⟨rfl, rfl⟩
    go_wp2_with fail
    go_ret
    exact ⟨rfl, rfl⟩

set_option maxHeartbeats 2000000 in
theorem implOwn_any (wd : Int) (a : Option Addr) (cap : Nat) (cs : List (Int × Int)) (w : World) (h : CellsAt w a cs) (hm : cs.length ≤ 1048576) (id m : Int) :
    Calls Try.prog 6 #[.agg #[.int .i64 wd, .slice a cs.length cap], .int .i64 id, .int .i64 m] w fun e w' => ∃ v, e = .returned v ∧ OwnI w' w.heap.size v (ownN wd cs id m) ∧ Below w.heap.size w w' := by
  obtain ⟨i0, hi, iz0, iz1, iz2⟩ := info_parts infoIntF
  rcases hp : isP id m with _ | _
  · have e : ownN wd cs id m = [] := by unfold ownN; rw [if_neg (by simp [hp])]
    rw [e]
    go_enter Try.func6, Try.ntmps6
    go_wp2_with fail
    refine (painterOk_any _ _ _).mono ?_
    rintro e' w' ⟨rfl, rfl⟩
    rw [hp]
    go_wp2_with fail
    go_ret
    exact ⟨_, rfl, World.ownsRow_nil _ _ _ _, (by repeat (first | exact Below.refl _ _ | refine Below.alloc ?_ (by first | exact Nat.le_refl _ | (simp; done) | (simp; omega)) _ | refine Below.drew ?_ | refine Below.setCell ?_ (by first | exact Nat.le_refl _ | (simp; done) | (simp; omega)) _))⟩
  · obtain ⟨M, hM⟩ : ∃ M, manyG wd cs = M := ⟨_, rfl⟩
    obtain ⟨T, hT⟩ : ∃ T, ownN wd cs id m = T := ⟨_, rfl⟩
    have hT2 : [] ++ ownF 20 (id - 1) m M = T := by rw [← hT, ← hM]; unfold ownN; rw [if_pos hp]; rfl
    have hM2 := manyG_le wd cs
    rw [hM] at hM2
    obtain ⟨hM0, hM20⟩ := hM2
    have hr : m ≤ 3 ∧ 1 ≤ id ∧ id ≤ m := by simpa [isP, and_assoc] using hp
    obtain ⟨hr1, hr2, hr3⟩ := hr
    have EM : Hid (manyG wd cs = M) := hM
    have HP : Hid (isP id m = true) := hp
    rw [hT]
    clear hM hT hp
    have wk : IntKind.i64.wrap (id - 1) = id - 1 := IntWalk.i64_in _ (by omega)
    go_enter Try.func6, Try.ntmps6
    go_wp2_with fail
    refine (painterOk_any _ _ _).mono ?_
    rintro e' w' ⟨rfl, rfl⟩
    rw [HP.out]
    go_wp2_with fail
    refine (implMany_any _ _ _ cs _ (h.below (by repeat (first | exact Below.refl _ _ | refine Below.alloc ?_ (by first | exact Nat.le_refl _ | (simp; done) | (simp; omega)) _ | refine Below.drew ?_ | refine Below.setCell ?_ (by first | exact Nat.le_refl _ | (simp; done) | (simp; omega)) _))) hm).mono ?_
    rintro e' x0 ⟨rfl, hb0⟩
    rw [EM.out]
    have hB0 : Below w.heap.size w x0 := bcall (by repeat (first | exact Below.refl _ _ | refine Below.alloc ?_ (by first | exact Nat.le_refl _ | (simp; done) | (simp; omega)) _ | refine Below.drew ?_ | refine Below.setCell ?_ (by first | exact Nat.le_refl _ | (simp; done) | (simp; omega)) _)) (by simp <;> omega) hb0
    have hz0 := hB0.size
    clear hb0
    go_wp2_with fail
    go_loopw [7, 9] (fun oo kk wr => ∃ (n : Nat) (k : Int) (pre : List Int), kk = .int .i64 k ∧ Below w.heap.size w wr ∧ OwnI wr w.heap.size oo pre ∧ pre ++ ownF n k m M = T ∧ M - k ≤ (n : Int) ∧ 0 ≤ k ∧ k ≤ 30 ∧ pre.length + n ≤ 20) (fun _ kk _ => (30 - intOf kk).toNat)
    case atStart => exact ⟨20, id - 1, [], rfl, hB0, World.ownsRow_nil _ _ _ _, hT2, by omega, by omega, by omega, by simp⟩
    case round =>
      rename World => wp
      obtain ⟨n, k, pre, rfl, hb, hO, hpre, hn, hk0, hk30, hln⟩ := hrel
      have HPRE : Hid (pre ++ ownF n k m M = T) := hpre
      clear hpre
      by_cases hlt : k < M
      · have bl : decide (k < M) = true := decide_eq_true hlt
        have wk2 : IntKind.i64.wrap (k + m) = k + m := IntWalk.i64_in _ (by omega)
        have hzp := hb.size
        go_wp2_with (at_builtin; refine wpList_append_lies _ rfl _ _ _ rfl w.heap.size 3 i0 (.int .i64 0) 1 8 Try.underlying28 hi iz0 iz1 iz2 rfl (by omega) _ pre.length (intsV pre) rfl (World.ownsRow.alloc hO _) ⟨wp.heap.size, 0, none⟩ 1 1 [.int .i64 k] rfl rfl (World.news_of_block (cs := #[.int .i64 k]) (t := 3) (fr := (0, 0)) (heap_alloc_new wp _)) (by simp [Value.oneCell']) (by omega) (by unfold maxLen; omega) (by omega) (by simp; omega) (wp.heap.size + 1) (by simp) ?_)
        intro g6 k6 w6 hO6 hg6 hat6 hlt6
        have hbA : Below wp.heap.size wp (wp.alloc (.cells #[.int .i64 k] 3)) := (Below.refl _ _).alloc (Nat.le_refl _) _
        have hown := fun k q => (World.ownsRow.lt hO k q).1
        have hz6 := hg6.size
        simp at hz6
        have hb6 : Below w.heap.size w w6 := by
          refine ⟨(hg6.os.trans hbA.os).trans hb.os, (hg6.tape.trans hbA.tape).trans hb.tape, (hg6.output.trans hbA.output).trans hb.output, by omega, fun k hk => ?_⟩
          rw [hg6.block k (by simp; omega) (fun q => by have := hown k q.symm; omega), hbA.block k (by omega)]
          exact hb.block k hk
        have hO7 : OwnI w6 w.heap.size (.slice (some ⟨g6, 0, none⟩) (pre.length + 1) k6) (pre ++ [k]) := by
          unfold OwnI
          rw [show (pre ++ [k]).length = pre.length + 1 by simp]
          have e : intsV (pre ++ [k]) = intsV pre ++ [.int .i64 k] := by simp [intsV]
          rw [e]
          exact hO6
        obtain ⟨n', rfl⟩ : ∃ n', n = n' + 1 := ⟨n - 1, by omega⟩
        have HPRE2 : Hid ((pre ++ [k]) ++ ownF n' (k + m) m M = T) := by
          show _ = _
          rw [← HPRE.out, ownF_go _ _ _ _ hlt]
          simp
        clear hO6 hg6 hat6 hb hO hbA hown
        go_wp2_with fail
        go_roundw
        case rel => exact ⟨n', k + m, pre ++ [k], rfl, hb6, hO7, HPRE2.out, by omega, by omega, by omega, by simp; omega⟩
        case measure => simp [intOf]; omega
      · have bl : decide (k < M) = false := decide_eq_false hlt
        have e : pre = T := by have q := HPRE.out; rw [ownF_stop n k m M hlt] at q; simpa using q
        subst e
        go_wp2_with fail
        go_ret
        exact ⟨_, rfl, hO, hb⟩

set_option maxHeartbeats 2000000 in
theorem l21Own_any (wd M : Int) (a : Option Addr) (cap : Nat) (cs : List (Int × Int)) (w : World) (id m : Int) (hr1 : m ≤ 3) (hr2 : 1 ≤ id) (hr3 : id ≤ m) (hM0 : 0 ≤ M) (hM20 : M ≤ 20) (T : List Int) (hT2 : [] ++ ownF 20 (id - 1) m M = T)
    (CM : Hid (∀ (w : World), Calls Try.prog 35 #[.agg #[.int .i64 wd, .slice a cs.length cap]] w fun e w' => e = .returned (.int .i64 M) ∧ Below w.heap.size w w')) :
    Calls Try.prog 24 #[.agg #[.int .i64 wd, .slice a cs.length cap], .int .i64 id, .int .i64 m] w fun e w' => ∃ v, e = .returned v ∧ OwnI w' w.heap.size v T ∧ Below w.heap.size w w' := by
  obtain ⟨i0, hi, iz0, iz1, iz2⟩ := info_parts infoIntF
  have wk : IntKind.i64.wrap (id - 1) = id - 1 := IntWalk.i64_in _ (by omega)
  have hb0 : Below w.heap.size w (w.alloc (.cells #[.int .i64 wd, .slice a cs.length cap] 25)) := (by repeat (first | exact Below.refl _ _ | refine Below.alloc ?_ (by first | exact Nat.le_refl _ | (simp; done) | (simp; omega)) _ | refine Below.drew ?_ | refine Below.setCell ?_ (by first | exact Nat.le_refl _ | (simp; done) | (simp; omega)) _))
  have g0 : (w.alloc (.cells #[.int .i64 wd, .slice a cs.length cap] 25)).cell? ⟨w.heap.size, 0, none⟩ = some (.int .i64 wd) := by simp [go_sem]
  have g1 : (w.alloc (.cells #[.int .i64 wd, .slice a cs.length cap] 25)).cell? ⟨w.heap.size, 1, none⟩ = some (.slice a cs.length cap) := by simp [go_sem]
  go_enter Try.func24, Try.ntmps24
  go_wp2_with fail
  obtain ⟨w0, hw0⟩ : ∃ w0, w0 = w.alloc (.cells #[.int .i64 wd, .slice a cs.length cap] 25) := ⟨_, rfl⟩
  have hs0 : w0.heap.size = w.heap.size + 1 := by rw [hw0]; simp
  rw [← hw0] at hb0 g0 g1 ⊢
  clear hw0
  have hbE : Below w0.heap.size w0 (w0.alloc (.cells #[] 3)) := (Below.refl _ _).alloc (Nat.le_refl _) _
  have hO : OwnI (w0.alloc (.cells #[] 3)) (w.heap.size + 1) (.slice (some ⟨w0.heap.size, 0, none⟩) 0 0) [] :=
    ⟨rfl, Or.inr ⟨w0.heap.size, 0, #[], rfl, by omega, heap_alloc_new w0 _, Nat.le_refl _, by unfold maxLen; omega, rfl, rfl⟩⟩
  have hB1 := bcall hb0 (by omega) hbE
  have p0 := keepc hbE g0
  have p1 := keepc hbE g1
  obtain ⟨w1, hw1⟩ : ∃ w1, w1 = w0.alloc (.cells #[] 3) := ⟨_, rfl⟩
  rw [hs0] at hO
  rw [← hw1] at hO hB1 p0 p1 ⊢
  clear hw1 hbE hb0 g0 g1
  go_loopw [7, 8] (fun oo kk wr => ∃ (n : Nat) (k : Int) (pre : List Int), kk = .int .i64 k ∧ Below w.heap.size w wr ∧ wr.cell? ⟨w.heap.size, 0, none⟩ = some (.int .i64 wd) ∧ wr.cell? ⟨w.heap.size, 1, none⟩ = some (.slice a cs.length cap) ∧ OwnI wr (w.heap.size + 1) oo pre ∧ pre ++ ownF n k m M = T ∧ M - k ≤ (n : Int) ∧ 0 ≤ k ∧ k ≤ 30 ∧ pre.length + n ≤ 20) (fun _ kk _ => (30 - intOf kk).toNat)
  case atStart => exact ⟨20, id - 1, [], rfl, hB1, p0, p1, hO, hT2, by omega, by omega, by omega, by simp⟩
  case round =>
    rename World => wo
    obtain ⟨n, k, pre, rfl, hb, p0, p1, hO, hpre, hn, hk0, hk30, hln⟩ := hrel
    have HPRE : Hid (pre ++ ownF n k m M = T) := hpre
    clear hpre
    have hzo := hb.size
    go_wp2_with fail
    refine (CM.out _).mono ?_
    rintro e' wp ⟨rfl, hbp⟩
    replace hO := (show OwnI wp (w.heap.size + 1) _ pre from ownsRow_below hO hbp)
    replace p0 := keepc hbp p0
    replace p1 := keepc hbp p1
    replace hb := bcall hb hzo hbp
    have hzp := hb.size
    clear hbp
    by_cases hlt : k < M
    · have bl : decide (k < M) = true := decide_eq_true hlt
      have wk2 : IntKind.i64.wrap (k + m) = k + m := IntWalk.i64_in _ (by omega)
      go_wp2_with (at_builtin; refine wpList_append_lies _ rfl _ _ _ rfl (w.heap.size + 1) 3 i0 (.int .i64 0) 1 8 Try.underlying28 hi iz0 iz1 iz2 rfl (by omega) _ pre.length (intsV pre) rfl (World.ownsRow.alloc hO _) ⟨wp.heap.size, 0, none⟩ 1 1 [.int .i64 k] rfl rfl (World.news_of_block (cs := #[.int .i64 k]) (t := 3) (fr := (0, 0)) (heap_alloc_new wp _)) (by simp [Value.oneCell']) (by omega) (by unfold maxLen; omega) (by omega) (by simp; omega) (wp.heap.size + 1) (by simp) ?_)
      intro g6 k6 w6 hO6 hg6 hat6 hlt6
      have hgl : w.heap.size < wp.heap.size := World.block_lt_of_cell? _ _ p0
      have hbA : Below wp.heap.size wp (wp.alloc (.cells #[.int .i64 k] 3)) := (Below.refl _ _).alloc (Nat.le_refl _) _
      have hown := fun k q => (World.ownsRow.lt hO k q).1
      have hz6 := hg6.size
      simp at hz6
      have hb6 : Below w.heap.size w w6 := by
        refine ⟨(hg6.os.trans hbA.os).trans hb.os, (hg6.tape.trans hbA.tape).trans hb.tape, (hg6.output.trans hbA.output).trans hb.output, by omega, fun k hk => ?_⟩
        rw [hg6.block k (by simp; omega) (fun q => by have := hown k q.symm; omega), hbA.block k (by omega)]
        exact hb.block k hk
      have hkeep : w6.heap[w.heap.size]? = wp.heap[w.heap.size]? := by
        rw [hg6.block _ (by simp; omega) (fun q => by have := hown _ q.symm; omega), hbA.block _ hgl]
      have q0 : w6.cell? ⟨w.heap.size, 0, none⟩ = some (.int .i64 wd) := by rw [World.cell?_of_block (w := wp) hkeep]; exact p0
      have q1 : w6.cell? ⟨w.heap.size, 1, none⟩ = some (.slice a cs.length cap) := by rw [World.cell?_of_block (w := wp) hkeep]; exact p1
      have hO7 : OwnI w6 (w.heap.size + 1) (.slice (some ⟨g6, 0, none⟩) (pre.length + 1) k6) (pre ++ [k]) := by
        unfold OwnI
        rw [show (pre ++ [k]).length = pre.length + 1 by simp]
        have e : intsV (pre ++ [k]) = intsV pre ++ [.int .i64 k] := by simp [intsV]
        rw [e]
        exact hO6
      obtain ⟨n', rfl⟩ : ∃ n', n = n' + 1 := ⟨n - 1, by omega⟩
      have HPRE2 : Hid ((pre ++ [k]) ++ ownF n' (k + m) m M = T) := by
        show _ = _
        rw [← HPRE.out, ownF_go _ _ _ _ hlt]
        simp
      clear hO6 hg6 hat6 hb hO hbA hown p0 p1 hkeep
      go_wp2_with fail
      go_roundw
      case rel => exact ⟨n', k + m, pre ++ [k], rfl, hb6, q0, q1, hO7, HPRE2.out, by omega, by omega, by omega, by simp; omega⟩
      case measure => simp [intOf]; omega
    · have bl : decide (k < M) = false := decide_eq_false hlt
      have e : pre = T := by have q := HPRE.out; rw [ownF_stop n k m M hlt] at q; simpa using q
      subst e
      go_wp2_with fail
      go_ret
      exact ⟨_, rfl, ownsRow_mono hO (by omega), hb⟩

set_option maxHeartbeats 2000000 in
theorem specOwn_any (wd : Int) (a : Option Addr) (cap : Nat) (cs : List (Int × Int)) (w : World) (h : CellsAt w a cs) (hm : cs.length ≤ 1048576) (id m : Int) :
    Calls Try.prog 8 #[.agg #[.int .i64 wd, .slice a cs.length cap], .int .i64 id, .int .i64 m] w fun e w' => ∃ v, e = .returned v ∧ OwnI w' w.heap.size v (ownN wd cs id m) ∧ Below w.heap.size w w' := by
  rcases hk : okG wd cs with _ | _
  · have e : ownN wd cs id m = [] := by
      unfold ownN
      split
      · rename_i hp
        rw [manyG_bad hk]
        have hr : m ≤ 3 ∧ 1 ≤ id ∧ id ≤ m := by simpa [isP, and_assoc] using hp
        exact ownF_stop 20 _ _ _ (by omega)
      · rfl
    rw [e]
    go_enter Try.func8, Try.ntmps8
    go_wp2_with fail
    refine (specGridOk_any _ _ _ cs _ (h.below (by repeat (first | exact Below.refl _ _ | refine Below.alloc ?_ (by first | exact Nat.le_refl _ | (simp; done) | (simp; omega)) _ | refine Below.drew ?_ | refine Below.setCell ?_ (by first | exact Nat.le_refl _ | (simp; done) | (simp; omega)) _))) (by omega)).mono ?_
    rintro e' x0 ⟨rfl, hb0⟩
    rw [hk]
    have hB0 : Below w.heap.size w x0 := bcall (by repeat (first | exact Below.refl _ _ | refine Below.alloc ?_ (by first | exact Nat.le_refl _ | (simp; done) | (simp; omega)) _ | refine Below.drew ?_ | refine Below.setCell ?_ (by first | exact Nat.le_refl _ | (simp; done) | (simp; omega)) _)) (by simp <;> omega) hb0
    have hz0 := hB0.size
    clear hb0
    go_wp2_with fail
    go_ret
    exact ⟨_, rfl, ⟨rfl, Or.inr ⟨x0.heap.size, 0, #[], rfl, by omega, heap_alloc_new x0 _, Nat.le_refl _, by unfold maxLen; omega, rfl, rfl⟩⟩, hB0.alloc (by omega) _⟩
  rcases hp : isP id m with _ | _
  · have e : ownN wd cs id m = [] := by unfold ownN; rw [if_neg (by simp [hp])]
    rw [e]
    go_enter Try.func8, Try.ntmps8
    go_wp2_with fail
    refine (specGridOk_any _ _ _ cs _ (h.below (by repeat (first | exact Below.refl _ _ | refine Below.alloc ?_ (by first | exact Nat.le_refl _ | (simp; done) | (simp; omega)) _ | refine Below.drew ?_ | refine Below.setCell ?_ (by first | exact Nat.le_refl _ | (simp; done) | (simp; omega)) _))) (by omega)).mono ?_
    rintro e' x0 ⟨rfl, hb0⟩
    rw [hk]
    have hB0 : Below w.heap.size w x0 := bcall (by repeat (first | exact Below.refl _ _ | refine Below.alloc ?_ (by first | exact Nat.le_refl _ | (simp; done) | (simp; omega)) _ | refine Below.drew ?_ | refine Below.setCell ?_ (by first | exact Nat.le_refl _ | (simp; done) | (simp; omega)) _)) (by simp <;> omega) hb0
    have hz0 := hB0.size
    clear hb0
    go_wp2_with fail
    refine (l21Id_any _ _ _).mono ?_
    rintro e' w' ⟨rfl, rfl⟩
    rw [hp]
    go_wp2_with fail
    go_ret
    exact ⟨_, rfl, ⟨rfl, Or.inr ⟨w'.heap.size, 0, #[], rfl, by omega, heap_alloc_new w' _, Nat.le_refl _, by unfold maxLen; omega, rfl, rfl⟩⟩, hB0.alloc (by omega) _⟩
  · obtain ⟨W, H, rfl, h1, h2, h3, h4, el, hH, hHI⟩ := okG_nat wd cs hk
    have hn : cs.length ≤ 25 := by rw [el]; exact Nat.le_trans (Nat.mul_le_mul h2 h4) (by omega)
    obtain ⟨M, hM⟩ : ∃ M, manyG (W : Int) cs = M := ⟨_, rfl⟩
    have hM2 : 4 ≤ M ∧ M ≤ 20 := by rw [← hM, manyG_ok hk hHI]; omega
    have hMa := hM2.1
    have hMb := hM2.2
    have CM : Hid (∀ (w : World), Calls Try.prog 35 #[.agg #[.int .i64 (W : Int), .slice a cs.length cap]] w fun e w' => e = .returned (.int .i64 M) ∧ Below w.heap.size w w') := by
      intro w
      have := l3Many_any W H a cs.length cap w ⟨h1, h2⟩ h4 (by omega) hH
      rw [← manyG_ok hk hHI, hM] at this
      exact this
    obtain ⟨T, hT⟩ : ∃ T, ownN (W : Int) cs id m = T := ⟨_, rfl⟩
    have HT2 : Hid ([] ++ ownF 20 (id - 1) m M = T) := by show _ = _; rw [← hT, ← hM]; unfold ownN; rw [if_pos hp]; rfl
    have hr : m ≤ 3 ∧ 1 ≤ id ∧ id ≤ m := by simpa [isP, and_assoc] using hp
    obtain ⟨hr1, hr2, hr3⟩ := hr
    have HP : Hid (isP id m = true) := hp
    have HK : Hid (okG (W : Int) cs = true) := hk
    rw [hT]
    clear el hH hHI hM hM2 hT hp hk
    go_enter Try.func8, Try.ntmps8
    go_wp2_with fail
    refine (specGridOk_any _ _ _ cs _ (h.below (by repeat (first | exact Below.refl _ _ | refine Below.alloc ?_ (by first | exact Nat.le_refl _ | (simp; done) | (simp; omega)) _ | refine Below.drew ?_ | refine Below.setCell ?_ (by first | exact Nat.le_refl _ | (simp; done) | (simp; omega)) _))) (by omega)).mono ?_
    rintro e' x0 ⟨rfl, hb0⟩
    rw [HK.out]
    have g0 : x0.cell? ⟨w.heap.size, 0, none⟩ = some (.int .i64 (W : Int)) := keepc hb0 (by simp [go_sem])
    have g1 : x0.cell? ⟨w.heap.size, 1, none⟩ = some (.slice a cs.length cap) := keepc hb0 (by simp [go_sem])
    have hB0 : Below w.heap.size w x0 := bcall (by repeat (first | exact Below.refl _ _ | refine Below.alloc ?_ (by first | exact Nat.le_refl _ | (simp; done) | (simp; omega)) _ | refine Below.drew ?_ | refine Below.setCell ?_ (by first | exact Nat.le_refl _ | (simp; done) | (simp; omega)) _)) (by simp <;> omega) hb0
    have hz0 := hB0.size
    clear hb0
    go_wp2_with fail
    refine (l21Id_any _ _ _).mono ?_
    rintro e' w' ⟨rfl, rfl⟩
    rw [HP.out]
    go_wp2_with fail
    refine (l21Own_any (W : Int) M a cap cs _ id m hr1 hr2 hr3 (by omega) (by omega) T HT2.out CM).mono ?_
    rintro e' x1 ⟨v, rfl, hO, hb1⟩
    have hB1 := bcall hB0 hz0 hb1
    have hO2 : OwnI x1 w.heap.size v T := ownsRow_mono hO (by omega)
    clear hb1 hB0
    go_wp2_with fail
    go_ret
    exact ⟨_, rfl, hO2, hB1⟩

end Go.Proofs.Ytjlnfcnmlloblaa
