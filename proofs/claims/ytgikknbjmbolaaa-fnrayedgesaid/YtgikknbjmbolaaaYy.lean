/-
  Plain facts on the next place: from it one comes back, round about one comes back.
-/
import Derived.Test.YtgikknbjmbolaaaYe
import Derived.Laws.StructEq
namespace Go.Proofs.Ytgikknbjmbolaaa
open Go.RowKit
set_option linter.unusedVariables false

theorem rayU : Try.prog.underlying 33 = some (.struct (Try.prog.fieldsOf 33)) := by kernel_rfl
theorem rayH : Try.prog.stoodInHeld 33 = false := by kernel_rfl
theorem eqlRay (x d : Int) (w : World) : Sem.run Try.prog (binOp .eql 33 (.agg #[.int .i64 x, .int .i64 d]) (.agg #[.int .i64 x, .int .i64 d])) w = .ok (.bool true) w := by
  rw [run_eql_struct, run_equalIn_agg _ _ _ _ _ rayU rayH]
  simp [Op.eqFields, go_sem]
theorem neqRay (x d : Int) (w : World) : Sem.run Try.prog (binOp .neq 33 (.agg #[.int .i64 x, .int .i64 d]) (.agg #[.int .i64 x, .int .i64 d])) w = .ok (.bool false) w := by
  rw [run_neq_struct, run_equalIn_agg _ _ _ _ _ rayU rayH]
  simp [Op.eqFields, go_sem]
theorem ray_spec {wd : Int} {cs : List (Int × Int)} {x d x2 d2 : Int} {b2 : Bool} (ev : rayN wd cs x d = (x2, d2, b2)) (a : Option Addr) (cap : Nat) (w : World) (h : CellsAt w a cs) (hm : cs.length ≤ 1048576) :
    Calls Try.prog 14 #[.agg #[.int .i64 wd, .slice a cs.length cap], .int .i64 x, .int .i64 d] w fun e w' => e = .returned (.tuple #[.agg #[.int .i64 x2, .int .i64 d2], .bool b2]) ∧ Below w.heap.size w w' := by
  have := specRayNext_any wd a cap cs w h hm x d
  rw [ev] at this
  exact this
theorem ray_impl {wd : Int} {cs : List (Int × Int)} {x d x2 d2 : Int} {b2 : Bool} (ev : rayN wd cs x d = (x2, d2, b2)) (a : Option Addr) (cap : Nat) (w : World) (h : CellsAt w a cs) (hm : cs.length ≤ 1048576) :
    Calls Try.prog 15 #[.agg #[.int .i64 wd, .slice a cs.length cap], .int .i64 x, .int .i64 d] w fun e w' => e = .returned (.tuple #[.agg #[.int .i64 x2, .int .i64 d2], .bool b2]) ∧ Below w.heap.size w w' := by
  have := implRayNext_any wd a cap cs w h hm x d
  rw [ev] at this
  exact this

theorem place_div (W r c : Int) (hc : 0 ≤ c ∧ c < W) : (r * W + c) / W = r ∧ (r * W + c) % W = c :=
  (Int.ediv_emod_unique (show (0 : Int) < W by omega)).2 ⟨by rw [Int.mul_comm W r]; omega, hc.1, hc.2⟩
theorem place_in (W H r c : Int) (hr : 0 ≤ r ∧ r < H) (hc : 0 ≤ c ∧ c < W) : 0 ≤ r * W + c ∧ r * W + c < W * H := by
  have h1 : 0 ≤ r * W := Int.mul_nonneg hr.1 (by omega)
  have h2 : (r + 1) * W ≤ H * W := Int.mul_le_mul_of_nonneg_right (by omega) (by omega)
  rw [Int.add_mul, Int.one_mul, Int.mul_comm H W] at h2
  omega

/-- A grid's shape. -/
structure Shape (wd : Int) (cs : List (Int × Int)) (W H : Int) : Prop where
  ok : okG wd cs = true
  ew : wd = W
  hW : 1 ≤ W ∧ W ≤ 5
  hH : 1 ≤ H ∧ H ≤ 5
  el : (cs.length : Int) = W * H
  ed : (cs.length : Int) / wd = H
theorem shape_of {wd : Int} {cs : List (Int × Int)} (h : okG wd cs = true) : ∃ W H, Shape wd cs W H := by
  obtain ⟨W, H, ew, h1, h2, h3, h4, el, hH, hHI, hn⟩ := shapeG h
  exact ⟨W, H, h, ew, by omega, by omega, by exact_mod_cast el, by rw [ew]; exact hHI⟩
theorem split_of {wd W H x : Int} {cs : List (Int × Int)} (S : Shape wd cs W H) (hx : 0 ≤ x ∧ x < cs.length) : ∃ r c, x = r * W + c ∧ (0 ≤ r ∧ r < H) ∧ (0 ≤ c ∧ c < W) := by
  have hW := S.hW
  have e := Int.mul_ediv_add_emod x W
  refine ⟨x / W, x % W, by rw [Int.mul_comm]; omega, ⟨Int.ediv_nonneg hx.1 (by omega), Int.ediv_lt_of_lt_mul (by omega) ?_⟩, Int.emod_nonneg x (by omega), Int.emod_lt_of_pos x (by omega)⟩
  rw [Int.mul_comm, ← S.el]
  exact hx.2

theorem rayN_at {wd W H : Int} {cs : List (Int × Int)} (S : Shape wd cs W H) (r c d : Int) (hr : 0 ≤ r ∧ r < H) (hc : 0 ≤ c ∧ c < W) (hd : 0 ≤ d ∧ d ≤ 3) :
    rayN wd cs (r * W + c) d = if inG (r + dRow d) (c + dCol d) W H = true then ((r + dRow d) * W + (c + dCol d), d, true) else (0, 0, false) := by
  obtain ⟨q1, q2⟩ := place_div W r c hc
  have q3 := place_in W H r c hr hc
  unfold rayN
  rw [S.ed, S.ew, q1, q2]
  rw [S.el]
  have ok := S.ok
  rw [S.ew] at ok
  by_cases k : inG (r + dRow d) (c + dCol d) W H = true
  · rw [if_pos ⟨ok, q3, hd, k⟩, if_pos k]
  · rw [if_neg (fun q => k q.2.2.2), if_neg k]
theorem rayN_true {wd : Int} {cs : List (Int × Int)} {x d x2 d2 : Int} (h : rayN wd cs x d = (x2, d2, true)) : okG wd cs = true ∧ (0 ≤ x ∧ x < (cs.length : Int)) ∧ (0 ≤ d ∧ d ≤ 3) ∧ d2 = d := by
  unfold rayN at h
  split at h
  · next k => simp only [Prod.mk.injEq] at h; exact ⟨k.1, k.2.1, k.2.2.1, h.2.1.symm⟩
  · simp at h
theorem rayN_false {wd : Int} {cs : List (Int × Int)} {x d x2 d2 : Int} (h : rayN wd cs x d = (x2, d2, false)) : x2 = 0 ∧ d2 = 0 := by
  unfold rayN at h
  split at h
  · simp at h
  · simp only [Prod.mk.injEq] at h; omega

/-- By how much a place changes. -/
def stepD (d W : Int) : Int := if d = 0 then -W else if d = 1 then 1 else if d = 2 then W else -1

theorem ray_back {wd : Int} {cs : List (Int × Int)} {x d x2 d2 : Int} (h : rayN wd cs x d = (x2, d2, true)) :
    d2 = d ∧ (0 ≤ d ∧ d ≤ 3) ∧ (0 ≤ x ∧ x ≤ 24) ∧ (0 ≤ x2 ∧ x2 ≤ 24) ∧ (1 ≤ wd ∧ wd ≤ 5) ∧ rayN wd cs x2 ((d + 2) % 4) = (x, (d + 2) % 4, true) ∧ x + stepD d wd = x2 := by
  obtain ⟨hok, hx, hd, e2⟩ := rayN_true h
  obtain ⟨W, H, S⟩ := shape_of hok
  obtain ⟨r, c, ex, hr, hc⟩ := split_of S hx
  have hW := S.hW
  have hH := S.hH
  have hl : (cs.length : Int) ≤ 25 := by rw [S.el]; exact Int.le_trans (Int.mul_le_mul hW.2 hH.2 (by omega) (by omega)) (by omega)
  subst e2
  rw [ex, rayN_at S r c d2 hr hc hd] at h
  split at h
  · next k =>
    simp only [inG, decide_eq_true_eq] at k
    simp only [Prod.mk.injEq, and_true] at h
    have k1 : 0 ≤ r + dRow d2 ∧ r + dRow d2 < H := ⟨k.1, k.2.1⟩
    have k2 : 0 ≤ c + dCol d2 ∧ c + dCol d2 < W := k.2.2
    have q3 := place_in W H _ _ k1 k2
    rw [h, ← S.el] at q3
    have hd4 : 0 ≤ (d2 + 2) % 4 ∧ (d2 + 2) % 4 ≤ 3 := by omega
    refine ⟨rfl, hd, by omega, by omega, by have := S.ew; omega, ?_, ?_⟩
    · rw [← h, rayN_at S _ _ _ k1 k2 hd4]
      have e1 : r + dRow d2 + dRow ((d2 + 2) % 4) = r := by
        rcases (show d2 = 0 ∨ d2 = 1 ∨ d2 = 2 ∨ d2 = 3 by omega) with rfl | rfl | rfl | rfl <;> simp [dRow] <;> omega
      have e2 : c + dCol d2 + dCol ((d2 + 2) % 4) = c := by
        rcases (show d2 = 0 ∨ d2 = 1 ∨ d2 = 2 ∨ d2 = 3 by omega) with rfl | rfl | rfl | rfl <;> simp [dCol] <;> omega
      rw [e1, e2, if_pos (by simp [inG]; omega), ← ex]
    · rw [← h, ex, S.ew]
      rcases (show d2 = 0 ∨ d2 = 1 ∨ d2 = 2 ∨ d2 = 3 by omega) with rfl | rfl | rfl | rfl <;> simp [dRow, dCol, stepD, Int.add_mul] <;> omega
  · simp at h

/-- Round about one comes back, or at neither edge. -/
theorem ray_round {wd : Int} {cs : List (Int × Int)} {x d x2 d2 : Int} (h : rayN wd cs x d = (x2, d2, true)) :
    ((∃ y e, rayN wd cs x2 ((d + 1) % 4) = (y, e, false)) ∧ ∃ y e, rayN wd cs x ((d + 1) % 4) = (y, e, false)) ∨
    ∃ y z, rayN wd cs x2 ((d + 1) % 4) = (y, (d + 1) % 4, true) ∧ rayN wd cs y ((d + 2) % 4) = (z, (d + 2) % 4, true) ∧ rayN wd cs z (((d + 1) % 4 + 2) % 4) = (x, ((d + 1) % 4 + 2) % 4, true) := by
  obtain ⟨hok, hx, hd, e2⟩ := rayN_true h
  obtain ⟨W, H, S⟩ := shape_of hok
  obtain ⟨r, c, ex, hr, hc⟩ := split_of S hx
  have hW := S.hW
  have hH := S.hH
  subst e2
  rw [ex, rayN_at S r c d2 hr hc hd] at h
  split at h
  · next k =>
    simp only [inG, decide_eq_true_eq] at k
    simp only [Prod.mk.injEq, and_true] at h
    have k1 : 0 ≤ r + dRow d2 ∧ r + dRow d2 < H := ⟨k.1, k.2.1⟩
    have k2 : 0 ≤ c + dCol d2 ∧ c + dCol d2 < W := k.2.2
    have h1 : 0 ≤ (d2 + 1) % 4 ∧ (d2 + 1) % 4 ≤ 3 := by omega
    have h2 : 0 ≤ (d2 + 2) % 4 ∧ (d2 + 2) % 4 ≤ 3 := by omega
    have h3 : 0 ≤ ((d2 + 1) % 4 + 2) % 4 ∧ ((d2 + 1) % 4 + 2) % 4 ≤ 3 := by omega
    rw [← h, ex, rayN_at S _ _ _ k1 k2 h1, rayN_at S _ _ _ hr hc h1]
    by_cases q : inG (r + dRow d2 + dRow ((d2 + 1) % 4)) (c + dCol d2 + dCol ((d2 + 1) % 4)) W H = true
    · rw [if_pos q]
      simp only [inG, decide_eq_true_eq] at q
      have q1 : 0 ≤ r + dRow d2 + dRow ((d2 + 1) % 4) ∧ r + dRow d2 + dRow ((d2 + 1) % 4) < H := ⟨q.1, q.2.1⟩
      have q2 : 0 ≤ c + dCol d2 + dCol ((d2 + 1) % 4) ∧ c + dCol d2 + dCol ((d2 + 1) % 4) < W := q.2.2
      have e1 : r + dRow d2 + dRow ((d2 + 1) % 4) + dRow ((d2 + 2) % 4) = r + dRow ((d2 + 1) % 4) := by
        rcases (show d2 = 0 ∨ d2 = 1 ∨ d2 = 2 ∨ d2 = 3 by omega) with rfl | rfl | rfl | rfl <;> simp [dRow] <;> omega
      have e2 : c + dCol d2 + dCol ((d2 + 1) % 4) + dCol ((d2 + 2) % 4) = c + dCol ((d2 + 1) % 4) := by
        rcases (show d2 = 0 ∨ d2 = 1 ∨ d2 = 2 ∨ d2 = 3 by omega) with rfl | rfl | rfl | rfl <;> simp [dCol] <;> omega
      have p1 : 0 ≤ r + dRow ((d2 + 1) % 4) ∧ r + dRow ((d2 + 1) % 4) < H := by
        rcases (show d2 = 0 ∨ d2 = 1 ∨ d2 = 2 ∨ d2 = 3 by omega) with rfl | rfl | rfl | rfl <;> simp [dRow] at q1 ⊢ <;> omega
      have p2 : 0 ≤ c + dCol ((d2 + 1) % 4) ∧ c + dCol ((d2 + 1) % 4) < W := by
        rcases (show d2 = 0 ∨ d2 = 1 ∨ d2 = 2 ∨ d2 = 3 by omega) with rfl | rfl | rfl | rfl <;> simp [dCol] at q2 ⊢ <;> omega
      have e3 : r + dRow ((d2 + 1) % 4) + dRow (((d2 + 1) % 4 + 2) % 4) = r := by
        rcases (show d2 = 0 ∨ d2 = 1 ∨ d2 = 2 ∨ d2 = 3 by omega) with rfl | rfl | rfl | rfl <;> simp [dRow] <;> omega
      have e4 : c + dCol ((d2 + 1) % 4) + dCol (((d2 + 1) % 4 + 2) % 4) = c := by
        rcases (show d2 = 0 ∨ d2 = 1 ∨ d2 = 2 ∨ d2 = 3 by omega) with rfl | rfl | rfl | rfl <;> simp [dCol] <;> omega
      refine Or.inr ⟨_, (r + dRow ((d2 + 1) % 4)) * W + (c + dCol ((d2 + 1) % 4)), rfl, ?_, ?_⟩
      · rw [rayN_at S _ _ _ q1 q2 h2, e1, e2, if_pos (by simp only [inG, decide_eq_true_eq]; exact ⟨p1.1, p1.2, p2.1, p2.2⟩)]
      · rw [rayN_at S _ _ _ p1 p2 h3, e3, e4, if_pos (by simp only [inG, decide_eq_true_eq]; exact ⟨hr.1, hr.2, hc.1, hc.2⟩)]
    · refine Or.inl ⟨⟨0, 0, by rw [if_neg q]⟩, 0, 0, ?_⟩
      rw [if_neg]
      intro k3
      apply q
      simp only [inG, decide_eq_true_eq] at k3 ⊢
      rcases (show d2 = 0 ∨ d2 = 1 ∨ d2 = 2 ∨ d2 = 3 by omega) with rfl | rfl | rfl | rfl <;> simp [dRow, dCol] at k1 k2 k3 ⊢ <;> omega
  · simp at h
end Go.Proofs.Ytgikknbjmbolaaa
