/- Of the proof: PJh -/
import Derived.LoopN
import Derived.Test.YtdhopelplokehaaGreatLAp
import Derived.Test.YtdhopelplokehaaGreatLAq
set_option maxHeartbeats 2000000
set_option linter.unusedVariables false
namespace Go.Proofs.YtdhopelplokehaaGreat
namespace Sp
open Go.RowKit
theorem idxSide0 (W H n : Int) (w : World) : Sem.run SqP.prog (Instr.index 95 (.agg (sidesA W H n)) (.int .i64 0)) w = .ok (.agg #[.int .i64 (0), .int .i64 (W), .int .i64 (0), .int .i64 (1), .int .i64 (2), .int .i64 (0)]) w := by kernel_rfl
theorem idxSide1 (W H n : Int) (w : World) : Sem.run SqP.prog (Instr.index 95 (.agg (sidesA W H n)) (.int .i64 1)) w = .ok (.agg #[.int .i64 (W), .int .i64 (H), .int .i64 (W - 1), .int .i64 (W), .int .i64 (3), .int .i64 (1)]) w := by kernel_rfl
theorem idxSide2 (W H n : Int) (w : World) : Sem.run SqP.prog (Instr.index 95 (.agg (sidesA W H n)) (.int .i64 2)) w = .ok (.agg #[.int .i64 (W + H), .int .i64 (W), .int .i64 (n - 1), .int .i64 (-1), .int .i64 (0), .int .i64 (2)]) w := by kernel_rfl
theorem idxSide3 (W H n : Int) (w : World) : Sem.run SqP.prog (Instr.index 95 (.agg (sidesA W H n)) (.int .i64 3)) w = .ok (.agg #[.int .i64 (W + H + W), .int .i64 (H), .int .i64 (n - 1 - W + 1), .int .i64 (-W), .int .i64 (1), .int .i64 (3)]) w := by kernel_rfl
theorem goMany_ok (W H : Nat) (a : Option Addr) (cap : Nat) (cs : List (Int × Int)) (w : World) (h : CellsAt w a cs) (hok : okG (W : Int) cs = true) (hW : 1 <= W /\ W <= 5) (hH5 : 1 <= H /\ H <= 5) (hn : cs.length <= 25) (hH : cs.length / W = H) :
  Calls SqP.prog 42 #[.agg #[.int .i64 (W : Int), .slice a cs.length cap], .int .i64 0, .func (.func 43) #[] #[]] w fun e w' => e = .returned (.int .i64 ((W : Int) + (H : Int) + (W : Int) + (H : Int))) /\ Below w.heap.size w w' := by
 have HH : Hid (cs.length / W = H) := hH
 have hWa := hW.1
 have hWb := hW.2
 have hHa := hH5.1
 have hHb := hH5.2
 clear hH
 go_enter SqP.func42, Tryz.ntmps42
 go_wp2_with fail
 refine (implGridOk_any _ _ _ cs _ (h.below bel) (by omega)).mono ?_
 rintro e x0 ⟨rfl, hb0⟩
 have g0 : x0.cell? ⟨w.heap.size, 0, none⟩ = some (.int .i64 (W : Int)) := keepc hb0 (by simp [go_sem])
 have g1 : x0.cell? ⟨w.heap.size, 1, none⟩ = some (.slice a cs.length cap) := keepc hb0 (by simp [go_sem])
 have hz0 := hb0.size
 simp at hz0
 have hB0 : Below w.heap.size w x0 := bcall bel (by simp) hb0
 clear hb0
 go_wp2_with fail
 refine (sidesOf_any W H a cs.length cap _ hW hH5 hn HH.out).mono ?_
 rintro e x1 ⟨rfl, hb1⟩
 have hz1 := hb1.size
 have hB1 : Below w.heap.size w x1 := bcall hB0 (by omega) hb1
 clear hb1 g0 g1 HH hok h hW hH5
 have i0 := idxSide0 (W : Int) (H : Int) (cs.length : Int)
 have i1 := idxSide1 (W : Int) (H : Int) (cs.length : Int)
 have i2 := idxSide2 (W : Int) (H : Int) (cs.length : Int)
 have i3 := idxSide3 (W : Int) (H : Int) (cs.length : Int)
 go_wp2_with fail
 refine wp_loop_rounds 5 ?_
 rw [rounds_succ]
 go_wp2_with fail
 refine (tellMany_any _ _ _ _ _ _ _ (by omega) (by omega) _).mono ?_
 rintro e x2 ⟨rfl, hc2⟩
 have hz2 := hc2.size
 simp at hz2
 have hB2 : Below w.heap.size w x2 := bcall (hB1.alloc (by omega) _) (by simp; omega) hc2
 clear hc2
 go_wp2_with fail
 rw [rounds_succ]
 go_wp2_with fail
 refine (tellMany_any _ _ _ _ _ _ _ (by omega) (by omega) _).mono ?_
 rintro e x3 ⟨rfl, hc3⟩
 have hz3 := hc3.size
 simp at hz3
 have hB3 : Below w.heap.size w x3 := bcall (hB2.alloc (by omega) _) (by simp; omega) hc3
 clear hc3
 go_wp2_with fail
 rw [rounds_succ]
 go_wp2_with fail
 refine (tellMany_any _ _ _ _ _ _ _ (by omega) (by omega) _).mono ?_
 rintro e x4 ⟨rfl, hc4⟩
 have hz4 := hc4.size
 simp at hz4
 have hB4 : Below w.heap.size w x4 := bcall (hB3.alloc (by omega) _) (by simp; omega) hc4
 clear hc4
 go_wp2_with fail
 rw [rounds_succ]
 go_wp2_with fail
 refine (tellMany_any _ _ _ _ _ _ _ (by omega) (by omega) _).mono ?_
 rintro e x5 ⟨rfl, hc5⟩
 have hz5 := hc5.size
 simp at hz5
 have hB5 : Below w.heap.size w x5 := bcall (hB4.alloc (by omega) _) (by simp; omega) hc5
 clear hc5
 go_wp2_with fail
 rw [rounds_succ]
 go_wp2_with fail
 go_ret
 exact ⟨rfl, hB5⟩
end Sp
namespace Sp
open Go.RowKit
def of0 (W : Nat) (x d : Int) : Int := if 0 = d then sa 0 0 1 x W else -1
def of1 (W H : Nat) (x d : Int) : Int := if 1 = d then sa (W : Int) ((W : Int) - 1) (W : Int) x H else of0 W x d
def of2 (W H n : Nat) (x d : Int) : Int := if 2 = d then sa ((W : Int) + (H : Int)) ((n : Int) - 1) (-1) x W else of1 W H x d
def of3 (W H n : Nat) (x d : Int) : Int := if 3 = d then sa ((W : Int) + (H : Int) + (W : Int)) ((n : Int) - 1 - (W : Int) + 1) (-(W : Int)) x H else of2 W H n x d
theorem goInt_bad (wd : Int) (a : Option Addr) (cap : Nat) (cs : List (Int × Int)) (w : World) (h : CellsAt w a cs) (hbad : okG wd cs = false) (hm : cs.length <= 1048576) (q : Int) (t : Value) :
  Calls SqP.prog 42 #[.agg #[.int .i64 wd, .slice a cs.length cap], .int .i64 q, t] w fun e w' => e = .returned (.int .i64 q) /\ Below w.heap.size w w' := by
 go_enter SqP.func42, Tryz.ntmps42
 go_wp2_with fail
 refine (implGridOk_any _ _ _ cs _ (h.below bel) (by omega)).mono ?_
 rintro e x0 ⟨rfl, hb0⟩
 have hB0 : Below w.heap.size w x0 := bcall bel (by simp) hb0
 clear hb0
 go_wp2_with fail
 go_ret
 exact ⟨rfl, hB0⟩
end Sp
namespace Sp
open Go.RowKit
def in0 (W : Nat) (k : Int) : Int × Int × Bool := if 0 <= k /\ k < 0 + (W : Int) then (0 + (k - 0) * 1, 2, true) else (0, 0, false)
def in1 (W H : Nat) (k : Int) : Int × Int × Bool := if (W : Int) <= k /\ k < (W : Int) + (H : Int) then ((W : Int) - 1 + (k - (W : Int)) * (W : Int), 3, true) else in0 W k
def in2 (W H n : Nat) (k : Int) : Int × Int × Bool := if (W : Int) + (H : Int) <= k /\ k < (W : Int) + (H : Int) + (W : Int) then ((n : Int) - 1 + (k - ((W : Int) + (H : Int))) * (-1), 0, true) else in1 W H k
def in3 (W H n : Nat) (k : Int) : Int × Int × Bool := if (W : Int) + (H : Int) + (W : Int) <= k /\ k < (W : Int) + (H : Int) + (W : Int) + (H : Int) then ((n : Int) - 1 - (W : Int) + 1 + (k - ((W : Int) + (H : Int) + (W : Int))) * (-(W : Int)), 1, true) else in2 W H n k
end Sp
namespace Sp
open Go.RowKit
def manyG (wd : Int) (cs : List (Int × Int)) : Int := if okG wd cs = true then 2 * (wd + (cs.length : Int) / wd) else 0
def inRay (wd : Int) (cs : List (Int × Int)) (k : Int) : Int × Int × Bool :=
 if okG wd cs = true /\ 0 <= k /\ k < manyG wd cs then ((sRay wd ((cs.length : Int) / wd) k).1, (sRay wd ((cs.length : Int) / wd) k).2, true) else (0, 0, false)
def outOf (wd : Int) (cs : List (Int × Int)) (x d : Int) : Int :=
 if okG wd cs = true /\ (0 <= x /\ x < (cs.length : Int)) /\ (0 <= d /\ d <= 3) then ofN wd ((cs.length : Int) / wd) x d (manyG wd cs).toNat else -1
def turnK (wd : Int) (cs : List (Int × Int)) (k : Int) : Int := if okG wd cs = true /\ 0 <= k /\ k < manyG wd cs then (k + (cs.length : Int) / wd) % manyG wd cs else -1
def flipK (wd : Int) (cs : List (Int × Int)) (k : Int) : Int := if okG wd cs = true /\ 0 <= k /\ k < manyG wd cs then (wd - 1 - k + manyG wd cs) % manyG wd cs else -1
theorem manyG_ok {W H : Nat} {cs : List (Int × Int)} (hok : okG (W : Int) cs = true) (hH : (cs.length : Int) / (W : Int) = (H : Int)) : manyG (W : Int) cs = 2 * ((W : Int) + (H : Int)) := by
 unfold manyG; rw [if_pos hok, hH]
theorem manyG_bad {wd : Int} {cs : List (Int × Int)} (hok : okG wd cs = false) : manyG wd cs = 0 := by
 unfold manyG; rw [if_neg (by simp [hok])]
theorem inRay_bad {wd : Int} {cs : List (Int × Int)} (hok : okG wd cs = false) (k : Int) : inRay wd cs k = (0, 0, false) := by
 unfold inRay; rw [if_neg (by simp [hok])]
theorem outOf_bad {wd : Int} {cs : List (Int × Int)} (hok : okG wd cs = false) (x d : Int) : outOf wd cs x d = -1 := by
 unfold outOf; rw [if_neg (by simp [hok])]
def zI (n : Nat) : Int := n
set_option maxRecDepth 100000 in
theorem in_fin : ∀ W : Fin 5, ∀ H : Fin 5, ∀ k : Fin 20, k.val < 2 * (W.val + 1 + (H.val + 1)) ->
  in3 (W.val + 1) (H.val + 1) ((W.val + 1) * (H.val + 1)) (zI k.val) = ((sRay (zI (W.val + 1)) (zI (H.val + 1)) (zI k.val)).1, (sRay (zI (W.val + 1)) (zI (H.val + 1)) (zI k.val)).2, true) := by decide +kernel
set_option maxRecDepth 100000 in
theorem of_fin : ∀ W : Fin 5, ∀ H : Fin 5, ∀ x : Fin 25, ∀ d : Fin 4, x.val < (W.val + 1) * (H.val + 1) ->
  of3 (W.val + 1) (H.val + 1) ((W.val + 1) * (H.val + 1)) (zI x.val) (zI d.val) = ofN (zI (W.val + 1)) (zI (H.val + 1)) (zI x.val) (zI d.val) (2 * (W.val + 1 + (H.val + 1))) := by decide +kernel
theorem side_fin : ∀ W : Fin 5, ∀ H : Fin 5, ∀ j : Fin 5,
  (j.val < W.val + 1 -> 0 <= 0 + zI j.val * 1 /\ 0 + zI j.val * 1 < zI ((W.val + 1) * (H.val + 1))) /\
  (j.val < H.val + 1 -> 0 <= zI (W.val + 1) - 1 + zI j.val * zI (W.val + 1) /\ zI (W.val + 1) - 1 + zI j.val * zI (W.val + 1) < zI ((W.val + 1) * (H.val + 1))) /\
  (j.val < W.val + 1 -> 0 <= zI ((W.val + 1) * (H.val + 1)) - 1 + zI j.val * (-1) /\ zI ((W.val + 1) * (H.val + 1)) - 1 + zI j.val * (-1) < zI ((W.val + 1) * (H.val + 1))) /\
  (j.val < H.val + 1 -> 0 <= zI ((W.val + 1) * (H.val + 1)) - 1 - zI (W.val + 1) + 1 + zI j.val * (-zI (W.val + 1)) /\ zI ((W.val + 1) * (H.val + 1)) - 1 - zI (W.val + 1) + 1 + zI j.val * (-zI (W.val + 1)) < zI ((W.val + 1) * (H.val + 1))) := by decide +kernel
theorem sa_none (f s o x : Int) (m : Nat) (h : ∀ j : Nat, j < m -> s + (j : Int) * o ≠ x) : sa f s o x m = -1 := by
 induction m with
 | zero => rfl
 | succ m ih => exact sa_miss f s o x m (ih fun j hj => h j (by omega)) (h m (by omega))
theorem in3_is (W H : Nat) (hW : 1 <= W /\ W <= 5) (hH : 1 <= H /\ H <= 5) (k : Int) :
  in3 W H (W * H) k = if 0 <= k /\ k < 2 * ((W : Int) + (H : Int)) then ((sRay W H k).1, (sRay W H k).2, true) else (0, 0, false) := by
 by_cases hk : 0 <= k /\ k < 2 * ((W : Int) + (H : Int))
 ·rw [if_pos hk]
  obtain ⟨K, rfl⟩ := Int.eq_ofNat_of_zero_le hk.1
  have := in_fin ⟨W - 1, by omega⟩ ⟨H - 1, by omega⟩ ⟨K, by omega⟩
  simp only [show W - 1 + 1 = W by omega, show H - 1 + 1 = H by omega, zI] at this
  exact this (by omega)
 ·rw [if_neg hk]
  unfold in3 in2 in1 in0
  rw [if_neg (by omega), if_neg (by omega), if_neg (by omega), if_neg (by omega)]
theorem of3_is (W H : Nat) (hW : 1 <= W /\ W <= 5) (hH : 1 <= H /\ H <= 5) (x d : Int) :
  of3 W H (W * H) x d = if (0 <= x /\ x < ((W * H : Nat) : Int)) /\ (0 <= d /\ d <= 3) then ofN W H x d (2 * (W + H)) else -1 := by
 have hm : W * H <= 25 := Nat.le_trans (Nat.mul_le_mul hW.2 hH.2) (by omega)
 by_cases hd : 0 <= d /\ d <= 3
 ·by_cases hx : 0 <= x /\ x < ((W * H : Nat) : Int)
  ·rw [if_pos ⟨hx, hd⟩]
   obtain ⟨X, rfl⟩ := Int.eq_ofNat_of_zero_le hx.1
   obtain ⟨D, rfl⟩ := Int.eq_ofNat_of_zero_le hd.1
   have := of_fin ⟨W - 1, by omega⟩ ⟨H - 1, by omega⟩ ⟨X, by omega⟩ ⟨D, by omega⟩
   simp only [show W - 1 + 1 = W by omega, show H - 1 + 1 = H by omega, zI] at this
   exact this (by omega)
  ·rw [if_neg (fun q => hx q.1)]
   have hf := fun (j : Nat) (hj : j < 5) => side_fin ⟨W - 1, by omega⟩ ⟨H - 1, by omega⟩ ⟨j, hj⟩
   simp only [show W - 1 + 1 = W by omega, show H - 1 + 1 = H by omega, zI] at hf
   have n0 : sa 0 0 1 x W = -1 := sa_none _ _ _ _ _ fun j hj e => hx (by have := (hf j (by omega)).1 hj; omega)
   have n1 : sa (W : Int) ((W : Int) - 1) (W : Int) x H = -1 := sa_none _ _ _ _ _ fun j hj e => hx (by have := (hf j (by omega)).2.1 hj; rw [e] at this; exact this)
   have n2 : sa ((W : Int) + (H : Int)) (((W * H : Nat) : Int) - 1) (-1) x W = -1 := sa_none _ _ _ _ _ fun j hj e => hx (by have := (hf j (by omega)).2.2.1 hj; rw [e] at this; exact this)
   have n3 : sa ((W : Int) + (H : Int) + (W : Int)) (((W * H : Nat) : Int) - 1 - (W : Int) + 1) (-(W : Int)) x H = -1 := sa_none _ _ _ _ _ fun j hj e => hx (by have := (hf j (by omega)).2.2.2 hj; rw [e] at this; exact this)
   unfold of3 of2 of1 of0
   rw [n0, n1, n2, n3]
   repeat' split
   all_goals rfl
 ·rw [if_neg (fun q => hd q.2)]
  unfold of3 of2 of1 of0
  rw [if_neg (by omega), if_neg (by omega), if_neg (by omega), if_neg (by omega)]
theorem inRay_in3 {W H : Nat} {cs : List (Int × Int)} (hok : okG (W : Int) cs = true) (hW : 1 <= W /\ W <= 5) (hH5 : 1 <= H /\ H <= 5) (hl : cs.length = W * H) (hH : (cs.length : Int) / (W : Int) = (H : Int)) (k : Int) : in3 W H cs.length k = inRay (W : Int) cs k := by
 rw [hl, in3_is W H hW hH5 k]
 unfold inRay
 rw [manyG_ok hok hH, hH]
 by_cases hk : 0 <= k /\ k < 2 * ((W : Int) + (H : Int))
 ·rw [if_pos hk, if_pos ⟨hok, hk⟩]
 ·rw [if_neg hk, if_neg (fun q => hk q.2)]
theorem outOf_of3 {W H : Nat} {cs : List (Int × Int)} (hok : okG (W : Int) cs = true) (hW : 1 <= W /\ W <= 5) (hH5 : 1 <= H /\ H <= 5) (hl : cs.length = W * H) (hH : (cs.length : Int) / (W : Int) = (H : Int)) (x d : Int) : of3 W H cs.length x d = outOf (W : Int) cs x d := by
 unfold outOf
 rw [manyG_ok hok hH, hH, hl, of3_is W H hW hH5 x d]
 rw [show (2 * ((W : Int) + (H : Int))).toNat = 2 * (W + H) by omega]
 by_cases hx : (0 <= x /\ x < ((W * H : Nat) : Int)) /\ (0 <= d /\ d <= 3)
 ·rw [if_pos hx, if_pos ⟨hok, hx⟩]
 ·rw [if_neg hx, if_neg (fun q => hx q.2)]
end Sp
namespace Sp
open Go.RowKit
theorem implMany_any (wd : Int) (a : Option Addr) (cap : Nat) (cs : List (Int × Int)) (w : World) (h : CellsAt w a cs) (hm : cs.length <= 1048576) :
  Calls SqP.prog 16 #[.agg #[.int .i64 wd, .slice a cs.length cap]] w fun e w' => e = .returned (.int .i64 (manyG wd cs)) /\ Below w.heap.size w w' := by
 rcases hk : okG wd cs with _ | _
 ·rw [manyG_bad hk]
  go_enter SqP.func16, Tryz.ntmps16
  go_wp2_with fail
  refine (goInt_bad _ _ _ cs _ (h.below bel) hk hm _ _).mono ?_
  rintro e x0 ⟨rfl, hb0⟩
  go_wp2_with fail
  go_ret
  exact ⟨rfl, bcall bel (by simp) hb0⟩
 ·obtain ⟨W, H, rfl, h1, h2, h3, h4, el, hH, hHI⟩ := okG_nat wd cs hk
  have hn : cs.length <= 25 := by rw [el]; exact Nat.le_trans (Nat.mul_le_mul h2 h4) (by omega)
  have EL : Hid (cs.length = W * H) := el
  have HH : Hid (cs.length / W = H) := hH
  have HI : Hid ((cs.length : Int) / (W : Int) = (H : Int)) := hHI
  clear el hH hHI
  obtain ⟨M, hM⟩ : ∃ M, manyG (W : Int) cs = M := ⟨_, rfl⟩
  rw [hM]
  have EM : Hid ((W : Int) + (H : Int) + (W : Int) + (H : Int) = M) := by show _ = _; rw [<- hM, manyG_ok hk HI.out]; omega
  clear hM
  go_enter SqP.func16, Tryz.ntmps16
  go_wp2_with fail
  refine (goMany_ok W H _ _ cs _ (h.below bel) hk ⟨h1, h2⟩ ⟨h3, h4⟩ hn HH.out).mono ?_
  rintro e x0 ⟨rfl, hb0⟩
  rw [EM.out]
  go_wp2_with fail
  go_ret
  exact ⟨rfl, bcall bel (by simp) hb0⟩
end Sp
namespace Sp
open Go.RowKit
def inS (wd : Int) (cs : List (Int × Int)) (k : Int) : Bool := decide (0 <= k /\ k < manyG wd cs)
theorem inS_ok {wd : Int} {cs : List (Int × Int)} {k : Int} (h : inS wd cs k = true) : okG wd cs = true := by
 rcases hk : okG wd cs with _ | _
 ·simp only [inS, manyG_bad hk, decide_eq_true_eq] at h; omega
 ·rfl
theorem sightOk_any (wd : Int) (a : Option Addr) (cap : Nat) (cs : List (Int × Int)) (w : World) (h : CellsAt w a cs) (hm : cs.length <= 1048576) (k : Int) :
  Calls SqP.prog 47 #[.agg #[.int .i64 wd, .slice a cs.length cap], .int .i64 k] w fun e w' => e = .returned (.bool (inS wd cs k)) /\ Below w.heap.size w w' := by
 by_cases h1 : 0 <= k
 ·obtain ⟨M, hM⟩ : ∃ M, manyG wd cs = M := ⟨_, rfl⟩
  have EM : Hid (manyG wd cs = M) := hM
  have hv : inS wd cs k = decide (k < M) := by simp [inS, hM, h1]
  rw [hv]
  clear hM hv
  go_enter SqP.func47, Tryz.ntmps47
  go_wp2_with fail
  refine (implMany_any _ _ _ cs _ (h.below bel) hm).mono ?_
  rintro e x0 ⟨rfl, hb0⟩
  rw [EM.out]
  go_wp2_with fail
  go_ret
  exact ⟨rfl, bcall bel (by simp <;> omega) hb0⟩
 ·have hv : inS wd cs k = false := by simp [inS, h1]
  rw [hv]
  clear hv
  go_enter SqP.func47, Tryz.ntmps47
  go_wp2_with fail
  go_ret
  exact ⟨rfl, bel⟩
theorem implTurn_any (wd : Int) (a : Option Addr) (cap : Nat) (cs : List (Int × Int)) (w : World) (h : CellsAt w a cs) (hm : cs.length <= 1048576) (k : Int) :
  Calls SqP.prog 19 #[.agg #[.int .i64 wd, .slice a cs.length cap], .int .i64 k] w fun e w' => e = .returned (.int .i64 (turnK wd cs k)) /\ Below w.heap.size w w' := by
 rcases hs : inS wd cs k with _ | _
 ·have hv : turnK wd cs k = -1 := by
   unfold turnK; rw [if_neg]; intro q
   simp only [inS, decide_eq_false_iff_not] at hs; exact hs q.2
  rw [hv]
  clear hv
  go_enter SqP.func19, Tryz.ntmps19
  go_wp2_with fail
  refine (sightOk_any _ _ _ cs _ (h.below bel) hm k).mono ?_
  rintro e x0 ⟨rfl, hb0⟩
  rw [hs]
  go_wp2_with fail
  go_ret
  exact ⟨rfl, bcall bel (by simp <;> omega) hb0⟩
 ·have hk := inS_ok hs
  obtain ⟨W, H, rfl, h1, h2, h3, h4, el, hH, hHI⟩ := okG_nat wd cs hk
  have hS : Hid (inS (W : Int) cs k = true) := hs
  simp only [inS, decide_eq_true_eq] at hs
  obtain ⟨M, hM⟩ : ∃ M, manyG (W : Int) cs = M := ⟨_, rfl⟩
  have hM2 : 4 <= M /\ M <= 20 := by rw [<- hM, manyG_ok hk hHI]; omega
  rw [hM] at hs
  obtain ⟨v, hv⟩ : ∃ v, (k + (H : Int)) % M = v := ⟨_, rfl⟩
  have EV : Hid (turnK (W : Int) cs k = v) := by
   show _ = _
   unfold turnK; rw [hHI, hM, if_pos ⟨hk, hs.1, hs.2⟩, hv]
  rw [EV.out]
  have EM : Hid (manyG (W : Int) cs = M) := hM
  have HH : Hid (cs.length / W = H) := hH
  have hk0 := hs.1
  have hk1 := hs.2
  have hMa := hM2.1
  have hMb := hM2.2
  have v0 : 0 <= v := by rw [<- hv]; exact Int.emod_nonneg _ (by omega)
  have v1 : v < M := by rw [<- hv]; exact Int.emod_lt_of_pos _ (by omega)
  have wr : IntKind.i64.wrap (k + (H : Int)) = k + (H : Int) := IntWalk.i64_in _ (by omega)
  have ht : (k + (H : Int)).tmod M = v := by rw [Int.tmod_eq_emod_of_nonneg (by omega)]; exact hv
  have hM0 : ¬ (M = 0) := by omega
  clear hM EV hH hHI el hs hM2
  go_enter SqP.func19, Tryz.ntmps19
  go_wp2_with fail
  refine (sightOk_any _ _ _ cs _ (h.below bel) hm k).mono ?_
  rintro e x0 ⟨rfl, hb0⟩
  rw [hS.out]
  have g0 : x0.cell? ⟨w.heap.size, 0, none⟩ = some (.int .i64 (W : Int)) := keepc hb0 (by simp [go_sem])
  have g1 : x0.cell? ⟨w.heap.size, 1, none⟩ = some (.slice a cs.length cap) := keepc hb0 (by simp [go_sem])
  have hB0 : Below w.heap.size w x0 := bcall bel (by simp <;> omega) hb0
  have hC0 := h.below hB0
  clear hb0
  go_wp2
  go_region_held3 (fun w' => w'.cell? ⟨w.heap.size, 0, none⟩ = some (.int .i64 (W : Int)) /\ w'.cell? ⟨w.heap.size, 1, none⟩ = some (.slice a cs.length cap))
   (first
    | with_reducible exact ⟨keepc hb7 g0, keepc hb7 g1⟩
    | with_reducible exact ⟨keepc hb6 g0, keepc hb6 g1⟩
    | go_keep)
   (first
    | (go_at_call 45; refine (rowsI_any W H _ _ _ _ h1 hm HH.out).mono ?_; rintro e w6 ⟨rfl, hb6'⟩; have hb6 : Below x0.heap.size x0 w6 := (by first | with_reducible exact hb6' | with_reducible exact bdrew hb6' | with_reducible exact bcall hb7 hb7.size hb6'))
    | (go_at_call 16; refine (implMany_any _ _ _ cs _ (by first | with_reducible exact hC0.below hb6 | with_reducible exact hC0 | with_reducible exact hC0.below (Below.refl _ _).drew) hm).mono ?_; rintro e w7 ⟨rfl, hb7'⟩; rw [EM.out]; have hb7 : Below x0.heap.size x0 w7 := (by first | with_reducible exact bcall hb6 hb6.size hb7' | with_reducible exact hb7' | with_reducible exact bdrew hb7'))
    | fail)
  all_goals
   have hBf := bcall hB0 hB0.size hb7
   go_wp2
   go_ret
   exact ⟨rfl, hBf⟩
theorem implFlip_any (wd : Int) (a : Option Addr) (cap : Nat) (cs : List (Int × Int)) (w : World) (h : CellsAt w a cs) (hm : cs.length <= 1048576) (k : Int) :
  Calls SqP.prog 20 #[.agg #[.int .i64 wd, .slice a cs.length cap], .int .i64 k] w fun e w' => e = .returned (.int .i64 (flipK wd cs k)) /\ Below w.heap.size w w' := by
 rcases hs : inS wd cs k with _ | _
 ·have hv : flipK wd cs k = -1 := by
   unfold flipK; rw [if_neg]; intro q
   simp only [inS, decide_eq_false_iff_not] at hs; exact hs q.2
  rw [hv]
  clear hv
  go_enter SqP.func20, Tryz.ntmps20
  go_wp2_with fail
  refine (sightOk_any _ _ _ cs _ (h.below bel) hm k).mono ?_
  rintro e x0 ⟨rfl, hb0⟩
  rw [hs]
  go_wp2_with fail
  go_ret
  exact ⟨rfl, bcall bel (by simp <;> omega) hb0⟩
 ·have hk := inS_ok hs
  obtain ⟨W, H, rfl, h1, h2, h3, h4, el, hH, hHI⟩ := okG_nat wd cs hk
  have hS : Hid (inS (W : Int) cs k = true) := hs
  simp only [inS, decide_eq_true_eq] at hs
  obtain ⟨M, hM⟩ : ∃ M, manyG (W : Int) cs = M := ⟨_, rfl⟩
  have hM2 : 4 <= M /\ M <= 20 := by rw [<- hM, manyG_ok hk hHI]; omega
  rw [hM] at hs
  obtain ⟨v, hv⟩ : ∃ v, ((W : Int) - 1 - k + M) % M = v := ⟨_, rfl⟩
  have EV : Hid (flipK (W : Int) cs k = v) := by
   show _ = _
   unfold flipK; rw [hM, if_pos ⟨hk, hs.1, hs.2⟩, hv]
  rw [EV.out]
  have EM : Hid (manyG (W : Int) cs = M) := hM
  have hk0 := hs.1
  have hk1 := hs.2
  have hMa := hM2.1
  have hMb := hM2.2
  have ht : ((W : Int) - 1 - k + M).tmod M = v := by rw [Int.tmod_eq_emod_of_nonneg (by omega)]; exact hv
  have hM0 : ¬ (M = 0) := by omega
  clear hM EV hH hHI el hs hM2
  go_enter SqP.func20, Tryz.ntmps20
  go_wp2_with fail
  refine (sightOk_any _ _ _ cs _ (h.below bel) hm k).mono ?_
  rintro e x0 ⟨rfl, hb0⟩
  rw [hS.out]
  have g0 : x0.cell? ⟨w.heap.size, 0, none⟩ = some (.int .i64 (W : Int)) := keepc hb0 (by simp [go_sem])
  have g1 : x0.cell? ⟨w.heap.size, 1, none⟩ = some (.slice a cs.length cap) := keepc hb0 (by simp [go_sem])
  have hB0 : Below w.heap.size w x0 := bcall bel (by simp <;> omega) hb0
  have hC0 := h.below hB0
  clear hb0
  go_wp2_with fail
  refine (implMany_any _ _ _ cs _ hC0 hm).mono ?_
  rintro e x1 ⟨rfl, hb1⟩
  rw [EM.out]
  replace g0 := keepc hb1 g0; replace g1 := keepc hb1 g1
  have hB1 := bcall hB0 hB0.size hb1
  clear hb1
  go_wp2_with fail
  go_ret
  exact ⟨rfl, hB1⟩
end Sp
end Go.Proofs.YtdhopelplokehaaGreat
