/-
  Plain facts on turned sights; impl.GridTurn of an ok grid; DrawSightTurn.
-/
import Derived.Test.YtankkkiccokggaaVp
import Derived.Test.YtankkkiccokggaaVt
import Derived.Test.YtankkkiccokggaaMb
import Derived.Test.YtankkkiccokggaaTh
namespace Go.Proofs.Ytankkkiccokggaa
open Go.RowKit
set_option linter.unusedVariables false
attribute [local go_sem ↓] Go.wp_at_zero Go.wp_at_succ

set_option maxHeartbeats 400000 in
theorem drawSightTurn_any (a : Option Addr) (n cap : Nat) (f : Nat → Int) (w : World) (h : BytesAt w a n f) (hn : n ≤ 1048576) (hcap : n ≤ cap) (hc2 : cap ≤ 9223372036854775807) :
    Calls Try.prog 24 #[.slice a n cap] w fun e w' => ∃ (wd : Int) (a : Option Addr) (c : Nat) (xs : List (Int × Int)) (k : Int), e = .returned (.tuple #[.agg #[.int .i64 wd, .slice a xs.length c], .int .i64 k]) ∧ CellsAt w' a xs ∧ xs.length ≤ 31 ∧ (-1 ≤ k ∧ k ≤ 20) ∧ Below w.heap.size w w' := by
  go_enter Try.func24, Try.ntmps24
  go_wp2_with fail
  refine (drawSightRayN_any _ n _ f _ (h.below (by repeat (first | exact Below.refl _ _ | refine Below.alloc ?_ (by first | exact Nat.le_refl _ | (simp; done) | (simp; omega)) _ | refine Below.drew ?_ | refine Below.setCell ?_ (by first | exact Nat.le_refl _ | (simp; done) | (simp; omega)) _))) hn hcap hc2).mono ?_
  rintro e w1 ⟨wd, a1, c1, xs, k, rfl, hC1, hl1, hk1, hn1, hb1⟩
  have p0 : w1.cell? ⟨w.heap.size, 0, none⟩ = some (.int .i64 0) := keepc hb1 (by simp [go_sem])
  have p1 : w1.cell? ⟨w.heap.size, 1, none⟩ = some (.slice none 0 0) := keepc hb1 (by simp [go_sem])
  have f0 : w1.frozen? ⟨w.heap.size, 0, none⟩ = false := keepf hb1 (v := .int .i64 0) (by simp [go_sem]) (by simp [go_sem])
  have f1 : w1.frozen? ⟨w.heap.size, 1, none⟩ = false := keepf hb1 (v := .slice none 0 0) (by simp [go_sem]) (by simp [go_sem])
  have hB1 : Below w.heap.size w w1 := bcall (by repeat (first | exact Below.refl _ _ | refine Below.alloc ?_ (by first | exact Nat.le_refl _ | (simp; done) | (simp; omega)) _ | refine Below.drew ?_ | refine Below.setCell ?_ (by first | exact Nat.le_refl _ | (simp; done) | (simp; omega)) _)) (by simp) hb1
  clear hb1
  go_wp2
  refine bodyPost_ret (v := .tuple #[.agg #[.int .i64 wd, .slice a1 xs.length c1], .int .i64 k]) (by simp [results, Try.results24, go_sem, p0, p1]) rfl ⟨wd, a1, c1, xs, k, rfl, ?_, hl1, hk1, ?_⟩
  · exact (hC1.set (bb := w.heap.size) (fun b off e => by have := hn1 b off e; simp at this; omega) _).set (bb := w.heap.size) (fun b off e => by have := hn1 b off e; simp at this; omega) _
  · exact (hB1.setCell (p := ⟨w.heap.size, 0, none⟩) (Nat.le_refl _) _).setCell (p := ⟨w.heap.size, 1, none⟩) (Nat.le_refl _) _

/-- A turned grid, its size. -/
theorem siz_turn {wd : Int} {cs : List (Int × Int)} {W H : Nat} (S : Siz wd cs W H) : ∃ ca, turnG wd cs = ((H : Int), ca) ∧ Siz (H : Int) ca H W := by
  have hok := S.ok
  rw [S.ew] at hok
  obtain ⟨e, k⟩ := turnG_ok W H cs hok S.hW S.hH S.el
  have hl : (perm (turnAt W H) other cs).length = H * W := by rw [perm_len, S.el, Nat.mul_comm]
  have hd : ((perm (turnAt W H) other cs).length : Int) / (H : Int) = (W : Int) := by
    rw [hl, ← Int.natCast_ediv, Nat.mul_div_cancel_left W S.hH.1]
  exact ⟨_, by rw [S.ew]; exact e, k, rfl, S.hH, S.hW, hl, hd, manyG_ok k hd⟩
theorem turnI {wd : Int} {cs ca : List (Int × Int)} {W H : Nat} (S : Siz wd cs W H) (hca : turnG wd cs = ((H : Int), ca)) (a : Option Addr) (cap : Nat) (w : World) (h : CellsAt w a cs) :
    Calls Try.prog 29 #[.agg #[.int .i64 wd, .slice a cs.length cap]] w fun e w' => ∃ a2 c2, e = .returned (.agg #[.int .i64 (H : Int), .slice a2 ca.length c2]) ∧ CellsAt w' a2 ca ∧ Below w.heap.size w w' := by
  have hm : cs.length ≤ 1048576 := by rw [S.el]; exact Nat.le_trans (Nat.mul_le_mul S.hW.2 S.hH.2) (by omega)
  have := implGridTurn_any wd a cap cs w h hm
  rw [hca] at this
  refine this.mono ?_
  rintro e w' ⟨v, rfl, hO, hb⟩
  obtain ⟨a2, c2, rfl, hC⟩ := hO.slice
  exact ⟨a2, c2, rfl, hC, hb⟩

def xI (n : Nat) : Int := n
set_option maxRecDepth 100000 in
theorem turn_fin : ∀ W : Fin 5, ∀ H : Fin 5, ∀ k : Fin 20, k.val < 2 * (W.val + 1 + (H.val + 1)) →
    ((((xI k.val + xI (H.val + 1)) % (2 * (xI (W.val + 1) + xI (H.val + 1))) + xI (W.val + 1)) % (2 * (xI (W.val + 1) + xI (H.val + 1))) + xI (H.val + 1)) % (2 * (xI (W.val + 1) + xI (H.val + 1))) + xI (W.val + 1)) % (2 * (xI (W.val + 1) + xI (H.val + 1))) = xI k.val ∧
    (xI (W.val + 1) - 1 - ((xI (W.val + 1) - 1 - xI k.val + 2 * (xI (W.val + 1) + xI (H.val + 1))) % (2 * (xI (W.val + 1) + xI (H.val + 1)))) + 2 * (xI (W.val + 1) + xI (H.val + 1))) % (2 * (xI (W.val + 1) + xI (H.val + 1))) = xI k.val := by decide +kernel
set_option maxRecDepth 100000 in
theorem turn_inj_fin : ∀ W : Fin 5, ∀ H : Fin 5, ∀ k : Fin 20, k.val < 2 * (W.val + 1 + (H.val + 1)) → ∀ i : Fin 20, i.val < 2 * (W.val + 1 + (H.val + 1)) → ¬ i.val = k.val →
    ¬ (xI i.val + xI (H.val + 1)) % (2 * (xI (W.val + 1) + xI (H.val + 1))) = (xI k.val + xI (H.val + 1)) % (2 * (xI (W.val + 1) + xI (H.val + 1))) ∧
    ¬ (xI (W.val + 1) - 1 - xI i.val + 2 * (xI (W.val + 1) + xI (H.val + 1))) % (2 * (xI (W.val + 1) + xI (H.val + 1))) = (xI (W.val + 1) - 1 - xI k.val + 2 * (xI (W.val + 1) + xI (H.val + 1))) % (2 * (xI (W.val + 1) + xI (H.val + 1))) := by decide +kernel

theorem turnK_at {wd : Int} {cs : List (Int × Int)} {W H : Nat} (S : Siz wd cs W H) (k : Int) (hk : 0 ≤ k ∧ k < 2 * ((W : Int) + (H : Int))) : turnK wd cs k = (k + (H : Int)) % (2 * ((W : Int) + (H : Int))) := by
  unfold turnK
  rw [S.em, S.hI, if_pos ⟨S.ok, hk.1, hk.2⟩]
theorem flipK_at {wd : Int} {cs : List (Int × Int)} {W H : Nat} (S : Siz wd cs W H) (k : Int) (hk : 0 ≤ k ∧ k < 2 * ((W : Int) + (H : Int))) : flipK wd cs k = ((W : Int) - 1 - k + 2 * ((W : Int) + (H : Int))) % (2 * ((W : Int) + (H : Int))) := by
  unfold flipK
  rw [S.em, if_pos ⟨S.ok, hk.1, hk.2⟩, S.ew]
theorem turnK_yes {wd : Int} {cs : List (Int × Int)} {k : Int} (h : ¬ turnK wd cs k < 0) : okG wd cs = true ∧ 0 ≤ k ∧ k < manyG wd cs := by
  by_cases c : okG wd cs = true ∧ 0 ≤ k ∧ k < manyG wd cs
  · exact c
  · unfold turnK at h
    rw [if_neg c] at h
    omega
theorem mod_in (x M : Int) (h : 0 < M) : 0 ≤ x % M ∧ x % M < M := ⟨Int.emod_nonneg _ (by omega), Int.emod_lt_of_pos _ h⟩

theorem turns_four {wd wa wb wc : Int} {cs ca cb cc : List (Int × Int)} {W H : Nat} (S : Siz wd cs W H) (SA : Siz wa ca H W) (SB : Siz wb cb W H) (SC : Siz wc cc H W) (k : Nat) (hk : k < 2 * (W + H)) :
    turnK wc cc (turnK wb cb (turnK wa ca (turnK wd cs (k : Int)))) = (k : Int) := by
  have hW := S.hW
  have hH := S.hH
  have hM : (0 : Int) < 2 * ((W : Int) + (H : Int)) := by omega
  have e2 : 2 * ((H : Int) + (W : Int)) = 2 * ((W : Int) + (H : Int)) := by omega
  rw [turnK_at S _ (by omega)]
  have i1 := mod_in ((k : Int) + (H : Int)) _ hM
  rw [turnK_at SA _ (by rw [e2]; exact i1), e2]
  have i2 := mod_in (((k : Int) + (H : Int)) % (2 * ((W : Int) + (H : Int))) + (W : Int)) _ hM
  rw [turnK_at SB _ i2]
  have i3 := mod_in ((((k : Int) + (H : Int)) % (2 * ((W : Int) + (H : Int))) + (W : Int)) % (2 * ((W : Int) + (H : Int))) + (H : Int)) _ hM
  rw [turnK_at SC _ (by rw [e2]; exact i3), e2]
  have := turn_fin ⟨W - 1, by omega⟩ ⟨H - 1, by omega⟩ ⟨k, by omega⟩
  simp only [show W - 1 + 1 = W by omega, show H - 1 + 1 = H by omega, xI] at this
  exact (this hk).1
theorem flips_two {wd : Int} {cs : List (Int × Int)} {W H : Nat} (S : Siz wd cs W H) (k : Nat) (hk : k < 2 * (W + H)) : flipK wd cs (flipK wd cs (k : Int)) = (k : Int) := by
  have hW := S.hW
  have hH := S.hH
  have hM : (0 : Int) < 2 * ((W : Int) + (H : Int)) := by omega
  rw [flipK_at S (k : Int) (by omega)]
  rw [flipK_at S _ (mod_in _ _ hM)]
  have := turn_fin ⟨W - 1, by omega⟩ ⟨H - 1, by omega⟩ ⟨k, by omega⟩
  simp only [show W - 1 + 1 = W by omega, show H - 1 + 1 = H by omega, xI] at this
  exact (this hk).2
theorem turns_apart {wd : Int} {cs : List (Int × Int)} {W H : Nat} (S : Siz wd cs W H) (k i : Nat) (hk : k < 2 * (W + H)) (hi : i < 2 * (W + H)) (hne : ¬ i = k) :
    ¬ turnK wd cs (i : Int) = turnK wd cs (k : Int) ∧ ¬ flipK wd cs (i : Int) = flipK wd cs (k : Int) := by
  have hW := S.hW
  have hH := S.hH
  rw [turnK_at S _ (by omega), turnK_at S _ (by omega), flipK_at S _ (by omega), flipK_at S _ (by omega)]
  have := turn_inj_fin ⟨W - 1, by omega⟩ ⟨H - 1, by omega⟩ ⟨k, by omega⟩
  simp only [show W - 1 + 1 = W by omega, show H - 1 + 1 = H by omega, xI] at this
  exact this hk ⟨i, by omega⟩ hi hne
end Go.Proofs.Ytankkkiccokggaa
