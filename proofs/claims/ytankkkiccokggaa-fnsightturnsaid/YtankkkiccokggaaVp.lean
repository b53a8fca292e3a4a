/-
  Plain facts on sights, as the laws want them; two rays are held against each other.
-/
import Derived.Test.YtankkkiccokggaaYi
import Derived.Test.YtankkkiccokggaaVj
import Derived.Test.YtankkkiccokggaaVk
import Derived.Test.YtankkkiccokggaaZc
namespace Go.Proofs.Ytankkkiccokggaa
open Go.RowKit
set_option linter.unusedVariables false

theorem rayUs : Try.prog.underlying 29 = some (.struct (Try.prog.fieldsOf 29)) := by kernel_rfl
theorem rayHs : Try.prog.stoodInHeld 29 = false := by kernel_rfl
theorem eqlRayS (x d y e : Int) (b : Bool) (hb : b = decide (x = y ∧ d = e)) (w : World) : Sem.run Try.prog (binOp .eql 29 (.agg #[.int .i64 x, .int .i64 d]) (.agg #[.int .i64 y, .int .i64 e])) w = .ok (.bool b) w := by
  subst hb
  rw [run_eql_struct, run_equalIn_agg _ _ _ _ _ rayUs rayHs]
  by_cases h1 : x = y <;> by_cases h2 : d = e <;> simp [Op.eqFields, go_sem, h1, h2]
theorem neqRayS (x d y e : Int) (b : Bool) (hb : b = !decide (x = y ∧ d = e)) (w : World) : Sem.run Try.prog (binOp .neq 29 (.agg #[.int .i64 x, .int .i64 d]) (.agg #[.int .i64 y, .int .i64 e])) w = .ok (.bool b) w := by
  subst hb
  rw [run_neq_struct, run_equalIn_agg _ _ _ _ _ rayUs rayHs]
  by_cases h1 : x = y <;> by_cases h2 : d = e <;> simp [Op.eqFields, go_sem, h1, h2]

theorem rayI {wd : Int} {cs : List (Int × Int)} {x d x2 d2 : Int} {b2 : Bool} (ev : rayN wd cs x d = (x2, d2, b2)) (a : Option Addr) (cap : Nat) (w : World) (h : CellsAt w a cs) (hm : cs.length ≤ 1048576) :
    Calls Try.prog 16 #[.agg #[.int .i64 wd, .slice a cs.length cap], .int .i64 x, .int .i64 d] w fun e w' => e = .returned (.tuple #[.agg #[.int .i64 x2, .int .i64 d2], .bool b2]) ∧ Below w.heap.size w w' := by
  have := implRayNext_any wd a cap cs w h hm x d
  rw [ev] at this
  exact this

/-- A grid that is ok, and its size. -/
structure Siz (wd : Int) (cs : List (Int × Int)) (W H : Nat) : Prop where
  ok : okG wd cs = true
  ew : wd = (W : Int)
  hW : 1 ≤ W ∧ W ≤ 5
  hH : 1 ≤ H ∧ H ≤ 5
  el : cs.length = W * H
  hI : (cs.length : Int) / wd = (H : Int)
  em : manyG wd cs = 2 * ((W : Int) + (H : Int))
theorem siz_of {wd : Int} {cs : List (Int × Int)} (h : okG wd cs = true) : ∃ W H, Siz wd cs W H := by
  obtain ⟨W, H, rfl, h1, h2, h3, h4, el, hH, hHI⟩ := okG_nat wd cs h
  exact ⟨W, H, h, rfl, ⟨h1, h2⟩, ⟨h3, h4⟩, el, hHI, manyG_ok h hHI⟩
theorem many_ok {wd : Int} {cs : List (Int × Int)} (h : ¬ manyG wd cs = 0) : okG wd cs = true := by
  rcases hk : okG wd cs with _ | _
  · exact absurd (manyG_bad hk) h
  · rfl

theorem inRay_at {wd : Int} {cs : List (Int × Int)} {W H : Nat} (S : Siz wd cs W H) (k : Nat) (hk : k < 2 * (W + H)) : inRay wd cs (k : Int) = ((sRay W H k).1, (sRay W H k).2, true) := by
  unfold inRay
  rw [if_pos ⟨S.ok, by omega, by rw [S.em]; omega⟩, S.hI, S.ew]
theorem inRay_out {wd : Int} {cs : List (Int × Int)} {k : Int} (h : ¬ (0 ≤ k ∧ k < manyG wd cs)) : inRay wd cs k = (0, 0, false) := by
  unfold inRay
  rw [if_neg (fun q => h q.2)]
theorem outOf_at {wd : Int} {cs : List (Int × Int)} {W H : Nat} (S : Siz wd cs W H) (x d : Int) (hx : 0 ≤ x ∧ x < (W : Int) * (H : Int)) (hd : 0 ≤ d ∧ d ≤ 3) : outOf wd cs x d = ofN W H x d (2 * (W + H)) := by
  unfold outOf
  have e1 : (cs.length : Int) = (W : Int) * (H : Int) := by rw [S.el]; simp
  rw [if_pos ⟨S.ok, by rw [e1]; exact hx, hd⟩, S.em, S.hI, S.ew, show (2 * ((W : Int) + (H : Int))).toNat = 2 * (W + H) by omega]
theorem rayN_in {wd : Int} {cs : List (Int × Int)} {W H : Nat} (S : Siz wd cs W H) (x d : Int) (hx : 0 ≤ x ∧ x < (W : Int) * (H : Int)) (hd : 0 ≤ d ∧ d ≤ 3) :
    rayN wd cs x d = if inG (x / (W : Int) + dRow d) (x % (W : Int) + dCol d) W H = true then ((x / (W : Int) + dRow d) * (W : Int) + (x % (W : Int) + dCol d), d, true) else (0, 0, false) := by
  unfold rayN
  have e1 : (cs.length : Int) = (W : Int) * (H : Int) := by rw [S.el]; simp
  rw [S.hI, S.ew]
  by_cases g : inG (x / (W : Int) + dRow d) (x % (W : Int) + dCol d) W H = true
  · rw [if_pos ⟨by rw [← S.ew]; exact S.ok, by rw [e1]; exact hx, hd, g⟩, if_pos g]
  · rw [if_neg (fun q => g q.2.2.2), if_neg g]

/-- Where light comes in it leaves, going back. -/
theorem back_fact {wd : Int} {cs : List (Int × Int)} {k x d : Int} (h : inRay wd cs k = (x, d, true)) :
    (0 ≤ d ∧ d ≤ 3) ∧ rayN wd cs x ((d + 2) % 4) = (0, 0, false) ∧ outOf wd cs x ((d + 2) % 4) = k ∧ k < manyG wd cs := by
  unfold inRay at h
  split at h
  · next c =>
    obtain ⟨W, H, S⟩ := siz_of c.1
    have hk := c.2
    rw [S.em] at hk
    obtain ⟨K, rfl⟩ := Int.eq_ofNat_of_zero_le hk.1
    have hs : sRay W H K = (x, d) := by
      rw [S.hI, S.ew] at h
      simp only [Prod.mk.injEq] at h
      rw [← h.1, ← h.2.1]
    obtain ⟨hx, hd, hg, ho⟩ := sight_back W H K S.hW S.hH (by omega) x d hs
    refine ⟨hd, ?_, ?_, c.2.2⟩
    · rw [rayN_in S x _ hx (by omega), if_neg (by simp [hg])]
    · rw [outOf_at S x _ hx (by omega)]; exact ho
  · simp at h

/-- Light leaves just where there is no next cell. -/
theorem out_fact {wd : Int} {cs : List (Int × Int)} {x d : Int} (hk : okG wd cs = true) (hx : 0 ≤ x ∧ x < (cs.length : Int)) (hd : 0 ≤ d ∧ d ≤ 3) :
    (∃ x2 d2, rayN wd cs x d = (x2, d2, true) ∧ outOf wd cs x d = -1) ∨ (rayN wd cs x d = (0, 0, false) ∧ inRay wd cs (outOf wd cs x d) = (x, (d + 2) % 4, true)) := by
  obtain ⟨W, H, S⟩ := siz_of hk
  have e1 : (cs.length : Int) = (W : Int) * (H : Int) := by rw [S.el]; simp
  rw [e1] at hx
  obtain ⟨X, rfl⟩ := Int.eq_ofNat_of_zero_le hx.1
  obtain ⟨D, rfl⟩ := Int.eq_ofNat_of_zero_le hd.1
  have hX : X < W * H := by have := hx.2; exact_mod_cast this
  rcases sight_out W H X D S.hW S.hH hX (by omega) with ⟨g, o⟩ | ⟨g, k, hk, o, s⟩
  · left
    exact ⟨_, _, by rw [rayN_in S _ _ hx hd, if_pos g], by rw [outOf_at S _ _ hx hd]; exact o⟩
  · right
    refine ⟨by rw [rayN_in S _ _ hx hd, if_neg (by simp [g])], ?_⟩
    rw [outOf_at S _ _ hx hd, o, inRay_at S k hk, s]
end Go.Proofs.Ytankkkiccokggaa
