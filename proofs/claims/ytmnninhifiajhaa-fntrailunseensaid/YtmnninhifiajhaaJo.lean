/-
  Several texts in one: Vk, Zc, Vp.
-/
import Derived.Test.YtmnninhifiajhaaJh
import Derived.Test.YtmnninhifiajhaaJa
import Derived.Deep.RegionHeld3
import Derived.Test.YtmnninhifiajhaaJi
import Derived.Test.YtmnninhifiajhaaJb
import Derived.Test.YtmnninhifiajhaaJd

/-
  spec.SightMany, SightRay, SightOf, SightTurn and SightFlip answer what the plain functions say, whatever the grid.
-/
namespace Go.Proofs.Ytmnninhifiajhaa
open Go.RowKit
set_option linter.unusedVariables false

set_option maxHeartbeats 400000 in
theorem specMany_any (wd : Int) (a : Option Addr) (cap : Nat) (cs : List (Int × Int)) (w : World) (h : CellsAt w a cs) (hm : cs.length ≤ 1048576) :
    Calls Try.prog 71 #[.agg #[.int .i64 wd, .slice a cs.length cap]] w fun e w' => e = .returned (.int .i64 (manyG wd cs)) ∧ Below w.heap.size w w' := by
  rcases hk : okG wd cs with _ | _
  · rw [manyG_bad hk]
    go_enter Try.func71, Try.ntmps71
    go_wp2_with fail
    refine (specGridOk_any _ _ _ cs _ (h.below (by repeat (first | exact Below.refl _ _ | refine Below.alloc ?_ (by first | exact Nat.le_refl _ | (simp; done) | (simp; omega)) _ | refine Below.drew ?_ | refine Below.setCell ?_ (by first | exact Nat.le_refl _ | (simp; done) | (simp; omega)) _))) (by omega)).mono ?_
    rintro e x0 ⟨rfl, hb0⟩
    rw [hk]
    go_wp2_with fail
    go_ret
    exact ⟨rfl, bcall (by repeat (first | exact Below.refl _ _ | refine Below.alloc ?_ (by first | exact Nat.le_refl _ | (simp; done) | (simp; omega)) _ | refine Below.drew ?_ | refine Below.setCell ?_ (by first | exact Nat.le_refl _ | (simp; done) | (simp; omega)) _)) (by simp <;> omega) hb0⟩
  · obtain ⟨W, H, rfl, h1, h2, h3, h4, el, hH, hHI⟩ := okG_nat wd cs hk
    have hn : cs.length ≤ 25 := by rw [el]; exact Nat.le_trans (Nat.mul_le_mul h2 h4) (by omega)
    obtain ⟨M, hM⟩ : ∃ M, manyG (W : Int) cs = M := ⟨_, rfl⟩
    have hM2 : 4 ≤ M ∧ M ≤ 20 := by rw [← hM, manyG_ok hk hHI]; omega
    have hMa := hM2.1
    have hMb := hM2.2
    have CM : Hid (∀ (w : World), Calls Try.prog 86 #[.agg #[.int .i64 (W : Int), .slice a cs.length cap]] w fun e w' => e = .returned (.int .i64 M) ∧ Below w.heap.size w w') := by
      intro w
      have := l3Many_any W H a cs.length cap w ⟨h1, h2⟩ h4 (by omega) hH
      rw [← manyG_ok hk hHI, hM] at this
      exact this
    have EL : Hid (cs.length = W * H) := el
    have HH : Hid (cs.length / W = H) := hH
    have HI : Hid ((cs.length : Int) / (W : Int) = (H : Int)) := hHI
    have EM : Hid (manyG (W : Int) cs = M) := hM
    clear el hH hHI hM hM2
    rw [EM.out]
    go_enter Try.func71, Try.ntmps71
    go_wp2_with fail
    refine (specGridOk_any _ _ _ cs _ (h.below (by repeat (first | exact Below.refl _ _ | refine Below.alloc ?_ (by first | exact Nat.le_refl _ | (simp; done) | (simp; omega)) _ | refine Below.drew ?_ | refine Below.setCell ?_ (by first | exact Nat.le_refl _ | (simp; done) | (simp; omega)) _))) (by omega)).mono ?_
    rintro e x0 ⟨rfl, hb0⟩
    rw [hk]
    have g0 : x0.cell? ⟨w.heap.size, 0, none⟩ = some (.int .i64 (W : Int)) := keepc hb0 (by simp [go_sem])
    have g1 : x0.cell? ⟨w.heap.size, 1, none⟩ = some (.slice a cs.length cap) := keepc hb0 (by simp [go_sem])
    have hB0 : Below w.heap.size w x0 := bcall (by repeat (first | exact Below.refl _ _ | refine Below.alloc ?_ (by first | exact Nat.le_refl _ | (simp; done) | (simp; omega)) _ | refine Below.drew ?_ | refine Below.setCell ?_ (by first | exact Nat.le_refl _ | (simp; done) | (simp; omega)) _)) (by simp <;> omega) hb0
    clear hb0
    go_wp2_with fail
    refine (CM.out _).mono ?_
    rintro e x1 ⟨rfl, hb1⟩
    have hB1 := bcall hB0 hB0.size hb1
    clear hb1 hB0
    go_wp2_with fail
    go_ret
    exact ⟨rfl, hB1⟩

end Go.Proofs.Ytmnninhifiajhaa

/-
  Plain facts on sights: where light comes in it leaves, going back; light leaves just where there is no next cell.
-/
namespace Go.Proofs.Ytmnninhifiajhaa
open Go.RowKit
set_option linter.unusedVariables false

/-- A number in Int's form. -/
abbrev nI (n : Nat) : Int := (n : Int)
theorem sights_fin : ∀ W : Fin 5, ∀ H : Fin 5, ∀ k : Fin 20, k.val < 2 * (W.val + 1 + (H.val + 1)) →
    (0 ≤ (sRay (nI (W.val + 1)) (nI (H.val + 1)) (nI k.val)).1 ∧ (sRay (nI (W.val + 1)) (nI (H.val + 1)) (nI k.val)).1 < nI (W.val + 1) * nI (H.val + 1)) ∧
    inG ((sRay (nI (W.val + 1)) (nI (H.val + 1)) (nI k.val)).1 / nI (W.val + 1) + dRow (((sRay (nI (W.val + 1)) (nI (H.val + 1)) (nI k.val)).2 + 2) % 4)) ((sRay (nI (W.val + 1)) (nI (H.val + 1)) (nI k.val)).1 % nI (W.val + 1) + dCol (((sRay (nI (W.val + 1)) (nI (H.val + 1)) (nI k.val)).2 + 2) % 4)) (nI (W.val + 1)) (nI (H.val + 1)) = false ∧
    ofN (nI (W.val + 1)) (nI (H.val + 1)) (sRay (nI (W.val + 1)) (nI (H.val + 1)) (nI k.val)).1 (((sRay (nI (W.val + 1)) (nI (H.val + 1)) (nI k.val)).2 + 2) % 4) (2 * (W.val + 1 + (H.val + 1))) = nI k.val := by decide +kernel
theorem leaves_fin : ∀ W : Fin 5, ∀ H : Fin 5, ∀ x : Fin 25, ∀ d : Fin 4, x.val < (W.val + 1) * (H.val + 1) →
    if inG (nI x.val / nI (W.val + 1) + dRow (nI d.val)) (nI x.val % nI (W.val + 1) + dCol (nI d.val)) (nI (W.val + 1)) (nI (H.val + 1)) = true then ofN (nI (W.val + 1)) (nI (H.val + 1)) (nI x.val) (nI d.val) (2 * (W.val + 1 + (H.val + 1))) = -1
    else (0 ≤ ofN (nI (W.val + 1)) (nI (H.val + 1)) (nI x.val) (nI d.val) (2 * (W.val + 1 + (H.val + 1))) ∧ ofN (nI (W.val + 1)) (nI (H.val + 1)) (nI x.val) (nI d.val) (2 * (W.val + 1 + (H.val + 1))) < 2 * (nI (W.val + 1) + nI (H.val + 1))) ∧
      sRay (nI (W.val + 1)) (nI (H.val + 1)) (ofN (nI (W.val + 1)) (nI (H.val + 1)) (nI x.val) (nI d.val) (2 * (W.val + 1 + (H.val + 1)))) = (nI x.val, (nI d.val + 2) % 4) := by decide +kernel

/-- Where light comes in it leaves, going back; no next cell there. -/
theorem sight_back (W H k : Nat) (hW : 1 ≤ W ∧ W ≤ 5) (hH : 1 ≤ H ∧ H ≤ 5) (hk : k < 2 * (W + H)) (x d : Int) (hs : sRay W H k = (x, d)) :
    (0 ≤ x ∧ x < (W : Int) * (H : Int)) ∧ (0 ≤ d ∧ d ≤ 3) ∧ inG (x / (W : Int) + dRow ((d + 2) % 4)) (x % (W : Int) + dCol ((d + 2) % 4)) W H = false ∧ ofN W H x ((d + 2) % 4) (2 * (W + H)) = (k : Int) := by
  have h := sights_fin ⟨W - 1, by omega⟩ ⟨H - 1, by omega⟩ ⟨k, by omega⟩
  simp only [show W - 1 + 1 = W by omega, show H - 1 + 1 = H by omega, nI] at h
  have h2 := h hk
  rw [hs] at h2
  exact ⟨h2.1, sRay_dir _ _ _ _ _ hs, h2.2.1, h2.2.2⟩
/-- Light leaves just where there is no next cell, and it comes in there. -/
theorem sight_out (W H x d : Nat) (hW : 1 ≤ W ∧ W ≤ 5) (hH : 1 ≤ H ∧ H ≤ 5) (hx : x < W * H) (hd : d < 4) :
    (inG ((x : Int) / (W : Int) + dRow (d : Int)) ((x : Int) % (W : Int) + dCol (d : Int)) W H = true ∧ ofN W H x d (2 * (W + H)) = -1) ∨
    (inG ((x : Int) / (W : Int) + dRow (d : Int)) ((x : Int) % (W : Int) + dCol (d : Int)) W H = false ∧ ∃ k : Nat, k < 2 * (W + H) ∧ ofN W H x d (2 * (W + H)) = (k : Int) ∧ sRay W H k = ((x : Int), ((d : Int) + 2) % 4)) := by
  have hx2 : x < 25 := Nat.lt_of_lt_of_le hx (Nat.le_trans (Nat.mul_le_mul hW.2 hH.2) (by omega))
  have h := leaves_fin ⟨W - 1, by omega⟩ ⟨H - 1, by omega⟩ ⟨x, hx2⟩ ⟨d, hd⟩
  simp only [show W - 1 + 1 = W by omega, show H - 1 + 1 = H by omega, nI] at h
  have h2 := h hx
  by_cases q : inG ((x : Int) / (W : Int) + dRow (d : Int)) ((x : Int) % (W : Int) + dCol (d : Int)) W H = true
  · rw [if_pos q] at h2
    exact Or.inl ⟨q, h2⟩
  · rw [if_neg q] at h2
    obtain ⟨⟨k0, k1⟩, k2⟩ := h2
    obtain ⟨k, hk⟩ := Int.eq_ofNat_of_zero_le k0
    rw [hk] at k1 k2
    exact Or.inr ⟨by simpa using q, k, by omega, hk, k2⟩
/-- Each sight has a ray of its own. -/
theorem sight_inj (W H k j : Nat) (hW : 1 ≤ W ∧ W ≤ 5) (hH : 1 ≤ H ∧ H ≤ 5) (hk : k < 2 * (W + H)) (hj : j < 2 * (W + H)) (h : sRay W H k = sRay W H j) : k = j := by
  obtain ⟨x, d, hs⟩ : ∃ x d, sRay W H (k : Int) = (x, d) := ⟨_, _, rfl⟩
  have e1 := (sight_back W H k hW hH hk x d hs).2.2.2
  have e2 := (sight_back W H j hW hH hj x d (h.symm.trans hs)).2.2.2
  omega
end Go.Proofs.Ytmnninhifiajhaa

/-
  Plain facts on sights, as the laws want them; two rays are held against each other.
-/
namespace Go.Proofs.Ytmnninhifiajhaa
open Go.RowKit
set_option linter.unusedVariables false

theorem rayUs : Try.prog.underlying 62 = some (.struct (Try.prog.fieldsOf 62)) := by kernel_rfl
theorem rayHs : Try.prog.stoodInHeld 62 = false := by kernel_rfl
theorem eqlRayS (x d y e : Int) (b : Bool) (hb : b = decide (x = y ∧ d = e)) (w : World) : Sem.run Try.prog (binOp .eql 62 (.agg #[.int .i64 x, .int .i64 d]) (.agg #[.int .i64 y, .int .i64 e])) w = .ok (.bool b) w := by
  subst hb
  rw [run_eql_struct, run_equalIn_agg _ _ _ _ _ rayUs rayHs]
  by_cases h1 : x = y <;> by_cases h2 : d = e <;> simp [Op.eqFields, go_sem, h1, h2]
theorem neqRayS (x d y e : Int) (b : Bool) (hb : b = !decide (x = y ∧ d = e)) (w : World) : Sem.run Try.prog (binOp .neq 62 (.agg #[.int .i64 x, .int .i64 d]) (.agg #[.int .i64 y, .int .i64 e])) w = .ok (.bool b) w := by
  subst hb
  rw [run_neq_struct, run_equalIn_agg _ _ _ _ _ rayUs rayHs]
  by_cases h1 : x = y <;> by_cases h2 : d = e <;> simp [Op.eqFields, go_sem, h1, h2]

theorem rayI {wd : Int} {cs : List (Int × Int)} {x d x2 d2 : Int} {b2 : Bool} (ev : rayN wd cs x d = (x2, d2, b2)) (a : Option Addr) (cap : Nat) (w : World) (h : CellsAt w a cs) (hm : cs.length ≤ 1048576) :
    Calls Try.prog 94 #[.agg #[.int .i64 wd, .slice a cs.length cap], .int .i64 x, .int .i64 d] w fun e w' => e = .returned (.tuple #[.agg #[.int .i64 x2, .int .i64 d2], .bool b2]) ∧ Below w.heap.size w w' := by
  have := implRayNext_any wd a cap cs w h hm x d
  rw [ev] at this
  exact this

/-- A grid that is ok, and its size. -/
structure Siz (wd : Int) (cs : List (Int × Int)) (W H : Nat) : Prop where
  ok : okG wd cs = true
  ew : wd = (W : Int)
  hW : 1 ≤ W ∧ W ≤ 5
  hH : 1 ≤ H ∧ H ≤ 5
  el : cs.length = W * H
  hI : (cs.length : Int) / wd = (H : Int)
  em : manyG wd cs = 2 * ((W : Int) + (H : Int))
theorem siz_of {wd : Int} {cs : List (Int × Int)} (h : okG wd cs = true) : ∃ W H, Siz wd cs W H := by
  obtain ⟨W, H, rfl, h1, h2, h3, h4, el, hH, hHI⟩ := okG_nat wd cs h
  exact ⟨W, H, h, rfl, ⟨h1, h2⟩, ⟨h3, h4⟩, el, hHI, manyG_ok h hHI⟩
theorem many_ok {wd : Int} {cs : List (Int × Int)} (h : ¬ manyG wd cs = 0) : okG wd cs = true := by
  rcases hk : okG wd cs with _ | _
  · exact absurd (manyG_bad hk) h
  · rfl

theorem inRay_at {wd : Int} {cs : List (Int × Int)} {W H : Nat} (S : Siz wd cs W H) (k : Nat) (hk : k < 2 * (W + H)) : inRay wd cs (k : Int) = ((sRay W H k).1, (sRay W H k).2, true) := by
  unfold inRay
  rw [if_pos ⟨S.ok, by omega, by rw [S.em]; omega⟩, S.hI, S.ew]
theorem inRay_out {wd : Int} {cs : List (Int × Int)} {k : Int} (h : ¬ (0 ≤ k ∧ k < manyG wd cs)) : inRay wd cs k = (0, 0, false) := by
  unfold inRay
  rw [if_neg (fun q => h q.2)]
theorem outOf_at {wd : Int} {cs : List (Int × Int)} {W H : Nat} (S : Siz wd cs W H) (x d : Int) (hx : 0 ≤ x ∧ x < (W : Int) * (H : Int)) (hd : 0 ≤ d ∧ d ≤ 3) : outOf wd cs x d = ofN W H x d (2 * (W + H)) := by
  unfold outOf
  have e1 : (cs.length : Int) = (W : Int) * (H : Int) := by rw [S.el]; simp
  rw [if_pos ⟨S.ok, by rw [e1]; exact hx, hd⟩, S.em, S.hI, S.ew, show (2 * ((W : Int) + (H : Int))).toNat = 2 * (W + H) by omega]
theorem rayN_in {wd : Int} {cs : List (Int × Int)} {W H : Nat} (S : Siz wd cs W H) (x d : Int) (hx : 0 ≤ x ∧ x < (W : Int) * (H : Int)) (hd : 0 ≤ d ∧ d ≤ 3) :
    rayN wd cs x d = if inG (x / (W : Int) + dRow d) (x % (W : Int) + dCol d) W H = true then ((x / (W : Int) + dRow d) * (W : Int) + (x % (W : Int) + dCol d), d, true) else (0, 0, false) := by
  unfold rayN
  have e1 : (cs.length : Int) = (W : Int) * (H : Int) := by rw [S.el]; simp
  rw [S.hI, S.ew]
  by_cases g : inG (x / (W : Int) + dRow d) (x % (W : Int) + dCol d) W H = true
  · rw [if_pos ⟨by rw [← S.ew]; exact S.ok, by rw [e1]; exact hx, hd, g⟩, if_pos g]
  · rw [if_neg (fun q => g q.2.2.2), if_neg g]

/-- Where light comes in it leaves, going back. -/
theorem back_fact {wd : Int} {cs : List (Int × Int)} {k x d : Int} (h : inRay wd cs k = (x, d, true)) :
    (0 ≤ d ∧ d ≤ 3) ∧ rayN wd cs x ((d + 2) % 4) = (0, 0, false) ∧ outOf wd cs x ((d + 2) % 4) = k ∧ k < manyG wd cs := by
  unfold inRay at h
  split at h
  · next c =>
    obtain ⟨W, H, S⟩ := siz_of c.1
    have hk := c.2
    rw [S.em] at hk
    obtain ⟨K, rfl⟩ := Int.eq_ofNat_of_zero_le hk.1
    have hs : sRay W H K = (x, d) := by
      rw [S.hI, S.ew] at h
      simp only [Prod.mk.injEq] at h
      rw [← h.1, ← h.2.1]
    obtain ⟨hx, hd, hg, ho⟩ := sight_back W H K S.hW S.hH (by omega) x d hs
    refine ⟨hd, ?_, ?_, c.2.2⟩
    · rw [rayN_in S x _ hx (by omega), if_neg (by simp [hg])]
    · rw [outOf_at S x _ hx (by omega)]; exact ho
  · simp at h

/-- Light leaves just where there is no next cell. -/
theorem out_fact {wd : Int} {cs : List (Int × Int)} {x d : Int} (hk : okG wd cs = true) (hx : 0 ≤ x ∧ x < (cs.length : Int)) (hd : 0 ≤ d ∧ d ≤ 3) :
    (∃ x2 d2, rayN wd cs x d = (x2, d2, true) ∧ outOf wd cs x d = -1) ∨ (rayN wd cs x d = (0, 0, false) ∧ inRay wd cs (outOf wd cs x d) = (x, (d + 2) % 4, true)) := by
  obtain ⟨W, H, S⟩ := siz_of hk
  have e1 : (cs.length : Int) = (W : Int) * (H : Int) := by rw [S.el]; simp
  rw [e1] at hx
  obtain ⟨X, rfl⟩ := Int.eq_ofNat_of_zero_le hx.1
  obtain ⟨D, rfl⟩ := Int.eq_ofNat_of_zero_le hd.1
  have hX : X < W * H := by have := hx.2; exact_mod_cast this
  rcases sight_out W H X D S.hW S.hH hX (by omega) with ⟨g, o⟩ | ⟨g, k, hk, o, s⟩
  · left
    exact ⟨_, _, by rw [rayN_in S _ _ hx hd, if_pos g], by rw [outOf_at S _ _ hx hd]; exact o⟩
  · right
    refine ⟨by rw [rayN_in S _ _ hx hd, if_neg (by simp [g])], ?_⟩
    rw [outOf_at S _ _ hx hd, o, inRay_at S k hk, s]
end Go.Proofs.Ytmnninhifiajhaa
