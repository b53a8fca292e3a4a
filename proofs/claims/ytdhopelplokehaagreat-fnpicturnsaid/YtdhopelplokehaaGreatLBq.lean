/- Of the proof: PGl -/
import Derived.Test.YtdhopelplokehaaGreatLAy
import Derived.Test.YtdhopelplokehaaGreatLBg
import Derived.Test.YtdhopelplokehaaGreatLBk
import Derived.Test.YtdhopelplokehaaGreatLBp
set_option linter.unusedVariables false
namespace Go.Proofs.YtdhopelplokehaaGreat
namespace Sp
open Go.RowKit
theorem ltC_perm {cs : List (Int × Int)} (s : Nat -> Nat) (j x : Nat) (hj : j < cs.length) (hx : x < cs.length) (h : s j = x) : ltC (perm s other cs) (j : Int) = ltC cs (x : Int) := by
 unfold ltC perm
 simp only [Int.toNat_natCast, List.getD_eq_getElem?_getD, List.getElem?_map, List.getElem?_range hj, Option.map_some, Option.getD_some, other, h]
theorem sumL_mv {cs cs' : List (Int × Int)} {sg ka : Int -> Int} (l : List (Int × Int × Int)) (h : ∀ t ∈ l, t.1 = 2 -> ltC cs' (sg t.2.1) = ltC cs t.2.1) : sumL cs' (l.map (mvE sg ka)) = sumL cs l := by
 induction l with
 | nil => rfl
 | cons t r ih =>
  simp only [List.map_cons, sumL]
  rw [ih (fun u hu => h u (by simp [hu]))]
  congr 1
  by_cases c : t.1 = 2
  ·have hq := h t (by simp) c
   have e1 : (mvE sg ka t).2.1 = sg t.2.1 := by simp [mvE, c]
   rw [if_pos (show (mvE sg ka t).1 = 2 from c), if_pos c, e1, hq]; rfl
  ·rw [if_neg (show ¬ (mvE sg ka t).1 = 2 from c), if_neg c]
theorem sym_light {wd wd' : Int} {cs cs' : List (Int × Int)} {sg ta ka : Int -> Int} (S : Sym wd cs wd' cs' sg ta ka) (hlt : ∀ x, 0 <= x /\ x < (cs.length : Int) -> ltC cs' (sg x) = ltC cs x) {k : Int} (hk : inS wd cs k = true) (hk' : inS wd' cs' (ka k) = true) (hr : ∀ x d, inRay wd cs k = (x, d, true) -> inRay wd' cs' (ka k) = (sg x, ta d, true)) :
  lightN wd' cs' (ka k) = lightN wd cs k := by
 obtain ⟨x, d, r1⟩ := inS_ray hk
 have hs := (enough_sight r1).1
 have hT := trail_ok hk
 unfold lightN
 rw [trail_at hk' (hr x d r1), sym_come S 707 x d 64 hs]
 rw [trail_at hk r1] at hT ⊢
 exact sumL_mv _ fun t ht h2 => hlt _ ((lamp_of (inS_ok hk) (hT.ends t ht)).2 h2).1
theorem lt_turn {wd : Int} {cs : List (Int × Int)} {W H : Nat} (S : Siz wd cs W H) (x : Int) (hx : 0 <= x /\ x < (cs.length : Int)) : ltC (perm (turnAt W H) other cs) (tuX W H x) = ltC cs x := by
 have hW := S.hW
 have hH := S.hH
 obtain ⟨X, hX⟩ := Int.eq_ofNat_of_zero_le hx.1
 have h3 : X < W * H := by have := hx.2; rw [hX, S.el] at this; exact_mod_cast this
 subst hX
 obtain ⟨hj, _, hdv, hmd⟩ := turn_lt W H X hW hH h3
 have hinv := (turn_inv W H (X % W * H + H - 1 - X / W) X hW hH hj h3).2 rfl
 have ec : tuX (W : Int) (H : Int) (X : Int) = ((X % W * H + H - 1 - X / W : Nat) : Int) := by
  unfold tuX
  rw [<- Int.natCast_emod, <- Int.natCast_ediv, <- Int.natCast_mul]
  have : X / W <= H - 1 := by omega
  omega
 rw [ec]
 exact ltC_perm _ _ X (by rw [S.el]; exact hj) (by rw [S.el]; exact h3) hinv
theorem lt_flip {wd : Int} {cs : List (Int × Int)} {W H : Nat} (S : Siz wd cs W H) (x : Int) (hx : 0 <= x /\ x < (cs.length : Int)) : ltC (perm (flipAt W) other cs) (flX W x) = ltC cs x := by
 have hW := S.hW
 have hH := S.hH
 obtain ⟨X, hX⟩ := Int.eq_ofNat_of_zero_le hx.1
 have h3 : X < W * H := by have := hx.2; rw [hX, S.el] at this; exact_mod_cast this
 subst hX
 have hmod : (W * H) % W = 0 := Nat.mul_mod_right W H
 obtain ⟨hj, _, hmd⟩ := flip_lt W X (W * H) hW hmod h3
 have hinv := (flip_inv W (X / W * W + W - 1 - X % W) X (W * H) hW hmod hj h3).2 rfl
 have ec : flX (W : Int) (X : Int) = ((X / W * W + W - 1 - X % W : Nat) : Int) := by
  unfold flX
  rw [<- Int.natCast_emod, <- Int.natCast_ediv, <- Int.natCast_mul]
  have : X % W <= W - 1 := by omega
  omega
 rw [ec]
 exact ltC_perm _ _ X (by rw [S.el]; exact hj) (by rw [S.el]; exact h3) hinv
theorem light_turn {wd : Int} {cs : List (Int × Int)} {W H : Nat} (S : Siz wd cs W H) (S' : Siz (H : Int) (perm (turnAt W H) other cs) H W) {k : Int} (hk : inS wd cs k = true) :
  (0 <= turnK wd cs k /\ turnK wd cs k < 2 * ((W : Int) + (H : Int))) /\ lightN (H : Int) (perm (turnAt W H) other cs) (turnK wd cs k) = lightN wd cs k := by
 have hW := S.hW
 have hH := S.hH
 have hk2 := hk
 simp only [inS, decide_eq_true_eq, S.em] at hk2
 obtain ⟨K, rfl⟩ := Int.eq_ofNat_of_zero_le hk2.1
 have hM : (0 : Int) < 2 * ((W : Int) + (H : Int)) := by omega
 have em2 : manyG (H : Int) (perm (turnAt W H) other cs) = 2 * ((W : Int) + (H : Int)) := by first | (rw [S'.em]; omega) | rw [S'.em]
 have ek := tuK_at S (K : Int) hk2
 have r0 : 0 <= turnK wd cs (K : Int) /\ turnK wd cs (K : Int) < 2 * ((W : Int) + (H : Int)) := by
  rw [ek]; exact ⟨Int.emod_nonneg _ (by omega), Int.emod_lt_of_pos _ hM⟩
 have hk' : inS (H : Int) (perm (turnAt W H) other cs) (turnK wd cs (K : Int)) = true := by unfold inS; rw [em2]; exact decide_eq_true r0
 refine ⟨r0, sym_light (turn_sym S S') (lt_turn S) hk hk' ?_⟩
 intro x d hr
 rw [inRay_at S K (by omega)] at hr
 simp only [Prod.mk.injEq] at hr
 obtain ⟨K2, hK2⟩ := Int.eq_ofNat_of_zero_le r0.1
 rw [hK2, inRay_at S' K2 (by omega)]
 have sr := sr_fin ⟨W - 1, by omega⟩ ⟨H - 1, by omega⟩ ⟨K, by omega⟩ (by simp only [show W - 1 + 1 = W by omega, show H - 1 + 1 = H by omega]; omega)
 simp only [show W - 1 + 1 = W by omega, show H - 1 + 1 = H by omega, wI] at sr
 have s2 := sr.1
 rw [<- ek, hK2] at s2
 rw [s2, hr.1, hr.2.1]
theorem light_flip {wd : Int} {cs : List (Int × Int)} {W H : Nat} (S : Siz wd cs W H) (S' : Siz (W : Int) (perm (flipAt W) other cs) W H) {k : Int} (hk : inS wd cs k = true) :
  (0 <= flipK wd cs k /\ flipK wd cs k < 2 * ((W : Int) + (H : Int))) /\ lightN (W : Int) (perm (flipAt W) other cs) (flipK wd cs k) = lightN wd cs k := by
 have hW := S.hW
 have hH := S.hH
 have hk2 := hk
 simp only [inS, decide_eq_true_eq, S.em] at hk2
 obtain ⟨K, rfl⟩ := Int.eq_ofNat_of_zero_le hk2.1
 have hM : (0 : Int) < 2 * ((W : Int) + (H : Int)) := by omega
 have em2 : manyG (W : Int) (perm (flipAt W) other cs) = 2 * ((W : Int) + (H : Int)) := by first | (rw [S'.em]; omega) | rw [S'.em]
 have ek := flK_at S (K : Int) hk2
 have r0 : 0 <= flipK wd cs (K : Int) /\ flipK wd cs (K : Int) < 2 * ((W : Int) + (H : Int)) := by
  rw [ek]; exact ⟨Int.emod_nonneg _ (by omega), Int.emod_lt_of_pos _ hM⟩
 have hk' : inS (W : Int) (perm (flipAt W) other cs) (flipK wd cs (K : Int)) = true := by unfold inS; rw [em2]; exact decide_eq_true r0
 refine ⟨r0, sym_light (flip_sym S S') (lt_flip S) hk hk' ?_⟩
 intro x d hr
 rw [inRay_at S K (by omega)] at hr
 simp only [Prod.mk.injEq] at hr
 obtain ⟨K2, hK2⟩ := Int.eq_ofNat_of_zero_le r0.1
 rw [hK2, inRay_at S' K2 (by omega)]
 have sr := sr_fin ⟨W - 1, by omega⟩ ⟨H - 1, by omega⟩ ⟨K, by omega⟩ (by simp only [show W - 1 + 1 = W by omega, show H - 1 + 1 = H by omega]; omega)
 simp only [show W - 1 + 1 = W by omega, show H - 1 + 1 = H by omega, wI] at sr
 have s2 := sr.2
 rw [<- ek, hK2] at s2
 rw [s2, hr.1, hr.2.1]
def updC (f : Nat -> Int × Int -> Int × Int) (cs : List (Int × Int)) (n : Nat) : List (Int × Int) := (List.range cs.length).map fun i => if i < n then f i (cs.getD i (0, 0)) else cs.getD i (0, 0)
theorem updC_len (f : Nat -> Int × Int -> Int × Int) (cs : List (Int × Int)) (n : Nat) : (updC f cs n).length = cs.length := by simp [updC]
theorem updC_at (f : Nat -> Int × Int -> Int × Int) (cs : List (Int × Int)) (n : Nat) {j : Nat} (hj : j < cs.length) : (updC f cs n).getD j (0, 0) = if j < n then f j (cs.getD j (0, 0)) else cs.getD j (0, 0) := by
 unfold updC
 simp only [List.getD_eq_getElem?_getD, List.getElem?_map, List.getElem?_range hj, Option.map_some, Option.getD_some]
theorem ext_getD {a b : List (Int × Int)} (hl : a.length = b.length) (h : ∀ i, i < a.length -> a.getD i (0, 0) = b.getD i (0, 0)) : a = b := by
 refine List.ext_getElem hl fun i h1 h2 => ?_
 have := h i h1
 simpa only [List.getD_eq_getElem?_getD, List.getElem?_eq_getElem h1, List.getElem?_eq_getElem h2, Option.getD_some] using this
theorem updC_zero (f : Nat -> Int × Int -> Int × Int) (cs : List (Int × Int)) : updC f cs 0 = cs :=
 ext_getD (updC_len f cs 0) fun i hi => by rw [updC_at f cs 0 (by rw [updC_len] at hi; exact hi), if_neg (by omega)]
theorem updC_set (f : Nat -> Int × Int -> Int × Int) (cs : List (Int × Int)) {i : Nat} (hi : i < cs.length) : (updC f cs i).set i (f i (cs.getD i (0, 0))) = updC f cs (i + 1) := by
 refine ext_getD (by simp [updC_len]) fun j hj => ?_
 have hj' : j < cs.length := by simpa [updC_len] using hj
 rw [updC_at f cs (i + 1) hj']
 by_cases e : j = i
 ·subst e
  rw [if_pos (by omega), List.getD_eq_getElem?_getD, List.getElem?_set_self (by rw [updC_len]; exact hi)]
  rfl
 ·rw [List.getD_eq_getElem?_getD, List.getElem?_set_ne (Ne.symm e), <- List.getD_eq_getElem?_getD, updC_at f cs i hj']
  by_cases c : j < i
  ·rw [if_pos c, if_pos (by omega)]
  ·rw [if_neg c, if_neg (by omega)]
theorem updC_same (f : Nat -> Int × Int -> Int × Int) (cs : List (Int × Int)) {i : Nat} (hi : i < cs.length) (h : f i (cs.getD i (0, 0)) = cs.getD i (0, 0)) : updC f cs i = updC f cs (i + 1) := by
 refine ext_getD (by simp [updC_len]) fun j hj => ?_
 have hj' : j < cs.length := by simpa [updC_len] using hj
 rw [updC_at f cs i hj', updC_at f cs (i + 1) hj']
 by_cases e : j = i
 ·subst e
  rw [if_neg (by omega), if_pos (by omega), h]
 ·by_cases c : j < i
  ·rw [if_pos c, if_pos (by omega)]
  ·rw [if_neg c, if_neg (by omega)]
theorem updC_ok {wd : Int} {cs : List (Int × Int)} (f : Nat -> Int × Int -> Int × Int) (n : Nat) (h : okG wd cs = true) (hf : ∀ i c, okC c.1 c.2 = true -> okC (f i c).1 (f i c).2 = true) : okG wd (updC f cs n) = true := by
 simp only [okG, Bool.and_eq_true, List.all_eq_true, updC_len] at h ⊢
 refine ⟨h.1, fun c hc => ?_⟩
 unfold updC at hc
 obtain ⟨i, hi, rfl⟩ := List.mem_map.1 hc
 have hi' : i < cs.length := List.mem_range.1 hi
 have hq : okC (cs.getD i (0, 0)).1 (cs.getD i (0, 0)).2 = true := by
  have e : cs.getD i (0, 0) = cs[i] := by rw [List.getD_eq_getElem?_getD, List.getElem?_eq_getElem hi', Option.getD_some]
  rw [e]
  exact h.2 _ (List.getElem_mem hi')
 split
 ·exact hf _ _ hq
 ·exact hq
theorem updC_get (f : Nat -> Int × Int -> Int × Int) (cs : List (Int × Int)) (j : Nat) : (updC f cs cs.length).getD j (0, 0) = if j < cs.length then f j (cs.getD j (0, 0)) else (0, 0) := by
 by_cases hj : j < cs.length
 ·rw [updC_at f cs _ hj, if_pos hj, if_pos hj]
 ·rw [if_neg hj, List.getD_eq_getElem?_getD, List.getElem?_eq_none (by rw [updC_len]; omega)]
  rfl
def lampL (t : Int) (_ : Nat) (c : Int × Int) : Int × Int := if c.1 = 7 then (7, t) else c
def sum1 : List (Int × Int × Int) -> Int
 | [] => 0
 | t :: r => (if t.1 = 2 then t.2.2 else 0) + sum1 r
theorem sumL_lamps {cs : List (Int × Int)} (t : Int) (es : List (Int × Int × Int)) (h : ∀ u ∈ es, u.1 = 2 -> ltC cs u.2.1 = t) : sumL cs es = sum1 es * t := by
 induction es with
 | nil => simp [sumL, sum1]
 | cons u r ih =>
  simp only [sumL, sum1]
  rw [ih (fun v hv => h v (by simp [hv])), Int.add_mul]
  congr 1
  by_cases c : u.1 = 2
  ·rw [if_pos c, if_pos c, h u (by simp) c]
  ·rw [if_neg c, if_neg c, Int.zero_mul]
theorem sum1_le {cs : List (Int × Int)} (es : List (Int × Int × Int)) (h : ∀ u ∈ es, LampOk cs u) : 0 <= sum1 es /\ sum1 es <= sumL cs es := by
 induction es with
 | nil => simp [sumL, sum1]
 | cons u r ih =>
  obtain ⟨h1, h2⟩ := h u (by simp)
  have h3 := ih (fun v hv => h v (by simp [hv]))
  simp only [sumL, sum1]
  split
  ·next q =>
   obtain ⟨_, q1, _⟩ := h2 q
   have m1 : u.2.2 * 1 <= u.2.2 * ltC cs u.2.1 := Int.mul_le_mul_of_nonneg_left q1 (by omega)
   omega
  ·omega
theorem end_lamp {wd : Int} {cs : List (Int × Int)} {k : Int} {u : Int × Int × Int} (hu : u ∈ (trailT wd cs k).2) (h2 : u.1 = 2) : (0 <= u.2.1 /\ u.2.1 < (cs.length : Int)) /\ (cs.getD u.2.1.toNat (0, 0)).1 = 7 := by
 rcases ((ends_known (rfl : trailT wd cs k = trailT wd cs k)).1 u hu).2 with ⟨q, _⟩ | ⟨hx, q | q | q⟩
 ·omega
 ·omega
 ·exact ⟨hx, q.2⟩
 ·omega
theorem light_lamps {wd : Int} {cs : List (Int × Int)} (hok : okG wd cs = true) (t : Int) (ht : 1 <= t /\ t <= 9) (k : Int) : okG wd (updC (lampL t) cs cs.length) = true /\ lightN wd (updC (lampL t) cs cs.length) k = sum1 (trailT wd cs k).2 * t := by
 have hok' : okG wd (updC (lampL t) cs cs.length) = true := updC_ok _ _ hok fun i c hc => by
  unfold lampL
  split
  ·simp [okC]; omega
  ·exact hc
 refine ⟨hok', ?_⟩
 have hT : trailT wd (updC (lampL t) cs cs.length) k = trailT wd cs k := by
  refine trail_same hok hok' (updC_len _ _ _) k (fun u hu => ?_)
  unfold kd
  rw [updC_get]
  by_cases c : u.1.toNat < cs.length
  ·rw [if_pos c]
   unfold lampL
   split
   ·next q => exact q.symm
   ·rfl
  ·rw [if_neg c, List.getD_eq_getElem?_getD, List.getElem?_eq_none (by omega)]
   rfl
 unfold lightN
 rw [hT]
 refine sumL_lamps t _ (fun u hu h2 => ?_)
 obtain ⟨hx, h7⟩ := end_lamp hu h2
 unfold ltC
 rw [updC_get, if_pos (by omega)]
 unfold lampL
 rw [if_pos h7]
theorem times_light {wd : Int} {cs : List (Int × Int)} (hok : okG wd cs = true) (t : Int) (ht : 1 <= t /\ t <= 9) (k : Int) :
  lightN wd (updC (lampL 1) cs cs.length) k * t = lightN wd (updC (lampL t) cs cs.length) k /\ lightN wd (updC (lampL 1) cs cs.length) k <= lightN wd cs k := by
 obtain ⟨_, e1⟩ := light_lamps hok 1 (by omega) k
 obtain ⟨_, et⟩ := light_lamps hok t ht k
 refine ⟨by rw [e1, et, Int.mul_one], ?_⟩
 rw [e1, Int.mul_one]
 exact (sum1_le _ fun u hu => lamp_of hok ((ends_known (rfl : trailT wd cs k = trailT wd cs k)).1 u hu)).2
def oneL (A : Nat) (i : Nat) (c : Int × Int) : Int × Int := if ¬ i = A /\ c.1 = 7 then (1, 0) else c
def wallB (A : Nat) (t : Int × Int × Int) : Int × Int × Int := if t.1 = 2 /\ ¬ t.2.1.toNat = A then (1, t.2.1, t.2.2) else t
def wallBT (A : Nat) (t : Tr) : Tr := (t.1, t.2.map (wallB A))
theorem wallBT_app (A : Nat) (a b : Tr) : wallBT A (tapp a b) = tapp (wallBT A a) (wallBT A b) := by simp [wallBT, tapp]
theorem wallBT_end (A : Nat) (k x : Int) (wt : Nat) : wallBT A (endT k x wt) = endT (if k = 2 /\ ¬ x.toNat = A then 1 else k) x wt := by
 unfold wallBT endT
 by_cases h : wt = 0
 ·simp [h]
 ·by_cases c : k = 2 /\ ¬ x.toNat = A
  ·simp [h, wallB, c]
  ·rw [if_neg c]
   simp only [h, if_false, List.map_cons, List.map_nil, wallB]
   rw [if_neg c]
theorem lv_wallB {wd : Int} {cs cs' : List (Int × Int)} {A : Nat} (h : okG wd cs = true) (h' : okG wd cs' = true) (hl : cs'.length = cs.length) {f : Nat} (ih : ∀ x d wt, comeT wd cs' f x d wt = wallBT A (comeT wd cs f x d wt)) (x e : Int) (n : Nat) :
  lvT wd cs' (comeT wd cs' f) x e n = wallBT A (lvT wd cs (comeT wd cs f) x e n) := by
 unfold lvT
 rw [rayN_same h h' hl, outOf_same h h' hl]
 by_cases h0 : n = 0
 ·rw [if_pos h0, if_pos h0]; rfl
 ·rw [if_neg h0, if_neg h0]
  by_cases c : (rayN wd cs x e).2.2 = true
  ·rw [if_pos c, if_pos c]; exact ih _ _ _
  ·rw [if_neg c, if_neg c, wallBT_end, if_neg (by omega)]
theorem come_wallB {wd : Int} {cs cs' : List (Int × Int)} {A : Nat} (h : okG wd cs = true) (h' : okG wd cs' = true) (hl : cs'.length = cs.length) (hk : ∀ x : Int, kd cs' x = if ¬ x.toNat = A /\ kd cs x = 7 then 1 else kd cs x) : ∀ f x d wt, comeT wd cs' f x d wt = wallBT A (comeT wd cs f x d wt) := by
 intro f
 induction f with
 | zero => intro x d wt; rfl
 | succ f ih =>
  intro x d wt
  simp only [comeT]
  by_cases h0 : wt = 0
  ·rw [if_pos h0, if_pos h0]; rfl
  ·rw [if_neg h0, if_neg h0, wallBT_app]
   have e0 : wallBT A ([(x, d, (wt : Int))], []) = ([(x, d, (wt : Int))], []) := by simp [wallBT]
   rw [e0]
   congr 1
   unfold inCell
   by_cases k7 : kd cs x = 7
   ·by_cases kA : x.toNat = A
    ·have e : kd cs' x = 7 := by rw [hk x, if_neg (fun q => q.1 kA)]; exact k7
     rw [e, k7, if_neg (by omega), if_pos rfl, if_neg (by omega), if_pos rfl, wallBT_end, if_neg (fun q => q.2 kA)]
    ·have e : kd cs' x = 1 := by rw [hk x, if_pos ⟨kA, k7⟩]
     rw [e, k7, if_pos rfl, if_neg (by omega), if_pos rfl, wallBT_end, if_pos ⟨rfl, kA⟩]
   have e : kd cs' x = kd cs x := by rw [hk x, if_neg (fun q => k7 q.2)]
   rw [e]
   by_cases k1 : kd cs x = 1
   ·rw [if_pos k1, if_pos k1, wallBT_end, if_neg (by omega)]
   rw [if_neg k1, if_neg k1, if_neg k7, if_neg k7]
   by_cases k6 : kd cs x = 6
   ·rw [if_pos k6, if_pos k6, wallBT_app, wallBT_end, if_neg (by omega), lv_wallB h h' hl ih]
   rw [if_neg k6, if_neg k6]
   by_cases k45 : kd cs x = 4 \/ kd cs x = 5
   ·rw [if_pos k45, if_pos k45, wallBT_app, wallBT_app, wallBT_end, if_neg (by omega), lv_wallB h h' hl ih, lv_wallB h h' hl ih]
   ·rw [if_neg k45, if_neg k45, lv_wallB h h' hl ih]
theorem oneL_ok {wd : Int} {cs : List (Int × Int)} (A : Nat) (n : Nat) (hok : okG wd cs = true) : okG wd (updC (oneL A) cs n) = true := updC_ok _ _ hok fun i c hc => by
 unfold oneL
 split
 ·decide
 ·exact hc
def sumAq (X : Int) : List (Int × Int × Int) -> Int
 | [] => 0
 | t :: r => (if t.1 = 2 /\ t.2.1 = X then t.2.2 else 0) + sumAq X r
theorem sumL_wallB {cs : List (Int × Int)} {A : Nat} {xs : List (Int × Int)} (hA : ltC xs (A : Int) = ltC cs (A : Int)) (es : List (Int × Int × Int)) (h : ∀ u ∈ es, u.1 = 2 -> 0 <= u.2.1) : sumL xs (es.map (wallB A)) = sumAq (A : Int) es * ltC cs (A : Int) := by
 induction es with
 | nil => simp [sumL, sumAq]
 | cons u r ih =>
  have h2 := h u (by simp)
  simp only [List.map_cons, sumL, sumAq]
  rw [ih (fun v hv => h v (by simp [hv])), Int.add_mul]
  congr 1
  by_cases c : u.1 = 2
  ·have h0 := h2 c
   by_cases e : u.2.1.toNat = A
   ·have e' : u.2.1 = (A : Int) := by omega
    have ew : wallB A u = u := by unfold wallB; rw [if_neg (fun q => q.2 e)]
    rw [ew, if_pos c, if_pos ⟨c, e'⟩, e', hA]
   ·have ew : (wallB A u).1 = 1 := by unfold wallB; rw [if_pos ⟨c, e⟩]
    rw [if_neg (by omega), if_neg (fun q => e (by omega)), Int.zero_mul]
  ·have ew : wallB A u = u := by unfold wallB; rw [if_neg (fun q => c q.1)]
   rw [ew, if_neg c, if_neg (fun q => c q.1), Int.zero_mul]
theorem light_one {wd : Int} {cs : List (Int × Int)} (hok : okG wd cs = true) (A : Nat) (hA : A < cs.length) {k : Int} (hk : inS wd cs k = true) : lightN wd (updC (oneL A) cs cs.length) k = sumAq (A : Int) (trailT wd cs k).2 * ltC cs (A : Int) := by
 have hok' := oneL_ok A cs.length hok
 have hl := updC_len (oneL A) cs cs.length
 obtain ⟨x, d, hr⟩ := inS_ray hk
 have hT : trailT wd (updC (oneL A) cs cs.length) k = wallBT A (trailT wd cs k) := by
  rw [trail_at hk hr, trail_at ((inS_same hok hok' hl k).trans hk) ((inRay_same hok hok' hl k).trans hr)]
  refine come_wallB hok hok' hl (fun y => ?_) 707 x d 64
  unfold kd
  rw [updC_get]
  by_cases c : y.toNat < cs.length
  ·rw [if_pos c]
   unfold oneL
   split <;> rfl
  ·rw [if_neg c, List.getD_eq_getElem?_getD, List.getElem?_eq_none (by omega)]
   simp
 unfold lightN
 rw [hT]
 refine sumL_wallB ?_ _ (fun u hu h2 => (end_lamp hu h2).1.1)
 unfold ltC
 rw [Int.toNat_natCast, updC_get, if_pos hA]
 unfold oneL
 rw [if_neg (fun q => q.1 rfl)]
def sumK (wd : Int) (cs : List (Int × Int)) (k : Int) : Nat -> Int
 | 0 => 0
 | n + 1 => sumK wd cs k n + if (cs.getD n (0, 0)).1 = 7 then lightN wd (updC (oneL n) cs cs.length) k else 0
theorem sumK_in (wd : Int) (cs : List (Int × Int)) (k : Int) (n : Nat) : 0 <= sumK wd cs k n /\ sumK wd cs k n <= 576 * (n : Int) := by
 induction n with
 | zero => simp [sumK]
 | succ n ih =>
  have := light_in wd (updC (oneL n) cs cs.length) k
  simp only [sumK]
  split <;> omega
def sumTil (cs : List (Int × Int)) (es : List (Int × Int × Int)) : Nat -> Int
 | 0 => 0
 | n + 1 => sumTil cs es n + if (cs.getD n (0, 0)).1 = 7 then sumAq (n : Int) es * ltC cs (n : Int) else 0
theorem sumTil_nil (cs : List (Int × Int)) (n : Nat) : sumTil cs [] n = 0 := by
 induction n with
 | zero => rfl
 | succ n ih => simp [sumTil, ih, sumAq]
theorem sumTil_cons (cs : List (Int × Int)) (t : Int × Int × Int) (r : List (Int × Int × Int)) (n : Nat) : sumTil cs (t :: r) n = (if t.1 = 2 /\ 0 <= t.2.1 /\ t.2.1 < (n : Int) /\ (cs.getD t.2.1.toNat (0, 0)).1 = 7 then t.2.2 * ltC cs t.2.1 else 0) + sumTil cs r n := by
 induction n with
 | zero => rw [if_neg (by omega)]; rfl
 | succ n ih =>
  simp only [sumTil]
  rw [ih]
  simp only [sumAq]
  by_cases c : t.1 = 2 /\ t.2.1 = (n : Int)
  ·rw [if_pos c, if_neg (by omega)]
   by_cases h7 : (cs.getD n (0, 0)).1 = 7
   ·rw [if_pos h7, if_pos h7, if_pos ⟨c.1, by omega, by omega, by rw [c.2, Int.toNat_natCast]; exact h7⟩, c.2, Int.add_mul]
    omega
   ·rw [if_neg h7, if_neg h7, if_neg (fun q => h7 (by have := q.2.2.2; rw [c.2, Int.toNat_natCast] at this; exact this))]
    omega
  ·rw [if_neg c, Int.zero_add]
   by_cases d : t.1 = 2 /\ 0 <= t.2.1 /\ t.2.1 < (n : Int) /\ (cs.getD t.2.1.toNat (0, 0)).1 = 7
   ·have e1 : t.1 = 2 /\ 0 <= t.2.1 /\ t.2.1 < ((n + 1 : Nat) : Int) /\ (cs.getD t.2.1.toNat (0, 0)).1 = 7 := ⟨d.1, d.2.1, by have := d.2.2.1; omega, d.2.2.2⟩
    rw [if_pos d, if_pos e1]
    exact Int.add_assoc _ _ _
   ·have e1 : ¬ (t.1 = 2 /\ 0 <= t.2.1 /\ t.2.1 < ((n + 1 : Nat) : Int) /\ (cs.getD t.2.1.toNat (0, 0)).1 = 7) := fun q => d ⟨q.1, q.2.1, by have h1 := q.2.2.1; have h2 : ¬ t.2.1 = (n : Int) := fun e => c ⟨q.1, e⟩; omega, q.2.2.2⟩
    rw [if_neg d, if_neg e1]
    exact Int.add_assoc _ _ _
theorem sumTil_all (cs : List (Int × Int)) (es : List (Int × Int × Int)) (h : ∀ u ∈ es, u.1 = 2 -> (0 <= u.2.1 /\ u.2.1 < (cs.length : Int)) /\ (cs.getD u.2.1.toNat (0, 0)).1 = 7) : sumTil cs es cs.length = sumL cs es := by
 induction es with
 | nil => rw [sumTil_nil]; rfl
 | cons t r ih =>
  rw [sumTil_cons, ih (fun u hu => h u (by simp [hu]))]
  simp only [sumL]
  congr 1
  by_cases c : t.1 = 2
  ·obtain ⟨q1, q2⟩ := h t (by simp) c
   rw [if_pos ⟨c, q1.1, q1.2, q2⟩, if_pos c]
  ·rw [if_neg (fun q => c q.1), if_neg c]
theorem sumK_all {wd : Int} {cs : List (Int × Int)} {k : Int} (hk : inS wd cs k = true) : sumK wd cs k cs.length = lightN wd cs k := by
 have hok := inS_ok hk
 have key : ∀ n, n <= cs.length -> sumK wd cs k n = sumTil cs (trailT wd cs k).2 n := by
  intro n
  induction n with
  | zero => intro _; rfl
  | succ n ih =>
   intro hn
   simp only [sumK, sumTil]
   rw [ih (by omega), light_one hok n (by omega) hk]
 rw [key _ (Nat.le_refl _)]
 exact sumTil_all cs _ fun u hu h2 => end_lamp hu h2
end Sp
end Go.Proofs.YtdhopelplokehaaGreat
