/-
  Several texts in one: Tp, Ma, Mb, Xq, Xr, Xs.
-/
import Derived.Test.YtmnninhifiajhaaJa
import Derived.Test.YtmnninhifiajhaaJp

/-
  A cell whose mirror or glass leans the other way, in plain numbers.
-/
namespace Go.Proofs.Ytmnninhifiajhaa

def otherK (k : Int) : Int := if k = 2 then 3 else if k = 3 then 2 else if k = 4 then 5 else if k = 5 then 4 else k
/-- A cell that leans the other way. -/
def other (c : Int × Int) : Int × Int := (otherK c.1, c.2)

end Go.Proofs.Ytmnninhifiajhaa

/-
  Plain facts on turning and mirroring a list of cells: no program in sight.
-/
namespace Go.Proofs.Ytmnninhifiajhaa
set_option linter.unusedVariables false

/-- From which place a place of the turned grid comes: W wide, H high. -/
def turnAt (W H j : Nat) : Nat := (H - 1 - j % H) * W + j / H
def turnC (W H : Nat) (cs : List (Int × Int)) : List (Int × Int) := (List.range cs.length).map fun j => other (cs.getD (turnAt W H j) (0, 0))
def flipAt (W j : Nat) : Nat := j / W * W + (W - 1 - j % W)
def flipC (W : Nat) (cs : List (Int × Int)) : List (Int × Int) := (List.range cs.length).map fun j => other (cs.getD (flipAt W j) (0, 0))
/-- The turned grid: its width and its cells. -/
def turnG (wd : Int) (cs : List (Int × Int)) : Int × List (Int × Int) := if okG wd cs then ((cs.length : Int) / wd, turnC wd.toNat (cs.length / wd.toNat) cs) else (0, [])
def flipG (wd : Int) (cs : List (Int × Int)) : Int × List (Int × Int) := if okG wd cs then (wd, flipC wd.toNat cs) else (0, [])

theorem scatter (n k : Nat) (src f : Nat → Nat) (g : Nat → Int × Int) (z : Int × Int) (hk : k < n) (hf : f k < n) (h : ∀ j, j < n → (src j = k ↔ j = f k)) :
    ((List.range n).map fun j => if src j < k then g (src j) else z).set (f k) (g k) = (List.range n).map fun j => if src j < k + 1 then g (src j) else z := by
  apply List.ext_getElem
  · simp
  · intro j h1 h2
    have hj : j < n := by simpa using h2
    rw [List.getElem_set]
    simp only [List.getElem_map, List.getElem_range]
    have hh := h j hj
    by_cases e : f k = j
    · have e2 : src j = k := hh.2 e.symm
      rw [if_pos e, if_pos (by omega), e2]
    · have e2 : src j ≠ k := fun x => e (hh.1 x).symm
      rw [if_neg e]
      by_cases e3 : src j < k
      · rw [if_pos e3, if_pos (by omega)]
      · rw [if_neg e3, if_neg (by omega)]

theorem turn_inv (W H j k : Nat) (hW : 1 ≤ W ∧ W ≤ 5) (hH : 1 ≤ H ∧ H ≤ 5) (hj : j < W * H) (hk : k < W * H) : (turnAt W H j = k ↔ j = k % W * H + H - 1 - k / W) := by
  obtain ⟨a, b⟩ := hW
  obtain ⟨c, d⟩ := hH
  unfold turnAt
  rcases (show W = 1 ∨ W = 2 ∨ W = 3 ∨ W = 4 ∨ W = 5 by omega) with rfl | rfl | rfl | rfl | rfl <;>
  rcases (show H = 1 ∨ H = 2 ∨ H = 3 ∨ H = 4 ∨ H = 5 by omega) with rfl | rfl | rfl | rfl | rfl <;> omega
theorem turn_lt (W H k : Nat) (hW : 1 ≤ W ∧ W ≤ 5) (hH : 1 ≤ H ∧ H ≤ 5) (hk : k < W * H) : k % W * H + H - 1 - k / W < W * H ∧ turnAt W H k < W * H ∧ k / W < H ∧ k % W < W := by
  obtain ⟨a, b⟩ := hW
  obtain ⟨c, d⟩ := hH
  unfold turnAt
  rcases (show W = 1 ∨ W = 2 ∨ W = 3 ∨ W = 4 ∨ W = 5 by omega) with rfl | rfl | rfl | rfl | rfl <;>
  rcases (show H = 1 ∨ H = 2 ∨ H = 3 ∨ H = 4 ∨ H = 5 by omega) with rfl | rfl | rfl | rfl | rfl <;> omega
theorem flip_inv (W j k n : Nat) (hW : 1 ≤ W ∧ W ≤ 5) (hn : n % W = 0) (hj : j < n) (hk : k < n) : (flipAt W j = k ↔ j = k / W * W + W - 1 - k % W) := by
  obtain ⟨a, b⟩ := hW
  unfold flipAt
  rcases (show W = 1 ∨ W = 2 ∨ W = 3 ∨ W = 4 ∨ W = 5 by omega) with rfl | rfl | rfl | rfl | rfl <;> omega
theorem flip_lt (W k n : Nat) (hW : 1 ≤ W ∧ W ≤ 5) (hn : n % W = 0) (hk : k < n) : k / W * W + W - 1 - k % W < n ∧ flipAt W k < n ∧ k % W < W := by
  obtain ⟨a, b⟩ := hW
  unfold flipAt
  rcases (show W = 1 ∨ W = 2 ∨ W = 3 ∨ W = 4 ∨ W = 5 by omega) with rfl | rfl | rfl | rfl | rfl <;> omega

end Go.Proofs.Ytmnninhifiajhaa

/-
  Plain facts: mirrored twice a grid is as it was; turned and mirrored is mirrored and turned three times; both stay ok.
-/
namespace Go.Proofs.Ytmnninhifiajhaa
set_option linter.unusedVariables false

def perm (s : Nat → Nat) (f : Int × Int → Int × Int) (cs : List (Int × Int)) : List (Int × Int) := (List.range cs.length).map fun j => f (cs.getD (s j) (0, 0))

theorem perm_len (s : Nat → Nat) (f : Int × Int → Int × Int) (cs : List (Int × Int)) : (perm s f cs).length = cs.length := by simp [perm]
theorem perm_perm (s t : Nat → Nat) (f g : Int × Int → Int × Int) (cs : List (Int × Int)) (hs : ∀ j, j < cs.length → s j < cs.length) : perm s f (perm t g cs) = perm (fun j => t (s j)) (fun c => f (g c)) cs := by
  unfold perm
  rw [List.length_map, List.length_range]
  apply List.map_congr_left
  intro j hj
  have := hs j (List.mem_range.1 hj)
  simp [this]
theorem perm_congr (s t : Nat → Nat) (f g : Int × Int → Int × Int) (cs : List (Int × Int)) (hs : ∀ j, j < cs.length → s j = t j) (hf : ∀ c, f c = g c) : perm s f cs = perm t g cs := by
  unfold perm
  apply List.map_congr_left
  intro j hj
  rw [hs j (List.mem_range.1 hj), hf]
theorem perm_id (cs : List (Int × Int)) : perm (fun j => j) (fun c => c) cs = cs := by
  unfold perm
  apply List.ext_getElem
  · simp
  · intro j h1 h2
    simp [h2]
theorem okC_other (k l : Int) : okC (otherK k) l = okC k l := by
  by_cases h2 : k = 2
  · subst h2; simp [otherK, okC]
  by_cases h3 : k = 3
  · subst h3; simp [otherK, okC]
  by_cases h4 : k = 4
  · subst h4; simp [otherK, okC]
  by_cases h5 : k = 5
  · subst h5; simp [otherK, okC]
  simp [otherK, h2, h3, h4, h5]
theorem perm_all (s : Nat → Nat) (cs : List (Int × Int)) (hs : ∀ j, j < cs.length → s j < cs.length) (h : (cs.all fun c => okC c.1 c.2) = true) : ((perm s other cs).all fun c => okC c.1 c.2) = true := by
  rw [List.all_eq_true] at h ⊢
  intro c hc
  simp only [perm, List.mem_map, List.mem_range] at hc
  obtain ⟨j, hj, rfl⟩ := hc
  have hl := hs j hj
  have := h cs[s j] (List.getElem_mem hl)
  have e : cs.getD (s j) (0, 0) = cs[s j] := by simp [hl]
  rw [e]
  simp only [other]
  rw [okC_other]
  exact this
theorem other_other (c : Int × Int) : other (other c) = c := by
  obtain ⟨k, l⟩ := c
  simp only [other, otherK, Prod.mk.injEq, and_true]
  by_cases h2 : k = 2
  · simp [h2]
  by_cases h3 : k = 3
  · simp [h3]
  by_cases h4 : k = 4
  · simp [h4]
  by_cases h5 : k = 5
  · simp [h5]
  simp [h2, h3, h4, h5]

theorem turnC_perm (W H : Nat) (cs : List (Int × Int)) : turnC W H cs = perm (turnAt W H) other cs := rfl
theorem flipC_perm (W : Nat) (cs : List (Int × Int)) : flipC W cs = perm (flipAt W) other cs := rfl

theorem ok_of_size (W H : Nat) (xs : List (Int × Int)) (hW : 1 ≤ W ∧ W ≤ 5) (hH : 1 ≤ H ∧ H ≤ 5) (hl : xs.length = W * H) (hok : (xs.all fun c => okC c.1 c.2) = true) : okG (W : Int) xs = true := by
  refine okG_yes _ _ ?_ hok
  simp only [sizeG, decide_eq_true_eq, hl]
  obtain ⟨a, b⟩ := hW
  obtain ⟨c, d⟩ := hH
  rcases (show W = 1 ∨ W = 2 ∨ W = 3 ∨ W = 4 ∨ W = 5 by omega) with rfl | rfl | rfl | rfl | rfl <;> omega

theorem ok_all (wd : Int) (cs : List (Int × Int)) (h : okG wd cs = true) : (cs.all fun c => okC c.1 c.2) = true := by
  simp only [okG, Bool.and_eq_true] at h
  exact h.2

/-- The turned grid of an ok grid: its width, its cells, that it is ok. -/
theorem turnG_ok (W H : Nat) (cs : List (Int × Int)) (hok : okG (W : Int) cs = true) (hW : 1 ≤ W ∧ W ≤ 5) (hH : 1 ≤ H ∧ H ≤ 5) (hl : cs.length = W * H) : turnG (W : Int) cs = ((H : Int), perm (turnAt W H) other cs) ∧ okG (H : Int) (perm (turnAt W H) other cs) = true := by
  have hd : cs.length / W = H := by rw [hl]; exact Nat.mul_div_cancel_left H (by omega)
  refine ⟨?_, ?_⟩
  · have e : (cs.length : Int) / (W : Int) = (H : Int) := by rw [← hd]; simp
    simp only [turnG, hok, if_true, Int.toNat_natCast, hd, e, turnC_perm]
  · refine ok_of_size H W _ hH hW (by rw [perm_len, hl, Nat.mul_comm]) (perm_all _ _ (fun j hj => ?_) (ok_all _ _ hok))
    rw [hl] at hj ⊢
    exact (turn_lt W H j hW hH hj).2.1
theorem flipG_ok (W H : Nat) (cs : List (Int × Int)) (hok : okG (W : Int) cs = true) (hW : 1 ≤ W ∧ W ≤ 5) (hH : 1 ≤ H ∧ H ≤ 5) (hl : cs.length = W * H) : flipG (W : Int) cs = ((W : Int), perm (flipAt W) other cs) ∧ okG (W : Int) (perm (flipAt W) other cs) = true := by
  refine ⟨?_, ?_⟩
  · simp only [flipG, hok, if_true, Int.toNat_natCast, flipC_perm]
  · refine ok_of_size W H _ hW hH (by rw [perm_len, hl]) (perm_all _ _ (fun j hj => ?_) (ok_all _ _ hok))
    exact (flip_lt W j cs.length hW (by rw [hl]; exact Nat.mul_mod_right W H) hj).2.1

def ixOk (W H j : Nat) : Bool := !(decide (1 ≤ W) && decide (1 ≤ H) && decide (j < W * H)) || (decide (flipAt W (flipAt W j) = j) && decide (turnAt W H (flipAt H j) = flipAt W (turnAt W H (turnAt H W (turnAt W H j)))) && decide (flipAt H j < W * H) && decide (turnAt H W (turnAt W H j) < W * H) && decide (turnAt W H j < W * H) && decide (turnAt W H (turnAt H W (turnAt W H j)) < W * H) && decide (turnAt W H (turnAt H W j) = W * H - 1 - j) && decide (flipAt W j < W * H))
theorem ix_run : ((List.range 6).all fun W => (List.range 6).all fun H => (List.range 25).all fun j => ixOk W H j) = true := by decide +kernel
theorem ix_all (W H j : Nat) (hW : 1 ≤ W ∧ W ≤ 5) (hH : 1 ≤ H ∧ H ≤ 5) (hj : j < W * H) : flipAt W (flipAt W j) = j ∧ turnAt W H (flipAt H j) = flipAt W (turnAt W H (turnAt H W (turnAt W H j))) ∧ flipAt H j < W * H ∧ turnAt H W (turnAt W H j) < W * H ∧ turnAt W H j < W * H ∧ turnAt W H (turnAt H W (turnAt W H j)) < W * H ∧ turnAt W H (turnAt H W j) = W * H - 1 - j ∧ flipAt W j < W * H := by
  have h25 : W * H ≤ 5 * 5 := Nat.mul_le_mul hW.2 hH.2
  have h := ix_run
  simp only [List.all_eq_true, List.mem_range] at h
  have := h W (by omega) H (by omega) j (by omega)
  simp only [ixOk, Bool.or_eq_true, Bool.not_eq_true', Bool.and_eq_true, decide_eq_true_eq, Bool.and_eq_false_iff, decide_eq_false_iff_not] at this
  rcases this with ((h1 | h1) | h1) | h1
  · omega
  · omega
  · omega
  · obtain ⟨⟨⟨⟨⟨⟨⟨a, b⟩, c⟩, d⟩, e⟩, f⟩, g⟩, i⟩ := h1
    exact ⟨a, b, c, d, e, f, g, i⟩

/-- In two mirrors a grid is as it was. -/
theorem flip_flip (W H : Nat) (cs : List (Int × Int)) (hW : 1 ≤ W ∧ W ≤ 5) (hH : 1 ≤ H ∧ H ≤ 5) (hl : cs.length = W * H) : perm (flipAt W) other (perm (flipAt W) other cs) = cs := by
  rw [perm_perm _ _ _ _ _ (fun j hj => by rw [hl] at hj ⊢; exact (ix_all W H j hW hH hj).2.2.2.2.2.2.2)]
  rw [perm_congr _ (fun j => j) _ (fun c => c) cs (fun j hj => by rw [hl] at hj; exact (ix_all W H j hW hH hj).1) other_other]
  exact perm_id cs
/-- Turned and in a mirror: in a mirror and turned three times. -/
theorem flip_turn (W H : Nat) (cs : List (Int × Int)) (hW : 1 ≤ W ∧ W ≤ 5) (hH : 1 ≤ H ∧ H ≤ 5) (hl : cs.length = W * H) :
    perm (flipAt H) other (perm (turnAt W H) other cs) = perm (turnAt W H) other (perm (turnAt H W) other (perm (turnAt W H) other (perm (flipAt W) other cs))) := by
  have hc : ∀ j, j < cs.length → j < W * H := fun j hj => by rw [← hl]; exact hj
  have hl2 : W * H = cs.length := hl.symm
  rw [perm_perm _ _ _ _ _ (fun j hj => by rw [hl]; exact (ix_all W H j hW hH (hc j hj)).2.2.1)]
  rw [perm_perm (turnAt W H) (flipAt W) _ _ cs (fun j hj => by rw [hl]; exact (ix_all W H j hW hH (hc j hj)).2.2.2.2.1)]
  rw [perm_perm (turnAt H W) _ _ _ cs (fun j hj => by
    rw [hl]
    have := (ix_all H W j hH hW (by rw [Nat.mul_comm]; exact hc j hj)).2.2.2.2.1
    rw [Nat.mul_comm]; exact this)]
  rw [perm_perm (turnAt W H) _ _ _ cs (fun j hj => by rw [hl]; exact (ix_all W H j hW hH (hc j hj)).2.2.2.2.1)]
  refine perm_congr _ _ _ _ cs (fun j hj => ?_) (fun c => ?_)
  · exact (ix_all W H j hW hH (hc j hj)).2.1
  · simp only [other_other]

end Go.Proofs.Ytmnninhifiajhaa

/-
  Turned by a quarter, or in a mirror, light goes as it went: what ends at a sight ends at the sight that it has become.
-/
namespace Go.Proofs.Ytmnninhifiajhaa
open Go.RowKit
set_option linter.unusedVariables false

/-- One grid is the other, its places moved by sg, its ways by ta, its sights by ka. -/
structure Sym (wd : Int) (cs : List (Int × Int)) (wd' : Int) (cs' : List (Int × Int)) (sg ta ka : Int → Int) : Prop where
  kdS : ∀ x, 0 ≤ x ∧ x < (cs.length : Int) → kd cs' (sg x) = otherK (kd cs x)
  ray : ∀ x d, okS cs (x, d) → (rayN wd' cs' (sg x) (ta d)).2.2 = (rayN wd cs x d).2.2 ∧ ((rayN wd cs x d).2.2 = true → (rayN wd' cs' (sg x) (ta d)).1 = sg (rayN wd cs x d).1)
  out : ∀ x d, okS cs (x, d) → (rayN wd cs x d).2.2 = false → outOf wd' cs' (sg x) (ta d) = ka (outOf wd cs x d)
  dir : ∀ k d, 0 ≤ d ∧ d ≤ 3 → turnD (otherK k) (ta d) = ta (turnD k d)

def mvV (sg ta : Int → Int) (u : Int × Int × Int) : Int × Int × Int := (sg u.1, ta u.2.1, u.2.2)
def mvE (sg ka : Int → Int) (t : Int × Int × Int) : Int × Int × Int := (t.1, if t.1 = 0 then ka t.2.1 else sg t.2.1, t.2.2)
def mvT (sg ta ka : Int → Int) (t : Tr) : Tr := (t.1.map (mvV sg ta), t.2.map (mvE sg ka))
theorem mvT_app (sg ta ka : Int → Int) (a b : Tr) : mvT sg ta ka (tapp a b) = tapp (mvT sg ta ka a) (mvT sg ta ka b) := by simp [mvT, tapp]
theorem mvT_end (sg ta ka : Int → Int) (k x : Int) (wt : Nat) : mvT sg ta ka (endT k x wt) = endT k (if k = 0 then ka x else sg x) wt := by
  unfold mvT endT
  by_cases h : wt = 0
  · simp [h]
  · simp [h, mvE]
theorem otherK_is (k : Int) : (otherK k = 1 ↔ k = 1) ∧ (otherK k = 7 ↔ k = 7) ∧ (otherK k = 6 ↔ k = 6) ∧ ((otherK k = 4 ∨ otherK k = 5) ↔ (k = 4 ∨ k = 5)) := by
  unfold otherK
  split
  · omega
  · split
    · omega
    · split
      · omega
      · split <;> omega

theorem sym_lv {wd wd' : Int} {cs cs' : List (Int × Int)} {sg ta ka : Int → Int} (S : Sym wd cs wd' cs' sg ta ka) {f : Nat} (ih : ∀ x d wt, okS cs (x, d) → comeT wd' cs' f (sg x) (ta d) wt = mvT sg ta ka (comeT wd cs f x d wt)) (x e : Int) (n : Nat) (hs : okS cs (x, e)) :
    lvT wd' cs' (comeT wd' cs' f) (sg x) (ta e) n = mvT sg ta ka (lvT wd cs (comeT wd cs f) x e n) := by
  obtain ⟨r1, r2⟩ := S.ray x e hs
  unfold lvT
  by_cases h0 : n = 0
  · rw [if_pos h0, if_pos h0]; rfl
  · rw [if_neg h0, if_neg h0, r1]
    by_cases c : (rayN wd cs x e).2.2 = true
    · rw [if_pos c, if_pos c, r2 c]
      obtain ⟨q1, q2, _⟩ := rayN_back c
      exact ih _ _ _ ⟨q1, q2⟩
    · rw [if_neg c, if_neg c, mvT_end, if_pos rfl, S.out x e hs (by simpa using c)]
theorem sym_come {wd wd' : Int} {cs cs' : List (Int × Int)} {sg ta ka : Int → Int} (S : Sym wd cs wd' cs' sg ta ka) : ∀ f x d wt, okS cs (x, d) → comeT wd' cs' f (sg x) (ta d) wt = mvT sg ta ka (comeT wd cs f x d wt) := by
  intro f
  induction f with
  | zero => intro x d wt _; rfl
  | succ f ih =>
    intro x d wt hs
    simp only [comeT]
    by_cases h0 : wt = 0
    · rw [if_pos h0, if_pos h0]; rfl
    · rw [if_neg h0, if_neg h0, mvT_app]
      have e0 : mvT sg ta ka ([(x, d, (wt : Int))], []) = ([(sg x, ta d, (wt : Int))], []) := by simp [mvT, mvV]
      rw [e0]
      congr 1
      have hk := S.kdS x hs.1
      obtain ⟨o1, o7, o6, o45⟩ := otherK_is (kd cs x)
      have hd : okS cs (x, turnD (kd cs x) d) := ⟨hs.1, turnD_range hs.2⟩
      have hdir := S.dir (kd cs x) d hs.2
      unfold inCell
      rw [hk]
      by_cases k1 : kd cs x = 1
      · rw [if_pos (o1.2 k1), if_pos k1, mvT_end, if_neg (by omega)]
      rw [if_neg (fun z => k1 (o1.1 z)), if_neg k1]
      by_cases k7 : kd cs x = 7
      · rw [if_pos (o7.2 k7), if_pos k7, mvT_end, if_neg (by omega)]
      rw [if_neg (fun z => k7 (o7.1 z)), if_neg k7]
      by_cases k6 : kd cs x = 6
      · rw [if_pos (o6.2 k6), if_pos k6, mvT_app, mvT_end, if_neg (by omega), sym_lv S ih _ _ _ hs]
      rw [if_neg (fun z => k6 (o6.1 z)), if_neg k6]
      by_cases k45 : kd cs x = 4 ∨ kd cs x = 5
      · rw [if_pos (o45.2 k45), if_pos k45, mvT_app, mvT_app, mvT_end, if_neg (by omega), hdir, sym_lv S ih _ _ _ hs, sym_lv S ih _ _ _ hd]
      · rw [if_neg (fun z => k45 (o45.1 z)), if_neg k45, hdir, sym_lv S ih _ _ _ hd]

theorem sumTo_mv {sg ka : Int → Int} {q : Int} (l : List (Int × Int × Int)) (h : ∀ t ∈ l, t.1 = 0 → (ka t.2.1 = ka q ↔ t.2.1 = q)) : sumTo (ka q) (l.map (mvE sg ka)) = sumTo q l := by
  induction l with
  | nil => rfl
  | cons t r ih =>
    simp only [List.map_cons, sumTo]
    rw [ih (fun u hu => h u (by simp [hu]))]
    congr 1
    by_cases c : t.1 = 0
    · have hq := h t (by simp) c
      have e1 : (mvE sg ka t).2.1 = ka t.2.1 := by simp [mvE, c]
      by_cases z : t.2.1 = q
      · rw [if_pos (show (mvE sg ka t).1 = 0 ∧ (mvE sg ka t).2.1 = ka q from ⟨c, by rw [e1]; exact hq.2 z⟩), if_pos ⟨c, z⟩]; rfl
      · rw [if_neg (show ¬ ((mvE sg ka t).1 = 0 ∧ (mvE sg ka t).2.1 = ka q) from fun y => z (hq.1 (by rw [← e1]; exact y.2))), if_neg (fun y => z y.2)]
    · rw [if_neg (show ¬ ((mvE sg ka t).1 = 0 ∧ (mvE sg ka t).2.1 = ka q) from fun y => c y.1), if_neg (fun y => c y.1)]

/-- How much ends at a sight is how much ends at the sight that it has become. -/
theorem sym_to {wd wd' : Int} {cs cs' : List (Int × Int)} {sg ta ka : Int → Int} (S : Sym wd cs wd' cs' sg ta ka) {k q : Int} (hk : inS wd cs k = true) (hk' : inS wd' cs' (ka k) = true) (hr : ∀ x d, inRay wd cs k = (x, d, true) → inRay wd' cs' (ka k) = (sg x, ta d, true))
    (hi : ∀ i : Int, 0 ≤ i ∧ i < manyG wd cs → (ka i = ka q ↔ i = q)) : toN wd' cs' (ka k) (ka q) = toN wd cs k q := by
  obtain ⟨x, d, r1⟩ := inS_ray hk
  have hs := (enough_sight r1).1
  have hT := trail_ok hk
  unfold toN
  rw [trail_at hk' (hr x d r1), sym_come S 707 x d 64 hs]
  rw [trail_at hk r1] at hT ⊢
  refine sumTo_mv _ fun t ht h0 => ?_
  rcases (hT.ends t ht).2 with ⟨_, z⟩ | ⟨_, z | z | z⟩
  · exact hi _ z
  · omega
  · omega
  · omega

def wI (n : Nat) : Int := n
/-- Where a place, and a way, is behind a turn; in a mirror. -/
def tuX (W H x : Int) : Int := x % W * H + H - 1 - x / W
def tuD (d : Int) : Int := (d + 1) % 4
def flX (W x : Int) : Int := x / W * W + W - 1 - x % W
def flD (d : Int) : Int := (4 - d) % 4
def goX (W H x d : Int) : Int × Bool := if inG (x / W + dRow d) (x % W + dCol d) W H = true then ((x / W + dRow d) * W + (x % W + dCol d), true) else (0, false)

set_option maxRecDepth 100000 in
theorem tu_fin : ∀ W : Fin 5, ∀ H : Fin 5, ∀ x : Fin 25, ∀ d : Fin 4, x.val < (W.val + 1) * (H.val + 1) →
    (0 ≤ tuX (wI (W.val + 1)) (wI (H.val + 1)) (wI x.val) ∧ tuX (wI (W.val + 1)) (wI (H.val + 1)) (wI x.val) < wI (H.val + 1) * wI (W.val + 1)) ∧
    (goX (wI (H.val + 1)) (wI (W.val + 1)) (tuX (wI (W.val + 1)) (wI (H.val + 1)) (wI x.val)) (tuD (wI d.val))).2 = (goX (wI (W.val + 1)) (wI (H.val + 1)) (wI x.val) (wI d.val)).2 ∧
    (if (goX (wI (W.val + 1)) (wI (H.val + 1)) (wI x.val) (wI d.val)).2 = true then
      (goX (wI (H.val + 1)) (wI (W.val + 1)) (tuX (wI (W.val + 1)) (wI (H.val + 1)) (wI x.val)) (tuD (wI d.val))).1 = tuX (wI (W.val + 1)) (wI (H.val + 1)) (goX (wI (W.val + 1)) (wI (H.val + 1)) (wI x.val) (wI d.val)).1
    else ofN (wI (H.val + 1)) (wI (W.val + 1)) (tuX (wI (W.val + 1)) (wI (H.val + 1)) (wI x.val)) (tuD (wI d.val)) (2 * (H.val + 1 + (W.val + 1))) = (ofN (wI (W.val + 1)) (wI (H.val + 1)) (wI x.val) (wI d.val) (2 * (W.val + 1 + (H.val + 1))) + wI (H.val + 1)) % (2 * (wI (W.val + 1) + wI (H.val + 1)))) := by decide +kernel
set_option maxRecDepth 100000 in
theorem fl_fin : ∀ W : Fin 5, ∀ H : Fin 5, ∀ x : Fin 25, ∀ d : Fin 4, x.val < (W.val + 1) * (H.val + 1) →
    (0 ≤ flX (wI (W.val + 1)) (wI x.val) ∧ flX (wI (W.val + 1)) (wI x.val) < wI (W.val + 1) * wI (H.val + 1)) ∧
    (goX (wI (W.val + 1)) (wI (H.val + 1)) (flX (wI (W.val + 1)) (wI x.val)) (flD (wI d.val))).2 = (goX (wI (W.val + 1)) (wI (H.val + 1)) (wI x.val) (wI d.val)).2 ∧
    (if (goX (wI (W.val + 1)) (wI (H.val + 1)) (wI x.val) (wI d.val)).2 = true then
      (goX (wI (W.val + 1)) (wI (H.val + 1)) (flX (wI (W.val + 1)) (wI x.val)) (flD (wI d.val))).1 = flX (wI (W.val + 1)) (goX (wI (W.val + 1)) (wI (H.val + 1)) (wI x.val) (wI d.val)).1
    else ofN (wI (W.val + 1)) (wI (H.val + 1)) (flX (wI (W.val + 1)) (wI x.val)) (flD (wI d.val)) (2 * (W.val + 1 + (H.val + 1))) = (wI (W.val + 1) - 1 - ofN (wI (W.val + 1)) (wI (H.val + 1)) (wI x.val) (wI d.val) (2 * (W.val + 1 + (H.val + 1))) + 2 * (wI (W.val + 1) + wI (H.val + 1))) % (2 * (wI (W.val + 1) + wI (H.val + 1)))) := by decide +kernel
set_option maxRecDepth 100000 in
theorem sr_fin : ∀ W : Fin 5, ∀ H : Fin 5, ∀ k : Fin 20, k.val < 2 * (W.val + 1 + (H.val + 1)) →
    sRay (wI (H.val + 1)) (wI (W.val + 1)) ((wI k.val + wI (H.val + 1)) % (2 * (wI (W.val + 1) + wI (H.val + 1)))) = (tuX (wI (W.val + 1)) (wI (H.val + 1)) (sRay (wI (W.val + 1)) (wI (H.val + 1)) (wI k.val)).1, tuD (sRay (wI (W.val + 1)) (wI (H.val + 1)) (wI k.val)).2) ∧
    sRay (wI (W.val + 1)) (wI (H.val + 1)) ((wI (W.val + 1) - 1 - wI k.val + 2 * (wI (W.val + 1) + wI (H.val + 1))) % (2 * (wI (W.val + 1) + wI (H.val + 1)))) = (flX (wI (W.val + 1)) (sRay (wI (W.val + 1)) (wI (H.val + 1)) (wI k.val)).1, flD (sRay (wI (W.val + 1)) (wI (H.val + 1)) (wI k.val)).2) := by decide +kernel

theorem tu_dir (k d : Int) (hd : 0 ≤ d ∧ d ≤ 3) : turnD (otherK k) (tuD d) = tuD (turnD k d) := by
  rcases (show k = 2 ∨ k = 3 ∨ k = 4 ∨ k = 5 ∨ (k ≠ 2 ∧ k ≠ 3 ∧ k ≠ 4 ∧ k ≠ 5) by omega) with rfl | rfl | rfl | rfl | ⟨a, b, c, e⟩
  case inr.inr.inr.inr =>
    have ek : otherK k = k := by simp [otherK, a, b, c, e]
    rw [ek, turnD_in k (tuD d) (by unfold tuD; omega) (by unfold tuD; omega), turnD_in k d hd.1 hd.2]
    simp [a, b, c, e]
  all_goals rcases (show d = 0 ∨ d = 1 ∨ d = 2 ∨ d = 3 by omega) with rfl | rfl | rfl | rfl <;> decide
theorem fl_dir (k d : Int) (hd : 0 ≤ d ∧ d ≤ 3) : turnD (otherK k) (flD d) = flD (turnD k d) := by
  rcases (show k = 2 ∨ k = 3 ∨ k = 4 ∨ k = 5 ∨ (k ≠ 2 ∧ k ≠ 3 ∧ k ≠ 4 ∧ k ≠ 5) by omega) with rfl | rfl | rfl | rfl | ⟨a, b, c, e⟩
  case inr.inr.inr.inr =>
    have ek : otherK k = k := by simp [otherK, a, b, c, e]
    rw [ek, turnD_in k (flD d) (by unfold flD; omega) (by unfold flD; omega), turnD_in k d hd.1 hd.2]
    simp [a, b, c, e]
  all_goals rcases (show d = 0 ∨ d = 1 ∨ d = 2 ∨ d = 3 by omega) with rfl | rfl | rfl | rfl <;> decide

theorem rayN_go {wd : Int} {cs : List (Int × Int)} {W H : Nat} (S : Siz wd cs W H) (x d : Int) (hx : 0 ≤ x ∧ x < (W : Int) * (H : Int)) (hd : 0 ≤ d ∧ d ≤ 3) : (rayN wd cs x d).1 = (goX W H x d).1 ∧ (rayN wd cs x d).2.2 = (goX W H x d).2 := by
  rw [rayN_in S x d hx hd]
  unfold goX
  split
  · exact ⟨rfl, rfl⟩
  · exact ⟨rfl, rfl⟩
end Go.Proofs.Ytmnninhifiajhaa

/-
  Turned by a quarter, or in a mirror, as much ends at a sight as ended.
-/
namespace Go.Proofs.Ytmnninhifiajhaa
open Go.RowKit
set_option linter.unusedVariables false

theorem kd_perm {cs : List (Int × Int)} (s : Nat → Nat) (j x : Nat) (hj : j < cs.length) (hx : x < cs.length) (h : s j = x) : kd (perm s other cs) (j : Int) = otherK (kd cs (x : Int)) := by
  unfold kd perm
  simp only [Int.toNat_natCast, List.getD_eq_getElem?_getD, List.getElem?_map, List.getElem?_range hj, Option.map_some, Option.getD_some, other, h]
theorem tuK_at {wd : Int} {cs : List (Int × Int)} {W H : Nat} (S : Siz wd cs W H) (k : Int) (hk : 0 ≤ k ∧ k < 2 * ((W : Int) + (H : Int))) : turnK wd cs k = (k + (H : Int)) % (2 * ((W : Int) + (H : Int))) := by
  unfold turnK
  rw [S.em, S.hI, if_pos ⟨S.ok, hk.1, hk.2⟩]
theorem flK_at {wd : Int} {cs : List (Int × Int)} {W H : Nat} (S : Siz wd cs W H) (k : Int) (hk : 0 ≤ k ∧ k < 2 * ((W : Int) + (H : Int))) : flipK wd cs k = ((W : Int) - 1 - k + 2 * ((W : Int) + (H : Int))) % (2 * ((W : Int) + (H : Int))) := by
  unfold flipK
  rw [S.em, if_pos ⟨S.ok, hk.1, hk.2⟩, S.ew]
set_option maxRecDepth 100000 in
theorem inj_fin : ∀ W : Fin 5, ∀ H : Fin 5, ∀ k : Fin 20, k.val < 2 * (W.val + 1 + (H.val + 1)) → ∀ i : Fin 20, i.val < 2 * (W.val + 1 + (H.val + 1)) → ¬ i.val = k.val →
    ¬ (wI i.val + wI (H.val + 1)) % (2 * (wI (W.val + 1) + wI (H.val + 1))) = (wI k.val + wI (H.val + 1)) % (2 * (wI (W.val + 1) + wI (H.val + 1))) ∧
    ¬ (wI (W.val + 1) - 1 - wI i.val + 2 * (wI (W.val + 1) + wI (H.val + 1))) % (2 * (wI (W.val + 1) + wI (H.val + 1))) = (wI (W.val + 1) - 1 - wI k.val + 2 * (wI (W.val + 1) + wI (H.val + 1))) % (2 * (wI (W.val + 1) + wI (H.val + 1))) := by decide +kernel

/-- A turned grid is the grid, moved about. -/
theorem turn_sym {wd : Int} {cs : List (Int × Int)} {W H : Nat} (S : Siz wd cs W H) (S' : Siz (H : Int) (perm (turnAt W H) other cs) H W) : Sym wd cs (H : Int) (perm (turnAt W H) other cs) (tuX W H) tuD (turnK wd cs) := by
  have hW := S.hW
  have hH := S.hH
  have e1 : (cs.length : Int) = (W : Int) * (H : Int) := by rw [S.el]; simp
  have hWH : W * H ≤ 25 := Nat.le_trans (Nat.mul_le_mul hW.2 hH.2) (by omega)
  have nat : ∀ x d : Int, okS cs (x, d) → ∃ X D : Nat, x = (X : Int) ∧ d = (D : Int) ∧ X < W * H ∧ D < 4 := by
    intro x d h
    obtain ⟨X, hX⟩ := Int.eq_ofNat_of_zero_le h.1.1
    obtain ⟨D, hD⟩ := Int.eq_ofNat_of_zero_le h.2.1
    have h1 := h.1.2
    have h2 := h.2.2
    simp only at hX hD h1 h2
    have h3 : X < W * H := by rw [hX, S.el] at h1; exact_mod_cast h1
    exact ⟨X, D, hX, hD, h3, by omega⟩
  have geo := fun (X D : Nat) (h1 : X < W * H) (h2 : D < 4) => tu_fin ⟨W - 1, by omega⟩ ⟨H - 1, by omega⟩ ⟨X, by omega⟩ ⟨D, h2⟩ (by simp only [show W - 1 + 1 = W by omega, show H - 1 + 1 = H by omega]; exact h1)
  simp only [show W - 1 + 1 = W by omega, show H - 1 + 1 = H by omega, wI] at geo
  have tar : ∀ d : Int, 0 ≤ tuD d ∧ tuD d ≤ 3 := fun d => by unfold tuD; omega
  have inX : ∀ X : Nat, X < W * H → 0 ≤ (X : Int) ∧ (X : Int) < (W : Int) * (H : Int) := fun X h => ⟨by omega, by exact_mod_cast h⟩
  refine ⟨?_, ?_, ?_, tu_dir⟩
  · intro x hx
    obtain ⟨X, hX⟩ := Int.eq_ofNat_of_zero_le hx.1
    have h3 : X < W * H := by have := hx.2; rw [hX, S.el] at this; exact_mod_cast this
    subst hX
    obtain ⟨hj, _, hdv, hmd⟩ := turn_lt W H X hW hH h3
    have hinv := (turn_inv W H (X % W * H + H - 1 - X / W) X hW hH hj h3).2 rfl
    have ec : tuX (W : Int) (H : Int) (X : Int) = ((X % W * H + H - 1 - X / W : Nat) : Int) := by
      unfold tuX
      rw [← Int.natCast_emod, ← Int.natCast_ediv, ← Int.natCast_mul]
      have : X / W ≤ H - 1 := by omega
      omega
    rw [ec]
    exact kd_perm _ _ X (by rw [S.el]; exact hj) (by rw [S.el]; exact h3) hinv
  · intro x d h
    obtain ⟨X, D, rfl, rfl, hX, hD⟩ := nat x d h
    obtain ⟨g1, g2, g3⟩ := geo X D hX hD
    obtain ⟨a1, a2⟩ := rayN_go S (X : Int) (D : Int) (inX X hX) (by omega)
    obtain ⟨b1, b2⟩ := rayN_go S' ((tuX W H) (X : Int)) (tuD (D : Int)) g1 (tar _)
    rw [a1, a2, b1, b2]
    refine ⟨g2, fun c => ?_⟩
    rw [if_pos c] at g3
    exact g3
  · intro x d h hno
    obtain ⟨X, D, rfl, rfl, hX, hD⟩ := nat x d h
    obtain ⟨g1, g2, g3⟩ := geo X D hX hD
    obtain ⟨a1, a2⟩ := rayN_go S (X : Int) (D : Int) (inX X hX) (by omega)
    rw [a2] at hno
    rw [if_neg (by simp [hno])] at g3
    have hin : 0 ≤ outOf wd cs (X : Int) (D : Int) ∧ outOf wd cs (X : Int) (D : Int) < 2 * ((W : Int) + (H : Int)) := by
      rcases out_fact S.ok h.1 h.2 with ⟨x2, d2, z, _⟩ | ⟨_, z⟩
      · simp only at z
        rw [z] at a2
        rw [← a2] at hno
        cases hno
      · simp only at z
        unfold inRay at z
        split at z
        · next y => have := y.2; rw [S.em] at this; exact this
        · simp at z
    rw [tuK_at S _ hin, outOf_at S' _ _ g1 (tar _), outOf_at S _ _ (inX X hX) (by omega)]
    exact g3
/-- So much ends there as ended. -/
theorem to_turn {wd : Int} {cs : List (Int × Int)} {W H : Nat} (S : Siz wd cs W H) (S' : Siz (H : Int) (perm (turnAt W H) other cs) H W) {k q : Int} (hk : inS wd cs k = true) (hq : inS wd cs q = true) : toN (H : Int) (perm (turnAt W H) other cs) (turnK wd cs k) (turnK wd cs q) = toN wd cs k q := by
  have hW := S.hW
  have hH := S.hH
  have hk2 := hk
  have hq2 := hq
  simp only [inS, decide_eq_true_eq, S.em] at hk2 hq2
  obtain ⟨K, rfl⟩ := Int.eq_ofNat_of_zero_le hk2.1
  obtain ⟨Q, rfl⟩ := Int.eq_ofNat_of_zero_le hq2.1
  have hM : (0 : Int) < 2 * ((W : Int) + (H : Int)) := by omega
  have em2 : manyG (H : Int) (perm (turnAt W H) other cs) = 2 * ((W : Int) + (H : Int)) := by first | (rw [S'.em]; omega) | rw [S'.em]
  have ek := tuK_at S (K : Int) hk2
  have r0 : 0 ≤ turnK wd cs (K : Int) ∧ turnK wd cs (K : Int) < 2 * ((W : Int) + (H : Int)) := by
    rw [ek]; exact ⟨Int.emod_nonneg _ (by omega), Int.emod_lt_of_pos _ hM⟩
  have hk' : inS (H : Int) (perm (turnAt W H) other cs) (turnK wd cs (K : Int)) = true := by unfold inS; rw [em2]; exact decide_eq_true r0
  refine sym_to (turn_sym S S') hk hk' ?_ ?_
  · intro x d hr
    rw [inRay_at S K (by omega)] at hr
    simp only [Prod.mk.injEq] at hr
    obtain ⟨K2, hK2⟩ := Int.eq_ofNat_of_zero_le r0.1
    rw [hK2, inRay_at S' K2 (by omega)]
    have sr := sr_fin ⟨W - 1, by omega⟩ ⟨H - 1, by omega⟩ ⟨K, by omega⟩ (by simp only [show W - 1 + 1 = W by omega, show H - 1 + 1 = H by omega]; omega)
    simp only [show W - 1 + 1 = W by omega, show H - 1 + 1 = H by omega, wI] at sr
    have s2 := sr.1
    rw [← ek, hK2] at s2
    rw [s2, hr.1, hr.2.1]
  · intro i hi
    rw [S.em] at hi
    obtain ⟨I, rfl⟩ := Int.eq_ofNat_of_zero_le hi.1
    constructor
    · intro z
      rw [tuK_at S _ hi, tuK_at S _ hq2] at z
      refine Classical.byContradiction fun hne => ?_
      have := inj_fin ⟨W - 1, by omega⟩ ⟨H - 1, by omega⟩ ⟨Q, by omega⟩ (by simp only [show W - 1 + 1 = W by omega, show H - 1 + 1 = H by omega]; omega) ⟨I, by omega⟩ (by simp only [show W - 1 + 1 = W by omega, show H - 1 + 1 = H by omega]; omega) (fun y => hne (by simp only at y; rw [y]))
      simp only [show W - 1 + 1 = W by omega, show H - 1 + 1 = H by omega, wI] at this
      exact this.1 z
    · intro z; rw [z]

/-- A grid in a mirror is the grid, moved about. -/
theorem flip_sym {wd : Int} {cs : List (Int × Int)} {W H : Nat} (S : Siz wd cs W H) (S' : Siz (W : Int) (perm (flipAt W) other cs) W H) : Sym wd cs (W : Int) (perm (flipAt W) other cs) (flX W) flD (flipK wd cs) := by
  have hW := S.hW
  have hH := S.hH
  have e1 : (cs.length : Int) = (W : Int) * (H : Int) := by rw [S.el]; simp
  have hWH : W * H ≤ 25 := Nat.le_trans (Nat.mul_le_mul hW.2 hH.2) (by omega)
  have nat : ∀ x d : Int, okS cs (x, d) → ∃ X D : Nat, x = (X : Int) ∧ d = (D : Int) ∧ X < W * H ∧ D < 4 := by
    intro x d h
    obtain ⟨X, hX⟩ := Int.eq_ofNat_of_zero_le h.1.1
    obtain ⟨D, hD⟩ := Int.eq_ofNat_of_zero_le h.2.1
    have h1 := h.1.2
    have h2 := h.2.2
    simp only at hX hD h1 h2
    have h3 : X < W * H := by rw [hX, S.el] at h1; exact_mod_cast h1
    exact ⟨X, D, hX, hD, h3, by omega⟩
  have geo := fun (X D : Nat) (h1 : X < W * H) (h2 : D < 4) => fl_fin ⟨W - 1, by omega⟩ ⟨H - 1, by omega⟩ ⟨X, by omega⟩ ⟨D, h2⟩ (by simp only [show W - 1 + 1 = W by omega, show H - 1 + 1 = H by omega]; exact h1)
  simp only [show W - 1 + 1 = W by omega, show H - 1 + 1 = H by omega, wI] at geo
  have tar : ∀ d : Int, 0 ≤ flD d ∧ flD d ≤ 3 := fun d => by unfold flD; omega
  have inX : ∀ X : Nat, X < W * H → 0 ≤ (X : Int) ∧ (X : Int) < (W : Int) * (H : Int) := fun X h => ⟨by omega, by exact_mod_cast h⟩
  refine ⟨?_, ?_, ?_, fl_dir⟩
  · intro x hx
    obtain ⟨X, hX⟩ := Int.eq_ofNat_of_zero_le hx.1
    have h3 : X < W * H := by have := hx.2; rw [hX, S.el] at this; exact_mod_cast this
    subst hX
    have hmod : (W * H) % W = 0 := Nat.mul_mod_right W H
    obtain ⟨hj, _, hmd⟩ := flip_lt W X (W * H) hW hmod h3
    have hinv := (flip_inv W (X / W * W + W - 1 - X % W) X (W * H) hW hmod hj h3).2 rfl
    have ec : flX (W : Int) (X : Int) = ((X / W * W + W - 1 - X % W : Nat) : Int) := by
      unfold flX
      rw [← Int.natCast_emod, ← Int.natCast_ediv, ← Int.natCast_mul]
      have : X % W ≤ W - 1 := by omega
      omega
    rw [ec]
    exact kd_perm _ _ X (by rw [S.el]; exact hj) (by rw [S.el]; exact h3) hinv
  · intro x d h
    obtain ⟨X, D, rfl, rfl, hX, hD⟩ := nat x d h
    obtain ⟨g1, g2, g3⟩ := geo X D hX hD
    obtain ⟨a1, a2⟩ := rayN_go S (X : Int) (D : Int) (inX X hX) (by omega)
    obtain ⟨b1, b2⟩ := rayN_go S' ((flX W) (X : Int)) (flD (D : Int)) g1 (tar _)
    rw [a1, a2, b1, b2]
    refine ⟨g2, fun c => ?_⟩
    rw [if_pos c] at g3
    exact g3
  · intro x d h hno
    obtain ⟨X, D, rfl, rfl, hX, hD⟩ := nat x d h
    obtain ⟨g1, g2, g3⟩ := geo X D hX hD
    obtain ⟨a1, a2⟩ := rayN_go S (X : Int) (D : Int) (inX X hX) (by omega)
    rw [a2] at hno
    rw [if_neg (by simp [hno])] at g3
    have hin : 0 ≤ outOf wd cs (X : Int) (D : Int) ∧ outOf wd cs (X : Int) (D : Int) < 2 * ((W : Int) + (H : Int)) := by
      rcases out_fact S.ok h.1 h.2 with ⟨x2, d2, z, _⟩ | ⟨_, z⟩
      · simp only at z
        rw [z] at a2
        rw [← a2] at hno
        cases hno
      · simp only at z
        unfold inRay at z
        split at z
        · next y => have := y.2; rw [S.em] at this; exact this
        · simp at z
    rw [flK_at S _ hin, outOf_at S' _ _ g1 (tar _), outOf_at S _ _ (inX X hX) (by omega)]
    exact g3
/-- So much ends there as ended. -/
theorem to_flip {wd : Int} {cs : List (Int × Int)} {W H : Nat} (S : Siz wd cs W H) (S' : Siz (W : Int) (perm (flipAt W) other cs) W H) {k q : Int} (hk : inS wd cs k = true) (hq : inS wd cs q = true) : toN (W : Int) (perm (flipAt W) other cs) (flipK wd cs k) (flipK wd cs q) = toN wd cs k q := by
  have hW := S.hW
  have hH := S.hH
  have hk2 := hk
  have hq2 := hq
  simp only [inS, decide_eq_true_eq, S.em] at hk2 hq2
  obtain ⟨K, rfl⟩ := Int.eq_ofNat_of_zero_le hk2.1
  obtain ⟨Q, rfl⟩ := Int.eq_ofNat_of_zero_le hq2.1
  have hM : (0 : Int) < 2 * ((W : Int) + (H : Int)) := by omega
  have em2 : manyG (W : Int) (perm (flipAt W) other cs) = 2 * ((W : Int) + (H : Int)) := by first | (rw [S'.em]; omega) | rw [S'.em]
  have ek := flK_at S (K : Int) hk2
  have r0 : 0 ≤ flipK wd cs (K : Int) ∧ flipK wd cs (K : Int) < 2 * ((W : Int) + (H : Int)) := by
    rw [ek]; exact ⟨Int.emod_nonneg _ (by omega), Int.emod_lt_of_pos _ hM⟩
  have hk' : inS (W : Int) (perm (flipAt W) other cs) (flipK wd cs (K : Int)) = true := by unfold inS; rw [em2]; exact decide_eq_true r0
  refine sym_to (flip_sym S S') hk hk' ?_ ?_
  · intro x d hr
    rw [inRay_at S K (by omega)] at hr
    simp only [Prod.mk.injEq] at hr
    obtain ⟨K2, hK2⟩ := Int.eq_ofNat_of_zero_le r0.1
    rw [hK2, inRay_at S' K2 (by omega)]
    have sr := sr_fin ⟨W - 1, by omega⟩ ⟨H - 1, by omega⟩ ⟨K, by omega⟩ (by simp only [show W - 1 + 1 = W by omega, show H - 1 + 1 = H by omega]; omega)
    simp only [show W - 1 + 1 = W by omega, show H - 1 + 1 = H by omega, wI] at sr
    have s2 := sr.2
    rw [← ek, hK2] at s2
    rw [s2, hr.1, hr.2.1]
  · intro i hi
    rw [S.em] at hi
    obtain ⟨I, rfl⟩ := Int.eq_ofNat_of_zero_le hi.1
    constructor
    · intro z
      rw [flK_at S _ hi, flK_at S _ hq2] at z
      refine Classical.byContradiction fun hne => ?_
      have := inj_fin ⟨W - 1, by omega⟩ ⟨H - 1, by omega⟩ ⟨Q, by omega⟩ (by simp only [show W - 1 + 1 = W by omega, show H - 1 + 1 = H by omega]; omega) ⟨I, by omega⟩ (by simp only [show W - 1 + 1 = W by omega, show H - 1 + 1 = H by omega]; omega) (fun y => hne (by simp only at y; rw [y]))
      simp only [show W - 1 + 1 = W by omega, show H - 1 + 1 = H by omega, wI] at this
      exact this.2 z
    · intro z; rw [z]

end Go.Proofs.Ytmnninhifiajhaa

/-
  Where nothing stands light goes straight.
-/
namespace Go.Proofs.Ytmnninhifiajhaa
open Go.RowKit
set_option linter.unusedVariables false

/-- The sight straight over. -/
def overK (W H k : Int) : Int := if (W ≤ k ∧ k < W + H) ∨ 2 * W + H ≤ k then 3 * W + 2 * H - 1 - k else 2 * W + H - 1 - k
def freeG (W H : Nat) : List (Int × Int) := List.replicate (W * H) (0, 0)
set_option maxRecDepth 100000 in
theorem straight_fin : ∀ W : Fin 5, ∀ H : Fin 5, ∀ k : Fin 20, k.val < 2 * (W.val + 1 + (H.val + 1)) →
    okG (wI (W.val + 1)) (freeG (W.val + 1) (H.val + 1)) = true ∧
    (comeT (wI (W.val + 1)) (freeG (W.val + 1) (H.val + 1)) 707 (sRay (wI (W.val + 1)) (wI (H.val + 1)) (wI k.val)).1 (sRay (wI (W.val + 1)) (wI (H.val + 1)) (wI k.val)).2 64).2 = [(0, overK (wI (W.val + 1)) (wI (H.val + 1)) (wI k.val), 64)] ∧
    (comeT (wI (W.val + 1)) (freeG (W.val + 1) (H.val + 1)) 707 (sRay (wI (W.val + 1)) (wI (H.val + 1)) (wI k.val)).1 (sRay (wI (W.val + 1)) (wI (H.val + 1)) (wI k.val)).2 64).1.length = if (sRay (wI (W.val + 1)) (wI (H.val + 1)) (wI k.val)).2 % 2 = 1 then W.val + 1 else H.val + 1 := by decide +kernel
/-- Where nothing stands light goes straight. -/
theorem straight {wd : Int} {cs : List (Int × Int)} {W H : Nat} (S : Siz wd cs W H) {k : Int} (hk : inS wd cs k = true) (x d : Int) (hr : inRay wd cs k = (x, d, true)) :
    (trailT wd (freeG W H) k).2 = [(0, overK W H k, 64)] ∧ (trailT wd (freeG W H) k).1.length = if d % 2 = 1 then W else H := by
  have hW := S.hW
  have hH := S.hH
  have hk2 := hk
  simp only [inS, decide_eq_true_eq, S.em] at hk2
  obtain ⟨K, rfl⟩ := Int.eq_ofNat_of_zero_le hk2.1
  have fin := straight_fin ⟨W - 1, by omega⟩ ⟨H - 1, by omega⟩ ⟨K, by omega⟩ (by simp only [show W - 1 + 1 = W by omega, show H - 1 + 1 = H by omega]; omega)
  simp only [show W - 1 + 1 = W by omega, show H - 1 + 1 = H by omega, wI] at fin
  obtain ⟨f1, f2, f3⟩ := fin
  rw [← S.ew] at f1
  have hl : (freeG W H).length = cs.length := by rw [S.el]; simp [freeG]
  have hk' : inS wd (freeG W H) (K : Int) = true := by rw [inS_same S.ok f1 hl]; exact hk
  have hr' : inRay wd (freeG W H) (K : Int) = (x, d, true) := by rw [inRay_same S.ok f1 hl]; exact hr
  rw [inRay_at S K (by omega)] at hr
  simp only [Prod.mk.injEq] at hr
  rw [trail_at hk' hr', ← hr.1, ← hr.2.1, S.ew]
  exact ⟨f2, f3⟩
end Go.Proofs.Ytmnninhifiajhaa
