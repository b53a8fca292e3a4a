/-
  Plain facts: mirrored twice a grid is as it was; turned and mirrored is mirrored and turned three times; both stay ok.
-/
import Derived.Test.YtankkkiccokggaaMa
namespace Go.Proofs.Ytankkkiccokggaa
set_option linter.unusedVariables false

def perm (s : Nat → Nat) (f : Int × Int → Int × Int) (cs : List (Int × Int)) : List (Int × Int) := (List.range cs.length).map fun j => f (cs.getD (s j) (0, 0))

theorem perm_len (s : Nat → Nat) (f : Int × Int → Int × Int) (cs : List (Int × Int)) : (perm s f cs).length = cs.length := by simp [perm]
theorem perm_perm (s t : Nat → Nat) (f g : Int × Int → Int × Int) (cs : List (Int × Int)) (hs : ∀ j, j < cs.length → s j < cs.length) : perm s f (perm t g cs) = perm (fun j => t (s j)) (fun c => f (g c)) cs := by
  unfold perm
  rw [List.length_map, List.length_range]
  apply List.map_congr_left
  intro j hj
  have := hs j (List.mem_range.1 hj)
  simp [this]
theorem perm_congr (s t : Nat → Nat) (f g : Int × Int → Int × Int) (cs : List (Int × Int)) (hs : ∀ j, j < cs.length → s j = t j) (hf : ∀ c, f c = g c) : perm s f cs = perm t g cs := by
  unfold perm
  apply List.map_congr_left
  intro j hj
  rw [hs j (List.mem_range.1 hj), hf]
theorem perm_id (cs : List (Int × Int)) : perm (fun j => j) (fun c => c) cs = cs := by
  unfold perm
  apply List.ext_getElem
  · simp
  · intro j h1 h2
    simp [h2]
theorem okC_other (k l : Int) : okC (otherK k) l = okC k l := by
  by_cases h2 : k = 2
  · subst h2; simp [otherK, okC]
  by_cases h3 : k = 3
  · subst h3; simp [otherK, okC]
  by_cases h4 : k = 4
  · subst h4; simp [otherK, okC]
  by_cases h5 : k = 5
  · subst h5; simp [otherK, okC]
  simp [otherK, h2, h3, h4, h5]
theorem perm_all (s : Nat → Nat) (cs : List (Int × Int)) (hs : ∀ j, j < cs.length → s j < cs.length) (h : (cs.all fun c => okC c.1 c.2) = true) : ((perm s other cs).all fun c => okC c.1 c.2) = true := by
  rw [List.all_eq_true] at h ⊢
  intro c hc
  simp only [perm, List.mem_map, List.mem_range] at hc
  obtain ⟨j, hj, rfl⟩ := hc
  have hl := hs j hj
  have := h cs[s j] (List.getElem_mem hl)
  have e : cs.getD (s j) (0, 0) = cs[s j] := by simp [hl]
  rw [e]
  simp only [other]
  rw [okC_other]
  exact this
theorem other_other (c : Int × Int) : other (other c) = c := by
  obtain ⟨k, l⟩ := c
  simp only [other, otherK, Prod.mk.injEq, and_true]
  by_cases h2 : k = 2
  · simp [h2]
  by_cases h3 : k = 3
  · simp [h3]
  by_cases h4 : k = 4
  · simp [h4]
  by_cases h5 : k = 5
  · simp [h5]
  simp [h2, h3, h4, h5]

theorem turnC_perm (W H : Nat) (cs : List (Int × Int)) : turnC W H cs = perm (turnAt W H) other cs := rfl
theorem flipC_perm (W : Nat) (cs : List (Int × Int)) : flipC W cs = perm (flipAt W) other cs := rfl

theorem ok_of_size (W H : Nat) (xs : List (Int × Int)) (hW : 1 ≤ W ∧ W ≤ 5) (hH : 1 ≤ H ∧ H ≤ 5) (hl : xs.length = W * H) (hok : (xs.all fun c => okC c.1 c.2) = true) : okG (W : Int) xs = true := by
  refine okG_yes _ _ ?_ hok
  simp only [sizeG, decide_eq_true_eq, hl]
  obtain ⟨a, b⟩ := hW
  obtain ⟨c, d⟩ := hH
  rcases (show W = 1 ∨ W = 2 ∨ W = 3 ∨ W = 4 ∨ W = 5 by omega) with rfl | rfl | rfl | rfl | rfl <;> omega

theorem ok_all (wd : Int) (cs : List (Int × Int)) (h : okG wd cs = true) : (cs.all fun c => okC c.1 c.2) = true := by
  simp only [okG, Bool.and_eq_true] at h
  exact h.2

/-- The turned grid of an ok grid: its width, its cells, that it is ok. -/
theorem turnG_ok (W H : Nat) (cs : List (Int × Int)) (hok : okG (W : Int) cs = true) (hW : 1 ≤ W ∧ W ≤ 5) (hH : 1 ≤ H ∧ H ≤ 5) (hl : cs.length = W * H) : turnG (W : Int) cs = ((H : Int), perm (turnAt W H) other cs) ∧ okG (H : Int) (perm (turnAt W H) other cs) = true := by
  have hd : cs.length / W = H := by rw [hl]; exact Nat.mul_div_cancel_left H (by omega)
  refine ⟨?_, ?_⟩
  · have e : (cs.length : Int) / (W : Int) = (H : Int) := by rw [← hd]; simp
    simp only [turnG, hok, if_true, Int.toNat_natCast, hd, e, turnC_perm]
  · refine ok_of_size H W _ hH hW (by rw [perm_len, hl, Nat.mul_comm]) (perm_all _ _ (fun j hj => ?_) (ok_all _ _ hok))
    rw [hl] at hj ⊢
    exact (turn_lt W H j hW hH hj).2.1
theorem flipG_ok (W H : Nat) (cs : List (Int × Int)) (hok : okG (W : Int) cs = true) (hW : 1 ≤ W ∧ W ≤ 5) (hH : 1 ≤ H ∧ H ≤ 5) (hl : cs.length = W * H) : flipG (W : Int) cs = ((W : Int), perm (flipAt W) other cs) ∧ okG (W : Int) (perm (flipAt W) other cs) = true := by
  refine ⟨?_, ?_⟩
  · simp only [flipG, hok, if_true, Int.toNat_natCast, flipC_perm]
  · refine ok_of_size W H _ hW hH (by rw [perm_len, hl]) (perm_all _ _ (fun j hj => ?_) (ok_all _ _ hok))
    exact (flip_lt W j cs.length hW (by rw [hl]; exact Nat.mul_mod_right W H) hj).2.1

def ixOk (W H j : Nat) : Bool := !(decide (1 ≤ W) && decide (1 ≤ H) && decide (j < W * H)) || (decide (flipAt W (flipAt W j) = j) && decide (turnAt W H (flipAt H j) = flipAt W (turnAt W H (turnAt H W (turnAt W H j)))) && decide (flipAt H j < W * H) && decide (turnAt H W (turnAt W H j) < W * H) && decide (turnAt W H j < W * H) && decide (turnAt W H (turnAt H W (turnAt W H j)) < W * H) && decide (turnAt W H (turnAt H W j) = W * H - 1 - j) && decide (flipAt W j < W * H))
theorem ix_run : ((List.range 6).all fun W => (List.range 6).all fun H => (List.range 25).all fun j => ixOk W H j) = true := by decide +kernel
theorem ix_all (W H j : Nat) (hW : 1 ≤ W ∧ W ≤ 5) (hH : 1 ≤ H ∧ H ≤ 5) (hj : j < W * H) : flipAt W (flipAt W j) = j ∧ turnAt W H (flipAt H j) = flipAt W (turnAt W H (turnAt H W (turnAt W H j))) ∧ flipAt H j < W * H ∧ turnAt H W (turnAt W H j) < W * H ∧ turnAt W H j < W * H ∧ turnAt W H (turnAt H W (turnAt W H j)) < W * H ∧ turnAt W H (turnAt H W j) = W * H - 1 - j ∧ flipAt W j < W * H := by
  have h25 : W * H ≤ 5 * 5 := Nat.mul_le_mul hW.2 hH.2
  have h := ix_run
  simp only [List.all_eq_true, List.mem_range] at h
  have := h W (by omega) H (by omega) j (by omega)
  simp only [ixOk, Bool.or_eq_true, Bool.not_eq_true', Bool.and_eq_true, decide_eq_true_eq, Bool.and_eq_false_iff, decide_eq_false_iff_not] at this
  rcases this with ((h1 | h1) | h1) | h1
  · omega
  · omega
  · omega
  · obtain ⟨⟨⟨⟨⟨⟨⟨a, b⟩, c⟩, d⟩, e⟩, f⟩, g⟩, i⟩ := h1
    exact ⟨a, b, c, d, e, f, g, i⟩

/-- In two mirrors a grid is as it was. -/
theorem flip_flip (W H : Nat) (cs : List (Int × Int)) (hW : 1 ≤ W ∧ W ≤ 5) (hH : 1 ≤ H ∧ H ≤ 5) (hl : cs.length = W * H) : perm (flipAt W) other (perm (flipAt W) other cs) = cs := by
  rw [perm_perm _ _ _ _ _ (fun j hj => by rw [hl] at hj ⊢; exact (ix_all W H j hW hH hj).2.2.2.2.2.2.2)]
  rw [perm_congr _ (fun j => j) _ (fun c => c) cs (fun j hj => by rw [hl] at hj; exact (ix_all W H j hW hH hj).1) other_other]
  exact perm_id cs
/-- Turned and in a mirror: in a mirror and turned three times. -/
theorem flip_turn (W H : Nat) (cs : List (Int × Int)) (hW : 1 ≤ W ∧ W ≤ 5) (hH : 1 ≤ H ∧ H ≤ 5) (hl : cs.length = W * H) :
    perm (flipAt H) other (perm (turnAt W H) other cs) = perm (turnAt W H) other (perm (turnAt H W) other (perm (turnAt W H) other (perm (flipAt W) other cs))) := by
  have hc : ∀ j, j < cs.length → j < W * H := fun j hj => by rw [← hl]; exact hj
  have hl2 : W * H = cs.length := hl.symm
  rw [perm_perm _ _ _ _ _ (fun j hj => by rw [hl]; exact (ix_all W H j hW hH (hc j hj)).2.2.1)]
  rw [perm_perm (turnAt W H) (flipAt W) _ _ cs (fun j hj => by rw [hl]; exact (ix_all W H j hW hH (hc j hj)).2.2.2.2.1)]
  rw [perm_perm (turnAt H W) _ _ _ cs (fun j hj => by
    rw [hl]
    have := (ix_all H W j hH hW (by rw [Nat.mul_comm]; exact hc j hj)).2.2.2.2.1
    rw [Nat.mul_comm]; exact this)]
  rw [perm_perm (turnAt W H) _ _ _ cs (fun j hj => by rw [hl]; exact (ix_all W H j hW hH (hc j hj)).2.2.2.2.1)]
  refine perm_congr _ _ _ _ cs (fun j hj => ?_) (fun c => ?_)
  · exact (ix_all W H j hW hH (hc j hj)).2.1
  · simp only [other_other]

end Go.Proofs.Ytankkkiccokggaa
