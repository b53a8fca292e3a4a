/-
  A row of numbers that counts what was seen; the pair of place and way that a sight is seen from, as a number: at the end each sight was seen once.
-/
import Derived.Test.YtankkkiccokggaaVp
import Derived.Test.YtankkkiccokggaaOa
import Derived.Test.YtankkkiccokggaaDe
namespace Go.Proofs.Ytankkkiccokggaa
open Go.RowKit
set_option linter.unusedVariables false

theorem infoInt : (Try.prog.info? 3).map (fun i => (i.zero, i.size, i.bytes)) = some (some (.int .i64 0), 1, 8) := by kernel_rfl
theorem make_ints (n : Nat) (hn : n ≤ 1048576) (w : World) : (Instr.makeSlice 42 (.int .i64 (n : Int)) (.int .i64 (n : Int))).run Try.prog w = .ok (.slice (some ⟨w.heap.size, 0, none⟩) n n) (w.alloc (.cells (madeCells #[.int .i64 0] n) 3)) := by
  obtain ⟨i0, hi, iz0, iz1, iz2⟩ := info_parts infoInt
  have := run_make (P := Try.prog) w 42 3 i0 (.int .i64 0) Try.underlying42 hi iz0 .i64 .i64 (n : Int) (n : Int) (by omega) (by omega) (by rw [iz2]; omega) (by omega)
  rw [iz1] at this
  simpa [Value.cells] using this

/-- The row at g holds the numbers c 0, c 1 and so on, m of them. -/
structure SeenAt (w : World) (g m : Nat) (c : Nat → Int) : Prop where
  lt : g < w.heap.size
  at' : ∀ i, i < m → w.cell? ⟨g, i, none⟩ = some (.int .i64 (c i))
  fz : ∀ i, i < m → w.frozen? ⟨g, i, none⟩ = false
theorem seen_new (w : World) (m : Nat) : SeenAt (w.alloc (.cells (madeCells #[.int .i64 0] m) 3)) w.heap.size m (fun _ => 0) := by
  refine ⟨by simp, fun i hi => ?_, fun i hi => ?_⟩
  · rw [World.cell?_alloc_at _ _ _ _ rfl]
    simp [madeCells, hi, Nat.mod_one]
  · simp [go_sem]
theorem SeenAt.below {w w' : World} {g m : Nat} {c : Nat → Int} (h : SeenAt w g m c) (hb : Below w.heap.size w w') : SeenAt w' g m c :=
  ⟨Nat.lt_of_lt_of_le h.lt hb.size, fun i hi => keepc hb (h.at' i hi), fun i hi => keepf hb (h.at' i hi) (h.fz i hi)⟩
theorem SeenAt.put {w : World} {g m : Nat} {c c' : Nat → Int} (h : SeenAt w g m c) (i : Nat) (v : Int) (hi : i < m) (h1 : c' i = v) (h2 : ∀ j, j < m → j ≠ i → c' j = c j) : SeenAt (w.setCell ⟨g, i, none⟩ (.int .i64 v)) g m c' := by
  refine ⟨by simpa using h.lt, fun j hj => ?_, fun j hj => ?_⟩
  · by_cases e : j = i
    · subst e
      rw [World.cell?_setCell_same _ _ _ (by rw [h.at' j hj]), h1]
    · rw [World.cell?_setCell_other _ _ _ _ (by simp), h2 j hj e]
      exact h.at' j hj
  · simpa using h.fz j hj
theorem SeenAt.like {w : World} {g m : Nat} {c c' : Nat → Int} (h : SeenAt w g m c) (h2 : ∀ j, j < m → c' j = c j) : SeenAt w g m c' :=
  ⟨h.lt, fun j hj => by rw [h2 j hj]; exact h.at' j hj, h.fz⟩

/-- What stands while sights are counted. -/
structure CInv (w wr : World) (gb g m : Nat) (wd : Int) (a : Option Addr) (cs : List (Int × Int)) (c1 : Nat) (c : Nat → Int) : Prop where
  hb : Below w.heap.size w wr
  g0 : wr.cell? ⟨gb, 0, none⟩ = some (.int .i64 wd)
  g1 : wr.cell? ⟨gb, 1, none⟩ = some (.slice a cs.length c1)
  hC : CellsAt wr a cs
  sn : SeenAt wr g m c
  sz : w.heap.size ≤ g ∧ gb < g
  ne : ∀ b off, a = some ⟨b, off, none⟩ → b ≠ g
theorem CInv.below {w wr w2 : World} {gb g m : Nat} {wd : Int} {a : Option Addr} {cs : List (Int × Int)} {c1 : Nat} {c : Nat → Int} (h : CInv w wr gb g m wd a cs c1 c) (hb : Below wr.heap.size wr w2) : CInv w w2 gb g m wd a cs c1 c :=
  ⟨bcall h.hb h.hb.size hb, keepc hb h.g0, keepc hb h.g1, h.hC.below hb, h.sn.below hb, h.sz, h.ne⟩
theorem CInv.put {w wr : World} {gb g m : Nat} {wd : Int} {a : Option Addr} {cs : List (Int × Int)} {c1 : Nat} {c c' : Nat → Int} (h : CInv w wr gb g m wd a cs c1 c) (i : Nat) (v : Int) (hi : i < m) (h1 : c' i = v) (h2 : ∀ j, j < m → j ≠ i → c' j = c j) :
    CInv w (wr.setCell ⟨g, i, none⟩ (.int .i64 v)) gb g m wd a cs c1 c' := by
  obtain ⟨s1, s2⟩ := h.sz
  exact ⟨h.hb.setCell (p := ⟨g, i, none⟩) s1 _, setc (by omega) h.g0, setc (by omega) h.g1, h.hC.set (fun b off e => h.ne b off e) _, h.sn.put i v hi h1 h2, h.sz, h.ne⟩
theorem CInv.like {w wr : World} {gb g m : Nat} {wd : Int} {a : Option Addr} {cs : List (Int × Int)} {c1 : Nat} {c c' : Nat → Int} (h : CInv w wr gb g m wd a cs c1 c) (h2 : ∀ j, j < m → c' j = c j) : CInv w wr gb g m wd a cs c1 c' :=
  ⟨h.hb, h.g0, h.g1, h.hC, h.sn.like h2, h.sz, h.ne⟩

/-- The pair of place and way that a sight is seen from. -/
def pI (W H i : Nat) : Int := 4 * (sRay W H i).1 + ((sRay W H i).2 + 2) % 4
/-- How often a sight was seen, behind the first t pairs. -/
def cN (W H : Nat) (t : Nat) (i : Nat) : Int := if pI W H i < (t : Int) then 1 else 0

theorem pI_in {W H : Nat} (hW : 1 ≤ W ∧ W ≤ 5) (hH : 1 ≤ H ∧ H ≤ 5) (i : Nat) (hi : i < 2 * (W + H)) : 0 ≤ pI W H i ∧ pI W H i < 4 * ((W : Int) * (H : Int)) := by
  obtain ⟨x, d, hs⟩ : ∃ x d, sRay W H (i : Int) = (x, d) := ⟨_, _, rfl⟩
  obtain ⟨hx, hd, _, _⟩ := sight_back W H i hW hH hi x d hs
  unfold pI
  rw [hs]
  omega
theorem pI_of {wd : Int} {cs : List (Int × Int)} {W H : Nat} (S : Siz wd cs W H) (i : Nat) (hi : i < 2 * (W + H)) (X D : Nat) (hX : X < cs.length) (hD : D < 4) : pI W H i = ((4 * X + D : Nat) : Int) ↔ outOf wd cs (X : Int) (D : Int) = (i : Int) := by
  obtain ⟨x, d, hs⟩ : ∃ x d, sRay W H (i : Int) = (x, d) := ⟨_, _, rfl⟩
  obtain ⟨hx, hd, _, ho⟩ := sight_back W H i S.hW S.hH hi x d hs
  have e1 : (cs.length : Int) = (W : Int) * (H : Int) := by rw [S.el]; simp
  unfold pI
  rw [hs]
  constructor
  · intro q
    have q1 : x = (X : Int) := by simp at q; omega
    have q2 : (d + 2) % 4 = (D : Int) := by simp at q; omega
    rw [outOf_at S _ _ (by omega) (by omega), ← q1, ← q2]
    exact ho
  · intro q
    rcases out_fact S.ok (x := (X : Int)) (d := (D : Int)) (by omega) (by omega) with ⟨_, _, _, o⟩ | ⟨_, o⟩
    · omega
    · rw [q, inRay_at S i hi, hs] at o
      simp only [Prod.mk.injEq] at o
      rw [o.1, o.2.1]
      simp
      omega

/-- One pair more. -/
theorem cN_step {wd : Int} {cs : List (Int × Int)} {W H : Nat} (S : Siz wd cs W H) (X D : Nat) (hX : X < cs.length) (hD : D < 4) :
    (outOf wd cs (X : Int) (D : Int) = -1 ∧ ∀ j, j < 2 * (W + H) → cN W H (4 * X + (D + 1)) j = cN W H (4 * X + D) j) ∨
    ∃ i : Nat, i < 2 * (W + H) ∧ outOf wd cs (X : Int) (D : Int) = (i : Int) ∧ cN W H (4 * X + D) i = 0 ∧ cN W H (4 * X + (D + 1)) i = 1 ∧ ∀ j, j < 2 * (W + H) → j ≠ i → cN W H (4 * X + (D + 1)) j = cN W H (4 * X + D) j := by
  have e1 : (cs.length : Int) = (W : Int) * (H : Int) := by rw [S.el]; simp
  have hstep : ∀ j, j < 2 * (W + H) → ¬ outOf wd cs (X : Int) (D : Int) = (j : Int) → cN W H (4 * X + (D + 1)) j = cN W H (4 * X + D) j := by
    intro j hj hne
    have h1 : ¬ pI W H j = ((4 * X + D : Nat) : Int) := fun q => hne ((pI_of S j hj X D hX hD).1 q)
    unfold cN
    by_cases q : pI W H j < ((4 * X + D : Nat) : Int)
    · rw [if_pos q, if_pos (by omega)]
    · rw [if_neg q, if_neg (by omega)]
  by_cases hk : outOf wd cs (X : Int) (D : Int) = -1
  · exact Or.inl ⟨hk, fun j hj => hstep j hj (by omega)⟩
  · right
    have hr : 0 ≤ outOf wd cs (X : Int) (D : Int) ∧ outOf wd cs (X : Int) (D : Int) < 2 * ((W : Int) + (H : Int)) := by
      rcases out_fact S.ok (x := (X : Int)) (d := (D : Int)) (by omega) (by omega) with ⟨_, _, _, o⟩ | ⟨_, o⟩
      · exact absurd o hk
      · unfold inRay at o
        split at o
        · next c => have := c.2; rw [S.em] at this; exact this
        · simp at o
    obtain ⟨i, hi⟩ := Int.eq_ofNat_of_zero_le hr.1
    have hi2 : i < 2 * (W + H) := by have := hr.2; omega
    have hp := (pI_of S i hi2 X D hX hD).2 hi
    refine ⟨i, hi2, hi, ?_, ?_, fun j hj hne => hstep j hj (by rw [hi]; omega)⟩
    · unfold cN; rw [hp, if_neg (by omega)]
    · unfold cN; rw [hp, if_pos (by omega)]
theorem cN_start {W H : Nat} (hW : 1 ≤ W ∧ W ≤ 5) (hH : 1 ≤ H ∧ H ≤ 5) (i : Nat) (hi : i < 2 * (W + H)) : cN W H 0 i = 0 := by
  have := (pI_in hW hH i hi).1
  unfold cN; rw [if_neg (by omega)]
theorem cN_end {wd : Int} {cs : List (Int × Int)} {W H : Nat} (S : Siz wd cs W H) (i : Nat) (hi : i < 2 * (W + H)) : cN W H (4 * cs.length) i = 1 := by
  have e1 : (cs.length : Int) = (W : Int) * (H : Int) := by rw [S.el]; simp
  have := (pI_in S.hW S.hH i hi).2
  unfold cN; rw [if_pos (by omega)]
end Go.Proofs.Ytankkkiccokggaa
