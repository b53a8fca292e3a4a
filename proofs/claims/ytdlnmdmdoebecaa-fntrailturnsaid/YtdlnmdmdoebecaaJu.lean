/-
  Several texts in one: Ob, Px, Pa, Pb, Pc, Pd.
-/
import Derived.Test.YtdlnmdmdoebecaaJa
import Derived.Laws.CopyOwn
import Derived.Deep.RegionLaw

/-
  copy(dst, src) between rows of cells of two words each: dst is a row that the call owns, as long as src.
-/
namespace Go.Proofs.Ytdlnmdmdoebecaa
open Go.RowKit

theorem copy_own2 {P : Program} {w : World} {ops : Array Oper} {rest : List Oper} {o : Oper} {a : Act} {Q : Exit → Act → World → Prop} (hgd : o.guard = none) (d s : Operand) (dT sT : TypeId)
    (ho : o.op = .call { callee := .builtin .copy, args := #[d, s], argTypes := #[dT, sT] }) (e : TypeId) (hu : P.underlying dT = some (.slice e)) (hsz : (P.info? e).map (·.size) = some 2)
    (B g n cap : Nat) (xs : List Value) (ad : Addr) (sCap : Nat) (hd : a.eval d = .slice (some ⟨g, 0, none⟩) n cap) (hs : a.eval s = .slice (some ad) n sCap)
    (hown : w.ownsRow B e 2 (.slice (some ⟨g, 0, none⟩) n cap) n xs) (cs : List Value) (hn : cs.length = n * 2)
    (hsrc : ∀ j v, cs[j]? = some v → w.cell? (ad.add j) = some v) (h1 : ∀ v ∈ cs, v.oneCell' = true)
    (h : ∀ w', w'.ownsRow B e 2 (.slice (some ⟨g, 0, none⟩) n cap) n cs → w.grownBy w' (some g) → wpList P ops Q rest (a.put o.dst (goInt n)) w') : wpList P ops Q (o :: rest) a w := by
  obtain ⟨hx, hr⟩ := hown
  rcases hr with ⟨h0, _⟩ | ⟨g', cap', cur, hv, hB, hg, hc1, hc2, hc3, htake⟩
  · simp at h0
  · simp only [Value.slice.injEq, Option.some.injEq, Addr.mk.injEq, and_true, true_and] at hv
    obtain ⟨rfl, rfl⟩ := hv
    refine wpList_plain hgd fun K hK => ?_
    have hl := run_loadCells_list (P := P) w ad cs hsrc
    have hfit : n * 2 ≤ cur.size := by rw [hc3]; exact Nat.mul_le_mul_right 2 hc1
    have hst := run_storeCells_at P g 0 e cs 0 cur w hg (by simp [hn]; exact hfit) h1
    have hrun : (Builtin.copy_ #[dT, sT] o.type #[.slice (some ⟨g, 0, none⟩) n cap, .slice (some ad) n sCap]).run P w = .ok (goInt n) (w.setRow g (cur.toList.take 0 ++ cs ++ cur.toList.drop (0 + cs.length)).toArray) := by
      cases hq : P.info? e with
      | none => simp [hq] at hsz
      | some i =>
        have hi : i.size = 2 := by simpa [hq] using hsz
        rw [hn] at hl
        simp only [Nat.add_zero] at hst
        simp [Builtin.copy_, run_underlying hu, Builtin.lenOf, Builtin.firstCells, sizeOf, typeInfo, hq, hi, hl, hst]
    unfold Oper.wp
    simp only [execOp, ho]
    simp [resolve, invoke, builtin, hd, hs, hrun, Result.andThen]
    refine hK _ _ ?_
    have hset := setRow_heap w g cur (cs ++ cur.toList.drop cs.length).toArray e (0, 0) hg
    have hlen : (cs ++ cur.toList.drop cs.length).length = cap * 2 := by
      have hcl : cur.toList.length = cap * 2 := by simpa using hc3
      simp only [List.length_append, List.length_drop]
      rw [hcl, hn]
      have := Nat.mul_le_mul_right 2 hc1
      omega
    have := h (w.setRow g (cs ++ cur.toList.drop cs.length).toArray) ⟨hn, Or.inr ⟨g, cap, _, rfl, hB, hset, hc1, hc2, by simpa using hlen, by rw [← hn]; simp⟩⟩
      ⟨rfl, rfl, rfl, by simp [World.setRow], fun k _ hk => setRow_other w g k _ (fun ek => hk (by simp [ek]))⟩
    simpa using this

end Go.Proofs.Ytdlnmdmdoebecaa

/-
  Small facts on grids and on slices of cells.
-/
namespace Go.Proofs.Ytdlnmdmdoebecaa
open Go.RowKit

theorem okG_len (wd : Int) (cs : List (Int × Int)) (h : okG wd cs = true) : 1 ≤ wd ∧ wd ≤ 5 ∧ (cs.length : Int) % wd = 0 ∧ 1 ≤ (cs.length : Int) / wd ∧ (cs.length : Int) / wd ≤ 5 ∧ 1 ≤ cs.length ∧ cs.length ≤ 25 := by
  simp only [okG, sizeG, Bool.and_eq_true, decide_eq_true_eq] at h
  obtain ⟨⟨h1, h2, h3, h4, h5⟩, _⟩ := h
  have hd := Int.emod_add_mul_ediv (cs.length : Int) wd
  rw [h3] at hd
  rcases (show wd = 1 ∨ wd = 2 ∨ wd = 3 ∨ wd = 4 ∨ wd = 5 by omega) with rfl | rfl | rfl | rfl | rfl <;> omega

/-- A store into another block. -/
theorem Own.other {w : World} {B g n cap : Nat} {cs : List (Int × Int)} (h : Own w B (.slice (some ⟨g, 0, none⟩) n cap) cs) {p : Addr} (hne : g ≠ p.block) (u : Value) : Own (w.setCell p u) B (.slice (some ⟨g, 0, none⟩) n cap) cs := by
  obtain ⟨h1, h2⟩ := h
  refine ⟨h1, ?_⟩
  rcases h2 with ⟨h2, _⟩ | ⟨g', cap', cur, hv, hg, hh, r⟩
  · simp at h2
  · have hv' := hv
    simp only [Value.slice.injEq, Option.some.injEq, Addr.mk.injEq, and_true] at hv'
    exact Or.inr ⟨g', cap', cur, hv, hg, by rw [Below.heap_setCell _ _ _ _ (by rw [← hv'.1]; exact hne)]; exact hh, r⟩
theorem sizeCell : (Try.prog.info? 33).map (·.size) = some 2 := by kernel_rfl
theorem flat_one (cs : List (Int × Int)) : ∀ v ∈ flat cs, v.oneCell' = true := by
  intro v hv
  simp only [flat, List.mem_flatMap, List.mem_cons, List.not_mem_nil, or_false] at hv
  obtain ⟨c, _, rfl | rfl⟩ := hv <;> rfl
theorem cells_src {w : World} {b off : Nat} {cs : List (Int × Int)} (h : ∀ i, i < cs.length → w.cell? ⟨b, off + i * 2, none⟩ = some (.int .i64 (cs.getD i (0, 0)).1) ∧ w.cell? ⟨b, off + i * 2 + 1, none⟩ = some (.int .i64 (cs.getD i (0, 0)).2)) :
    ∀ j v, (flat cs)[j]? = some v → w.cell? ((⟨b, off, none⟩ : Addr).add j) = some v := by
  intro j v hv
  have hadd : (⟨b, off, none⟩ : Addr).add j = ⟨b, off + j, none⟩ := by unfold Addr.add; split <;> simp_all
  rw [hadd]
  have hj : j < cs.length * 2 := by
    rw [← flat_len]
    exact (List.getElem?_eq_some_iff.1 hv).1
  have hi : j / 2 < cs.length := by omega
  have hf := flat_at cs (j / 2) hi
  have hc := h (j / 2) hi
  rcases (show j = j / 2 * 2 ∨ j = j / 2 * 2 + 1 by omega) with e | e
  · rw [← e] at hf hc
    rw [hf.1] at hv
    rw [hc.1]; exact hv
  · rw [← e] at hf
    rw [hf.2] at hv
    rw [Nat.add_assoc, ← e] at hc
    rw [hc.2]; exact hv

end Go.Proofs.Ytdlnmdmdoebecaa

/-
  The contract of impl.GridPut: a grid with another cell in new memory, or nothing; it turns no memory that was there.
-/
namespace Go.Proofs.Ytdlnmdmdoebecaa
open Go.RowKit

/-- Whether a cell may be put. -/
def canPut (wd : Int) (cs : List (Int × Int)) (at_ k l : Int) : Bool := okG wd cs && (okC k l && decide (0 ≤ at_ ∧ at_ < cs.length))

end Go.Proofs.Ytdlnmdmdoebecaa

/-
  The contract of spec.GridPut: a grid with another cell in new memory, or nothing; it turns no memory that was there.
-/
namespace Go.Proofs.Ytdlnmdmdoebecaa
open Go.RowKit

/-- append to a row that the call owns, as one step of a region that draws its order. -/
theorem step_append_own {P : Program} {ops : Array Oper} {o : Oper} {a : Act} {w : World} {K : Act → World → Prop} {Q : Exit → Act → World → Prop} {E : Prop}
    (hgd : o.guard = none) (s x : Operand) (t : TypeId) (ho : o.op = .call { callee := .builtin .append, args := #[s, x], argTypes := #[t, t] })
    (base : Nat) (e : TypeId) (i : TypeInfo) (z : Value) (size bytes : Nat) (ht : P.underlying t = some (.slice e)) (hi : P.info? e = some i) (hz : i.zero = some z)
    (hsize : i.size = size) (hby : i.bytes = bytes) (hzs : z.cells.size = size) (hsz : 0 < size)
    (v : Value) (n : Nat) (xs : List Value) (hs : a.eval s = v) (hown : w.ownsRow base e size v n xs)
    (ad : Addr) (m c : Nat) (news : List Value) (hx : a.eval x = .slice (some ad) m c) (hl : news.length = m * size) (hnews : ∀ j u, news[j]? = some u → w.cell? (ad.add j) = some u) (h1 : ∀ u ∈ news, u.oneCell' = true)
    (h63 : n + m ≤ maxLen) (hbytes : (n + m) * bytes ≤ 140737488355328) (hbase : base ≤ w.heap.size)
    (h : ∀ v' w', w'.ownsRow base e size v' (n + m) (xs ++ news) → w.grownBy w' v.ownBlock → (v' = .slice none 0 0 ↔ v = .slice none 0 0 ∧ m = 0) → K (a.put o.dst v') w') :
    if Region.wanted o (yielded ops a.tmps) = true then Oper.wp P o a w K Q else E := by
  have hw : Region.wanted o (yielded ops a.tmps) = true := by simp [Region.wanted, hgd]
  rw [if_pos hw]
  exact wp_append_own w s x t ho base e i z size bytes ht hi hz hsize hby hzs hsz v n xs hs hown ad m c news hx hl hnews h1 h63 hbytes hbase h

theorem own_form {w : World} {B : Nat} {e : TypeId} {size : Nat} {v : Value} {n : Nat} {xs : List Value} (h : w.ownsRow B e size v n xs) (hn : 0 < n) : ∃ g cap, v = .slice (some ⟨g, 0, none⟩) n cap ∧ B ≤ g ∧ g < w.heap.size := by
  rcases h.2 with ⟨_, h0⟩ | ⟨g, cap, cur, hv, hB, hg, _⟩
  · omega
  · exact ⟨g, cap, hv, hB, (Array.getElem?_eq_some_iff.1 hg).1⟩
theorem own_emptyP (w : World) (B : Nat) (e : TypeId) (size : Nat) (hB : B ≤ w.heap.size) : (w.alloc (.cells #[] e)).ownsRow B e size (.slice (some ⟨w.heap.size, 0, none⟩) 0 0) 0 [] := by
  refine ⟨by simp, Or.inr ⟨w.heap.size, 0, #[], rfl, hB, heap_alloc_new w _, Nat.le_refl _, by unfold maxLen; omega, by simp, by simp⟩⟩

end Go.Proofs.Ytdlnmdmdoebecaa

/-
  The contract of spec.GridPut: a grid with another cell in new memory, or nothing; it turns no memory that was there.
-/
namespace Go.Proofs.Ytdlnmdmdoebecaa
open Go.RowKit

end Go.Proofs.Ytdlnmdmdoebecaa

/-
  The contracts of GridPut, of both packages, at every grid, place and cell: what the plain function 'putG' says, in new memory.
-/
namespace Go.Proofs.Ytdlnmdmdoebecaa
open Go.RowKit
set_option linter.unusedVariables false

theorem own_cells {w : World} {B g cap : Nat} {cs : List (Int × Int)} (h : Own w B (.slice (some ⟨g, 0, none⟩) cs.length cap) cs) : CellsAt w (some ⟨g, 0, none⟩) cs := by
  obtain ⟨a, c, e, hC⟩ := h.slice
  simp only [Value.slice.injEq] at e
  rw [e.1]
  exact hC

/-- The grid with another cell, and whether there is one. -/
def putG (wd : Int) (cs : List (Int × Int)) (at_ k l : Int) : Int × List (Int × Int) × Bool := if canPut wd cs at_ k l then (wd, cs.set at_.toNat (k, l), true) else (0, [], false)

theorem putG_len (wd : Int) (cs : List (Int × Int)) (at_ k l : Int) : (putG wd cs at_ k l).2.1.length ≤ 25 := by
  unfold putG
  by_cases h : canPut wd cs at_ k l = true
  · rw [if_pos h]
    simp only [canPut, Bool.and_eq_true] at h
    have := okG_len wd cs h.1
    simp
    omega
  · rw [if_neg h]
    simp

end Go.Proofs.Ytdlnmdmdoebecaa
