/-
  Several texts in one: Ob, Px.
-/
import Derived.Test.YtjmdlppakinboaaDoorJa
import Derived.Laws.CopyOwn

/-
  copy(dst, src) between rows of cells of two words each: dst is a row that the call owns, as long as src.
-/
namespace Go.Proofs.YtjmdlppakinboaaDoor
open Go.RowKit

theorem copy_own2 {P : Program} {w : World} {ops : Array Oper} {rest : List Oper} {o : Oper} {a : Act} {Q : Exit → Act → World → Prop} (hgd : o.guard = none) (d s : Operand) (dT sT : TypeId)
    (ho : o.op = .call { callee := .builtin .copy, args := #[d, s], argTypes := #[dT, sT] }) (e : TypeId) (hu : P.underlying dT = some (.slice e)) (hsz : (P.info? e).map (·.size) = some 2)
    (B g n cap : Nat) (xs : List Value) (ad : Addr) (sCap : Nat) (hd : a.eval d = .slice (some ⟨g, 0, none⟩) n cap) (hs : a.eval s = .slice (some ad) n sCap)
    (hown : w.ownsRow B e 2 (.slice (some ⟨g, 0, none⟩) n cap) n xs) (cs : List Value) (hn : cs.length = n * 2)
    (hsrc : ∀ j v, cs[j]? = some v → w.cell? (ad.add j) = some v) (h1 : ∀ v ∈ cs, v.oneCell' = true)
    (h : ∀ w', w'.ownsRow B e 2 (.slice (some ⟨g, 0, none⟩) n cap) n cs → w.grownBy w' (some g) → wpList P ops Q rest (a.put o.dst (goInt n)) w') : wpList P ops Q (o :: rest) a w := by
  obtain ⟨hx, hr⟩ := hown
  rcases hr with ⟨h0, _⟩ | ⟨g', cap', cur, hv, hB, hg, hc1, hc2, hc3, htake⟩
  · simp at h0
  · simp only [Value.slice.injEq, Option.some.injEq, Addr.mk.injEq, and_true, true_and] at hv
    obtain ⟨rfl, rfl⟩ := hv
    refine wpList_plain hgd fun K hK => ?_
    have hl := run_loadCells_list (P := P) w ad cs hsrc
    have hfit : n * 2 ≤ cur.size := by rw [hc3]; exact Nat.mul_le_mul_right 2 hc1
    have hst := run_storeCells_at P g 0 e cs 0 cur w hg (by simp [hn]; exact hfit) h1
    have hrun : (Builtin.copy_ #[dT, sT] o.type #[.slice (some ⟨g, 0, none⟩) n cap, .slice (some ad) n sCap]).run P w = .ok (goInt n) (w.setRow g (cur.toList.take 0 ++ cs ++ cur.toList.drop (0 + cs.length)).toArray) := by
      cases hq : P.info? e with
      | none => simp [hq] at hsz
      | some i =>
        have hi : i.size = 2 := by simpa [hq] using hsz
        rw [hn] at hl
        simp only [Nat.add_zero] at hst
        simp [Builtin.copy_, run_underlying hu, Builtin.lenOf, Builtin.firstCells, sizeOf, typeInfo, hq, hi, hl, hst]
    unfold Oper.wp
    simp only [execOp, ho]
    simp [resolve, invoke, builtin, hd, hs, hrun, Result.andThen]
    refine hK _ _ ?_
    have hset := setRow_heap w g cur (cs ++ cur.toList.drop cs.length).toArray e (0, 0) hg
    have hlen : (cs ++ cur.toList.drop cs.length).length = cap * 2 := by
      have hcl : cur.toList.length = cap * 2 := by simpa using hc3
      simp only [List.length_append, List.length_drop]
      rw [hcl, hn]
      have := Nat.mul_le_mul_right 2 hc1
      omega
    have := h (w.setRow g (cs ++ cur.toList.drop cs.length).toArray) ⟨hn, Or.inr ⟨g, cap, _, rfl, hB, hset, hc1, hc2, by simpa using hlen, by rw [← hn]; simp⟩⟩
      ⟨rfl, rfl, rfl, by simp [World.setRow], fun k _ hk => setRow_other w g k _ (fun ek => hk (by simp [ek]))⟩
    simpa using this

end Go.Proofs.YtjmdlppakinboaaDoor

/-
  Small facts on grids and on slices of cells.
-/
namespace Go.Proofs.YtjmdlppakinboaaDoor
open Go.RowKit

theorem okG_len (wd : Int) (cs : List (Int × Int)) (h : okG wd cs = true) : 1 ≤ wd ∧ wd ≤ 5 ∧ (cs.length : Int) % wd = 0 ∧ 1 ≤ (cs.length : Int) / wd ∧ (cs.length : Int) / wd ≤ 5 ∧ 1 ≤ cs.length ∧ cs.length ≤ 25 := by
  simp only [okG, sizeG, Bool.and_eq_true, decide_eq_true_eq] at h
  obtain ⟨⟨h1, h2, h3, h4, h5⟩, _⟩ := h
  have hd := Int.emod_add_mul_ediv (cs.length : Int) wd
  rw [h3] at hd
  rcases (show wd = 1 ∨ wd = 2 ∨ wd = 3 ∨ wd = 4 ∨ wd = 5 by omega) with rfl | rfl | rfl | rfl | rfl <;> omega

/-- A store into another block. -/
theorem Own.other {w : World} {B g n cap : Nat} {cs : List (Int × Int)} (h : Own w B (.slice (some ⟨g, 0, none⟩) n cap) cs) {p : Addr} (hne : g ≠ p.block) (u : Value) : Own (w.setCell p u) B (.slice (some ⟨g, 0, none⟩) n cap) cs := by
  obtain ⟨h1, h2⟩ := h
  refine ⟨h1, ?_⟩
  rcases h2 with ⟨h2, _⟩ | ⟨g', cap', cur, hv, hg, hh, r⟩
  · simp at h2
  · have hv' := hv
    simp only [Value.slice.injEq, Option.some.injEq, Addr.mk.injEq, and_true] at hv'
    exact Or.inr ⟨g', cap', cur, hv, hg, by rw [Below.heap_setCell _ _ _ _ (by rw [← hv'.1]; exact hne)]; exact hh, r⟩
theorem sizeCell : (Tryd.prog.info? 82).map (·.size) = some 2 := by kernel_rfl
theorem flat_one (cs : List (Int × Int)) : ∀ v ∈ flat cs, v.oneCell' = true := by
  intro v hv
  simp only [flat, List.mem_flatMap, List.mem_cons, List.not_mem_nil, or_false] at hv
  obtain ⟨c, _, rfl | rfl⟩ := hv <;> rfl
theorem cells_src {w : World} {b off : Nat} {cs : List (Int × Int)} (h : ∀ i, i < cs.length → w.cell? ⟨b, off + i * 2, none⟩ = some (.int .i64 (cs.getD i (0, 0)).1) ∧ w.cell? ⟨b, off + i * 2 + 1, none⟩ = some (.int .i64 (cs.getD i (0, 0)).2)) :
    ∀ j v, (flat cs)[j]? = some v → w.cell? ((⟨b, off, none⟩ : Addr).add j) = some v := by
  intro j v hv
  have hadd : (⟨b, off, none⟩ : Addr).add j = ⟨b, off + j, none⟩ := by unfold Addr.add; split <;> simp_all
  rw [hadd]
  have hj : j < cs.length * 2 := by
    rw [← flat_len]
    exact (List.getElem?_eq_some_iff.1 hv).1
  have hi : j / 2 < cs.length := by omega
  have hf := flat_at cs (j / 2) hi
  have hc := h (j / 2) hi
  rcases (show j = j / 2 * 2 ∨ j = j / 2 * 2 + 1 by omega) with e | e
  · rw [← e] at hf hc
    rw [hf.1] at hv
    rw [hc.1]; exact hv
  · rw [← e] at hf
    rw [hf.2] at hv
    rw [Nat.add_assoc, ← e] at hc
    rw [hc.2]; exact hv

end Go.Proofs.YtjmdlppakinboaaDoor
