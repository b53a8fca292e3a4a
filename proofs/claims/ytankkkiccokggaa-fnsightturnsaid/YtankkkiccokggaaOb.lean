/-
  copy(dst, src) between rows of cells of two words each: dst is a row that the call owns, as long as src.
-/
import Derived.Test.YtankkkiccokggaaOa
import Derived.Laws.CopyOwn
namespace Go.Proofs.Ytankkkiccokggaa
open Go.RowKit

theorem copy_own2 {P : Program} {w : World} {ops : Array Oper} {rest : List Oper} {o : Oper} {a : Act} {Q : Exit → Act → World → Prop} (hgd : o.guard = none) (d s : Operand) (dT sT : TypeId)
    (ho : o.op = .call { callee := .builtin .copy, args := #[d, s], argTypes := #[dT, sT] }) (e : TypeId) (hu : P.underlying dT = some (.slice e)) (hsz : (P.info? e).map (·.size) = some 2)
    (B g n cap : Nat) (xs : List Value) (ad : Addr) (sCap : Nat) (hd : a.eval d = .slice (some ⟨g, 0, none⟩) n cap) (hs : a.eval s = .slice (some ad) n sCap)
    (hown : w.ownsRow B e 2 (.slice (some ⟨g, 0, none⟩) n cap) n xs) (cs : List Value) (hn : cs.length = n * 2)
    (hsrc : ∀ j v, cs[j]? = some v → w.cell? (ad.add j) = some v) (h1 : ∀ v ∈ cs, v.oneCell' = true)
    (h : ∀ w', w'.ownsRow B e 2 (.slice (some ⟨g, 0, none⟩) n cap) n cs → w.grownBy w' (some g) → wpList P ops Q rest (a.put o.dst (goInt n)) w') : wpList P ops Q (o :: rest) a w := by
  obtain ⟨hx, hr⟩ := hown
  rcases hr with ⟨h0, _⟩ | ⟨g', cap', cur, hv, hB, hg, hc1, hc2, hc3, htake⟩
  · simp at h0
  · simp only [Value.slice.injEq, Option.some.injEq, Addr.mk.injEq, and_true, true_and] at hv
    obtain ⟨rfl, rfl⟩ := hv
    refine wpList_plain hgd fun K hK => ?_
    have hl := run_loadCells_list (P := P) w ad cs hsrc
    have hfit : n * 2 ≤ cur.size := by rw [hc3]; exact Nat.mul_le_mul_right 2 hc1
    have hst := run_storeCells_at P g 0 e cs 0 cur w hg (by simp [hn]; exact hfit) h1
    have hrun : (Builtin.copy_ #[dT, sT] o.type #[.slice (some ⟨g, 0, none⟩) n cap, .slice (some ad) n sCap]).run P w = .ok (goInt n) (w.setRow g (cur.toList.take 0 ++ cs ++ cur.toList.drop (0 + cs.length)).toArray) := by
      cases hq : P.info? e with
      | none => simp [hq] at hsz
      | some i =>
        have hi : i.size = 2 := by simpa [hq] using hsz
        rw [hn] at hl
        simp only [Nat.add_zero] at hst
        simp [Builtin.copy_, run_underlying hu, Builtin.lenOf, Builtin.firstCells, sizeOf, typeInfo, hq, hi, hl, hst]
    unfold Oper.wp
    simp only [execOp, ho]
    simp [resolve, invoke, builtin, hd, hs, hrun, Result.andThen]
    refine hK _ _ ?_
    have hset := setRow_heap w g cur (cs ++ cur.toList.drop cs.length).toArray e (0, 0) hg
    have hlen : (cs ++ cur.toList.drop cs.length).length = cap * 2 := by
      have hcl : cur.toList.length = cap * 2 := by simpa using hc3
      simp only [List.length_append, List.length_drop]
      rw [hcl, hn]
      have := Nat.mul_le_mul_right 2 hc1
      omega
    have := h (w.setRow g (cs ++ cur.toList.drop cs.length).toArray) ⟨hn, Or.inr ⟨g, cap, _, rfl, hB, hset, hc1, hc2, by simpa using hlen, by rw [← hn]; simp⟩⟩
      ⟨rfl, rfl, rfl, by simp [World.setRow], fun k _ hk => setRow_other w g k _ (fun ek => hk (by simp [ek]))⟩
    simpa using this

end Go.Proofs.Ytankkkiccokggaa
