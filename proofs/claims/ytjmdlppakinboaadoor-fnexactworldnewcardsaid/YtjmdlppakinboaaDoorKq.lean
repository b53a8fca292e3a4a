/-
  impl.KeepNew and spec.KeepNew answer the same, each in new memory.
-/
import Derived.Test.YtjmdlppakinboaaDoorKl
import Derived.Test.YtjmdlppakinboaaDoorKo
namespace Go.Proofs.YtjmdlppakinboaaDoor
open Go.RowKit
set_option linter.unusedVariables false

/-- What both answer: nothing, or a keeper at its beginning. -/
def keepAns (wd : Int) (cs : List (Int × Int)) (many : Int) : Int × List (Int × Int) × Nat := if startOk wd cs many = true then (wd, cs, many.toNat) else (0, [], 0)
theorem startOk_n {wd : Int} {cs : List (Int × Int)} {many : Int} (h : startOk wd cs many = true) : okG wd cs = true ∧ 1 ≤ many ∧ many ≤ 3 := by
  unfold startOk at h
  simpa using h
theorem implKeepNew_any (wd : Int) (cs : List (Int × Int)) (many : Int) (hm : cs.length ≤ 1048576) (ok : Bool) (hok : startOk wd cs many = ok) (tw : Int) (tc : List (Int × Int)) (tn : Nat) (ht : keepAns wd cs many = (tw, tc, tn)) (a : Option Addr) (cap : Nat) (w : World) (hC : CellsAt w a cs) (hE : ErrV w) :
    Calls Tryd.prog 8 #[.agg #[.int .i64 wd, .slice a cs.length cap], .int .i64 many] w fun e w' => ∃ (a1 b1 e1 g1 : Option Addr) (c1 d1 f1 h1 : Nat), e = .returned (.tuple #[.agg #[.int .i64 tw, .slice a1 tc.length c1, .slice b1 0 d1, .slice e1 tn f1, .slice g1 0 h1], .bool ok]) ∧ Kp w' w.heap.size (.agg #[.int .i64 tw, .slice a1 tc.length c1, .slice b1 0 d1, .slice e1 tn f1, .slice g1 0 h1]) tw tc tn (fun _ => false) (fun _ => 0) (.slice a1 tc.length c1) (.slice e1 tn f1) b1 g1 d1 h1 ∧ Below w.heap.size w w' := by
  unfold keepAns at ht
  cases ok with
  | true =>
    rw [if_pos hok] at ht
    simp only [Prod.mk.injEq] at ht
    obtain ⟨rfl, rfl, rfl⟩ := ht
    obtain ⟨h1, h2, h3⟩ := startOk_n hok
    obtain ⟨n, rfl⟩ : ∃ n : Nat, many = (n : Int) := ⟨many.toNat, by omega⟩
    refine (implKeepNew_yes wd a cap cs n w hC hm (by have := okG_len wd cs h1; omega) hok (by omega)).mono ?_
    rintro e w' ⟨⟨g, gp, rfl, hK⟩, hb⟩
    simp only [Int.toNat_natCast]
    exact ⟨_, _, _, _, _, _, _, _, rfl, hK, hb⟩
  | false =>
    rw [if_neg (by rw [hok]; simp)] at ht
    simp only [Prod.mk.injEq] at ht
    obtain ⟨rfl, rfl, rfl⟩ := ht
    refine (implKeepNew_no wd a cap cs many w hC hm hok hE).mono ?_
    rintro e w' ⟨rfl, hb⟩
    exact ⟨_, _, _, _, _, _, _, _, rfl, zero_kp _ _, hb⟩
theorem specKeepNew_any (wd : Int) (cs : List (Int × Int)) (many : Int) (hm : cs.length ≤ 1048576) (ok : Bool) (hok : startOk wd cs many = ok) (tw : Int) (tc : List (Int × Int)) (tn : Nat) (ht : keepAns wd cs many = (tw, tc, tn)) (a : Option Addr) (cap : Nat) (w : World) (hC : CellsAt w a cs) :
    Calls Tryd.prog 6 #[.agg #[.int .i64 wd, .slice a cs.length cap], .int .i64 many] w fun e w' => ∃ (a1 b1 e1 g1 : Option Addr) (c1 d1 f1 h1 : Nat), e = .returned (.tuple #[.agg #[.int .i64 tw, .slice a1 tc.length c1, .slice b1 0 d1, .slice e1 tn f1, .slice g1 0 h1], .bool ok]) ∧ Kp w' w.heap.size (.agg #[.int .i64 tw, .slice a1 tc.length c1, .slice b1 0 d1, .slice e1 tn f1, .slice g1 0 h1]) tw tc tn (fun _ => false) (fun _ => 0) (.slice a1 tc.length c1) (.slice e1 tn f1) b1 g1 d1 h1 ∧ Below w.heap.size w w' := by
  unfold keepAns at ht
  cases ok with
  | true =>
    rw [if_pos hok] at ht
    simp only [Prod.mk.injEq] at ht
    obtain ⟨rfl, rfl, rfl⟩ := ht
    obtain ⟨h1, h2, h3⟩ := startOk_n hok
    obtain ⟨n, rfl⟩ : ∃ n : Nat, many = (n : Int) := ⟨many.toNat, by omega⟩
    refine (specKeepNew_yes wd a cap cs n w hC hm (by have := okG_len wd cs h1; omega) hok (by omega)).mono ?_
    rintro e w' ⟨⟨g, c, a2, vp, a4, rfl, hK⟩, hb⟩
    obtain ⟨ap, cp, rfl⟩ := hK.parts.slice
    simp only [Int.toNat_natCast]
    exact ⟨_, _, _, _, _, _, _, _, rfl, hK, hb⟩
  | false =>
    rw [if_neg (by rw [hok]; simp)] at ht
    simp only [Prod.mk.injEq] at ht
    obtain ⟨rfl, rfl, rfl⟩ := ht
    refine (specKeepNew_no wd a cap cs many w hC hm hok).mono ?_
    rintro e w' ⟨rfl, hb⟩
    exact ⟨_, _, _, _, _, _, _, _, rfl, zero_kp _ _, hb⟩
theorem keepAns_len (wd : Int) (cs : List (Int × Int)) (many : Int) (tw : Int) (tc : List (Int × Int)) (tn : Nat) (ht : keepAns wd cs many = (tw, tc, tn)) : tc.length ≤ 25 ∧ tn ≤ 3 := by
  unfold keepAns at ht
  by_cases h : startOk wd cs many = true
  · rw [if_pos h] at ht
    simp only [Prod.mk.injEq] at ht
    obtain ⟨rfl, rfl, rfl⟩ := ht
    obtain ⟨h1, h2, h3⟩ := startOk_n h
    have := okG_len wd cs h1
    exact ⟨by omega, by omega⟩
  · rw [if_neg h] at ht
    simp only [Prod.mk.injEq] at ht
    obtain ⟨rfl, rfl, rfl⟩ := ht
    simp
end Go.Proofs.YtjmdlppakinboaaDoor
