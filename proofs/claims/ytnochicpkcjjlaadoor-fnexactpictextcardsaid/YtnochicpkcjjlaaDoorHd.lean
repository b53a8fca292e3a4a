/-
  What impl.PicText tells at a side.
-/
import Derived.Test.YtnochicpkcjjlaaDoorHc
namespace Go.Proofs.YtnochicpkcjjlaaDoor
open Go.RowKit
set_option linter.unusedVariables false

theorem R1At.sub {w : World} {b off : Nat} {xs : List Int} (h : R1At w (some ⟨b, off, none⟩) xs) (f m : Nat) (hf : f + m ≤ xs.length) : R1At w (some ⟨b, off + f, none⟩) ((xs.drop f).take m) := by
  by_cases hm : m = 0
  · exact Or.inl (by simp [hm])
  · rcases h with q | ⟨b', off', e, hb, hc⟩
    · rw [q] at hf; simp at hf; omega
    · simp only [Option.some.injEq, Addr.mk.injEq] at e
      obtain ⟨rfl, rfl, _⟩ := e
      refine Or.inr ⟨b, off + f, rfl, hb, fun i hi => ?_⟩
      simp only [List.length_take, List.length_drop] at hi
      have q := hc (f + i) (by omega)
      rw [show off + f + i = off + (f + i) by omega, q]
      simp only [List.getD_eq_getElem?_getD]
      rw [List.getElem?_take_of_lt (by omega), List.getElem?_drop]

set_option maxRecDepth 20000 in
set_option maxHeartbeats 600000 in
theorem tellText_any (t : List UInt8) (f m : Nat) (s o i u : Int) (pb b off cap : Nat) (xs : List Int) (w : World) (hp : w.cell? ⟨pb, 0, none⟩ = some (.slice (some ⟨b, off, none⟩) xs.length cap)) (hR : R1At w (some ⟨b, off, none⟩) xs)
    (hfm : f + m ≤ xs.length) (hm1 : 1 ≤ m) (hl : xs.length ≤ 20) (hcap : xs.length ≤ cap) (hx : ∀ x ∈ xs, -9223372036854775808 ≤ x ∧ x ≤ 9223372036854775807) (ht : Tab w) (htl : t.length ≤ 10000) :
    Calls Tryd.prog 22 #[.string (str t), .agg #[.int .i64 (f : Int), .int .i64 (m : Int), .int .i64 s, .int .i64 o, .int .i64 i, .int .i64 u], .pointer (some ⟨pb, 0, none⟩)] w fun e w' => e = .returned (.string (str (t ++ lineL ((xs.drop f).take m)))) ∧ Below w.heap.size w w' := by
  have hb0 : Below w.heap.size w (w.alloc (.cells #[.int .i64 (f : Int), .int .i64 (m : Int), .int .i64 s, .int .i64 o, .int .i64 i, .int .i64 u] 49)) := (by repeat (first | exact Below.refl _ _ | refine Below.alloc ?_ (by first | exact Nat.le_refl _ | (simp; done) | (simp; omega)) _ | refine Below.drew ?_ | refine Below.setCell ?_ (by first | exact Nat.le_refl _ | (simp; done) | (simp; omega)) _))
  have hp2 := keepc hb0 hp
  have hR2 := (hR.below hb0).sub f m hfm
  have ht2 := ht.below hb0
  have hlen : ((xs.drop f).take m).length = m := by simp; omega
  have hx2 : ∀ x ∈ (xs.drop f).take m, -9223372036854775808 ≤ x ∧ x ≤ 9223372036854775807 := fun x hx' => hx x (List.mem_of_mem_drop (List.mem_of_mem_take hx'))
  obtain ⟨ys, eys⟩ : ∃ ys, (xs.drop f).take m = ys := ⟨_, rfl⟩
  rw [eys] at hR2 hlen hx2 ⊢
  have hq1 : ¬ cap - f = 0 := by omega
  have hq2 : (cap - f == 0) = false := by simp; omega
  have hq3 : ¬ cap ≤ f := by omega
  have v1 : IntKind.i64.wrap ((f : Int) + (m : Int)) = (f : Int) + (m : Int) := IntWalk.i64_in _ (by omega)
  have hL := lineOf_any (some ⟨b, off + f, none⟩) (cap - f) ys _ hR2 (by omega) hx2 ht2
  rw [hlen] at hL
  have hll : (lineL ys).length ≤ 22 * 20 + 1 := by
    unfold lineL
    have q := join_len (ys.map Lib.itoa) (fun y hy => by
        obtain ⟨z, hz, rfl⟩ := List.mem_map.1 hy
        exact Lib.itoa_length_le z (hx2 z hz).1 (hx2 z hz).2)
    simp only [List.length_map] at q
    simp
    omega
  have hs1 : (str t).size + (str (lineL ys)).size ≤ 9223372036854775807 := by rw [str_size, str_size]; omega
  obtain ⟨Z, eZ⟩ : ∃ Z, lineL ys = Z := ⟨_, rfl⟩
  rw [eZ] at hL hs1 ⊢
  have HZ : Hid (str t ++ str Z = str (t ++ Z)) := str_append t Z
  obtain ⟨w0, hw0⟩ : ∃ w0, w0 = w.alloc (.cells #[.int .i64 (f : Int), .int .i64 (m : Int), .int .i64 s, .int .i64 o, .int .i64 i, .int .i64 u] 49) := ⟨_, rfl⟩
  rw [← hw0] at hL hb0
  clear hR hx ht eys hR2 hx2 ht2 hll eZ
  go_enter Tryd.func22, Tryd.ntmps22
  go_wp2_with fail
  rw [← hw0]
  with_reducible refine hL.mono ?_
  rintro e w1 ⟨rfl, hb1⟩
  clear hw0
  go_wp2
  go_ret
  exact ⟨by rw [HZ.out]; rfl, bcall hb0 hb0.size hb1⟩
end Go.Proofs.YtnochicpkcjjlaaDoor
