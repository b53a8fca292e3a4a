/-
  Rows of numbers that came in: opened, copied (laws.toIntS), held against each other (laws.eqIntS).
-/
import Derived.Test.YtnochicpkcjjlaaDoorHi
import Derived.Test.YtnochicpkcjjlaaDoorFb
import Derived.BigQuiet
namespace Go.Proofs.YtnochicpkcjjlaaDoor
open Go.ChangeShapes Go.WideShapes Go.ChangeAt Go.RowKit
set_option linter.unusedVariables false
attribute [local go_sem ↓] Go.wp_at_zero Go.wp_at_succ

theorem cellsIntP : Tryd.prog.cellsOf 3 = 1 := by kernel_rfl
set_option maxRecDepth 20000 in
theorem open_intsP {H : Type} {enc : TypeId × Value → H} {W : World} {base : Nat} {v : Value} {d : DataW H} {p : List MemPlace}
    (hv : Value.okWide Tryd.prog W .any base 26 v) (h : DataW.Trod enc Tryd.prog W 0 (fun _ => true) true 26 v d p) :
    ∃ a cap xs, v = .slice a xs.length cap ∧ R1At W a xs ∧ (xs.length ≤ cap ∧ cap ≤ 9223372036854775807 ∧ ∀ x ∈ xs, -9223372036854775808 ≤ x ∧ x ≤ 9223372036854775807) := by
  obtain ⟨a0, len, cap, rfl⟩ := okWide_slice Tryd.underlying26 hv
  obtain ⟨fuel, hf⟩ := h
  rcases open_ints Tryd.underlying26 Tryd.underlying3 cellsIntP hf with ⟨hcs, _⟩ | ⟨x, l, c, zs, hcs, _, hl, hm, hz, _, hcell, hwz⟩
  · simp [Value.cells] at hcs
    obtain ⟨rfl, rfl, rfl⟩ := hcs
    exact ⟨none, 0, [], rfl, Or.inl rfl, by simp, by omega, by simp⟩
  · simp [Value.cells] at hcs
    obtain ⟨rfl, rfl, rfl⟩ := hcs
    have hzl : zs.length = cap := by simpa using hz
    have hln : (zs.take len).length = len := by simp; omega
    refine ⟨some x, cap, zs.take len, by rw [hln], ?_, by omega, by unfold maxLen at hm; omega, fun y hy => ?_⟩
    · by_cases h0 : len = 0
      · exact Or.inl (by rw [h0]; simp)
      · obtain ⟨b, off, spot⟩ := x
        have hs : spot = none := by simpa [Addr.add] using World.cell?_spot (hcell 0 (by omega))
        subst hs
        have hadd : ∀ j, (⟨b, off, none⟩ : Addr).add j = ⟨b, off + j, none⟩ := by intro j; unfold Addr.add; split <;> simp_all
        refine Or.inr ⟨b, off, rfl, ?_, fun i hi => ?_⟩
        · have h1 := hcell 0 (by omega)
          rw [hadd] at h1
          exact World.block_lt_of_cell? W _ h1
        · rw [hln] at hi
          have h1 := hcell i (by omega)
          rw [hadd] at h1
          rw [h1]
          simp [hi]
    · have := hwz y (List.mem_of_mem_take hy)
      simpa [Lit.wf, IntKind.min, IntKind.max, IntKind.signed, IntKind.bits] using this

theorem made_one (n : Nat) : (madeCells #[Value.int .i64 0] (n * 1)).toList = intsV (List.replicate n 0) := by
  apply List.ext_getElem?
  intro i
  by_cases hi : i < n
  · simp [madeCells, intsV, hi, Nat.mod_one]
  · simp [madeCells, intsV, hi]
set_option maxRecDepth 20000 in
set_option maxHeartbeats 800000 in
theorem toIntS_any (a : Option Addr) (cap : Nat) (xs : List Int) (w : World) (h : R1At w a xs) (hm : xs.length ≤ 1048576) :
    Calls Tryd.prog 12 #[.slice a xs.length cap] w fun e w' => ∃ g, e = .returned (.slice (some ⟨g, 0, none⟩) xs.length xs.length) ∧ OwnI w' w.heap.size (.slice (some ⟨g, 0, none⟩) xs.length xs.length) xs ∧ Below w.heap.size w w' := by
  obtain ⟨i0, hi, hz0, hz1, hz2⟩ := info_parts infoIntP
  go_enter Tryd.func12, Tryd.ntmps12
  go_wp2_with (at_make; refine wpList_make_full _ rfl _ _ 26 rfl w.heap.size 3 i0 (.int .i64 0) 1 Tryd.underlying26 hi hz0 hz1 .i64 .i64 _ _ xs.length rfl rfl rfl rfl ?_ ?_ ?_ ?_)
  · rw [hz2]; omega
  · unfold maxLen; omega
  · exact Nat.le_refl _
  intro w1 hO1 hg1
  have HO1 : OwnI w1 w.heap.size (.slice (some ⟨w.heap.size, 0, none⟩) xs.length xs.length) (List.replicate xs.length 0) := by
    unfold OwnI
    rw [List.length_replicate, ← made_one, Nat.mul_one]
    simpa [Value.cells] using hO1
  have hb1 : Below w.heap.size w w1 := (Below.refl _ _).grown hg1 (Nat.le_refl _) (fun k hk => by cases hk)
  clear hO1 hg1
  go_wp2
  go_loopw [4] (fun i wr => ∃ (k : Nat) (ys : List Int), k ≤ xs.length ∧ i = .int .i64 k ∧ ys = xs.take k ++ List.replicate (xs.length - k) 0 ∧ OwnI wr w.heap.size (.slice (some ⟨w.heap.size, 0, none⟩) xs.length xs.length) ys ∧ Below w.heap.size w wr) (fun i _ => xs.length - (intOf i).toNat)
  case atStart => exact ⟨0, _, Nat.zero_le _, rfl, by simp, HO1, hb1⟩
  case round =>
    rename World => wo
    obtain ⟨k, ys, hk, rfl, hys, hO, hb⟩ := hrel
    by_cases hlt : k < xs.length
    · obtain ⟨b, off, rfl, hbl, hc⟩ := h.at hlt
      have hc2 := (hb.cell (p := ⟨b, off + k, none⟩) hbl).trans hc
      have hkI : (k : Int) < (xs.length : Int) := by omega
      have hyl : ys.length = xs.length := by rw [hys]; simp; omega
      unfold OwnI at hO
      rw [hyl] at hO
      have q0 := hO.cellAt k (by omega)
      have f0 := hO.frozenAt k
      have hst := hO.stored k (.int .i64 (xs.getD k 0))
      have e0 : (intsV ys)[k]? = some (.int .i64 (ys.getD k 0)) := by simp [intsV, List.getElem?_eq_getElem (show k < ys.length by omega)]
      rw [e0] at q0
      have hnx : OwnI (wo.setCell ⟨w.heap.size, k, none⟩ (.int .i64 (xs.getD k 0))) w.heap.size (.slice (some ⟨w.heap.size, 0, none⟩) xs.length xs.length) (ys.set k (xs.getD k 0)) := by
        unfold OwnI
        rw [show (ys.set k (xs.getD k 0)).length = xs.length by simp [hyl], show intsV (ys.set k (xs.getD k 0)) = (intsV ys).set k (.int .i64 (xs.getD k 0)) by simp [intsV, List.map_set]]
        exact hst.1
      have hse : ys.set k (xs.getD k 0) = xs.take (k + 1) ++ List.replicate (xs.length - (k + 1)) 0 := by
        rw [hys, take_one xs k 0 hlt, show xs.length - k = (xs.length - (k + 1)) + 1 by omega, List.replicate_succ, List.set_append]
        simp
        rw [show min k xs.length = k by omega]
        simp
      have hbn : Below w.heap.size w (wo.setCell ⟨w.heap.size, k, none⟩ (.int .i64 (xs.getD k 0))) := hb.setCell (p := ⟨w.heap.size, k, none⟩) (Nat.le_refl _) _
      obtain ⟨x, ex⟩ : ∃ x, xs.getD k 0 = x := ⟨_, rfl⟩
      obtain ⟨y, ey⟩ : ∃ y, ys.getD k 0 = y := ⟨_, rfl⟩
      rw [ex] at hc2 hnx hse hbn
      rw [ey] at q0
      have HSE : Hid (ys.set k x = xs.take (k + 1) ++ List.replicate (xs.length - (k + 1)) 0) := hse
      clear hO hst e0 hyl hys hc hse ex ey
      go_wp2_with fail
      go_roundw
      case rel => exact ⟨k + 1, _, by omega, by go_num, HSE.out, hnx, hbn⟩
      case measure => simp [intOf]; omega
    · have hfin : ys = xs := by rw [hys, List.take_of_length_le (by omega), show xs.length - k = 0 by omega]; simp
      rw [hfin] at hO
      clear hys hfin
      go_wp2_with fail
      go_ret
      exact ⟨_, rfl, hO, hb⟩

set_option maxHeartbeats 800000 in
theorem eqIntS_st (a a2 : Option Addr) (c c2 : Nat) (xs : List Int) (w : World) (h : R1At w a xs) (h2 : R1At w a2 xs) (hm : xs.length ≤ 1048576) :
    Calls Tryd.prog 14 #[.slice a xs.length c, .slice a2 xs.length c2] w fun e w' => e = .returned (.bool true) ∧ Below w.heap.size w w' := by
  have bl : ((xs.length : Int) != (xs.length : Int)) = false := by simp
  go_enter Tryd.func14, Tryd.ntmps14
  go_wp2_with fail
  go_loopw [5] (fun ii wr => ∃ i : Nat, i ≤ xs.length ∧ ii = .int .i64 i ∧ Below w.heap.size w wr) (fun ii _ => xs.length - (intOf ii).toNat)
  case atStart => exact ⟨0, Nat.zero_le _, rfl, Below.refl _ _⟩
  case round =>
    rename World => wo
    obtain ⟨i, hi, rfl, hb⟩ := hrel
    by_cases hlt : i < xs.length
    · obtain ⟨g, off, ea, _, x0⟩ := (h.below hb).at hlt
      obtain ⟨g2, off2, ea2, _, y0⟩ := (h2.below hb).at hlt
      subst ea
      subst ea2
      have hil : (i : Int) < (xs.length : Int) := by omega
      obtain ⟨x, ex⟩ : ∃ x, xs.getD i 0 = x := ⟨_, rfl⟩
      rw [ex] at x0 y0
      have hne : (x != x) = false := by simp
      clear h h2 ex
      go_wp2_with fail
      go_quiet (fail)
      have hbq : Below w.heap.size w (wo.drewN nq) := ⟨hb.os, hb.tape, hb.output, hb.size, hb.block⟩
      go_wp2_with fail
      go_roundw
      case rel => exact ⟨i + 1, by omega, by go_num, hbq⟩
      case measure => simp [intOf]; omega
    · go_wp2_with fail
      go_ret
      exact ⟨rfl, hb⟩
end Go.Proofs.YtnochicpkcjjlaaDoor
