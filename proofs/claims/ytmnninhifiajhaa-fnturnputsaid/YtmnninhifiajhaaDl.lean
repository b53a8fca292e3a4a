/-
  llGrid says whether two grids are the same.
-/
import Derived.Test.YtmnninhifiajhaaJr
import Derived.Laws.StructEq
namespace Go.Proofs.Ytmnninhifiajhaa
open Go.RowKit
set_option linter.unusedVariables false
attribute [local go_sem ↓] Go.wp_at_zero Go.wp_at_succ

theorem grown_below {w w1 w2 : World} (hb : Below w.heap.size w w1) (hz : w.heap.size ≤ w1.heap.size) (hg : w1.grownBy w2 (some w.heap.size)) : Below w.heap.size w w2 :=
  ⟨hg.os.trans hb.os, hg.tape.trans hb.tape, hg.output.trans hb.output, Nat.le_trans hz hg.size, fun k hk => (hg.block k (by omega) (by simp; omega)).trans (hb.block k hk)⟩

theorem stU : Try.prog.underlying 27 = some (.struct (Try.prog.fieldsOf 27)) := by kernel_rfl
theorem stH : Try.prog.stoodInHeld 27 = false := by kernel_rfl
theorem stG : Try.prog.eqGuardType Try.prog.depth 27 = false := by kernel_rfl
theorem neqCell (k l k2 l2 : Int) (w : World) : Sem.run Try.prog (binOp .neq 27 (.agg #[.int .i64 k, .int .i64 l]) (.agg #[.int .i64 k2, .int .i64 l2])) w = .ok (.bool (!(decide (k = k2 ∧ l = l2)))) w := by
  rw [run_neq_struct, run_equalIn_agg _ _ _ _ _ stU stH]
  simp [Op.eqFields, go_sem]
  by_cases h1 : k = k2 <;> by_cases h2 : l = l2 <;> simp [h1, h2]

def eqL (wd wd2 : Int) (cs ds : List (Int × Int)) : Bool := decide (wd = wd2 ∧ cs = ds)

set_option maxHeartbeats 1000000 in
theorem llGrid_any (wd wd2 : Int) (a a2 : Option Addr) (cap cap2 : Nat) (cs ds : List (Int × Int)) (w : World) (h : CellsAt w a cs) (h2 : CellsAt w a2 ds) (hm : cs.length ≤ 1048576) (hm2 : ds.length ≤ 1048576) :
    Calls Try.prog 15 #[.agg #[.int .i64 wd, .slice a cs.length cap], .agg #[.int .i64 wd2, .slice a2 ds.length cap2]] w fun e w' => e = .returned (.bool (eqL wd wd2 cs ds)) ∧ Below w.heap.size w w' := by
  by_cases h1 : wd = wd2
  · subst h1
    by_cases hl : cs.length = ds.length
    · have hbX : Below w.heap.size w ((w.alloc (.cells #[.int .i64 wd, .slice a cs.length cap] 25)).alloc (.cells #[.int .i64 wd, .slice a2 ds.length cap2] 25)) := (by repeat (first | exact Below.refl _ _ | refine Below.alloc ?_ (by first | exact Nat.le_refl _ | (simp; done) | (simp; omega)) _ | refine Below.drew ?_ | refine Below.setCell ?_ (by first | exact Nat.le_refl _ | (simp; done) | (simp; omega)) _))
      have hln : ((cs.length : Int) != (ds.length : Int)) = false := by simp [hl]
      have HL : Hid (cs.length = ds.length) := hl
      clear hl
      go_enter Try.func15, Try.ntmps15
      go_wp2
      go_loopw [5] (fun i wr => ∃ k : Nat, k ≤ cs.length ∧ i = .int .i64 k ∧ cs.take k = ds.take k ∧ Below w.heap.size w wr ∧ wr.cell? ⟨w.heap.size, 1, none⟩ = some (.slice a cs.length cap) ∧ wr.cell? ⟨w.heap.size + 1, 1, none⟩ = some (.slice a2 ds.length cap2)) (fun i _ => cs.length - (intOf i).toNat)
      case atStart => exact ⟨0, Nat.zero_le _, rfl, by simp, hbX, by simp [go_sem], by simp [go_sem]⟩
      case round =>
        clear hbX
        obtain ⟨k, hk, rfl, htk, hb, b1, b2⟩ := hrel
        have HT : Hid (cs.take k = ds.take k) := htk
        clear htk
        by_cases hlt : k < cs.length
        · have hlt2 : k < ds.length := by have := HL.out; omega
          rcases h with h | ⟨b, off, rfl, hbl, hcell⟩
          · subst h; simp at hlt
          rcases h2 with h2 | ⟨b2', off2, rfl, hbl2, hcell2⟩
          · subst h2; simp at hlt2
          obtain ⟨hx, hy⟩ := hcell k hlt
          rw [← hb.cell (p := ⟨b, _, none⟩) hbl] at hx hy
          obtain ⟨hx2, hy2⟩ := hcell2 k hlt2
          rw [← hb.cell (p := ⟨b2', _, none⟩) hbl2] at hx2 hy2
          clear hcell hcell2
          obtain ⟨kx, lx, hkl⟩ : ∃ kx lx : Int, cs.getD k (0, 0) = (kx, lx) := ⟨_, _, rfl⟩
          obtain ⟨ky, ly, hkl2⟩ : ∃ ky ly : Int, ds.getD k (0, 0) = (ky, ly) := ⟨_, _, rfl⟩
          rw [hkl] at hx hy
          rw [hkl2] at hx2 hy2
          have hg := stG
          have e1 : cs[k] = (kx, lx) := by rw [← hkl]; simp [hlt]
          have e2 : ds[k] = (ky, ly) := by rw [← hkl2]; simp [hlt2]
          have hz := hb.size
          by_cases hq : kx = ky ∧ lx = ly
          · obtain ⟨rfl, rfl⟩ := hq
            have hqq : ∀ w : World, Sem.run Try.prog (binOp .neq 27 (.agg #[.int .i64 kx, .int .i64 lx]) (.agg #[.int .i64 kx, .int .i64 lx])) w = .ok (.bool false) w := fun w => by rw [neqCell]; simp
            have HN : Hid (cs.take (k + 1) = ds.take (k + 1)) := by
              show _ = _
              rw [List.take_succ_eq_append_getElem hlt, List.take_succ_eq_append_getElem hlt2, HT.out, e1, e2]
            clear hkl hkl2 e1 e2
            go_wp2
            go_quiet (fail)
            go_wp2
            go_roundw
            case rel => exact ⟨k + 1, by omega, by go_num, HN.out, ⟨hb.os, hb.tape, hb.output, hb.size, hb.block⟩, b1, b2⟩
            case measure => simp [intOf]; omega
          · have hqq : ∀ w : World, Sem.run Try.prog (binOp .neq 27 (.agg #[.int .i64 kx, .int .i64 lx]) (.agg #[.int .i64 ky, .int .i64 ly])) w = .ok (.bool true) w := fun w => by rw [neqCell]; simp [hq]
            have HN : Hid (eqL wd wd cs ds = false) := by
              show _ = _
              simp only [eqL, true_and, decide_eq_false_iff_not]
              intro hx'
              subst hx'
              rw [e1] at e2
              simp only [Prod.mk.injEq] at e2
              exact hq e2
            clear hkl hkl2 e1 e2
            go_wp2
            go_quiet (fail)
            go_wp2
            go_ret
            exact ⟨by rw [HN.out]; rfl, ⟨hb.os, hb.tape, hb.output, hb.size, hb.block⟩⟩
        · have HN : Hid (eqL wd wd cs ds = true) := by
            show _ = _
            have := HT.out
            rw [List.take_of_length_le (by omega), List.take_of_length_le (by have := HL.out; omega)] at this
            simp [eqL, this]
          go_wp2
          go_ret
          exact ⟨by rw [HN.out]; rfl, hb⟩
    · have hln : ((cs.length : Int) != (ds.length : Int)) = true := by simp; omega
      go_enter Try.func15, Try.ntmps15
      go_wp2
      go_ret
      exact ⟨by rw [show eqL wd wd cs ds = false from by simp [eqL]; intro hx; exact hl (by rw [hx])]; rfl, (by repeat (first | exact Below.refl _ _ | refine Below.alloc ?_ (by first | exact Nat.le_refl _ | (simp; done) | (simp; omega)) _ | refine Below.drew ?_ | refine Below.setCell ?_ (by first | exact Nat.le_refl _ | (simp; done) | (simp; omega)) _))⟩
  · go_enter Try.func15, Try.ntmps15
    go_wp2
    go_ret
    exact ⟨by rw [show eqL wd wd2 cs ds = false from by simp [eqL, h1]]; rfl, (by repeat (first | exact Below.refl _ _ | refine Below.alloc ?_ (by first | exact Nat.le_refl _ | (simp; done) | (simp; omega)) _ | refine Below.drew ?_ | refine Below.setCell ?_ (by first | exact Nat.le_refl _ | (simp; done) | (simp; omega)) _))⟩

end Go.Proofs.Ytmnninhifiajhaa
