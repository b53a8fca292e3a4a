/- Of the proof: PWr -/
import Derived.Test.YtfhhcfcjhlkdoaaGreatLBi
set_option maxHeartbeats 1000000
set_option linter.unusedVariables false
namespace Go.Proofs.YtfhhcfcjhlkdoaaGreat
namespace Sp
open Go.RowKit
attribute [local go_sem ↓] Go.wp_at_zero Go.wp_at_succ
theorem llInts_same (a a2 : Option Addr) (c c2 : Nat) (es : List Int) (w : World) (h : R1At w a es) (h2 : R1At w a2 es) (hm : es.length <= 1000000) :
  Calls SqP.prog 13 #[.slice a es.length c, .slice a2 es.length c2] w fun e w' => e = .returned (.bool true) /\ Below w.heap.size w w' := by
 have bl : ((es.length : Int) != (es.length : Int)) = false := by simp
 go_enter SqP.func13, Tryz.ntmps13
 go_wp2_with fail
 go_loopw [5] (fun ii wr => ∃ i : Nat, i <= es.length /\ ii = .int .i64 i /\ Below w.heap.size w wr) (fun ii _ => es.length - (intOf ii).toNat)
 case atStart => exact ⟨0, Nat.zero_le _, rfl, Below.refl _ _⟩
 case round =>
  rename World => wo
  obtain ⟨i, hi, rfl, hb⟩ := hrel
  by_cases hlt : i < es.length
  ·rcases h.below hb with q | ⟨b, off, ea, _, hc⟩
   ·rw [q] at hlt; simp at hlt
   rcases h2.below hb with q | ⟨b2, off2, ea2, _, hc2⟩
   ·rw [q] at hlt; simp at hlt
   subst ea
   subst ea2
   have x0 := hc i hlt
   have y0 := hc2 i hlt
   obtain ⟨t, et⟩ : ∃ t, es.getD i 0 = t := ⟨_, rfl⟩
   rw [et] at x0 y0
   have hne : (t != t) = false := by simp
   clear h h2 hc hc2 et
   go_wp2_with fail
   go_quiet (fail)
   have hbq : Below w.heap.size w (wo.drewN nq) := ⟨hb.os, hb.tape, hb.output, hb.size, hb.block⟩
   go_wp2_with fail
   go_roundw
   case rel => exact ⟨i + 1, by omega, by go_num, hbq⟩
   case measure => simp [intOf]; omega
  ·go_wp2_with fail
   go_ret
   exact ⟨rfl, hb⟩
end Sp
end Go.Proofs.YtfhhcfcjhlkdoaaGreat
