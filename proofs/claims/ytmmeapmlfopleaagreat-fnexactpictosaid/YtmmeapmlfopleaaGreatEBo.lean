/- Of the proof: PGf -/
import Derived.Test.YtmmeapmlfopleaaGreatEBk
import Derived.Test.YtmmeapmlfopleaaGreatEBm
set_option maxHeartbeats 400000
set_option linter.unusedVariables false
namespace Go.Proofs.YtmmeapmlfopleaaGreat
namespace Sp
open Go.RowKit
attribute [local go_sem ↓] Go.wp_at_zero Go.wp_at_succ
def RowsAt (w : World) (a : Option Addr) (M : Nat) (f : Nat -> Nat -> Int) : Prop := M = 0 \/ ∃ b, a = some ⟨b, 0, none⟩ /\ b < w.heap.size /\ ∃ gs : Nat -> Nat, ∀ k, k < M -> w.cell? ⟨b, k, none⟩ = some (rowV M (gs k)) /\ RowB w (gs k) M (f k)
theorem RowsAt.below {w w' : World} {a : Option Addr} {M : Nat} {f : Nat -> Nat -> Int} (h : RowsAt w a M f) (hb : Below w.heap.size w w') : RowsAt w' a M f := by
 rcases h with h | ⟨b, e, hl, gs, hc⟩
 ·exact .inl h
 ·exact .inr ⟨b, e, Nat.lt_of_lt_of_le hl hb.size, gs, fun k hk => ⟨keepc hb (hc k hk).1, (hc k hk).2.below hb⟩⟩
def manyN (wd : Int) (cs : List (Int × Int)) : Nat := (manyG wd cs).toNat
theorem manyN_in (wd : Int) (cs : List (Int × Int)) : manyG wd cs = (manyN wd cs : Int) /\ manyN wd cs <= 20 := by
 unfold manyN
 rcases hk : okG wd cs with _ | _
 ·rw [manyG_bad hk]; decide
 ·obtain ⟨W, H, rfl, h1, h2, h3, h4, el, hH, hHI⟩ := okG_nat wd cs hk
  rw [manyG_ok hk hHI]; omega
theorem specTo_no (wd : Int) (a : Option Addr) (cap : Nat) (cs : List (Int × Int)) (w : World) (h : CellsAt w a cs) (hm : cs.length <= 1048576) (hk : okG wd cs = false) :
  Calls SqP.prog 8 #[.agg #[.int .i64 wd, .slice a cs.length cap]] w fun e w' => ∃ a2, e = .returned (.slice a2 0 0) /\ Below w.heap.size w w' := by
 have hbX : Below w.heap.size w (w.alloc (.cells #[.int .i64 wd, .slice a cs.length cap] 25)) := bel
 have hbY : Below (w.alloc (.cells #[.int .i64 wd, .slice a cs.length cap] 25)).heap.size (w.alloc (.cells #[.int .i64 wd, .slice a cs.length cap] 25)) ((w.alloc (.cells #[.int .i64 wd, .slice a cs.length cap] 25)).alloc (.cells #[] 30)) := (Below.refl _ _).alloc (Nat.le_refl _) _
 have hB := bcall hbX hbX.size hbY
 have hG := specGridOk_any wd a cap cs _ (h.below hB) (by omega)
 rw [hk] at hG
 clear hbX hbY h hk
 go_enter SqP.func8, Tryz.ntmps8
 go_wp2_with fail
 refine hG.mono ?_
 rintro e w4 ⟨rfl, hb4⟩
 have hB4 := bcall hB hB.size hb4
 go_wp2_with fail
 go_ret
 exact ⟨_, rfl, hB4⟩
end Sp
end Go.Proofs.YtmmeapmlfopleaaGreat
