/- Of the proof: PHr, PHi -/
import Derived.Test.YtmmeapmlfopleaaGreatBAv
set_option linter.unusedVariables false
namespace Go.Proofs.YtmmeapmlfopleaaGreat
namespace Sp
open Go.RowKit
def R1At (w:World) (a:Option Addr) (xs:List Int):Prop:=xs=[]\/∃ b off,a=some ⟨b,off,none⟩/\b < w.heap.size/\∀ i,i < xs.length->w.cell? ⟨b,off + i,none⟩=some (.int .i64 (xs.getD i 0))
theorem R1At.below {w w':World} {a:Option Addr} {xs:List Int} (h:R1At w a xs) (hb:Below w.heap.size w w'):R1At w' a xs:=by
 rcases h with h | ⟨b,off,rfl,hbl,hc⟩
 ·exact Or.inl h
 ·exact Or.inr ⟨b,off,rfl,Nat.lt_of_lt_of_le hbl hb.size,fun i hi=>keepc hb (hc i hi)⟩
theorem R1At.at {w:World} {a:Option Addr} {xs:List Int} (h:R1At w a xs) {i:Nat} (hi:i < xs.length):∃ b off,a=some ⟨b,off,none⟩/\b < w.heap.size/\w.cell? ⟨b,off + i,none⟩=some (.int .i64 (xs.getD i 0)):=by
 rcases h with q | ⟨b,off,e,hb,hc⟩
 ·rw [q] at hi; simp at hi
 ·exact ⟨b,off,e,hb,hc i hi⟩
end Sp
namespace Sp
open Go.RowKit
theorem gcellP {w w':World} {r:Option Nat} {b o:Nat} {v:Value} (hg:w.grownBy w' r) (hne:some b ≠ r) (h:w.cell? ⟨b,o,none⟩=some v):w'.cell? ⟨b,o,none⟩=some v:=by
 have hb:=World.block_lt_of_cell? _ _ h
 unfold World.cell? at h ⊢
 rw [hg.block b hb hne]
 exact h
end Sp
end Go.Proofs.YtmmeapmlfopleaaGreat
