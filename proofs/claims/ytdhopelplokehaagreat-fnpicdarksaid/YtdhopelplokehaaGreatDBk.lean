/- Of the proof: PUz -/
import Derived.Deep.RegionHeldLaw
import Derived.Test.YtdhopelplokehaaGreatDBi
set_option linter.unusedVariables false
namespace Go.Proofs.YtdhopelplokehaaGreat
namespace Sp
open Go.RowKit
theorem flat_oneX (cs:List (Int × Int)):∀ v ∈ flat cs,v.oneCell'=true:=by
 intro v hv
 simp only [flat,List.mem_flatMap,List.mem_cons,List.not_mem_nil,or_false] at hv
 obtain ⟨c,_,rfl | rfl⟩:=hv <;> rfl
def SrcX (w:World) (b off:Nat) (cs:List (Int × Int)):Prop:=∀ j v,(flat cs)[j]?=some v->w.cell? ((⟨b,off,none⟩:Addr).add j)=some v
theorem srcX_of {w:World} {b off:Nat} {cs:List (Int × Int)} (h:∀ i,i < cs.length->w.cell? ⟨b,off + i * 2,none⟩=some (.int .i64 (cs.getD i (0,0)).1)/\w.cell? ⟨b,off + i * 2 + 1,none⟩=some (.int .i64 (cs.getD i (0,0)).2)):SrcX w b off cs:=by
 intro j v hv
 have hadd:(⟨b,off,none⟩:Addr).add j=⟨b,off + j,none⟩:=by unfold Addr.add; split <;> simp_all
 rw [hadd]
 have hj:j < cs.length * 2:=by
  rw [<- flat_len]
  exact (List.getElem?_eq_some_iff.1 hv).1
 obtain ⟨i,hi⟩:∃ i,j=i * 2\/j=i * 2 + 1:=⟨j / 2,by omega⟩
 have hl:i < cs.length:=by omega
 obtain ⟨f1,f2⟩:=flat_at cs i hl
 obtain ⟨g1,g2⟩:=h i hl
 rcases hi with rfl | rfl
 ·rw [f1] at hv
  rw [g1,<- hv]
 ·rw [f2] at hv
  rw [<- Nat.add_assoc,g2,<- hv]
theorem SrcX.below {w v:World} {b off:Nat} {cs:List (Int × Int)} (h:SrcX w b off cs) (hb:Below w.heap.size w v) (hl:b < w.heap.size):SrcX v b off cs:=by
 intro j u hu
 rw [hb.cell (by unfold Addr.add; split <;> exact hl)]
 exact h j u hu
theorem own_emptyX (w:World) (B:Nat) (hB:B<=w.heap.size):(w.alloc (.cells #[] 38)).ownsRow B 38 2 (.slice (some ⟨w.heap.size,0,none⟩) 0 0) 0 [] :=
 ⟨by simp,Or.inr ⟨w.heap.size,0,#[],rfl,hB,heap_alloc_new w _,Nat.le_refl _,by unfold maxLen; omega,by simp,by simp⟩⟩
theorem own_firstX {w:World} {B g c:Nat} {cs:List (Int × Int)} (h:w.ownsRow B 38 2 (.slice (some ⟨g,0,none⟩) (0 + cs.length) c) (0 + cs.length) ([] ++ flat cs)):Own w B (.slice (some ⟨g,0,none⟩) cs.length c) cs:=by
 unfold Own
 simpa using h
def BoxX (w:World) (B blk:Nat) (x:Int) (cs:List (Int × Int)):Prop :=
 ∃ g c:Nat,blk < w.heap.size/\w.cell? ⟨blk,0,none⟩=some (.int .i64 x)/\w.cell? ⟨blk,1,none⟩=some (.slice (some ⟨g,0,none⟩) cs.length c)/\Own w B (.slice (some ⟨g,0,none⟩) cs.length c) cs/\g ≠ blk/\B<=g
theorem own_geX {w:World} {B g c n:Nat} {cs:List (Int × Int)} (h:Own w B (.slice (some ⟨g,0,none⟩) n c) cs):B<=g/\g < w.heap.size:=by
 rcases h.2 with ⟨q,_⟩ | ⟨g',cap,cur,e,hg,hh,_⟩
 ·exact absurd q (by simp)
 ·simp only [Value.slice.injEq,Option.some.injEq,Addr.mk.injEq,and_true] at e
  obtain ⟨rfl,_⟩:=e
  exact ⟨hg,(Array.getElem?_eq_some_iff.1 hh).1⟩
theorem boxX_new {w0 w7:World} {B g c:Nat} {cs:List (Int × Int)} (hb:Below w0.heap.size w0 w7) (hO:Own w7 B (.slice (some ⟨g,0,none⟩) cs.length c) cs) (x:Int) :
  BoxX (w7.alloc (.cells #[.int .i64 x,.slice (some ⟨g,0,none⟩) cs.length c] 25)) B w7.heap.size x cs/\Below w0.heap.size w0 (w7.alloc (.cells #[.int .i64 x,.slice (some ⟨g,0,none⟩) cs.length c] 25)):=by
 have hg:=own_geX hO
 exact ⟨⟨_,c,by simp,by simp [go_sem],by simp [go_sem],hO.alloc _,by omega,hg.1⟩,bcall hb hb.size ((Below.refl _ _).alloc (Nat.le_refl _) _)⟩
theorem boxX_set {w0 w7:World} {B g c zb:Nat} {u0 u1:Value} {cs:List (Int × Int)} (hb:Below w0.heap.size w0 w7) (h0:w0.heap.size<=zb) (hO:Own w7 B (.slice (some ⟨g,0,none⟩) cs.length c) cs) (hne:g ≠ zb)
  (z0:w7.cell? ⟨zb,0,none⟩=some u0) (z1:w7.cell? ⟨zb,1,none⟩=some u1) (x:Int) :
  BoxX ((w7.setCell ⟨zb,0,none⟩ (.int .i64 x)).setCell ⟨zb,1,none⟩ (.slice (some ⟨g,0,none⟩) cs.length c)) B zb x cs/\Below w0.heap.size w0 ((w7.setCell ⟨zb,0,none⟩ (.int .i64 x)).setCell ⟨zb,1,none⟩ (.slice (some ⟨g,0,none⟩) cs.length c)):=by
 have hz:=World.block_lt_of_cell? w7 _ z0
 have hg:=own_geX hO
 refine ⟨⟨_,c,by simpa using hz,?_,?_,ownOther (p:=⟨zb,1,none⟩) (ownOther (p:=⟨zb,0,none⟩) hO hne _) hne _,hne,hg.1⟩,(hb.setCell (p:=⟨zb,0,none⟩) h0 _).setCell (p:=⟨zb,1,none⟩) h0 _⟩
 ·rw [World.cell?_setCell_other _ _ _ _ (by simp)]
  exact World.cell?_setCell_same _ _ _ z0
 ·exact World.cell?_setCell_same _ _ _ (by rw [World.cell?_setCell_other _ _ _ _ (by simp)]; exact z1)
end Sp
end Go.Proofs.YtdhopelplokehaaGreat
