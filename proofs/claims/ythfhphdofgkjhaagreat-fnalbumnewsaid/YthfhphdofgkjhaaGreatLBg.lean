/- Part. -/
import Derived.Test.YthfhphdofgkjhaaGreatRows
import Derived.Deep.RegionWith
import Derived.ProofKit
import Derived.OpenShut
import Derived.Carry
import Derived.Test.YthfhphdofgkjhaaGreatLBc
import Derived.Test.YthfhphdofgkjhaaGreatLBf
set_option maxHeartbeats 4000000
set_option linter.unusedVariables false
namespace Go.Proofs.YthfhphdofgkjhaaGreat
variable{arrF arrL:Array Value}{wd:Int}{cs:List (Int × Int)}{fs:List (List Int)}{ls:List Int}{B M b bf bl gc hi lo m:Nat}{cp n:Nat->Nat}{f:Nat->Nat->Int}{ad:Nat->Option Addr}{S:Nat->Prop}{xs:Nat->Value}{a:Option Addr}{g:Option Nat}{t:TypeId}{v:Value}{w w' w0:World}
namespace Sp
variable{aLt:Nat->Func->Func}
open Go.RowKit
attribute [local go_sem ↓] Go.wp_at_zero Go.wp_at_succ
def RI(w:World)(a:Option Addr)(m:Nat)(f:Nat->Int):Prop:=m=0\/∃ g,a=some ⟨g,0,none⟩/\g<w.heap.size/\∀ j,j<m->w.cell? ⟨g,j,none⟩=some (.int .i64 (f j))/\w.frozen? ⟨g,j,none⟩=false
theorem RI.below{f:Nat->Int}(h:RI w a m f)(hb:Below w.heap.size w w'):RI w' a m f:=by
 rcases h with h|⟨g,e,hg,hc⟩
 ·exact Or.inl h
 ·exact Or.inr ⟨g,e,nll hg hb.size,fun j hj=>⟨zab hb (hc j hj).1,zam hb (hc j hj).1 (hc j hj).2⟩⟩
theorem RI.like{f f':Nat->Int}(h:RI w a m f)(e:∀ j,j<m->f' j=f j):RI w a m f':=by
 rcases h with h|⟨g,e1,hl,hc⟩
 ·exact Or.inl h
 ·exact Or.inr ⟨g,e1,hl,fun j hj=>by rw[e j hj];exact hc j hj⟩
theorem RI.at{f:Nat->Int}(h:RI w a m f)(hm:0<m):∃ g,a=some ⟨g,0,none⟩/\g<w.heap.size/\∀ j,j<m->w.cell? ⟨g,j,none⟩=some (.int .i64 (f j))/\w.frozen? ⟨g,j,none⟩=false:=by
 rcases h with h|h
 ·omega
 ·exact h
structure zcH(S:Nat->Prop)(w w':World):Prop where
 os:w'.os=w.os
 tape:w'.tape=w.tape
 output:w'.output=w.output
 size:w.heap.size<=w'.heap.size
 block:∀ k,k<w.heap.size->¬ S k->w'.heap[k]?=w.heap[k]?
theorem zcH.refl(S:Nat->Prop)(w:World):zcH S w w:=⟨rfl,rfl,rfl,Nat.le_refl _,fun _ _ _=>rfl⟩
theorem zcH.grown{w1 w2:World}(h:zcH S w w1)(hg:w1.grownBy w2 g)(hs:∀ b,g=some b->S b):zcH S w w2 :=
 ⟨hg.os.trans h.os,hg.tape.trans h.tape,hg.output.trans h.output,Nat.le_trans h.size hg.size,fun k hk hn=>(hg.block k (nll hk h.size) (fun e=>hn (hs k e.symm))).trans (h.block k hk hn)⟩
theorem zcH.cell(h:zcH S w w'){o:Nat}(hg:¬ S b)(hc:w.cell? ⟨b,o,none⟩=some v):w'.cell? ⟨b,o,none⟩=some v:=by
 rw[World.cell?_of_block (w:=w) (h.block b (World.block_lt_of_cell? w _ hc) hg)]
 exact hc
theorem zcH.below(h:zcH S w w')(hb:Below B w0 w)(hS:∀ e,S e->B<=e)(hz:B<=w.heap.size):Below B w0 w' :=
 ⟨h.os.trans hb.os,h.tape.trans hb.tape,h.output.trans hb.output,Nat.le_trans hb.size h.size,fun k hk=>(h.block k (by omega) (fun q=>by have:=hS k q;omega)).trans (hb.block k hk)⟩
theorem RI.offN{f:Nat->Int}(h:RI w a m f)(ho:zcH S w w')(hn:∀ x,a=some x->¬ S x.block):RI w' a m f:=by
 rcases h with h|⟨g,rfl,hl,hc⟩
 ·exact .inl h
 ·have q:=hn _ rfl
  exact .inr ⟨g,rfl,nll hl ho.size,fun j hj=>⟨ho.cell q (hc j hj).1,by rw[World.frozen?_of_block (w:=w) (ho.block g hl q)];exact(hc j hj).2⟩⟩
structure zod(w:World)(lo hi b M:Nat)(ad:Nat->Option Addr)(n cp:Nat->Nat)(f:Nat->Nat->Int):Prop where
 out:lo<=b/\b<hi
 cell:∀ k,k<M->w.cell? ⟨b,k,none⟩=some (.slice (ad k) (n k) (cp k))
 row:∀ k,k<M->RI w (ad k) (n k * 1) (f k)
 lt:∀ k x,k<M->ad k=some x->(lo<=x.block/\x.block<hi)/\¬ x.block=b
 inj:∀ k k' x x',k<M->k'<M->ad k=some x->ad k'=some x'->x.block=x'.block->k=k'
 top:hi<=w.heap.size
def zdE(w:World)(lo hi:Nat)(a:Option Addr)(M:Nat)(ad:Nat->Option Addr)(n cp:Nat->Nat)(f:Nat->Nat->Int):Prop:=M=0\/∃ b,a=some ⟨b,0,none⟩/\zod w lo hi b M ad n cp f
theorem zod.below(h:zod w lo hi b M ad n cp f)(hb:Below w.heap.size w w'):zod w' lo hi b M ad n cp f :=
 ⟨h.out,fun k hk=>zab hb (h.cell k hk),fun k hk=>(h.row k hk).below hb,h.lt,h.inj,Nat.le_trans h.top hb.size⟩
theorem zdE.below(h:zdE w lo hi a M ad n cp f)(hb:Below w.heap.size w w'):zdE w' lo hi a M ad n cp f:=by
 rcases h with h|⟨b,e,h⟩
 ·exact .inl h
 ·exact .inr ⟨b,e,h.below hb⟩
theorem zdE.off(h:zdE w lo hi a M ad n cp f)(ho:zcH S w w')(hS:∀ e,lo<=e->e<hi->¬ S e):zdE w' lo hi a M ad n cp f:=by
 rcases h with h|⟨b,e,h⟩
 ·exact .inl h
 ·exact .inr ⟨b,e,h.out,fun k hk=>ho.cell (hS b h.out.1 h.out.2) (h.cell k hk),fun k hk=>(h.row k hk).offN ho (fun x q=>hS _ (h.lt k x hk q).1.1 (h.lt k x hk q).1.2),h.lt,h.inj,Nat.le_trans h.top ho.size⟩
def zet(M:Nat)(ad:Nat->Option Addr)(e:Nat):Prop:=∃ k x,k<M/\ad k=some x/\e=x.block
end Sp
namespace Sp
variable{aLt:Nat->Func->Func}
open Go.RowKit
def marks(k:Int)(n:Nat):List (Int × Int):=(List.range n).map fun (i:Nat)=>(k+2 * (i:Int),k+2 * (i:Int)+1)
theorem Own.range(h:Own w B v cs):∀ k,v.ownBlock=some k->B<=k/\k<w.heap.size:=World.ownsRow.lt h
end Sp
namespace Sp
open Go.RowKit
attribute [local go_sem ↓] Go.wp_at_zero Go.wp_at_succ
structure ScA(w0 w:World)(wd:Int)(cs:List (Int × Int))(M gc bl bf k:Nat)(arrL arrF:Array Value)(xs:Nat->Value):Prop where
 below:Below w0.heap.size w0 w
 grid:Own w w0.heap.size (.slice (some ⟨gc,0,none⟩) cs.length cs.length) cs
 lights:w.heap[bl]?=some (.cells arrL 3)
 feet:w.heap[bf]?=some (.cells arrF 27)
 sizeL:arrL.size=M
 sizeF:arrF.size=M
 atL:∀ j,j<k->arrL[j]?=some (.int .i64 (zaW wd cs (j:Int)))
 atF:∀ j,j<k->arrF[j]?=some (xs j)
 lt:w0.heap.size<=gc/\gc<bl/\bl<bf
 row:∀ j,j<k->zdy w w0.heap.size 3 (xs j) (zaH wd cs (j:Int))
 apart:∀ j,j<k->∀ b,(xs j).ownBlock=some b->bf<b
 once:∀ j j' b,j<k->j'<k->(xs j).ownBlock=some b->(xs j').ownBlock=some b->j=j'
theorem zno{e:TypeId}{x:Value}{xs:List Int}(h:zdy w B e x xs)(hk:∀ b,x.ownBlock=some b->w'.heap[b]?=w.heap[b]?):zdy w' B e x xs:=by
 rcases h with q|⟨g,cap,rfl,q2,q3,q4,q5,q6⟩
 ·exact .inl q
 ·exact .inr ⟨g,cap,rfl,q2,q3,q4,q5,(hk g rfl).trans q6⟩
theorem ScA.next{k:Nat}(hI:ScA w0 w wd cs M gc bl bf k arrL arrF xs)(hkM:k<M)(hZ:zdy w' w.heap.size 3 v (zaH wd cs (k:Int)))(hL:w'.heap[bl]?=some (.cells (arrL.setIfInBounds k (.int .i64 (zaW wd cs (k:Int)))) 3))(hF:w'.heap[bf]?=some (.cells (arrF.setIfInBounds k v) 27))(hfr:∀ b,b<w.heap.size->b≠bl->b≠bf->w'.heap[b]?=w.heap[b]?)(hsz:w.heap.size<=w'.heap.size)(ho:w'.os=w.os/\w'.tape=w.tape/\w'.output=w.output) :
  ScA w0 w' wd cs M gc bl bf (k+1) (arrL.setIfInBounds k (.int .i64 (zaW wd cs (k:Int)))) (arrF.setIfInBounds k v) (fun j=>if j=k then v else xs j):=by
 have hz0':=hI.below.size
 have hlt:=hI.lt
 have hbl:=(gei hI.lights).1
 have hbf:=(gei hI.feet).1
 have hrow:∀ j,j<k->∀ b,(xs j).ownBlock=some b->b<w.heap.size:=fun j hj b hb=>((hI.row j hj).ownBlock b hb).2
 have hnew:∀ b,v.ownBlock=some b->w.heap.size<=b:=fun b hb=>(hZ.ownBlock b hb).1
 have hgc:=hI.grid.lt
 refine⟨⟨ho.1.trans hI.below.os,ho.2.1.trans hI.below.tape,ho.2.2.trans hI.below.output,Nat.le_trans hz0' hsz,fun b hb=>?_⟩,?_,hL,hF,by simpa using hI.sizeL,by simpa using hI.sizeF,fun j hj=>?_,fun j hj=>?_,hlt,fun j hj=>?_,fun j hj b hb=>?_,fun j j' b hj hj' hb hb'=>?_⟩
 ·exact(hfr b (by omega) (by omega) (by omega)).trans (hI.below.block b hb)
 ·obtain⟨g1,g2⟩:=hI.grid
  refine⟨g1,?_⟩
  rcases g2 with g2|⟨g,cp,cur,q1,q2,q3,q4⟩
  ·exact .inl g2
  ·have e:gc=g:=by simp only[Value.slice.injEq,Option.some.injEq,Addr.mk.injEq] at q1;exact q1.1.1
   subst e
   exact .inr ⟨gc,cp,cur,q1,q2,(hfr gc (by omega) (by omega) (by omega)).trans q3,q4⟩
 ·by_cases q:j=k
  ·subst q
   rw[Array.getElem?_setIfInBounds_self_of_lt (by rw[hI.sizeL];exact hkM)]
  ·rw[Array.getElem?_setIfInBounds_ne (Ne.symm q)]
   exact hI.atL j (by omega)
 ·by_cases q:j=k
  ·subst q
   rw[Array.getElem?_setIfInBounds_self_of_lt (by rw[hI.sizeF];exact hkM),if_pos rfl]
  ·rw[Array.getElem?_setIfInBounds_ne (Ne.symm q),if_neg q]
   exact hI.atF j (by omega)
 ·by_cases q:j=k
  ·subst q
   rw[if_pos rfl]
   exact hZ.mono hz0'
  ·rw[if_neg q]
   refine zno (hI.row j (by omega)) (fun b hb=>hfr b (hrow j (by omega) b hb) ?_ ?_)
   ·have:=hI.apart j (by omega) b hb;omega
   ·have:=hI.apart j (by omega) b hb;omega
 ·by_cases q:j=k
  ·rw[if_pos q] at hb
   have:=hnew b hb
   omega
  ·rw[if_neg q] at hb
   exact hI.apart j (by omega) b hb
 ·by_cases q:j=k
  ·by_cases q':j'=k
   ·omega
   ·rw[if_pos q] at hb
    rw[if_neg q'] at hb'
    have:=hnew b hb
    have:=hrow j' (by omega) b hb'
    omega
  ·by_cases q':j'=k
   ·rw[if_neg q] at hb
    rw[if_pos q'] at hb'
    have:=hnew b hb'
    have:=hrow j (by omega) b hb
    omega
   ·rw[if_neg q] at hb
    rw[if_neg q'] at hb'
    exact hI.once j j' b (by omega) (by omega) hb hb'
theorem ScA.same{k:Nat}(h:ScA w0 w wd cs M gc bl bf k arrL arrF xs)(hb5:Below w.heap.size w w'):ScA w0 w' wd cs M gc bl bf k arrL arrF xs:=by
 have hkeep:∀ b o,w.heap[b]?=some o->w'.heap[b]?=some o:=fun b o q=>(hb5.block b (gei q).1).trans q
 exact⟨zak h.below h.below.size hb5,h.grid.below hb5,hkeep _ _ h.lights,hkeep _ _ h.feet,h.sizeL,h.sizeF,h.atL,h.atF,h.lt,fun j hj=>(h.row j hj).below hb5,h.apart,h.once⟩
set_option maxRecDepth 20000 in
theorem znr(wd:Int)(a:Option Addr)(cap:Nat)(cs:List (Int × Int))(w:World)(h:zai w a cs)(hm:cs.length<=25)(hl:0<cs.length)(hk:okG wd cs=true)(M:Nat)(hM:zcl wd cs=(M:Int))(hM20:M<=20) :
  Calls SqP.prog 8 #[.agg #[.int .i64 wd,.slice a cs.length cap]] w fun e w'=>∃ gc bl bf arrL arrF xs,e=.returned (.tuple #[.agg #[.int .i64 wd,.slice (some ⟨gc,0,none⟩) cs.length cs.length,.slice (some ⟨bl,0,none⟩) M M,.slice (some ⟨bf,0,none⟩) M M],.bool true])/\ScA w w' wd cs M gc bl bf M arrL arrF xs:=by
 have hca:∀ b off,a=some ⟨b,off,none⟩->b<w.heap.size:=by
  intro b off e
  rcases h with q|⟨b',off',e',hbl',_⟩
  ·rw[q] at hl;simp at hl
  ·rw[e] at e'
   simp only[Option.some.injEq,Addr.mk.injEq] at e'
   omega
 have HCA:Hid (∀ b off,a=some ⟨b,off,none⟩->b<w.heap.size):=hca
 clear hca
 go_enter SqP.func8,SqP.ntmps8
 unfold zqo
 refine wp_seq (zqp wd a cap cs w h (by omega) fun w1 u1 u2 u3 u4 u5 u6 u7 u8 u9 u10 u11 u12 u13 u14 u15 u16 u17 u18 u19 u20 u21 hb1=>wp_skip ?_)
 show Code.wp _ _ _ _ _
 unfold zgG
 refine wp_seq (zqa wd a cap cs w1 (h.below hb1) (by omega) hk _ _ _ _ _ _ _ _ _ _ _ _ _ _ _ _ _ _ _ _ _ fun w2 hb2=>?_)
 have hB2:=zak hb1 hb1.size hb2
 show Code.wp _ _ _ _ _
 refine wp_seq (wp_cond (t:=true) rfl (wp_skip ?_))
 show Code.wp _ _ _ _ _
 refine wp_seq (zp9 wd a cap cs w2 (h.below hB2) (by omega) hl M hM hM20 _ _ _ _ _ _ _ _ _ _ _ _ _ _ _ _ _ _ _ _ _ fun gc bl bf w3 hO hL hF q1 q2 q3 hb3=>?_)
 have hB3:=zak hB2 hB2.size hb3
 have hz2:=hB2.size
 have hI:ScA w w3 wd cs M gc bl bf 0 (madeCells #[.int .i64 0] M) (madeCells #[.slice none 0 0] M) (fun _=>.slice none 0 0):=⟨hB3,hO.mono (by omega),hL,hF,by simp[madeCells],by simp[madeCells],fun j hj=>by omega,fun j hj=>by omega,⟨by omega,q2,q3⟩,fun j hj=>by omega,fun j hj=>by omega,fun j j' b hj=>by omega⟩
 show Code.wp _ _ _ _ _
 unfold scL
 simp only[opr]
 go_wp2_with fail
 go_loopw [10,11,12,13,14,15] (fun kk _ _ _ _ _ wr=>∃ (k:Nat) (arrL arrF:Array Value) (xs:Nat->Value),k<=M/\kk=.int .i64 k/\ScA w wr wd cs M gc bl bf k arrL arrF xs) (fun kk _ _ _ _ _ _=>M - (intOf kk).toNat)
 case atStart=>exact⟨0,_,_,_,Nat.zero_le _,rfl,hI⟩
 case round =>
  rename World=>wo
  obtain⟨k,arrL,arrF,xs,hkM',rfl,hI⟩:=hrel
  by_cases hkM:k<M
  ·have bl1:decide ((k:Int)<(M:Int))=true:=decide_eq_true (by omega)
   have wk:IntKind.i64.wrap ((k:Int)+1)=(k:Int)+1:=IntWalk.i64_in _ (by omega)
   have hlt:=hI.lt
   have hlf:bl≠bf:=by omega
   have hCo:zai wo a cs:=h.below hI.below
   have hcn:∀ b off,a=some ⟨b,off,none⟩->b≠bl/\b≠bf:=fun b off e=>by have:=HCA.out b off e;omega
   have HL:=(show Hid (wo.heap[bl]?=some (.cells arrL 3)) from hI.lights)
   have HF:=(show Hid (wo.heap[bf]?=some (.cells arrF 27)) from hI.feet)
   have hgl:=(gei hI.lights).1
   have hgf:=(gei hI.feet).1
   have hLs:=hI.sizeL
   have hFs:=hI.sizeF
   have HI:Hid (ScA w wo wd cs M gc bl bf k arrL arrF xs):=hI
   clear hI
   go_wp2_with fail
   refine(zcy wd a cap cs wo hCo (by omega) k).mono ?_
   rintro e w1 ⟨rfl,hb1⟩
   obtain⟨lt,elt⟩:∃ lt,zaW wd cs (k:Int)=lt:=⟨_,rfl⟩
   rw[elt]
   have hL1:w1.heap[bl]?=some (.cells arrL 3):=(hb1.block bl hgl).trans HL.out
   have hF1:w1.heap[bf]?=some (.cells arrF 27):=(hb1.block bf hgf).trans HF.out
   have cl:w1.cell? ⟨bl,k,none⟩=some arrL[k]:=by rw[cell_of_row _ _ _ _ _ _ hL1];exact Array.getElem?_eq_getElem (by omega)
   have fl:w1.frozen? ⟨bl,k,none⟩=false:=frozen_of_row _ _ _ _ _ hL1
   have hL2:(w1.setCell ⟨bl,k,none⟩ (.int .i64 lt)).heap[bl]?=some (.cells (arrL.setIfInBounds k (.int .i64 lt)) 3):=heap_setCell_same w1 bl k _ _ _ hL1
   have hF2:(w1.setCell ⟨bl,k,none⟩ (.int .i64 lt)).heap[bf]?=some (.cells arrF 27):=(Below.heap_setCell _ _ _ _ (fun e=>hlf e.symm)).trans hF1
   have hC2:zai (w1.setCell ⟨bl,k,none⟩ (.int .i64 lt)) a cs:=by
    rcases hCo.below hb1 with q|⟨b,off,rfl,hbl,hc⟩
    ·exact .inl q
    ·refine .inr ⟨b,off,rfl,by simpa using hbl,fun i hi=>?_⟩
     have hne:=(hcn b off rfl).1
     rw[World.cell?_of_block (w:=w1) (a:=⟨b,_,none⟩) (Below.heap_setCell _ _ _ _ hne),World.cell?_of_block (w:=w1) (a:=⟨b,_,none⟩) (Below.heap_setCell _ _ _ _ hne)]
     exact hc i hi
   have hz1:=hb1.size
   have hfr2:∀ b,b<wo.heap.size->b≠bl->(w1.setCell ⟨bl,k,none⟩ (.int .i64 lt)).heap[b]?=wo.heap[b]?:=fun b hb hne=>(Below.heap_setCell _ _ _ _ hne).trans (hb1.block b hb)
   have hsz2:w1.heap.size<=(w1.setCell ⟨bl,k,none⟩ (.int .i64 lt)).heap.size:=by simp
   go_wp2_with fail
   obtain⟨w2,hw2⟩:∃ w2,w2=w1.setCell ⟨bl,k,none⟩ (.int .i64 lt):=⟨_,rfl⟩
   have ho2:w2.os=wo.os/\w2.tape=wo.tape/\w2.output=wo.output:=by rw[hw2];exact⟨hb1.os,hb1.tape,hb1.output⟩
   rw[<- hw2] at hL2 hF2 hC2 hfr2 hsz2 ⊢
   clear hw2 cl fl hL1 hF1 hb1 HL HF
   refine(zel wd a cap cs w2 hC2 (by omega) k).mono ?_
   rintro e w3 ⟨v,rfl,hZ,hrm,hb3⟩
   have hvs:∃ xa xn xc,v=.slice xa xn xc:=by
    rcases hZ with ⟨q,_⟩|⟨g,c,q,_⟩
    ·exact⟨_,_,_,q⟩
    ·exact⟨_,_,_,q⟩
   obtain⟨xa,xn,xc,rfl⟩:=hvs
   have hz3:=hb3.size
   have hL3:w3.heap[bl]?=some (.cells (arrL.setIfInBounds k (.int .i64 lt)) 3):=(hb3.block bl (by omega)).trans hL2
   have hF3:w3.heap[bf]?=some (.cells arrF 27):=(hb3.block bf (by omega)).trans hF2
   have cf:w3.cell? ⟨bf,k,none⟩=some arrF[k]:=by rw[cell_of_row _ _ _ _ _ _ hF3];exact Array.getElem?_eq_getElem (by omega)
   have ff:w3.frozen? ⟨bf,k,none⟩=false:=frozen_of_row _ _ _ _ _ hF3
   have hL4:(w3.setCell ⟨bf,k,none⟩ (.slice xa xn xc)).heap[bl]?=some (.cells (arrL.setIfInBounds k (.int .i64 lt)) 3):=(Below.heap_setCell _ _ _ _ hlf).trans hL3
   have hF4:(w3.setCell ⟨bf,k,none⟩ (.slice xa xn xc)).heap[bf]?=some (.cells (arrF.setIfInBounds k (.slice xa xn xc)) 27):=heap_setCell_same w3 bf k _ _ _ hF3
   have hfr4:∀ b,b<wo.heap.size->b≠bl->b≠bf->(w3.setCell ⟨bf,k,none⟩ (.slice xa xn xc)).heap[b]?=wo.heap[b]?:=fun b hb h1 h2=>((Below.heap_setCell _ _ _ _ h2).trans (hb3.block b (by omega))).trans (hfr2 b hb h1)
   have hZ4:zdy (w3.setCell ⟨bf,k,none⟩ (.slice xa xn xc)) wo.heap.size 3 (.slice xa xn xc) (zaH wd cs k):=by
    rcases hZ with q|⟨g,c,q1,q2,q3,q4,q5,q6⟩
    ·exact .inl q
    ·exact .inr ⟨g,c,q1,by omega,q3,q4,q5,(Below.heap_setCell _ _ _ _ (by show g≠bf;omega)).trans q6⟩
   have ho4:(w3.setCell ⟨bf,k,none⟩ (.slice xa xn xc)).os=wo.os/\(w3.setCell ⟨bf,k,none⟩ (.slice xa xn xc)).tape=wo.tape/\(w3.setCell ⟨bf,k,none⟩ (.slice xa xn xc)).output=wo.output:=⟨hb3.os.trans ho2.1,hb3.tape.trans ho2.2.1,hb3.output.trans ho2.2.2⟩
   have hsz4:wo.heap.size<=(w3.setCell ⟨bf,k,none⟩ (.slice xa xn xc)).heap.size:=by simp;omega
   subst elt
   clear hL3 hF3 hb3 hZ hrm
   go_wp2_with fail
   have hnx:=HI.out.next hkM hZ4 hL4 hF4 hfr4 hsz4 ho4
   clear hL4 hF4 hfr4 hsz4 ho4 hZ4 HI
   go_roundw
   case rel=>exact⟨k+1,_,_,_,by omega,by go_num,hnx⟩
   case measure=>simp[intOf];omega
  ·have hkM2:k=M:=by omega
   subst hkM2
   have bl1:decide ((k:Int)<(k:Int))=false:=decide_eq_false (by omega)
   go_wp2_with fail
   unfold scZ
   simp only[opr]
   go_wp2_with fail
   refine bodyPost_ret (v:=.tuple #[.agg #[.int .i64 wd,.slice (some ⟨gc,0,none⟩) cs.length cs.length,.slice (some ⟨bl,0,none⟩) k k,.slice (some ⟨bf,0,none⟩) k k],.bool true]) (by simp[results,SqP.results8,Tryz.results8,go_sem]) rfl ⟨gc,bl,bf,arrL,arrF,xs,rfl,hI.same bel⟩
end Sp
namespace Sp
open Go.RowKit
theorem zik{xs:List Int}(h:zdy w B 3 v xs):zj1 w B v xs:=by
 refine⟨by simp[zeN],?_⟩
 rcases h with ⟨h1,h2⟩|⟨g,cap,h1,h2,h3,h4,h5,h6⟩
 ·exact .inl ⟨h1,by rw[h2];rfl⟩
 ·refine .inr ⟨g,cap,zge xs cap,h1,h2,h6,h4,h5,by rw[zgd xs cap h4,Nat.mul_one],?_⟩
  rw[Nat.mul_one]
  have e:(zge xs cap).toList=zeN xs++List.replicate (cap - xs.length) (.int .i64 0):=by simp[zge,zdX,zeN]
  rw[e,List.take_append_of_le_length (by simp[zeN])]
  rw[List.take_of_length_le (by simp[zeN])]
theorem znm{xs:List Int}(h:zj1 w B v xs):∃ a c,v=.slice a xs.length c/\RI w a (xs.length * 1) (fun i=>xs.getD i 0)/\∀ x,a=some x->v.ownBlock=some x.block:=by
 obtain⟨h1,h2⟩:=h
 rcases h2 with ⟨q1,q2⟩|⟨g,cap,cur,q1,q2,q3,q4,q5,q6,q7⟩
 ·exact⟨none,0,by rw[q1,q2],.inl (by omega),fun x e=>by cases e⟩
 ·refine⟨_,cap,q1,.inr ⟨g,rfl,(gei q3).1,fun j hj=>⟨?_,frozen_of_row _ _ j _ _ q3⟩⟩,fun x e=>by rw[q1];cases e;rfl⟩
  have hj':j<xs.length:=by omega
  have e:(cur.toList.take (xs.length * 1))[j]?=(zeN xs)[j]?:=by rw[q7]
  rw[List.getElem?_take_of_lt hj,Array.getElem?_toList] at e
  rw[cell_of_row _ _ j _ _ _ q3,e]
  simp[zeN,hj']
theorem ScA.toS{k:Nat}(h:ScA w0 w wd cs M gc bl bf k arrL arrF xs):ScS w0 w wd cs M gc cs.length bl bf k arrL arrF xs:=by
 have hlt:=h.lt
 exact⟨h.below,h.grid,h.lights,h.feet,h.sizeL,h.sizeF,h.atL,h.atF,by omega,fun j hj=>zik (h.row j hj),fun j hj b hb=>by have:=h.apart j hj b hb;omega,h.once⟩
end Sp
namespace Sp
open Go.RowKit
attribute [local go_sem ↓] Go.wp_at_zero Go.wp_at_succ
def ScM(w:World)(g l f:Option Addr)(cs:List (Int × Int))(ls:List Int)(fs:List (List Int)):Prop:=zai w g cs/\ziT w l ls/\zkP w f fs
theorem ScM.below{g l f:Option Addr}(h:ScM w g l f cs ls fs)(hb:Below w.heap.size w w'):ScM w' g l f cs ls fs:=⟨h.1.below hb,h.2.1.below hb,h.2.2.below hb⟩
theorem zmS{v0 v1 v2 v3:Value}(h:w.heap[b]?=some (.cells #[v0,v1,v2,v3] t)):w.cell? ⟨b,0,none⟩=some v0/\w.cell? ⟨b,1,none⟩=some v1/\w.cell? ⟨b,2,none⟩=some v2/\w.cell? ⟨b,3,none⟩=some v3 :=
 ⟨(cell_of_row _ _ 0 _ _ _ h).trans rfl,(cell_of_row _ _ 1 _ _ _ h).trans rfl,(cell_of_row _ _ 2 _ _ _ h).trans rfl,(cell_of_row _ _ 3 _ _ _ h).trans rfl⟩
theorem thaw{xs:Array Value}(h:w.heap[b]?=some (.cells xs t))(i:Nat):w.frozen? ⟨b,i,none⟩=false:=frozen_of_row _ _ _ _ _ h
def zrd(cs:List (Int × Int))(ls:List Int)(fs:List (List Int)):Prop:=cs.length<=1048576/\ls.length<=1048576/\fs.length<=1048576/\∀ k,k<fs.length->(fs.getD k []).length<=1048576
theorem zcv(o1 o2:Obj)(w:World):((w.alloc o1).alloc o2).heap[w.heap.size]?=some o1/\((w.alloc o1).alloc o2).heap[w.heap.size+1]?=some o2/\Below w.heap.size w ((w.alloc o1).alloc o2):=by
 refine⟨?_,?_,bel⟩
 ·show ((w.heap.push o1).push o2)[w.heap.size]?=some o1
  rw[Array.getElem?_push,if_neg (by simp),Array.getElem?_push,if_pos rfl]
 ·show ((w.heap.push o1).push o2)[w.heap.size+1]?=some o2
  rw[Array.getElem?_push,if_pos (by simp)]
