/- Part. -/
import Derived.Deep.RegionWith
import Derived.Test.YthfhlgdeghnggaaGreatEAp
set_option maxHeartbeats 4000000
set_option maxRecDepth 20000
set_option linter.unusedVariables false
namespace Go.Proofs.YthfhlgdeghnggaaGreat
variable{arrF arrL:Array Value}{r:Ending}{wd:Int}{cs:Lp}{B M b bf bl gc hi lo m:Nat}{f' l:Nat->Int}{cp n:Nat->Nat}{f:Nat->Nat->Int}{ad:Nat->Od}{xs:Nat->Value}{S:Np}{a:Od}{g:Option Nat}{v:Value}{w w' w0:World}
open _root_.Go.Proofs.Tryz
namespace Sp
open Go.RowKit
attribute [local go_sem ↓] Go.wp_at_zero Go.wp_at_succ
structure ScA(w0 w:World)(wd:Int)(cs:Lp)(M gc bl bf k:Nat)(arrL arrF:Array Value)(xs:Nat->Value):Prop where
 below:xE w0 w
 grid:Own w w0.heap.size (.slice (xA gc) cs.length cs.length) cs
 lights:w.heap[bl]?=some (.cells arrL 3)
 feet:w.heap[bf]?=some (.cells arrF 25)
 sizeL:arrL.size=M
 sizeF:arrF.size=M
 atL:∀ j,j<k->arrL[j]?=some (J (zaU wd cs (j:Int)))
 atF:∀ j,j<k->arrF[j]?=some (xs j)
 lt:w0.heap.size<=gc/\gc<bl/\bl<bf
 row:∀ j,j<k->zd4 w w0.heap.size 3 (xs j) (zaA wd cs (j:Int))
 apart:∀ j,j<k->∀ b,(xs j).ownBlock=some b->bf<b
 once:∀ j j' b,j<k->j'<k->(xs j).ownBlock=some b->(xs j').ownBlock=some b->j=j'
theorem zpk{e:TypeId}{x:Value}{xs:List Int}(h:zd4 w B e x xs)(hk:∀ b,x.ownBlock=some b->w'.heap[b]?=w.heap[b]?):zd4 w' B e x xs:=by
 rcases h with q|⟨g,cap,rfl,q2,q3,q4,q5,q6⟩
 ·exact .inl q
 ·exact .inr ⟨g,cap,rfl,q2,q3,q4,q5,(hk g rfl).trans q6⟩
theorem ScA.next{k:Nat}(hI:ScA w0 w wd cs M gc bl bf k arrL arrF xs)(h3:k<M)(hZ:zd4 w' w.heap.size 3 v (zaA wd cs (k:Int)))(hL:w'.heap[bl]?=some (.cells (arrL.setIfInBounds k (J (zaU wd cs (k:Int)))) 3))(hF:w'.heap[bf]?=some (.cells (arrF.setIfInBounds k v) 25))(h2:∀ b,b<w.heap.size->b≠bl->b≠bf->w'.heap[b]?=w.heap[b]?)(h4:w.heap.size<=w'.heap.size)(ho:w'.os=w.os/\w'.tape=w.tape/\w'.output=w.output) :
  ScA w0 w' wd cs M gc bl bf (k+1) (arrL.setIfInBounds k (J (zaU wd cs (k:Int)))) (arrF.setIfInBounds k v) (fun j=>if j=k then v else xs j):=by
 have hz0':=hI.below.size
 have h5:=hI.lt
 have h6:=(gei hI.lights).1
 have h7:=(gei hI.feet).1
 have h0:∀ j,j<k->∀ b,(xs j).ownBlock=some b->b<w.heap.size:=fun j hj b hb=>((hI.row j hj).ownBlock b hb).2
 have h1:∀ b,v.ownBlock=some b->w.heap.size<=b:=fun b hb=>(hZ.ownBlock b hb).1
 have h8:=hI.grid.lt
 refine⟨⟨ho.1.trans hI.below.os,ho.2.1.trans hI.below.tape,ho.2.2.trans hI.below.output,Nat.le_trans hz0' h4,fun b hb=>?_⟩,?_,hL,hF,by simpa using hI.sizeL,by simpa using hI.sizeF,fun j hj=>?_,fun j hj=>?_,h5,fun j hj=>?_,fun j hj b hb=>?_,fun j j' b hj hj' hb hb'=>?_⟩
 ·exact(h2 b qg qg qg).trans (hI.below.block b hb)
 ·obtain⟨g1,g2⟩:=hI.grid
  refine⟨g1,?_⟩
  rcases g2 with g2|⟨g,cp,cur,q1,q2,q3,q4⟩
  ·exact .inl g2
  ·have e:gc=g:=by simp only[Value.slice.injEq,Option.some.injEq,Addr.mk.injEq] at q1;exact q1.1.1
   subst e
   exact .inr ⟨gc,cp,cur,q1,q2,(h2 gc qg qg qg).trans q3,q4⟩
 ·by_cases q:j=k
  ·subst q
   rw[Array.getElem?_setIfInBounds_self_of_lt (by rw[hI.sizeL];exact h3)]
  ·rw[Array.getElem?_setIfInBounds_ne (Ne.symm q)]
   exact hI.atL j qg
 ·by_cases q:j=k
  ·subst q
   rw[Array.getElem?_setIfInBounds_self_of_lt (by rw[hI.sizeF];exact h3),if_pos rfl]
  ·rw[Array.getElem?_setIfInBounds_ne (Ne.symm q),if_neg q]
   exact hI.atF j qg
 ·by_cases q:j=k
  ·subst q
   rw[if_pos rfl]
   exact hZ.mono hz0'
  ·rw[if_neg q]
   refine zpk (hI.row j qg) (fun b hb=>h2 b (h0 j qg b hb) ?_ ?_)
   ·have:=hI.apart j qg b hb;omega
   ·have:=hI.apart j qg b hb;omega
 ·by_cases q:j=k
  ·rw[if_pos q] at hb
   have:=h1 b hb
   omega
  ·rw[if_neg q] at hb
   exact hI.apart j qg b hb
 ·by_cases q:j=k
  ·by_cases q':j'=k
   ·omega
   ·rw[if_pos q] at hb
    rw[if_neg q'] at hb'
    have:=h1 b hb
    have:=h0 j' qg b hb'
    omega
  ·by_cases q':j'=k
   ·rw[if_neg q] at hb
    rw[if_pos q'] at hb'
    have:=h1 b hb'
    have:=h0 j qg b hb
    omega
   ·rw[if_neg q] at hb
    rw[if_neg q'] at hb'
    exact hI.once j j' b qg qg hb hb'
theorem ScA.same{k:Nat}(h:ScA w0 w wd cs M gc bl bf k arrL arrF xs)(h1:xE w w'):ScA w0 w' wd cs M gc bl bf k arrL arrF xs:=by
 have h0:∀ b o,w.heap[b]?=some o->w'.heap[b]?=some o:=fun b o q=>(h1.block b (gei q).1).trans q
 exact⟨zae h.below h.below.size h1,h.grid.below h1,h0 _ _ h.lights,h0 _ _ h.feet,h.sizeL,h.sizeF,h.atL,h.atF,h.lt,fun j hj=>(h.row j hj).below h1,h.apart,h.once⟩
theorem zpt(wd:Int)(a:Od)(cap:Nat)(cs:Lp)(w:World)(h:zaf w a cs)(hm:cs.length<=25)(hl:0<cs.length)(hk:okG wd cs=true)(M:Nat)(hM:zbV wd cs=(M:Int))(hK:M<=20) :
  Calls SqP.prog 54 #[.agg (xG wd a cs.length cap)] w fun e w'=>∃ gc bl bf arrL arrF xs,e=.returned (.tuple #[.agg (xH wd (xA gc) cs.length cs.length (xA bl) M M (xA bf) M M),.bool true])/\ScA w w' wd cs M gc bl bf M arrL arrF xs:=by
 have hp:∀ b off,a=some (O b off)->b<w.heap.size:=by
  intro b off e
  rcases h with q|⟨b',off',e',hbl',_⟩
  ·rw[q] at hl;simp at hl
  ·rw[e] at e'
   simp only[Option.some.injEq,Addr.mk.injEq] at e'
   omega
 have HCA:Hid (∀ b off,a=some (O b off)->b<w.heap.size):=hp
 clear hp
 go_enter SqP.func54,SqP.ntmps54
 unfold zsD
 refine wp_seq (zsE wd a cap cs w h qg fun w1 u1 u2 u3 u4 u5 u6 u7 u8 u9 u10 u11 u12 u13 u14 u15 u16 u17 u18 u19 u20 u21 h0=>wp_skip ?_)
 show Code.wp _ _ _ _ _
 unfold zhi
 refine wp_seq (zsj wd a cap cs w1 (h.below h0) qg hk _ _ _ _ _ _ _ _ _ _ _ _ _ _ _ _ _ _ _ _ _ fun w2 hQ=>?_)
 have h4:=zae h0 h0.size hQ
 show Code.wp _ _ _ _ _
 refine wp_seq (wp_cond (t:=true) rfl (wp_skip ?_))
 show Code.wp _ _ _ _ _
 refine wp_seq (zsi wd a cap cs w2 (h.below h4) qg hl M hM hK _ _ _ _ _ _ _ _ _ _ _ _ _ _ _ _ _ _ _ _ _ fun gc bl bf w3 hO hL hF q1 q2 q3 h3=>?_)
 have hT:=zae h4 h4.size h3
 have p6:=h4.size
 have hI:ScA w w3 wd cs M gc bl bf 0 (madeCells #[J 0] M) (madeCells #[.slice none 0 0] M) (fun _=>.slice none 0 0):=⟨hT,hO.mono qg,hL,hF,by simp[madeCells],by simp[madeCells],fun j hj=>qg,fun j hj=>qg,⟨qg,q2,q3⟩,fun j hj=>qg,fun j hj=>qg,fun j j' b hj=>qg⟩
 show Code.wp _ _ _ _ _
 unfold scL
 simp only[opr]
 go_wp2_with fail
 go_loopw [10,11,12,13,14,15] (fun kk _ _ _ _ _ wr=>∃ (k:Nat) (arrL arrF:Array Value) (xs:Nat->Value),k<=M/\kk=J k/\ScA w wr wd cs M gc bl bf k arrL arrF xs) (fun kk _ _ _ _ _ _=>M - (intOf kk).toNat)
 case atStart=>exact⟨0,_,_,_,Nat.zero_le _,rfl,hI⟩
 case round =>
  rename World=>wo
  obtain⟨k,arrL,arrF,xs,hkM',rfl,hI⟩:=hrel
  by_cases hkM:k<M
  ·have bl1:decide ((k:Int)<(M:Int))=true:=decide_eq_true qg
   have wk:IntKind.i64.wrap ((k:Int)+1)=(k:Int)+1:=IntWalk.i64_in _ qg
   have p7:=hI.lt
   have hq:bl≠bf:=qg
   have hs:zaf wo a cs:=h.below hI.below
   have hU:∀ b off,a=some (O b off)->b≠bl/\b≠bf:=fun b off e=>by have:=HCA.o b off e;omega
   have HL:=(show Hid (wo.heap[bl]?=some (.cells arrL 3)) from hI.lights)
   have HF:=(show Hid (wo.heap[bf]?=some (.cells arrF 25)) from hI.feet)
   have hV:=(gei hI.lights).1
   have hX:=(gei hI.feet).1
   have p8:=hI.sizeL
   have p9:=hI.sizeF
   have HI:Hid (ScA w wo wd cs M gc bl bf k arrL arrF xs):=hI
   clear hI
   go_wp2_with fail
   refine(zbT wd a cap cs wo hs qg k).mono ?_
   rintro e w1 ⟨rfl,h0⟩
   obtain⟨lt,elt⟩:∃ lt,zaU wd cs (k:Int)=lt:=⟨_,rfl⟩
   rw[elt]
   have h5:w1.heap[bl]?=some (.cells arrL 3):=(h0.block bl hV).trans HL.o
   have hu:w1.heap[bf]?=some (.cells arrF 25):=(h0.block bf hX).trans HF.o
   have cl:w1.cell? (O bl k)=some arrL[k]:=by rw[cell_of_row _ _ _ _ _ _ h5];exact Array.getElem?_eq_getElem qg
   have fl:w1.frozen? (O bl k)=false:=frozen_of_row _ _ _ _ _ h5
   have hw:(w1.setCell (O bl k) (J lt)).heap[bl]?=some (.cells (arrL.setIfInBounds k (J lt)) 3):=heap_setCell_same w1 bl k _ _ _ h5
   have hy:(w1.setCell (O bl k) (J lt)).heap[bf]?=some (.cells arrF 25):=(Below.heap_setCell _ _ _ _ (fun e=>hq e.symm)).trans hu
   have hz:zaf (w1.setCell (O bl k) (J lt)) a cs:=by
    rcases hs.below h0 with q|⟨b,off,rfl,hY,hc⟩
    ·exact .inl q
    ·refine .inr ⟨b,off,rfl,by simpa using hY,fun i hi=>?_⟩
     have h6:=(hU b off rfl).1
     rw[World.cell?_of_block (w:=w1) (a:=(O b _)) (Below.heap_setCell _ _ _ _ h6),World.cell?_of_block (w:=w1) (a:=(O b _)) (Below.heap_setCell _ _ _ _ h6)]
     exact hc i hi
   have pa:=h0.size
   have h8:∀ b,b<wo.heap.size->b≠bl->(w1.setCell (O bl k) (J lt)).heap[b]?=wo.heap[b]?:=fun b hb h6=>(Below.heap_setCell _ _ _ _ h6).trans (h0.block b hb)
   have hN:w1.heap.size<=(w1.setCell (O bl k) (J lt)).heap.size:=qm
   go_wp2_with fail
   obtain⟨w2,hf⟩:∃ w2,w2=w1.setCell (O bl k) (J lt):=⟨_,rfl⟩
   have hg:w2.os=wo.os/\w2.tape=wo.tape/\w2.output=wo.output:=by rw[hf];exact⟨h0.os,h0.tape,h0.output⟩
   rw[<- hf] at hw hy hz h8 hN ⊢
   clear hf cl fl h5 hu h0 HL HF
   refine(zdB wd a cap cs w2 hz qg k).mono ?_
   rintro e w3 ⟨v,rfl,hZ,p0,h3⟩
   have p1:∃ xa xn xc,v=.slice xa xn xc:=by
    rcases hZ with ⟨q,_⟩|⟨g,c,q,_⟩
    ·exact⟨_,_,_,q⟩
    ·exact⟨_,_,_,q⟩
   obtain⟨xa,xn,xc,rfl⟩:=p1
   have pb:=h3.size
   have hA:w3.heap[bl]?=some (.cells (arrL.setIfInBounds k (J lt)) 3):=(h3.block bl qg).trans hw
   have h7:w3.heap[bf]?=some (.cells arrF 25):=(h3.block bf qg).trans hy
   have cf:w3.cell? (O bf k)=some arrF[k]:=by rw[cell_of_row _ _ _ _ _ _ h7];exact Array.getElem?_eq_getElem qg
   have ff:w3.frozen? (O bf k)=false:=frozen_of_row _ _ _ _ _ h7
   have hD:(w3.setCell (O bf k) (.slice xa xn xc)).heap[bl]?=some (.cells (arrL.setIfInBounds k (J lt)) 3):=(Below.heap_setCell _ _ _ _ hq).trans hA
   have hE:(w3.setCell (O bf k) (.slice xa xn xc)).heap[bf]?=some (.cells (arrF.setIfInBounds k (.slice xa xn xc)) 25):=heap_setCell_same w3 bf k _ _ _ h7
   have h9:∀ b,b<wo.heap.size->b≠bl->b≠bf->(w3.setCell (O bf k) (.slice xa xn xc)).heap[b]?=wo.heap[b]?:=fun b hb h1 h2=>((Below.heap_setCell _ _ _ _ h2).trans (h3.block b qg)).trans (h8 b hb h1)
   have hG:zd4 (w3.setCell (O bf k) (.slice xa xn xc)) wo.heap.size 3 (.slice xa xn xc) (zaA wd cs k):=by
    rcases hZ with q|⟨g,c,q1,q2,q3,q4,q5,q6⟩
    ·exact .inl q
    ·exact .inr ⟨g,c,q1,qg,q3,q4,q5,(Below.heap_setCell _ _ _ _ (by show g≠bf;omega)).trans q6⟩
   have hJ:(w3.setCell (O bf k) (.slice xa xn xc)).os=wo.os/\(w3.setCell (O bf k) (.slice xa xn xc)).tape=wo.tape/\(w3.setCell (O bf k) (.slice xa xn xc)).output=wo.output:=⟨h3.os.trans hg.1,h3.tape.trans hg.2.1,h3.output.trans hg.2.2⟩
   have he:wo.heap.size<=(w3.setCell (O bf k) (.slice xa xn xc)).heap.size:=qn
   subst elt
   clear hA h7 h3 hZ p0
   go_wp2_with fail
   have p5:=HI.o.next hkM hG hD hE h9 he hJ
   clear hD hE h9 he hJ hG HI
   go_roundw
   case rel=>exact⟨k+1,_,_,_,qg,by go_num,p5⟩
   case measure=>exact qe
  ·have hP:k=M:=qg
   subst hP
   have bl1:decide ((k:Int)<(k:Int))=false:=decide_eq_false qg
   go_wp2_with fail
   unfold scZ
   simp only[opr]
   go_wp2_with fail
   refine bodyPost_ret (v:=.tuple #[.agg (xH wd (xA gc) cs.length cs.length (xA bl) k k (xA bf) k k),.bool true]) (by simp[results,SqP.results54,results54,go_sem]) rfl ⟨gc,bl,bf,arrL,arrF,xs,rfl,hI.same bel⟩
end Sp
namespace Sp
variable{aLt:Nat->Func->Func}
open Go.RowKit
attribute [local go_sem ↓] Go.wp_at_zero Go.wp_at_succ
def RI(w:World)(a:Od)(m:Nat)(f:Nat->Int):Prop:=m=0\/∃ g,a=some (O g 0)/\g<w.heap.size/\∀ j,j<m->w.cell? (O g j)=some (J (f j))/\w.frozen? (O g j)=false
theorem RI.below{f:Nat->Int}(h:RI w a m f)(hb:xE w w'):RI w' a m f:=by
 rcases h with h|⟨g,e,hg,hc⟩
 ·exact Or.inl h
 ·exact Or.inr ⟨g,e,nll hg hb.size,fun j hj=>⟨zaa hb (hc j hj).1,zak hb (hc j hj).1 (hc j hj).2⟩⟩
theorem RI.like{f:Nat->Int}(h:RI w a m f)(e:∀ j,j<m->f' j=f j):RI w a m f':=by
 rcases h with h|⟨g,e1,hl,hc⟩
 ·exact Or.inl h
 ·exact Or.inr ⟨g,e1,hl,fun j hj=>by rw[e j hj];exact hc j hj⟩
theorem RI.put{g:Nat}{f:Nat->Int}(h:RI w (xA g) m f)(i:Nat)(v:Int)(hi:i<m)(h1:f' i=v)(h2:∀ j,j<m->j≠i->f' j=f j):RI (w.setCell (O g i) (J v)) (xA g) m f':=by
 rcases h with h|⟨g',e1,hl,hc⟩
 ·omega
 ·simp only[Option.some.injEq,Addr.mk.injEq,and_true] at e1
  subst e1
  refine Or.inr ⟨g,rfl,by simpa using hl,fun j hj=>⟨?_,by simpa using (hc j hj).2⟩⟩
  by_cases e:j=i
  ·subst e
   rw[World.cell?_setCell_same _ _ _ (by rw[(hc j hj).1]),h1]
  ·have q:((O g i):Addr)≠(O g j):=fun z=>e (Addr.mk.inj z).2.1.symm
   rw[World.cell?_setCell_other _ _ _ _ q,h2 j hj e]
   exact(hc j hj).1
theorem RI.at{f:Nat->Int}(h:RI w a m f)(hm:0<m):∃ g,a=some (O g 0)/\g<w.heap.size/\∀ j,j<m->w.cell? (O g j)=some (J (f j))/\w.frozen? (O g j)=false:=by
 rcases h with h|h
 ·omega
 ·exact h
theorem zb6(a a2:Od)(c c2 n:Nat)(f:Nat->Int)(w:World)(h:RI w a (n * 1) f)(h2:RI w a2 (n * 1) f)(hm:n<=1048576) :
  Calls (SqG.prog aLt) 10 #[.slice a n c,.slice a2 n c2] w (xB w (.bool true)):=by
 have bl:((n:Int) != (n:Int))=false:=qm
 go_enter (zfx func10),ntmps10
 go_wp2_with fail
 go_loopw [5] (fun ii wr=>∃ i:Nat,i<=n/\ii=J i/\xE w wr) (fun ii _=>n - (intOf ii).toNat)
 case atStart=>exact⟨0,Nat.zero_le _,rfl,Below.refl _ _⟩
 case round =>
  rename World=>wo
  obtain⟨i,hi,rfl,hb⟩:=hrel
  by_cases hlt:i<n
  ·obtain⟨g,ea,_,hc⟩:=(h.below hb).at qg
   obtain⟨g2,ea2,_,hc2⟩:=(h2.below hb).at qg
   subst ea
   subst ea2
   have x0:=(hc i qg).1
   have y0:=(hc2 i qg).1
   have h1:(i:Int)<(n:Int):=qg
   have h3:(f i != f i)=false:=qm
   clear h h2 hc hc2
   go_wp2_with fail
   go_quiet (fail)
   have h0:xE w (wo.drewN nq):=⟨hb.os,hb.tape,hb.output,hb.size,hb.block⟩
   go_wp2_with fail
   go_roundw
   case rel=>exact⟨i+1,qg,by go_num,h0⟩
   case measure=>exact qe
  ·go_wp2_with fail
   go_ret
   exact⟨rfl,hb⟩
theorem zjk(k0:Int)(a:Od)(n cap:Nat)(f:Nat->Int)(w:World)(h:RI w a (n * 1) f)(hm:n<=1048576)(h5:0<=k0/\k0<=1099511627776) :
  Calls (SqG.prog aLt) 13 #[.slice a n cap,J k0] w fun e w'=>e=.returned (J (k0+1 * (n:Int)))/\RI w' a (n * 1) (fun j=>k0+(j:Int))/\w.grownBy w' (Value.slice a n cap).ownBlock:=by
 go_enter (zfx func13),ntmps13
 go_wp2_with fail
 go_loopw [1,5] (fun v ii wr=>∃ i:Nat,i<=n/\ii=J i/\v=J (k0+1 * (i:Int))/\RI wr a (n * 1) (fun j=>if j<i * 1 then k0+(j:Int) else f j)/\w.grownBy wr (Value.slice a n cap).ownBlock) (fun _ ii _=>n - (intOf ii).toNat)
 case atStart=>exact⟨0,Nat.zero_le _,rfl,qm,h.like (fun j _=>qm),World.grownBy.refl _ _⟩
 case round =>
  rename World=>wo
  obtain⟨i,hi,rfl,rfl,hR,hg⟩:=hrel
  by_cases hlt:i<n
  ·obtain⟨g,ea,h6,hc⟩:=hR.at qg
   subst ea
   have h7:(i:Int)<(n:Int):=qg
   obtain⟨c0,z0⟩:=hc (i) qg
   obtain⟨u0,eu0⟩:∃ u,(if i<i * 1 then k0+((i:Nat):Int) else f (i))=u:=⟨_,rfl⟩
   simp only[eu0] at c0
   have h1:RI (wo.setCell (O g i) (J (k0+(i:Int)))) (xA g) (n * 1) (fun j=>if j<i * 1+1 then k0+(j:Int) else f j):=hR.put (i) (k0+(i:Int)) qg (by rw[if_pos qg];try omega) (fun j hj h0=>by by_cases z:j<i * 1;rw[if_pos qg,if_pos qg];rw[if_neg qg,if_neg qg])
   have h2:w.grownBy (wo.setCell (O g i) (J (k0+(i:Int)))) (Value.slice (xA g) n cap).ownBlock:=⟨hg.os,hg.tape,hg.output,by simpa using hg.size,fun j hj h0=>by
    have h3:j≠g:=fun e=>h0 (by simp[Value.ownBlock,e])
    rw[Below.heap_setCell _ _ _ _ h3]
    exact hg.block j hj h0⟩
   have HF:Hid (RI (wo.setCell (O g i) (J (k0+(i:Int)))) (xA g) (n * 1) (fun j=>if j<(i+1) * 1 then k0+(j:Int) else f j)):=h1.like (fun j _=>by rw[show (i+1) * 1=i * 1+1 by omega])
   clear hc hR h1 eu0
   go_wp2_with fail
   go_roundw
   case rel=>exact⟨i+1,qg,by go_num,by go_num,HF.o,h2⟩
   case measure=>exact qe
  ·have h4:i=n:=qg
   subst h4
   go_wp2_with fail
   go_ret
   exact⟨rfl,hR.like (fun j hj=>by rw[if_pos hj]),hg⟩
theorem zch(k0:Int)(a:Od)(n cap:Nat)(w:World)(h:RI w a (n * 1) (fun j=>k0+(j:Int)))(hm:n<=1048576)(h1:0<=k0/\k0<=1099511627776) :
  Calls (SqG.prog aLt) 14 #[.slice a n cap,J k0] w fun e w'=>e=.returned (J (k0+1 * (n:Int)))/\w'=w:=by
 go_enter (zfx func14),ntmps14
 go_wp2_with fail
 go_loopw [1,5] (fun v ii wr=>∃ i:Nat,i<=n/\ii=J i/\v=J (k0+1 * (i:Int))/\wr=w) (fun _ ii _=>n - (intOf ii).toNat)
 case atStart=>exact⟨0,Nat.zero_le _,rfl,qm,rfl⟩
 case round =>
  obtain⟨i,hi,rfl,rfl,rfl⟩:=hrel
  by_cases hlt:i<n
  ·obtain⟨g,ea,h2,hc⟩:=h.at qg
   subst ea
   have h3:(i:Int)<(n:Int):=qg
   have c0:wr.cell? (O g i)=some (J (k0+(i:Int))):=by rw[(hc (i) qg).1]
   have b0:(k0+(i:Int) != k0+(i:Int))=false:=qm
   clear hc h
   go_wp2_with fail
   go_roundw
   case rel=>exact⟨i+1,qg,by go_num,by go_num,by first|trivial|rfl⟩
   case measure=>exact qe
  ·have h0:i=n:=qg
   subst h0
   go_wp2_with fail
   go_ret
   exact⟨rfl,rfl⟩
def zca(n:Nat->Nat):Nat->Nat
 | 0=>0
 | i+1=>zca n i+n i
theorem zk0{n:Nat->Nat}{M:Nat}(h:∀ k,k<M->n k<=1000):∀ i,i<=M->zca n i<=i * 1000
 | 0,_=>by simp[zca]
 | i+1,hi=>by
  have:=zk0 h i qg
  have:=h i qg
  simp only[zca]
  omega
structure zaQ(S:Np)(w w':World):Prop where
 os:w'.os=w.os
 tape:w'.tape=w.tape
 output:w'.output=w.output
 size:w.heap.size<=w'.heap.size
 block:∀ k,k<w.heap.size->¬ S k->w'.heap[k]?=w.heap[k]?
theorem zaQ.refl(S:Np)(w:World):zaQ S w w:=⟨rfl,rfl,rfl,Nat.le_refl _,fun _ _ _=>rfl⟩
theorem zaQ.grown{w1 w2:World}(h:zaQ S w w1)(hg:w1.grownBy w2 g)(hs:∀ b,g=some b->S b):zaQ S w w2 :=
 ⟨hg.os.trans h.os,hg.tape.trans h.tape,hg.output.trans h.output,Nat.le_trans h.size hg.size,fun k hk hn=>(hg.block k (nll hk h.size) (fun e=>hn (hs k e.symm))).trans (h.block k hk hn)⟩
theorem zaQ.cell(h:zaQ S w w'){o:Nat}(hg:¬ S b)(hc:w.cell? (O b o)=some v):w'.cell? (O b o)=some v:=by
 rw[World.cell?_of_block (w:=w) (h.block b (World.block_lt_of_cell? w _ hc) hg)]
 exact hc
theorem zaQ.below(h:zaQ S w w')(hb:Below B w0 w)(hS:∀ e,S e->B<=e)(hz:B<=w.heap.size):Below B w0 w' :=
 ⟨h.os.trans hb.os,h.tape.trans hb.tape,h.output.trans hb.output,Nat.le_trans hb.size h.size,fun k hk=>(h.block k qg (fun q=>by have:=hS k q;omega)).trans (hb.block k hk)⟩
theorem RI.offN{f:Nat->Int}(h:RI w a m f)(ho:zaQ S w w')(hn:∀ x,a=some x->¬ S x.block):RI w' a m f:=by
 rcases h with h|⟨g,rfl,hl,hc⟩
 ·exact .inl h
 ·have q:=hn _ rfl
  exact .inr ⟨g,rfl,nll hl ho.size,fun j hj=>⟨ho.cell q (hc j hj).1,by rw[World.frozen?_of_block (w:=w) (ho.block g hl q)];exact(hc j hj).2⟩⟩
structure znN(w:World)(lo hi b M:Nat)(ad:Nat->Od)(n cp:Nat->Nat)(f:Nat->Nat->Int):Prop where
 out:lo<=b/\b<hi
 cell:∀ k,k<M->w.cell? (O b k)=some (.slice (ad k) (n k) (cp k))
 row:∀ k,k<M->RI w (ad k) (n k * 1) (f k)
 lt:∀ k x,k<M->ad k=some x->(lo<=x.block/\x.block<hi)/\¬ x.block=b
 inj:∀ k k' x x',k<M->k'<M->ad k=some x->ad k'=some x'->x.block=x'.block->k=k'
 top:hi<=w.heap.size
def zbk(w:World)(lo hi:Nat)(a:Od)(M:Nat)(ad:Nat->Od)(n cp:Nat->Nat)(f:Nat->Nat->Int):Prop:=M=0\/∃ b,a=some (O b 0)/\znN w lo hi b M ad n cp f
theorem znN.below(h:znN w lo hi b M ad n cp f)(hb:xE w w'):znN w' lo hi b M ad n cp f :=
 ⟨h.out,fun k hk=>zaa hb (h.cell k hk),fun k hk=>(h.row k hk).below hb,h.lt,h.inj,Nat.le_trans h.top hb.size⟩
theorem zbk.below(h:zbk w lo hi a M ad n cp f)(hb:xE w w'):zbk w' lo hi a M ad n cp f:=by
 rcases h with h|⟨b,e,h⟩
 ·exact .inl h
 ·exact .inr ⟨b,e,h.below hb⟩
theorem zbk.off(h:zbk w lo hi a M ad n cp f)(ho:zaQ S w w')(hS:∀ e,lo<=e->e<hi->¬ S e):zbk w' lo hi a M ad n cp f:=by
 rcases h with h|⟨b,e,h⟩
 ·exact .inl h
 ·exact .inr ⟨b,e,h.out,fun k hk=>ho.cell (hS b h.out.1 h.out.2) (h.cell k hk),fun k hk=>(h.row k hk).offN ho (fun x q=>hS _ (h.lt k x hk q).1.1 (h.lt k x hk q).1.2),h.lt,h.inj,Nat.le_trans h.top ho.size⟩
theorem zoh(a a2:Od)(c c2 M lo hi lo2 h4:Nat)(ad ad2:Nat->Od)(n cp cp2:Nat->Nat)(f:Nat->Nat->Int)(w:World)(h:zbk w lo hi a M ad n cp f)(h2:zbk w lo2 h4 a2 M ad2 n cp2 f)(hm:M<=1048576)(hn:∀ k,k<M->n k<=1000) :
  Calls (SqG.prog aLt) 36 #[.slice a M c,.slice a2 M c2] w (xB w (.bool true)):=by
 have bl:((M:Int) != (M:Int))=false:=qm
 go_enter (zfx func36),ntmps36
 go_wp2_with fail
 go_loopw [5] (fun ii wr=>∃ i:Nat,i<=M/\ii=J i/\xE w wr) (fun ii _=>M - (intOf ii).toNat)
 case atStart=>exact⟨0,Nat.zero_le _,rfl,Below.refl _ _⟩
 case round =>
  rename World=>wo
  obtain⟨i,hi,rfl,hb⟩:=hrel
  have h5:=hb.size
  by_cases hlt:i<M
  ·rcases h.below hb with q|⟨b,rfl,hy⟩
   ·omega
   rcases h2.below hb with q|⟨b2,rfl,h0⟩
   ·omega
   have x0:=hy.cell i hlt
   have r0:=hy.row i hlt
   have y0:=h0.cell i hlt
   have r2:=h0.row i hlt
   have h6:=hn i hlt
   obtain⟨g,eg⟩:∃ g,ad i=g:=⟨_,rfl⟩
   obtain⟨g2,eg2⟩:∃ g,ad2 i=g:=⟨_,rfl⟩
   obtain⟨m,em⟩:∃ g,n i=g:=⟨_,rfl⟩
   obtain⟨p,ep⟩:∃ g,cp i=g:=⟨_,rfl⟩
   obtain⟨p2,ep2⟩:∃ g,cp2 i=g:=⟨_,rfl⟩
   rw[eg,em] at r0
   rw[eg,em,ep] at x0
   rw[eg2,em] at r2
   rw[eg2,em,ep2] at y0
   rw[em] at h6
   have h7:(i:Int)<(M:Int):=qg
   have wk:IntKind.i64.wrap ((i:Int)+1)=(i:Int)+1:=IntWalk.i64_in _ qg
   clear h h2 hy h0 eg eg2 em ep ep2 hn
   go_wp2
   go_region_held3 (fun w'=>w'.cell? (O b i)=some (.slice g m p)/\w'.cell? (O b2 i)=some (.slice g2 m p2))
    (first
     | exact⟨zaa h1 x0,zaa h1 y0⟩
     | exact⟨x0,y0⟩
     | go_keep)
    (first
     | (go_at_call 10;refine(zb6 g g2 p p2 m (f i) _ (r0.below (by first|exact Below.refl _ _|exact(Below.refl _ _).drew)) (r2.below (by first|exact Below.refl _ _|exact(Below.refl _ _).drew)) qg).mono ?_;rintro e w7 ⟨rfl,hb7'⟩;have h1:xE wo w7:=(by first|exact hb7'|exact zcq hb7'))
     | fail)
   all_goals
    have h3:=zae hb h5 h1
    go_wp2_with fail
    go_roundw
    case rel=>exact⟨i+1,qg,by go_num,by first|exact h3|exact h3.drew⟩
    case measure=>exact qe
  ·have h8:¬ (i:Int)<(M:Int):=qg
   go_wp2_with fail
   go_ret
   exact⟨rfl,hb⟩
def za1(M:Nat)(ad:Nat->Od)(e:Nat):Prop:=∃ k x,k<M/\ad k=some x/\e=x.block
theorem zkl(k0:Int)(h3:0<=k0/\k0<=1000000)(a:Od)(c M lo hi:Nat)(ad:Nat->Od)(n cp:Nat->Nat)(w:World)(h:zbk w lo hi a M ad n cp (fun k j=>k0+(zca n k:Int)+(j:Int)))(hm:M<=20)(hn:∀ k,k<M->n k<=1000) :
  Calls (SqG.prog aLt) 41 #[.slice a M c,J k0] w fun e w'=>e=.returned (J (k0+(zca n M:Int)))/\w'=w:=by
 go_enter (zfx func41),ntmps41
 go_wp2_with fail
 go_loopw [1,5] (fun v ii wr=>∃ i:Nat,i<=M/\ii=J i/\v=J (k0+(zca n i:Int))/\wr=w) (fun _ ii _=>M - (intOf ii).toNat)
 case atStart=>exact⟨0,Nat.zero_le _,rfl,by simp[zca],rfl⟩
 case round =>
  rename World=>wo
  obtain⟨i,hi',rfl,rfl,ew⟩:=hrel
  subst ew
  by_cases hlt:i<M
  ·rcases h with q|⟨b,rfl,hy⟩
   ·omega
   have x0:=hy.cell i hlt
   have r0:=hy.row i hlt
   have h2:(i:Int)<(M:Int):=qg
   have wk:IntKind.i64.wrap ((i:Int)+1)=(i:Int)+1:=IntWalk.i64_in _ qg
   have h0:=zk0 hn i qg
   have h4:=hn i hlt
   obtain⟨p,hp⟩:∃ p,zca n i=p:=⟨_,rfl⟩
   simp only[hp] at r0
   rw[hp] at h0 ⊢
   have HP1:Hid (zca n (i+1)=p+n i):=by rw[<- hp];exact(rfl:zca n (i+1)=zca n i+n i)
   have hv:(k0+(p:Int))+1 * (n i:Int)=k0+(zca n (i+1):Int):=by rw[HP1.o];omega
   have bneg:decide ((k0+(p:Int))+1 * (n i:Int)<0)=false:=decide_eq_false qg
   rw[hv] at bneg
   have HV:Hid ((k0+(p:Int))+1 * (n i:Int)=k0+(zca n (i+1):Int)):=hv
   obtain⟨z,hz⟩:∃ z:Int,k0+(zca n (i+1):Int)=z:=⟨_,rfl⟩
   have HZ:Hid (k0+(zca n (i+1):Int)=z):=hz
   rw[hz] at bneg
   clear hp hv hz hy
   go_wp2_with fail
   refine(zch (k0+(p:Int)) (ad i) (n i) (cp i) _ r0 qg qg).mono ?_
   rintro e w7 ⟨rfl,rfl⟩
   rw[HV.o,HZ.o]
   go_wp2_with fail
   go_roundw
   case rel=>exact⟨i+1,qg,by go_num,by rw[HZ.o],by first|rfl|trivial⟩
   case measure=>exact qe
  ·have h1:i=M:=qg
   subst h1
   have h5:¬ (i:Int)<(i:Int):=qg
   clear h
   go_wp2_with fail
   go_ret
   exact⟨rfl,rfl⟩
end Sp
namespace Sp
open Go.RowKit
theorem zjs{xs:List Int}(h:zd4 w B 3 v xs):zaL w B v xs:=by
 refine⟨by simp[zaG],?_⟩
 rcases h with ⟨h1,h2⟩|⟨g,cap,h1,h2,h3,h4,h5,h6⟩
 ·exact .inl ⟨h1,by rw[h2];rfl⟩
 ·refine .inr ⟨g,cap,zgP xs cap,h1,h2,h6,h4,h5,by rw[zgM xs cap h4,Nat.mul_one],?_⟩
  rw[Nat.mul_one]
  have e:(zgP xs cap).toList=zaG xs++List.replicate (cap - xs.length) (J 0):=by simp[zgP,zeq,zaG]
  rw[e,List.take_append_of_le_length (by simp[zaG])]
  rw[List.take_of_length_le (by simp[zaG])]
theorem zcH{xs:List Int}(h:zaL w B v xs):∃ a c,v=.slice a xs.length c/\RI w a (xs.length * 1) (fun i=>xs.getD i 0)/\∀ x,a=some x->v.ownBlock=some x.block:=by
 obtain⟨h1,h2⟩:=h
 rcases h2 with ⟨q1,q2⟩|⟨g,cap,cur,q1,q2,q3,q4,q5,q6,q7⟩
 ·exact⟨none,0,by rw[q1,q2],.inl qg,fun x e=>by cases e⟩
 ·refine⟨_,cap,q1,.inr ⟨g,rfl,(gei q3).1,fun j hj=>⟨?_,frozen_of_row _ _ j _ _ q3⟩⟩,fun x e=>by rw[q1];cases e;rfl⟩
  have hj':j<xs.length:=qg
  have e:(cur.toList.take (xs.length * 1))[j]?=(zaG xs)[j]?:=by rw[q7]
  rw[List.getElem?_take_of_lt hj,Array.getElem?_toList] at e
  rw[cell_of_row _ _ j _ _ _ q3,e]
  simp[zaG,hj']
theorem ScA.toS{k:Nat}(h:ScA w0 w wd cs M gc bl bf k arrL arrF xs):ScS w0 w wd cs M gc cs.length bl bf k arrL arrF xs:=by
 have h0:=h.lt
 exact⟨h.below,h.grid,h.lights,h.feet,h.sizeL,h.sizeF,h.atL,h.atF,qg,fun j hj=>zjs (h.row j hj),fun j hj b hb=>by have:=h.apart j hj b hb;omega,h.once⟩
end Sp
namespace Sp
variable{aLt:Nat->Func->Func}
open Go.RowKit
theorem zhr(k l:Int)(w:World) :
  Calls (SqG.prog aLt) 39 #[.agg #[J k,J l]] w (xB w (.agg #[J k,J l])):=by
 go_enter (zfx func39),ntmps39
 go_wp2
 refine bodyPost_ret (v:=.agg #[J k,J l]) (by simp[results,results39,go_sem]) rfl ⟨rfl,?_⟩
 exact bel
theorem zk1(a:Od)(n cap:Nat)(left:Int)(w:World)(hm:n<=9223372036854775807)(hl:0<=left/\left<=1048576) :
  Calls (SqG.prog aLt) 49 #[.slice a n cap,J left] w fun e w'=>e=.returned (J (if left - n<0 then -1 else left - n))/\w'=w:=by
 by_cases h:left - n<0
 all_goals
  go_enter (zfx func49),ntmps49
  go_wp2
  go_ret
  exact⟨rfl,rfl⟩
theorem zeX(wd:Int)(a:Od)(n cap:Nat)(left:Int)(w:World)(hm:n<=9223372036854775807)(hl:0<=left/\left<=1048576) :
  Calls (SqG.prog aLt) 25 #[.agg (xG wd a n cap),J left] w fun e w'=>e=.returned (J (if left - n<0 then -1 else left - n))/\xE w w':=by
 by_cases h:left - n<0
 all_goals
  go_enter (zfx func25),ntmps25
  go_wp2_with (go_at_call 49;refine(zk1 _ _ _ _ _ hm hl).mono ?_;rintro e w' ⟨rfl,rfl⟩)
  go_ret
  exact⟨rfl,bel⟩
theorem zk7(a:Od)(cap:Nat)(cs:Lp)(w:World)(h:zaf w a cs)(hm:cs.length<=1048576) :
  Calls (SqG.prog aLt) 53 #[.slice a cs.length cap] w fun e w'=>∃ g,e=.returned (.slice (xA g) cs.length cs.length)/\Own w' w.heap.size (.slice (xA g) cs.length cs.length) cs/\xE w w':=by
 obtain⟨i0,hi,h5,h6,h7⟩:=info_parts (zfm (aLt:=aLt))
 go_enter (zfx func53),ntmps53
 go_wp2_with (at_make;refine wpList_make_full _ rfl _ _ 31 rfl w.heap.size 48 i0 (.agg #[J 0,J 0]) 2 SqG.underlying31 hi h5 h6 .i64 .i64 _ _ cs.length rfl rfl rfl rfl ?_ ?_ ?_ ?_)
 ·rw[h7];omega
 ·unfold maxLen;omega
 ·exact Nat.le_refl _
 intro w1 h1 h2
 have HO1:Own w1 w.heap.size (.slice (xA w.heap.size) cs.length cs.length) (List.replicate cs.length (0,0)):=by
  unfold Own
  rw[List.length_replicate,<- zq4]
  exact h1
 have h8:xE w w1:=(Below.refl _ _).grown h2 (Nat.le_refl _) (fun k hk=>by cases hk)
 have hz:=HO1.lt.2
 clear h1 h2
 go_wp2
 go_loopw [4] (fun i wr=>∃ k:Nat,k<=cs.length/\i=J k/\Own wr w.heap.size (.slice (xA w.heap.size) cs.length cs.length) (cs.take k++List.replicate (cs.length - k) (0,0))/\xE w wr) (fun i _=>cs.length - (intOf i).toNat)
 case atStart=>exact⟨0,Nat.zero_le _,rfl,by simpa using HO1,h8⟩
 case round =>
  obtain⟨k,hk,rfl,hO,hb⟩:=hrel
  by_cases hlt:k<cs.length
  ·rcases h with h|⟨b,off,rfl,h9,h0⟩
   ·subst h;simp at hlt
   obtain⟨hx,hy⟩:=h0 k hlt
   rw[<- hb.cell (p:=(O b _)) h9] at hx hy
   have he:=hb.size
   have hf:=hO.lt.2
   go_wp2_with fail
   refine(zhr _ _ _).mono ?_
   rintro e w2 ⟨rfl,h3⟩
   have h4:=hO.below h3
   obtain⟨c1,c2,f1,f2⟩:=h4.cell qn k hlt
   go_wp2
   go_roundw
   case rel=>exact⟨k+1,qg,by go_num,by rw[<- zrr cs k hlt];exact h4.set qn k _ _ hlt,((zae hb qg h3).setCell (p:=(O w.heap.size (k * 2))) (Nat.le_refl _) _).setCell (p:=(O w.heap.size (k * 2+1))) (Nat.le_refl _) _⟩
   case measure=>exact qe
  ·go_wp2
   go_ret
   exact⟨_,rfl,by rw[List.take_of_length_le qg,show cs.length - k=0 by omega] at hO;simpa using hO,hb⟩
theorem znA(wd:Int)(a:Od)(cap:Nat)(cs:Lp)(w:World)(h:zaf w a cs)(hm:cs.length<=1048576) :
  Calls (SqG.prog aLt) 30 #[.agg (xG wd a cs.length cap)] w fun e w'=>∃ g,e=.returned (.agg (xG wd (xA g) cs.length cs.length))/\Own w' w.heap.size (.slice (xA g) cs.length cs.length) cs/\xE w w':=by
 go_enter (zfx func30),ntmps30
 go_wp2_with fail
 refine(zk7 _ _ cs _ (h.below bel) hm).mono ?_
 rintro e w1 ⟨g,rfl,hO,h0⟩
 have hz:=h0.size
 simp at hz
 have hg:=hO.lt.1
 simp at hg
 obtain⟨hc,hf⟩:=zup h0
 have q0:w1.cell? (O (w.heap.size+1+1) 0)=some (J wd):=by rw[hc (w.heap.size+1+1) 0 qm];simp[go_sem]
 have q1:w1.cell? (O (w.heap.size+1+1) 1)=some (.slice none 0 0):=by rw[hc (w.heap.size+1+1) 1 qm];simp[go_sem]
 have q2:w1.frozen? (O (w.heap.size+1+1) 1)=false:=by rw[hf (w.heap.size+1+1) 1 qm];simp[go_sem]
 have q3:w1.cell? (xD w 1 0)=some (J 0):=by rw[hc (w.heap.size+1) 0 qm];simp[go_sem]
 have q4:w1.cell? (xD w 1 1)=some (.slice none 0 0):=by rw[hc (w.heap.size+1) 1 qm];simp[go_sem]
 have q5:w1.frozen? (xD w 1 0)=false:=by rw[hf (w.heap.size+1) 0 qm];simp[go_sem]
 have q6:w1.frozen? (xD w 1 1)=false:=by rw[hf (w.heap.size+1) 1 qm];simp[go_sem]
 clear hc hf
 go_wp2
 refine bodyPost_ret (v:=.agg (xG wd (xA g) cs.length cs.length)) (by simp[results,results30,go_sem,q3,q4]) rfl ⟨g,rfl,?_,?_⟩
 ·exact ownsRow_setCell_below (ownsRow_setCell_below (ownsRow_setCell_below hO qm _) qm _) qm _ |> fun h=>Own.mono h qn
 ·exact(((zae bel qn h0).setCell qn _).setCell qm _).setCell qm _
def eqC(k l k2 l2:Int):Bool:=decide (k=k2/\l=l2)
theorem zg4(k l k2 l2:Int)(w:World) :
  Calls (SqG.prog aLt) 68 #[.agg #[J k,J l],.agg #[J k2,J l2]] w (xB w (.bool (eqC k l k2 l2))):=by
 by_cases h1:k=k2
 ·subst h1
  by_cases h2:l=l2
  ·subst h2
   go_enter (zfx func68),ntmps68
   go_wp2
   go_ret
   exact⟨by simp[eqC],bel⟩
  ·go_enter (zfx func68),ntmps68
   go_wp2
   go_ret
   exact⟨by simp[eqC,h2],bel⟩
 ·go_enter (zfx func68),ntmps68
  go_wp2
  go_ret
  exact⟨by simp[eqC,h1],bel⟩
theorem zkc(a a2:Od)(cap cap2:Nat)(cs ds:Lp)(w:World)(h:zaf w a cs)(h2:zaf w a2 ds)(hm:cs.length<=1048576)(hf:ds.length<=1048576) :
  Calls (SqG.prog aLt) 57 #[.slice a cs.length cap,.slice a2 ds.length cap2] w (xB w (.bool (decide (cs=ds)))):=by
 by_cases hl:cs.length=ds.length
 ·go_enter (zfx func57),ntmps57
  go_wp2
  go_loopw [5] (fun i wr=>∃ k:Nat,k<=cs.length/\i=J k/\cs.take k=ds.take k/\xE w wr) (fun i _=>cs.length - (intOf i).toNat)
  case atStart=>exact⟨0,Nat.zero_le _,rfl,qm,bel⟩
  case round =>
   obtain⟨k,hk,rfl,h5,hb⟩:=hrel
   have HT:Hid (cs.take k=ds.take k):=h5
   clear h5
   by_cases hlt:k<cs.length
   ·have h1:k<ds.length:=qg
    rcases h with h|⟨b,off,rfl,h8,h3⟩
    ·subst h;simp at hlt
    rcases h2 with h2|⟨b2,off2,rfl,h7,h0⟩
    ·subst h2;simp at h1
    obtain⟨hx,hy⟩:=h3 k hlt
    rw[<- hb.cell (p:=(O b _)) h8] at hx hy
    obtain⟨h9,he⟩:=h0 k h1
    rw[<- hb.cell (p:=(O b2 _)) h7] at h9 he
    have h6:=hb.size
    have HL:Hid (cs.length=ds.length):=hl
    clear hl h3 h0
    by_cases hq:eqC cs[k].1 cs[k].2 ds[k].1 ds[k].2=true
    ·have HN:Hid (cs.take (k+1)=ds.take (k+1)):=by
      show _=_
      rw[List.take_succ_eq_append_getElem hlt,List.take_succ_eq_append_getElem h1,HT.o]
      simp only[eqC,decide_eq_true_eq] at hq
      rw[Prod.ext hq.1 hq.2]
     go_wp2_with fail
     go_region_with (go_at_call 68;refine(zg4 _ _ _ _ _).mono ?_;rintro e w2 ⟨rfl,h4⟩)
     all_goals
      go_wp2
      go_roundw
      case rel=>exact⟨k+1,qg,by go_num,HN.o,zae hb.drew h6 h4⟩
      case measure=>exact qe
    ·have hq':eqC cs[k].1 cs[k].2 ds[k].1 ds[k].2=false:=by simpa using hq
     clear hq
     have HN:Hid (decide (cs=ds)=false):=by
      show _=_
      simp
      intro hx
      subst hx
      simp[eqC] at hq'
     go_wp2_with fail
     go_region_with (go_at_call 68;refine(zg4 _ _ _ _ _).mono ?_;rintro e w2 ⟨rfl,h4⟩)
     all_goals
      go_wp2
      go_ret
      exact⟨by rw[HN.o];rfl,zae hb.drew h6 h4⟩
   ·have HN:Hid (decide (cs=ds)=true):=by
     show _=_
     have:=HT.o
     rw[List.take_of_length_le qg,List.take_of_length_le qg] at this
     simp[this]
    go_wp2
    go_ret
    exact⟨by rw[HN.o];rfl,hb⟩
 ·go_enter (zfx func57),ntmps57
  go_wp2
  go_ret
  exact⟨by rw[show decide (cs=ds)=false from by simp;intro hx;exact hl (by rw[hx])];rfl,bel⟩
def eqG(wd wd2:Int)(cs ds:Lp):Bool:=decide (wd=wd2/\cs=ds)
theorem zg5(wd wd2:Int)(a a2:Od)(cap cap2:Nat)(cs ds:Lp)(w:World)(h:zaf w a cs)(h2:zaf w a2 ds)(hm:cs.length<=1048576)(h0:ds.length<=1048576) :
  Calls (SqG.prog aLt) 35 #[.agg (xG wd a cs.length cap),.agg (xG wd2 a2 ds.length cap2)] w (xB w (.bool (eqG wd wd2 cs ds))):=by
 by_cases h1:wd=wd2
 ·subst h1
  have hd:eqG wd wd cs ds=decide (cs=ds):=by simp[eqG]
  by_cases hc:decide (cs=ds)=true
  all_goals
   go_enter (zfx func35),ntmps35
   go_wp2_with fail
   refine(zkc _ _ _ _ cs ds _ (h.below bel) (h2.below bel) hm h0).mono ?_
   rintro e w1 ⟨rfl,h3⟩
   go_wp2
   go_ret
   exact⟨by rw[hd];simp[hc],zae bel qn h3⟩
 ·go_enter (zfx func35),ntmps35
  go_wp2
  go_ret
  exact⟨by simp[eqG,h1],bel⟩
def marks(k:Int)(n:Nat):Lp:=(List.range n).map fun (i:Nat)=>(k+2 * (i:Int),k+2 * (i:Int)+1)
theorem zdi(k:Int)(n:Nat):(marks k n).length=n:=by simp[marks]
theorem zq5(k:Int)(n i:Nat)(h:i<n):(marks k n).getD i (0,0)=(k+2 * (i:Int),k+2 * (i:Int)+1):=by simp[marks,h]
theorem zmM(k:Int)(cs:Lp)(i:Nat)(h:i<cs.length):(marks k i++cs.drop i).set i (k+2 * (i:Int),k+2 * (i:Int)+1)=marks k (i+1)++cs.drop (i+1):=by
 rw[List.set_append_right _ _ (by rw[zdi];omega),zdi,Nat.sub_self,List.drop_eq_getElem_cons h,List.set_cons_zero]
 simp only[marks,List.range_succ,List.map_append,List.map_cons,List.map_nil,List.append_assoc,List.cons_append,List.nil_append]
theorem zh6(k0:Int)(B g n cap:Nat)(cs:Lp)(w:World)(hO:Own w B (.slice (xA g) n cap) cs)(hn:cs.length=n)(hm:n<=1048576)(h4:0<=k0/\k0<=1099511627776) :
  Calls (SqG.prog aLt) 58 #[.slice (xA g) n cap,J k0] w fun e w'=>e=.returned (J (k0+2 * n))/\Own w' B (.slice (xA g) n cap) (marks k0 n)/\w.grownBy w' (some g):=by
 go_enter (zfx func58),ntmps58
 go_wp2
 go_loopw [1,5] (fun v i wr=>∃ k:Nat,k<=n/\i=J k/\v=J (k0+2 * k)/\Own wr B (.slice (xA g) n cap) (marks k0 k++cs.drop k)/\w.grownBy wr (some g)) (fun _ i _=>n - (intOf i).toNat)
 case atStart=>exact⟨0,Nat.zero_le _,rfl,qm,by simpa [marks] using hO,World.grownBy.refl _ _⟩
 case round =>
  obtain⟨k,hk,rfl,rfl,h0,hg⟩:=hrel
  by_cases hlt:k<n
  ·have h1:(marks k0 k++cs.drop k).length=n:=by simp[zdi];omega
   obtain⟨c1,c2,f1,f2⟩:=h0.cell h1 k hlt
   have HS:=h0.set h1 k (k0+2 * (k:Int)) (k0+2 * (k:Int)+1) hlt
   rw[zmM k0 cs k qg] at HS
   clear hO h0 h1
   go_wp2
   go_roundw
   case rel=>exact⟨k+1,qg,by go_num,by go_num,HS,⟨hg.os,hg.tape,hg.output,by simpa using hg.size,fun j hj h2=>by rw[Below.heap_setCell _ _ _ _ (by intro e;exact h2 (by simp[e])),Below.heap_setCell _ _ _ _ (by intro e;exact h2 (by simp[e]))];exact hg.block j hj h2⟩⟩
   case measure=>exact qe
  ·have h3:k=n:=qg
   subst h3
   go_wp2
   go_ret
   exact⟨rfl,by rw[List.drop_of_length_le qg,List.append_nil] at h0;exact h0,hg⟩
theorem zhX(k0:Int)(a:Od)(n cap:Nat)(w:World)(h:zaf w a (marks k0 n))(hm:n<=1048576)(h2:0<=k0/\k0<=1099511627776) :
  Calls (SqG.prog aLt) 59 #[.slice a n cap,J k0] w fun e w'=>e=.returned (J (k0+2 * n))/\w'=w:=by
 go_enter (zfx func59),ntmps59
 go_wp2
 go_loop [1,5] (fun v i=>∃ k:Nat,k<=n/\i=J k/\v=J (k0+2 * k)) (fun _ i=>n - (intOf i).toNat)
 case atStart=>exact⟨0,Nat.zero_le _,rfl,qm⟩
 case round =>
  obtain⟨k,hk,rfl,rfl⟩:=hrel
  by_cases hlt:k<n
  ·rcases h with h|⟨b,off,rfl,h3,h0⟩
   ·have:=zdi k0 n;rw[h] at this;simp at this;omega
   obtain⟨hx,hy⟩:=h0 k (by rw[zdi];exact hlt)
   rw[zq5 k0 n k hlt] at hx hy
   clear h0
   go_wp2
   go_round
   case rel=>exact⟨k+1,qg,by go_num,by go_num⟩
   case measure=>exact qe
  ·have h1:k=n:=qg
   subst h1
   go_wp2
   go_ret
   exact⟨rfl,rfl⟩
theorem zji(wd k0:Int)(B g n cap:Nat)(cs:Lp)(w:World)(hO:Own w B (.slice (xA g) n cap) cs)(hn:cs.length=n)(hm:n<=1048576)(h1:0<=k0/\k0<=1099511627776) :
  Calls (SqG.prog aLt) 37 #[.agg (xG wd (xA g) n cap),J k0] w fun e w'=>e=.returned (J (k0+2 * n))/\Own w' B (.slice (xA g) n cap) (marks k0 n)/\w.grownBy w' (some g):=by
 go_enter (zfx func37),ntmps37
 go_wp2_with fail
 refine(zh6 k0 B g n cap cs _ (hO.alloc _) hn hm h1).mono ?_
 rintro e w1 ⟨rfl,h2,h0⟩
 go_wp2
 go_ret
 exact⟨rfl,h2,⟨h0.os,h0.tape,h0.output,by have:=h0.size;simp at this;omega,fun j hj h3=>by rw[h0.block j qn h3];exact Below.heap_alloc _ _ _ hj⟩⟩
theorem ziX(wd k0:Int)(a:Od)(n cap:Nat)(w:World)(h:zaf w a (marks k0 n))(hm:n<=1048576)(h0:0<=k0/\k0<=1099511627776) :
  Calls (SqG.prog aLt) 40 #[.agg (xG wd a n cap),J k0] w (xB w (J (k0+2 * n))):=by
 go_enter (zfx func40),ntmps40
 go_wp2_with fail
 refine(zhX k0 _ n _ _ (h.below bel) hm h0).mono ?_
 rintro e w1 ⟨rfl,rfl⟩
 go_wp2
 go_ret
 exact⟨rfl,bel⟩
theorem zh7(k0:Int)(a:Od)(cap:Nat)(w:World) :
  Calls (SqG.prog aLt) 58 #[.slice a 0 cap,J k0] w fun e w'=>e=.returned (J k0)/\w'=w:=by
 go_enter (zfx func58),ntmps58
 go_wp2
 go_loop [1,5] (fun v i=>v=J k0/\i=J 0) (fun _ _=>0)
 case atStart=>exact⟨rfl,rfl⟩
 case round =>
  obtain⟨rfl,rfl⟩:=hrel
  go_wp2
  go_ret
  exact⟨rfl,rfl⟩
theorem zjj(wd k0:Int)(B:Nat)(v:Value)(cs:Lp)(w:World)(hO:Own w B v cs)(hm:cs.length<=1048576)(h0:0<=k0/\k0<=1099511627776) :
  Calls (SqG.prog aLt) 37 #[.agg #[J wd,v],J k0] w fun e w'=>e=.returned (J (k0+2 * cs.length))/\Own w' B v (marks k0 cs.length)/\w.grownBy w' v.ownBlock:=by
 obtain⟨h1,h2⟩:=hO
 rcases h2 with ⟨rfl,h2⟩|⟨g,cap,cur,rfl,hg,hh,r⟩
 ·obtain rfl:cs=[]:=List.length_eq_zero_iff.1 h2
  go_enter (zfx func37),ntmps37
  go_wp2_with fail
  refine(zh7 k0 _ _ _).mono ?_
  rintro e w1 ⟨rfl,rfl⟩
  go_wp2
  go_ret
  exact⟨qm,World.ownsRow_nil _ _ _ _,World.grownBy_alloc _ _ _⟩
 ·refine(zji wd k0 B g cs.length cap cs w ⟨h1,Or.inr ⟨g,cap,cur,rfl,hg,hh,r⟩⟩ rfl hm h0).mono ?_
  rintro e w' ⟨rfl,h,h3⟩
  exact⟨rfl,h,h3⟩
theorem Own.range(h:Own w B v cs):∀ k,v.ownBlock=some k->B<=k/\k<w.heap.size:=World.ownsRow.lt h
end Sp
namespace Sp
open Go.RowKit
attribute [local go_sem ↓] Go.wp_at_zero Go.wp_at_succ
theorem zsR(o o2:Obj)(w:World):zcO w ((w.alloc o).alloc o2) [(w.heap.size+1,o2),(w.heap.size,o)]:=by
 have h1:zcO w w []:=⟨Below.refl _ _,(fun _ h=>nomatch h),List.nodup_nil⟩
 have h2:=(h1.made o).made o2
 have e:(w.alloc o).heap.size=w.heap.size+1:=Array.size_push _
 rw[e] at h2
 exact h2
theorem zok(wd:Int)(cs:Lp)(M:Nat)(ga ga2 la la2 fa fa2:Od)(gc gc2 lc lc2 fc fc2 lo hi lo2 h0:Nat)(ad ad2:Nat->Od)(n cp cp2:Nat->Nat)(l:Nat->Int)(f:Nat->Nat->Int)(w:World)(hg:zaf w ga cs)(h1:zaf w ga2 cs)(hl:RI w la (M * 1) l)(h3:RI w la2 (M * 1) l)(hf:zbk w lo hi fa M ad n cp f)(h4:zbk w lo2 h0 fa2 M ad2 n cp2 f)(hm:cs.length<=1048576)(hM:M<=20)(hn:∀ k,k<M->n k<=1000) :
  Calls SqP.prog 11 #[.agg (xH wd ga cs.length gc la M lc fa M fc),.agg (xH wd ga2 cs.length gc2 la2 M lc2 fa2 M fc2)] w (xB w (.bool true)):=by
 obtain⟨w2,h2⟩:∃ w2,w2=(w.alloc (.cells (xH wd ga cs.length gc la M lc fa M fc) 35)).alloc (.cells (xH wd ga2 cs.length gc2 la2 M lc2 fa2 M fc2) 35):=⟨_,rfl⟩
 have H2:Hid (zcO w w2 [(w.heap.size+1,.cells (xH wd ga2 cs.length gc2 la2 M lc2 fa2 M fc2) 35),(w.heap.size,.cells (xH wd ga cs.length gc la M lc fa M fc) 35)]):=by rw[h2];exact zsR _ _ w
 have HG:Hid (zaf w ga cs/\zaf w ga2 cs):=⟨hg,h1⟩
 have HL:Hid (RI w la (M * 1) l/\RI w la2 (M * 1) l):=⟨hl,h3⟩
 have HF:Hid (zbk w lo hi fa M ad n cp f/\zbk w lo2 h0 fa2 M ad2 n cp2 f):=⟨hf,h4⟩
 have hG:=(zg5 (aLt:=Sq.altP)) wd wd ga ga2 gc gc2 cs cs w2 (hg.below H2.o.below) (h1.below H2.o.below) hm hm
 have eG:eqG wd wd cs cs=true:=by simp[eqG]
 rw[eG] at hG
 clear eG
 clear hg h1 hl h3 hf h4
 go_enter (zfx func11),ntmps11
 go_upto_region 1 with fail
 rw[<- h2]
 clear h2
 have c0:w2.cell? (xC w 0)=some (J wd):=(cell_of_row _ _ 0 _ _ _ (H2.o.lies (w.heap.size,.cells (xH wd ga cs.length gc la M lc fa M fc) 35) qm).1).trans rfl
 have c1:w2.cell? (xC w 1)=some (.slice ga cs.length gc):=(cell_of_row _ _ 1 _ _ _ (H2.o.lies (w.heap.size,.cells (xH wd ga cs.length gc la M lc fa M fc) 35) qm).1).trans rfl
 have c2:w2.cell? (xC w 2)=some (.slice la M lc):=(cell_of_row _ _ 2 _ _ _ (H2.o.lies (w.heap.size,.cells (xH wd ga cs.length gc la M lc fa M fc) 35) qm).1).trans rfl
 have c3:w2.cell? (xC w 3)=some (.slice fa M fc):=(cell_of_row _ _ 3 _ _ _ (H2.o.lies (w.heap.size,.cells (xH wd ga cs.length gc la M lc fa M fc) 35) qm).1).trans rfl
 have d0:w2.cell? (O ((w.heap.size+1)) 0)=some (J wd):=(cell_of_row _ _ 0 _ _ _ (H2.o.lies ((w.heap.size+1),.cells (xH wd ga2 cs.length gc2 la2 M lc2 fa2 M fc2) 35) qm).1).trans rfl
 have d1:w2.cell? (O ((w.heap.size+1)) 1)=some (.slice ga2 cs.length gc2):=(cell_of_row _ _ 1 _ _ _ (H2.o.lies ((w.heap.size+1),.cells (xH wd ga2 cs.length gc2 la2 M lc2 fa2 M fc2) 35) qm).1).trans rfl
 have d2:w2.cell? (O ((w.heap.size+1)) 2)=some (.slice la2 M lc2):=(cell_of_row _ _ 2 _ _ _ (H2.o.lies ((w.heap.size+1),.cells (xH wd ga2 cs.length gc2 la2 M lc2 fa2 M fc2) 35) qm).1).trans rfl
 have d3:w2.cell? (O ((w.heap.size+1)) 3)=some (.slice fa2 M fc2):=(cell_of_row _ _ 3 _ _ _ (H2.o.lies ((w.heap.size+1),.cells (xH wd ga2 cs.length gc2 la2 M lc2 fa2 M fc2) 35) qm).1).trans rfl
 go_wp2_with fail
 refine(hG).mono ?_
 rintro e w3 ⟨rfl,hb⟩
 have H3:Hid (zcO w w3 [(w.heap.size+1,.cells (xH wd ga2 cs.length gc2 la2 M lc2 fa2 M fc2) 35),(w.heap.size,.cells (xH wd ga cs.length gc la M lc fa M fc) 35)]):=H2.o.on hb
 clear hb
 clear hG
 clear c0 c1 c2 c3 d0 d1 d2 d3
 have c0:w3.cell? (xC w 0)=some (J wd):=(cell_of_row _ _ 0 _ _ _ (H3.o.lies (w.heap.size,.cells (xH wd ga cs.length gc la M lc fa M fc) 35) qm).1).trans rfl
 have c1:w3.cell? (xC w 1)=some (.slice ga cs.length gc):=(cell_of_row _ _ 1 _ _ _ (H3.o.lies (w.heap.size,.cells (xH wd ga cs.length gc la M lc fa M fc) 35) qm).1).trans rfl
 have c2:w3.cell? (xC w 2)=some (.slice la M lc):=(cell_of_row _ _ 2 _ _ _ (H3.o.lies (w.heap.size,.cells (xH wd ga cs.length gc la M lc fa M fc) 35) qm).1).trans rfl
 have c3:w3.cell? (xC w 3)=some (.slice fa M fc):=(cell_of_row _ _ 3 _ _ _ (H3.o.lies (w.heap.size,.cells (xH wd ga cs.length gc la M lc fa M fc) 35) qm).1).trans rfl
 have d0:w3.cell? (O ((w.heap.size+1)) 0)=some (J wd):=(cell_of_row _ _ 0 _ _ _ (H3.o.lies ((w.heap.size+1),.cells (xH wd ga2 cs.length gc2 la2 M lc2 fa2 M fc2) 35) qm).1).trans rfl
 have d1:w3.cell? (O ((w.heap.size+1)) 1)=some (.slice ga2 cs.length gc2):=(cell_of_row _ _ 1 _ _ _ (H3.o.lies ((w.heap.size+1),.cells (xH wd ga2 cs.length gc2 la2 M lc2 fa2 M fc2) 35) qm).1).trans rfl
 have d2:w3.cell? (O ((w.heap.size+1)) 2)=some (.slice la2 M lc2):=(cell_of_row _ _ 2 _ _ _ (H3.o.lies ((w.heap.size+1),.cells (xH wd ga2 cs.length gc2 la2 M lc2 fa2 M fc2) 35) qm).1).trans rfl
 have d3:w3.cell? (O ((w.heap.size+1)) 3)=some (.slice fa2 M fc2):=(cell_of_row _ _ 3 _ _ _ (H3.o.lies ((w.heap.size+1),.cells (xH wd ga2 cs.length gc2 la2 M lc2 fa2 M fc2) 35) qm).1).trans rfl
 go_wp2_with fail
 refine(zb6 la la2 lc lc2 M l w3 (HL.o.1.below H3.o.below) (HL.o.2.below H3.o.below) qg).mono ?_
 rintro e w4 ⟨rfl,hb⟩
 have H4:Hid (zcO w w4 [(w.heap.size+1,.cells (xH wd ga2 cs.length gc2 la2 M lc2 fa2 M fc2) 35),(w.heap.size,.cells (xH wd ga cs.length gc la M lc fa M fc) 35)]):=H3.o.on hb
 clear hb
 skip
 clear c0 c1 c2 c3 d0 d1 d2 d3
 have c0:w4.cell? (xC w 0)=some (J wd):=(cell_of_row _ _ 0 _ _ _ (H4.o.lies (w.heap.size,.cells (xH wd ga cs.length gc la M lc fa M fc) 35) qm).1).trans rfl
 have c1:w4.cell? (xC w 1)=some (.slice ga cs.length gc):=(cell_of_row _ _ 1 _ _ _ (H4.o.lies (w.heap.size,.cells (xH wd ga cs.length gc la M lc fa M fc) 35) qm).1).trans rfl
 have c2:w4.cell? (xC w 2)=some (.slice la M lc):=(cell_of_row _ _ 2 _ _ _ (H4.o.lies (w.heap.size,.cells (xH wd ga cs.length gc la M lc fa M fc) 35) qm).1).trans rfl
 have c3:w4.cell? (xC w 3)=some (.slice fa M fc):=(cell_of_row _ _ 3 _ _ _ (H4.o.lies (w.heap.size,.cells (xH wd ga cs.length gc la M lc fa M fc) 35) qm).1).trans rfl
 have d0:w4.cell? (O ((w.heap.size+1)) 0)=some (J wd):=(cell_of_row _ _ 0 _ _ _ (H4.o.lies ((w.heap.size+1),.cells (xH wd ga2 cs.length gc2 la2 M lc2 fa2 M fc2) 35) qm).1).trans rfl
 have d1:w4.cell? (O ((w.heap.size+1)) 1)=some (.slice ga2 cs.length gc2):=(cell_of_row _ _ 1 _ _ _ (H4.o.lies ((w.heap.size+1),.cells (xH wd ga2 cs.length gc2 la2 M lc2 fa2 M fc2) 35) qm).1).trans rfl
 have d2:w4.cell? (O ((w.heap.size+1)) 2)=some (.slice la2 M lc2):=(cell_of_row _ _ 2 _ _ _ (H4.o.lies ((w.heap.size+1),.cells (xH wd ga2 cs.length gc2 la2 M lc2 fa2 M fc2) 35) qm).1).trans rfl
 have d3:w4.cell? (O ((w.heap.size+1)) 3)=some (.slice fa2 M fc2):=(cell_of_row _ _ 3 _ _ _ (H4.o.lies ((w.heap.size+1),.cells (xH wd ga2 cs.length gc2 la2 M lc2 fa2 M fc2) 35) qm).1).trans rfl
 go_wp2_with fail
 refine(zoh fa fa2 fc fc2 M lo hi lo2 h0 ad ad2 n cp cp2 f w4 (HF.o.1.below H4.o.below) (HF.o.2.below H4.o.below) qg hn).mono ?_
 rintro e w5 ⟨rfl,hb⟩
 have H5:Hid (zcO w w5 [(w.heap.size+1,.cells (xH wd ga2 cs.length gc2 la2 M lc2 fa2 M fc2) 35),(w.heap.size,.cells (xH wd ga cs.length gc la M lc fa M fc) 35)]):=H4.o.on hb
 clear hb
 skip
 clear c0 c1 c2 c3 d0 d1 d2 d3
 go_wp2_with fail
 go_ret
 exact⟨rfl,H5.o.below⟩
theorem zkm(wd k0 k1 k2 k3:Int)(N M:Nat)(ga la fa:Od)(gc lc fc lo hi:Nat)(ad:Nat->Od)(n cp:Nat->Nat)(w:World)(e1:k1=k0+2 * (N:Int))(e2:k2=k1+1 * (M:Int))(e3:k3=k2+(zca n M:Int))(h5:0<=k0/\k0<=1000)(hg:zaf w ga (marks k0 N))(hl:RI w la (M * 1) (fun j=>k1+(j:Int)))(hf:zbk w lo hi fa M ad n cp (fun k j=>k2+(zca n k:Int)+(j:Int)))(hm:N<=1000)(hM:M<=20)(hn:∀ k,k<M->n k<=1000) :
  Calls SqP.prog 18 #[.agg (xH wd ga N gc la M lc fa M fc),J k0] w (xB w (J k3)):=by
 obtain⟨w2,h0⟩:∃ w2,w2=w.alloc (.cells (xH wd ga N gc la M lc fa M fc) 35):=⟨_,rfl⟩
 have H2:Hid (zcO w w2 [(w.heap.size,.cells (xH wd ga N gc la M lc fa M fc) 35)]):=by
  rw[h0]
  have h1:zcO w w []:=⟨Below.refl _ _,(fun _ h=>nomatch h),List.nodup_nil⟩
  exact h1.made _
 have h2:=zk0 hn M (Nat.le_refl _)
 have b1:decide (k1<0)=false:=decide_eq_false qg
 have b2:decide (k2<0)=false:=decide_eq_false qg
 have b3:decide (k3<0)=false:=decide_eq_false qg
 have h3:0<=k1/\k1<=1099511627776:=qg
 have h4:0<=k2/\k2<=1000000:=qg
 have hG:=(ziX (aLt:=Sq.altP)) wd k0 ga N gc w2 (hg.below H2.o.below) qg qg
 rw[<- e1] at hG
 have hL:=fun w=>(zch (aLt:=Sq.altP)) k1 la M lc w
 rw[<- e2] at hL
 have hF:=fun w h=>(zkl (aLt:=Sq.altP)) k2 h4 fa fc M lo hi ad n cp w h hM hn
 rw[<- e3] at hF
 have HL:Hid (RI w la (M * 1) (fun j=>k1+(j:Int))):=hl
 have HF:Hid (zbk w lo hi fa M ad n cp (fun k j=>k2+(zca n k:Int)+(j:Int))):=hf
 clear hg hl hf e1 e2 e3 h2
 go_enter (zfx func18),ntmps18
 go_upto_region 1 with fail
 rw[<- h0]
 clear h0
 have c0:w2.cell? (xC w 0)=some (J wd):=(cell_of_row _ _ 0 _ _ _ (H2.o.lies (w.heap.size,.cells (xH wd ga N gc la M lc fa M fc) 35) qm).1).trans rfl
 have c1:w2.cell? (xC w 1)=some (.slice ga N gc):=(cell_of_row _ _ 1 _ _ _ (H2.o.lies (w.heap.size,.cells (xH wd ga N gc la M lc fa M fc) 35) qm).1).trans rfl
 have c2:w2.cell? (xC w 2)=some (.slice la M lc):=(cell_of_row _ _ 2 _ _ _ (H2.o.lies (w.heap.size,.cells (xH wd ga N gc la M lc fa M fc) 35) qm).1).trans rfl
 have c3:w2.cell? (xC w 3)=some (.slice fa M fc):=(cell_of_row _ _ 3 _ _ _ (H2.o.lies (w.heap.size,.cells (xH wd ga N gc la M lc fa M fc) 35) qm).1).trans rfl
 go_wp2_with fail
 refine hG.mono ?_
 rintro e w3 ⟨rfl,hb⟩
 have H3:Hid (zcO w w3 [(w.heap.size,.cells (xH wd ga N gc la M lc fa M fc) 35)]):=H2.o.on hb
 clear hb hG
 clear c0 c1 c2 c3
 have c0:w3.cell? (xC w 0)=some (J wd):=(cell_of_row _ _ 0 _ _ _ (H3.o.lies (w.heap.size,.cells (xH wd ga N gc la M lc fa M fc) 35) qm).1).trans rfl
 have c1:w3.cell? (xC w 1)=some (.slice ga N gc):=(cell_of_row _ _ 1 _ _ _ (H3.o.lies (w.heap.size,.cells (xH wd ga N gc la M lc fa M fc) 35) qm).1).trans rfl
 have c2:w3.cell? (xC w 2)=some (.slice la M lc):=(cell_of_row _ _ 2 _ _ _ (H3.o.lies (w.heap.size,.cells (xH wd ga N gc la M lc fa M fc) 35) qm).1).trans rfl
 have c3:w3.cell? (xC w 3)=some (.slice fa M fc):=(cell_of_row _ _ 3 _ _ _ (H3.o.lies (w.heap.size,.cells (xH wd ga N gc la M lc fa M fc) 35) qm).1).trans rfl
 go_wp2_with fail
 refine(hL w3 (HL.o.below H3.o.below) qg h3).mono ?_
 rintro e w4 ⟨rfl,rfl⟩
 go_wp2_with fail
 refine(hF _ (HF.o.below H3.o.below)).mono ?_
 rintro e w5 ⟨rfl,rfl⟩
 go_wp2_with fail
 go_ret
 exact⟨rfl,H3.o.below⟩
theorem zaQ.imp{S':Np}(h:zaQ S w w')(hi:∀ e,S e->S' e):zaQ S' w w':=⟨h.os,h.tape,h.output,h.size,fun k hk hn=>h.block k hk (fun q=>hn (hi k q))⟩
theorem zaQ.trans{w1 w2:World}(h:zaQ S w w1)(h2:zaQ S w1 w2):zaQ S w w2:=⟨h2.os.trans h.os,h2.tape.trans h.tape,h2.output.trans h.output,Nat.le_trans h.size h2.size,fun k hk hn=>(h2.block k (nll hk h.size) hn).trans (h.block k hk hn)⟩
theorem zaQ.of(h:xE w w'):zaQ S w w':=⟨h.os,h.tape,h.output,h.size,fun k hk _=>h.block k hk⟩
theorem zes(h:Own w B v cs)(ho:zaQ S w w')(hn:∀ b,v.ownBlock=some b->¬ S b):Own w' B v cs:=by
 obtain⟨h1,h2⟩:=h
 refine⟨h1,?_⟩
 rcases h2 with h2|⟨g,cp,cur,q1,q2,q3,q4⟩
 ·exact .inl h2
 ·exact .inr ⟨g,cp,cur,q1,q2,(ho.block g (gei q3).1 (hn g (by rw[q1];rfl))).trans q3,q4⟩
theorem zbk.offS(h:zbk w lo hi a M ad n cp f)(ho:zaQ S w w')(ha:∀ x,a=some x->¬ S x.block)(hr:∀ k x,k<M->ad k=some x->¬ S x.block):zbk w' lo hi a M ad n cp f:=by
 rcases h with h|⟨b,rfl,h⟩
 ·exact .inl h
 ·exact .inr ⟨b,rfl,h.out,fun k hk=>ho.cell (ha _ rfl) (h.cell k hk),fun k hk=>(h.row k hk).offN ho (fun x q=>hr k x hk q),h.lt,h.inj,Nat.le_trans h.top ho.size⟩
def zaC(a:Od)(e:Nat):Prop:=∃ x,a=some x/\e=x.block
theorem zci{n c:Nat}(h:(Value.slice a n c).ownBlock=some b):zaC a b:=by
 rcases a with _|x
 ·exact absurd h (by simp[Value.ownBlock])
 ·simp only[Value.ownBlock,Option.some.injEq] at h
  exact⟨x,rfl,h.symm⟩
structure zfy(sz:Nat)(ga la fa:Od)(M:Nat)(ad:Nat->Od):Prop where
 gl:∀ e,zaC ga e->¬ zaC la e
 gf:∀ e,zaC ga e->¬ zaC fa e
 gr:∀ e,zaC ga e->¬ za1 M ad e
 lf:∀ e,zaC la e->¬ zaC fa e
 lr:∀ e,zaC la e->¬ za1 M ad e
 lt:∀ e,zaC ga e\/zaC la e\/za1 M ad e->e<sz
end Sp
namespace Sp
open Go.RowKit
def znJ:Value->Od
 | .slice a _ _=>a
 | _=>none
def zud(w:World)(wd:Int)(cs:Lp)(M:Nat)(l:Nat->Int)(n:Nat->Nat)(f:Nat->Nat->Int)(ok:Bool)(r:Ending)(w':World):Prop :=
 ∃ ga la fa gc lc fc ad cp,r=.returned (.tuple #[.agg (xH wd ga cs.length gc la M lc fa M fc),.bool ok])/\Own w' w.heap.size (.slice ga cs.length gc) cs/\RI w' la (M * 1) l/\zbk w' w.heap.size w'.heap.size fa M ad n cp f/\zfy w'.heap.size ga la fa M ad/\(∀ e,zaC ga e\/zaC la e\/zaC fa e\/za1 M ad e->w.heap.size<=e)/\xE w w'
theorem zam{e:Nat}(h:zaC (xA b) e):e=b:=by
 obtain⟨x,h1,h2⟩:=h
 cases h1
 exact h2
theorem zr7(hr:r=.returned (.tuple #[.agg xF,.bool false]))(hb:xE w w'):zud w 0 [] 0 l n f false r w':=by
 have h0:∀ e,¬ zaC none e:=fun e ⟨x,h,_⟩=>by cases h
 have h1:∀ e,¬ za1 0 (fun _=>none) e:=fun e ⟨k,x,h,_⟩=>by omega
 exact⟨none,none,none,0,0,0,fun _=>none,fun _=>0,hr,⟨rfl,.inl ⟨rfl,rfl⟩⟩,.inl rfl,.inl rfl,⟨fun e h=>absurd h (h0 e),fun e h=>absurd h (h0 e),fun e h=>absurd h (h0 e),fun e h=>absurd h (h0 e),fun e h=>absurd h (h0 e),fun e h=>by rcases h with h|h|h;exact absurd h (h0 e);exact absurd h (h0 e);exact absurd h (h1 e)⟩,fun e h=>by rcases h with h|h|h|h;exact absurd h (h0 e);exact absurd h (h0 e);exact absurd h (h0 e);exact absurd h (h1 e),hb⟩
theorem znR{c:Nat}(h:ScS w w' wd cs M gc c bl bf M arrL arrF xs)(hr:r=.returned (.tuple #[.agg (xH wd (xA gc) cs.length c (xA bl) M M (xA bf) M M),.bool true])) :
  zud w wd cs M (fun j=>zaU wd cs (j:Int)) (fun j=>(zaA wd cs (j:Int)).length) (fun j i=>(zaA wd cs (j:Int)).getD i 0) true r w':=by
 have hx:∀ j,j<M->xs j=.slice (znJ (xs j)) (zaA wd cs (j:Int)).length (zbF (xs j))/\RI w' (znJ (xs j)) ((zaA wd cs (j:Int)).length * 1) (fun i=>(zaA wd cs (j:Int)).getD i 0)/\∀ x,znJ (xs j)=some x->(xs j).ownBlock=some x.block:=fun j hj=>by
  obtain⟨a,c,h1,h2,h3⟩:=zcH (h.row j hj)
  rw[h1] at h3 ⊢
  exact⟨rfl,h2,h3⟩
 have h4:∀ j x,j<M->znJ (xs j)=some x->(w.heap.size<=x.block/\x.block<w'.heap.size)/\(x.block≠gc/\x.block≠bl/\x.block≠bf):=fun j x hj q=>⟨World.ownsRow.lt (h.row j hj) x.block ((hx j hj).2.2 x q),h.apart j hj x.block ((hx j hj).2.2 x q)⟩
 have h0:∀ e,za1 M (fun j=>znJ (xs j)) e->(w.heap.size<=e/\e<w'.heap.size)/\(e≠gc/\e≠bl/\e≠bf):=fun e ⟨k,x,q1,q2,q3⟩=>by rw[q3];exact h4 k x q1 q2
 have h5:=h.lt
 have h8:=(World.ownsRow.lt h.grid gc rfl).2
 have h6:=(gei h.lights).1
 have h7:=(gei h.feet).1
 refine⟨some (O gc 0),some (O bl 0),some (O bf 0),c,M,M,fun j=>znJ (xs j),fun j=>zbF (xs j),hr,h.grid,.inr ⟨bl,rfl,h6,fun j hj=>⟨?_,frozen_of_row _ _ j _ _ h.lights⟩⟩,.inr ⟨bf,rfl,⟨h5.1.2.2,h7⟩,fun k hk=>?_,fun k hk=>(hx k hk).2.1,fun k x hk q=>⟨(h4 k x hk q).1,(h4 k x hk q).2.2.2⟩,fun k k' x x' hk hk' q q' e=>?_,Nat.le_refl _⟩,⟨?_,?_,?_,?_,?_,?_⟩,?_,h.below⟩
 ·rw[cell_of_row _ _ j _ _ _ h.lights,h.atL j qg]
 ·rw[cell_of_row _ _ k _ _ _ h.feet,h.atF k hk]
  exact congrArg some (hx k hk).1
 ·have q1:=(hx k hk).2.2 x q
  have q2:=(hx k' hk').2.2 x' q'
  rw[<- e] at q2
  exact h.inj k k' x.block hk hk' q1 q2
 ·intro e q q'
  have:=zam q;have:=zam q';omega
 ·intro e q q'
  have:=zam q;have:=zam q';omega
 ·intro e q q'
  have:=zam q;have:=(h0 e q').2.1;omega
 ·intro e q q'
  have:=zam q;have:=zam q';omega
 ·intro e q q'
  have:=zam q;have:=(h0 e q').2.2.1;omega
 ·rintro e (q|q|q)
  ·have:=zam q;omega
  ·have:=zam q;omega
  ·exact(h0 e q).1.2
 ·rintro e (q|q|q|q)
  ·have:=zam q;omega
  ·have:=zam q;omega
  ·have:=zam q;omega
  ·exact(h0 e q).1.1
