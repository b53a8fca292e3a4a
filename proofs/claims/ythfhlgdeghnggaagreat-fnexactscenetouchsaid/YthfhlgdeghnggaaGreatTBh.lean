/- Part. -/
import Derived.Test.YthfhlgdeghnggaaGreatTAz
import Derived.Test.YthfhlgdeghnggaaGreatTBa
import Derived.Test.YthfhlgdeghnggaaGreatTBe
set_option maxHeartbeats 4000000
set_option linter.unusedVariables false
namespace Go.Proofs.YthfhlgdeghnggaaGreat
variable{arrF arrL:Array Value}{r:Ending}{Post:Ending->World->Prop}{wd:Int}{cs:List (Int × Int)}{l:List (Nat × Obj)}{B M b bf bl c gc hi lo:Nat}{cp n:Nat->Nat}{f:Nat->Nat->Int}{ad:Nat->Option Addr}{S:Nat->Prop}{xs:Nat->Value}{a:Option Addr}{g:Option Nat}{v:Value}{w w' w0:World}
namespace Sp
open Go.RowKit
attribute [local go_sem ↓] Go.wp_at_zero Go.wp_at_succ
structure ScS(w0 w:World)(wd:Int)(cs:List (Int × Int))(M gc c bl bf k:Nat)(arrL arrF:Array Value)(xs:Nat->Value):Prop where
 below:Below w0.heap.size w0 w
 grid:Own w w0.heap.size (.slice (some ⟨gc,0,none⟩) cs.length c) cs
 lights:w.heap[bl]?=some (.cells arrL 3)
 feet:w.heap[bf]?=some (.cells arrF 25)
 sizeL:arrL.size=M
 sizeF:arrF.size=M
 atL:∀ j,j<k->arrL[j]?=some (.int .i64 (za3 wd cs (j:Int)))
 atF:∀ j,j<k->arrF[j]?=some (xs j)
 lt:(w0.heap.size<=gc/\w0.heap.size<=bl/\w0.heap.size<=bf)/\gc≠bl/\gc≠bf/\bl≠bf
 row:∀ j,j<k->zb7 w w0.heap.size (xs j) (zaL wd cs (j:Int))
 apart:∀ j,j<k->∀ b,(xs j).ownBlock=some b->b≠gc/\b≠bl/\b≠bf
 inj:∀ j j' b,j<k->j'<k->(xs j).ownBlock=some b->(xs j').ownBlock=some b->j=j'
theorem ziM{x:Value}{xs:List Int}(h:zb7 w B x xs)(hk:∀ b,b<w.heap.size->x.ownBlock=some b->w'.heap[b]?=w.heap[b]?):zb7 w' B x xs:=by
 obtain⟨h1,h2⟩:=h
 refine⟨h1,?_⟩
 rcases h2 with h2|⟨g,cp,cur,q1,q2,q3,q4⟩
 ·exact .inl h2
 ·exact .inr ⟨g,cp,cur,q1,q2,(hk g (gei q3).1 (by rw[q1];rfl)).trans q3,q4⟩
theorem ScS.next{k:Nat}(hI:ScS w0 w wd cs M gc c bl bf k arrL arrF xs)(hkM:k<M)(hZ:zb7 w' w.heap.size v (zaL wd cs (k:Int)))(hL:w'.heap[bl]?=some (.cells (arrL.setIfInBounds k (.int .i64 (za3 wd cs (k:Int)))) 3))(hF:w'.heap[bf]?=some (.cells (arrF.setIfInBounds k v) 25))(hfr:∀ b,b<w.heap.size->b≠bl->b≠bf->w'.heap[b]?=w.heap[b]?)(hsz:w.heap.size<=w'.heap.size)(ho:w'.os=w.os/\w'.tape=w.tape/\w'.output=w.output) :
  ScS w0 w' wd cs M gc c bl bf (k+1) (arrL.setIfInBounds k (.int .i64 (za3 wd cs (k:Int)))) (arrF.setIfInBounds k v) (fun j=>if j=k then v else xs j):=by
 have hz0':=hI.below.size
 have hlt:=hI.lt
 have hbl:=(gei hI.lights).1
 have hbf:=(gei hI.feet).1
 have hgc:gc<w.heap.size:=(World.ownsRow.lt hI.grid gc rfl).2
 have hnew:∀ b,v.ownBlock=some b->w.heap.size<=b:=fun b hb=>(World.ownsRow.lt hZ b hb).1
 refine⟨⟨ho.1.trans hI.below.os,ho.2.1.trans hI.below.tape,ho.2.2.trans hI.below.output,Nat.le_trans hz0' hsz,fun b hb=>?_⟩,?_,hL,hF,by simpa using hI.sizeL,by simpa using hI.sizeF,fun j hj=>?_,fun j hj=>?_,hlt,fun j hj=>?_,fun j hj b hb=>?_,fun j j' b hj hj' hb hb'=>?_⟩
 ·exact(hfr b (by omega) (by omega) (by omega)).trans (hI.below.block b hb)
 ·obtain⟨g1,g2⟩:=hI.grid
  refine⟨g1,?_⟩
  rcases g2 with g2|⟨g,cp,cur,q1,q2,q3,q4⟩
  ·exact .inl g2
  ·have e:gc=g:=by simp only[Value.slice.injEq,Option.some.injEq,Addr.mk.injEq] at q1;exact q1.1.1
   subst e
   exact .inr ⟨gc,cp,cur,q1,q2,(hfr gc (gei q3).1 (by omega) (by omega)).trans q3,q4⟩
 ·by_cases q:j=k
  ·subst q
   rw[Array.getElem?_setIfInBounds_self_of_lt (by rw[hI.sizeL];exact hkM)]
  ·rw[Array.getElem?_setIfInBounds_ne (Ne.symm q)]
   exact hI.atL j (by omega)
 ·by_cases q:j=k
  ·subst q
   rw[Array.getElem?_setIfInBounds_self_of_lt (by rw[hI.sizeF];exact hkM),if_pos rfl]
  ·rw[Array.getElem?_setIfInBounds_ne (Ne.symm q),if_neg q]
   exact hI.atF j (by omega)
 ·by_cases q:j=k
  ·subst q
   rw[if_pos rfl]
   exact zbH hZ hz0'
  ·rw[if_neg q]
   exact ziM (hI.row j (by omega)) (fun b hb1 hb2=>hfr b hb1 (hI.apart j (by omega) b hb2).2.1 (hI.apart j (by omega) b hb2).2.2)
 ·by_cases q:j=k
  ·rw[if_pos q] at hb
   have:=hnew b hb
   have:=hgc
   omega
  ·rw[if_neg q] at hb
   exact hI.apart j (by omega) b hb
 ·have hold:∀ i,i<k->(xs i).ownBlock=some b->b<w.heap.size:=fun i hi q=>(World.ownsRow.lt (hI.row i hi) b q).2
  by_cases q:j=k <;> by_cases q':j'=k
  ·omega
  ·rw[if_pos q] at hb
   rw[if_neg q'] at hb'
   have:=hnew b hb
   have:=hold j' (by omega) hb'
   omega
  ·rw[if_neg q] at hb
   rw[if_pos q'] at hb'
   have:=hnew b hb'
   have:=hold j (by omega) hb
   omega
  ·rw[if_neg q] at hb
   rw[if_neg q'] at hb'
   exact hI.inj j j' b (by omega) (by omega) hb hb'
theorem ScS.other{k:Nat}(h:ScS w0 w wd cs M gc c bl bf k arrL arrF xs)(hB:Below w0.heap.size w0 w')(hk:∀ b,b<w.heap.size->(b=gc\/b=bl\/b=bf\/∃ j,j<k/\(xs j).ownBlock=some b)->w'.heap[b]?=w.heap[b]?):ScS w0 w' wd cs M gc c bl bf k arrL arrF xs:=by
 have hkeep:∀ b o,(b=gc\/b=bl\/b=bf\/∃ j,j<k/\(xs j).ownBlock=some b)->w.heap[b]?=some o->w'.heap[b]?=some o:=fun b o q0 q=>(hk b (gei q).1 q0).trans q
 refine⟨hB,?_,hkeep _ _ (.inr (.inl rfl)) h.lights,hkeep _ _ (.inr (.inr (.inl rfl))) h.feet,h.sizeL,h.sizeF,h.atL,h.atF,h.lt,fun j hj=>ziM (h.row j hj) (fun b hb1 hb2=>hk b hb1 (.inr (.inr (.inr ⟨j,hj,hb2⟩)))),h.apart,h.inj⟩
 obtain⟨g1,g2⟩:=h.grid
 refine⟨g1,?_⟩
 rcases g2 with g2|⟨g,cp,cur,q1,q2,q3,q4⟩
 ·exact .inl g2
 ·have e:gc=g:=by simp only[Value.slice.injEq,Option.some.injEq,Addr.mk.injEq] at q1;exact q1.1.1
  subst e
  exact .inr ⟨gc,cp,cur,q1,q2,hkeep _ _ (.inl rfl) q3,q4⟩
theorem zbl{i:Nat}{cs:Array Value}{t:TypeId}(h:w.heap[b]?=some (.cells cs t))(hv:cs[i]?=some v):w.setCell ⟨b,i,none⟩ v=w:=by
 have e2:cs.setIfInBounds i v=cs:=by
  apply Array.ext_getElem?
  intro j
  by_cases q:i=j
  ·subst q
   rw[Array.getElem?_setIfInBounds_self_of_lt (gei hv).1,hv]
  ·rw[Array.getElem?_setIfInBounds_ne q]
 have e:(w.setCell ⟨b,i,none⟩ v).heap=w.heap:=by
  apply Array.ext_getElem?
  intro j
  by_cases q:j=b
  ·subst q
   rw[heap_setCell_same _ _ _ _ _ _ h,h,e2]
  ·exact heap_setCell_other _ _ _ _ q
 exact congrArg (fun h=>{ w with heap:=h }) e
noncomputable abbrev zre:Code:=match Tryz.f50.body with|some (.seq _ (.seq _ (.seq _ (.seq _ r))))=>r|_=>.skip
set_option maxRecDepth 20000 in
theorem zov{W H:Nat}(S:Siz wd cs W H)(w0 x:World)(M gc c bl bf b5 rv:Nat)(hM:M=2 * (W+H))(hI0:ScS w0 x wd cs M gc c bl bf 0 (madeCells #[.int .i64 0] M) (madeCells #[.slice none 0 0] M) (fun _=>.slice none 0 0))(hb5:x.heap[b5]?=some (.cells #[.int .i64 wd,.slice (some ⟨gc,0,none⟩) cs.length c,.slice (some ⟨bl,0,none⟩) M M,.slice (some ⟨bf,0,none⟩) M M] 35))(hrv:x.heap[rv]?=some (.cells #[.int .i64 0,.slice none 0 0,.slice none 0 0,.slice none 0 0] 35))(hd:(w0.heap.size<=b5/\w0.heap.size<=rv)/\(b5≠gc/\b5≠bl/\b5≠bf)/\(rv≠gc/\rv≠bl/\rv≠bf)/\rv≠b5)(hK:∀(w':World) (arrL arrF:Array Value) (xs:Nat->Value),ScS w0 w' wd cs M gc c bl bf M arrL arrF xs->Post (.returned (.tuple #[(.agg #[.int .i64 wd,.slice (some ⟨gc,0,none⟩) cs.length c,.slice (some ⟨bl,0,none⟩) M M,.slice (some ⟨bf,0,none⟩) M M]),.bool true])) w')(u0 u1 u3 u6 u7 u8 u9 u10 u11 u12 u13 u14 u15 u16 u17 u18 u19 u20 u21 u22 u23 u24 u25 u26 u27 u28:Value) :
  zre.wp SqP.prog (bodyPost SqP.prog Tryz.f50 Post) ⟨#[u0,u1,.pointer (some ⟨rv,0,none⟩),u3,.int .i64 (M:Int),.pointer (some ⟨b5,0,none⟩),u6,u7,u8,u9,u10,u11,u12,u13,u14,u15,u16,u17,u18,u19,u20,u21,u22,u23,u24,u25,u26,u27,u28],[]⟩ x:=by
 have hn:cs.length<=25:=by rw[S.el];exact Nat.le_trans (Nat.mul_le_mul S.hW.2 S.hH.2) (by omega)
 have hM20:M<=20:=by have:=S.hW;have:=S.hH;omega
 have HMW:Hid (M=2 * (W+H)):=hM
 have SS:Hid (Siz wd cs W H):=S
 clear hM
 have hrv0:Hid (x.heap[rv]?=some (.cells #[.int .i64 0,.slice none 0 0,.slice none 0 0,.slice none 0 0] 35)):=hrv
 simp only[zre,Tryz.f50]
 go_wp2_with fail
 go_loopw [6] (fun kk wr=>∃ (k:Nat) (arrL arrF:Array Value) (xs:Nat->Value),k<=M/\kk=.int .i64 k/\ScS w0 wr wd cs M gc c bl bf k arrL arrF xs/\wr.heap[b5]?=some (.cells #[.int .i64 wd,.slice (some ⟨gc,0,none⟩) cs.length c,.slice (some ⟨bl,0,none⟩) M M,.slice (some ⟨bf,0,none⟩) M M] 35)/\wr.heap[rv]?=some (.cells #[.int .i64 0,.slice none 0 0,.slice none 0 0,.slice none 0 0] 35)/\x.heap.size<=wr.heap.size/\∀ j,j<k->∀ b,(xs j).ownBlock=some b->x.heap.size<=b) (fun kk _=>M - (intOf kk).toNat)
 case atStart=>exact⟨0,_,_,_,Nat.zero_le _,rfl,hI0,hb5,hrv,Nat.le_refl _,fun j hj=>absurd hj (by omega)⟩
 case round =>
  rename World=>wo
  obtain⟨k,arrL,arrF,xs,hkM',rfl,hI,hb5,hrv,hxs,hnew⟩:=hrel
  have c0:wo.cell? ⟨b5,0,none⟩=some (.int .i64 wd):=(cell_of_row _ _ 0 _ _ _ hb5).trans rfl
  have c1:wo.cell? ⟨b5,1,none⟩=some (.slice (some ⟨gc,0,none⟩) cs.length c):=(cell_of_row _ _ 1 _ _ _ hb5).trans rfl
  have c2:wo.cell? ⟨b5,2,none⟩=some (.slice (some ⟨bl,0,none⟩) M M):=(cell_of_row _ _ 2 _ _ _ hb5).trans rfl
  have c3:wo.cell? ⟨b5,3,none⟩=some (.slice (some ⟨bf,0,none⟩) M M):=(cell_of_row _ _ 3 _ _ _ hb5).trans rfl
  have hrx:=(gei hrv0.out).1
  have h5l:=(gei hb5).1
  have hrl:=(gei hrv).1
  by_cases hkM:k<M
  ·have bl1:decide ((k:Int)<(M:Int))=true:=decide_eq_true (by omega)
   have hlt:=hI.lt
   have hin:inS wd cs (k:Int)=true:=by unfold inS;rw[SS.out.em];exact decide_eq_true (by have:=HMW.out;omega)
   obtain⟨ax,cx,ex,hCx⟩:=hI.grid.slice
   simp only[Value.slice.injEq,true_and] at ex
   obtain⟨rfl,rfl⟩:=ex
   have HI:Hid (ScS w0 wo wd cs M gc c bl bf k arrL arrF xs):=hI
   have H5:Hid (wo.heap[b5]?=some (.cells #[.int .i64 wd,.slice (some ⟨gc,0,none⟩) cs.length c,.slice (some ⟨bl,0,none⟩) M M,.slice (some ⟨bf,0,none⟩) M M] 35)):=hb5
   have HR:Hid (wo.heap[rv]?=some (.cells #[.int .i64 0,.slice none 0 0,.slice none 0 0,.slice none 0 0] 35)):=hrv
   have hlook:=(zpW (aLt:=Sq.altP)) SS.out (some ⟨gc,0,none⟩) c wo hCx M k bl bf hkM hM20 hin arrL arrF hI.lights hI.feet hI.sizeL hI.sizeF hlt.2.2.2 (fun b off e=>by simp only[Option.some.injEq,Addr.mk.injEq] at e;omega)
   clear hI hb5 hrv hCx
   go_wp2_with fail
   refine hlook.mono ?_
   rintro e w1 ⟨rfl,v,hZ,hL,hF,hfr,hsz,ho⟩
   have hnx:=HI.out.next hkM hZ hL hF hfr hsz ho
   have hb51:=(hfr b5 h5l hd.2.1.2.1 hd.2.1.2.2).trans H5.out
   have hrv1:=(hfr rv hrl hd.2.2.1.2.1 hd.2.2.1.2.2).trans HR.out
   have d0:w1.cell? ⟨b5,0,none⟩=some (.int .i64 wd):=(cell_of_row _ _ 0 _ _ _ hb51).trans rfl
   have d1:w1.cell? ⟨b5,1,none⟩=some (.slice (some ⟨gc,0,none⟩) cs.length c):=(cell_of_row _ _ 1 _ _ _ hb51).trans rfl
   have d2:w1.cell? ⟨b5,2,none⟩=some (.slice (some ⟨bl,0,none⟩) M M):=(cell_of_row _ _ 2 _ _ _ hb51).trans rfl
   have d3:w1.cell? ⟨b5,3,none⟩=some (.slice (some ⟨bf,0,none⟩) M M):=(cell_of_row _ _ 3 _ _ _ hb51).trans rfl
   have f0:=frozen_of_row _ _ 0 _ _ hb51
   have f1:=frozen_of_row _ _ 1 _ _ hb51
   have f2:=frozen_of_row _ _ 2 _ _ hb51
   have f3:=frozen_of_row _ _ 3 _ _ hb51
   have hnw:∀ b,v.ownBlock=some b->wo.heap.size<=b:=fun b hb=>(World.ownsRow.lt hZ b hb).1
   have HB:Hid (w1.heap[b5]?=some (.cells #[.int .i64 wd,.slice (some ⟨gc,0,none⟩) cs.length c,.slice (some ⟨bl,0,none⟩) M M,.slice (some ⟨bf,0,none⟩) M M] 35)):=hb51
   clear hlook hZ hL hF hfr HI H5 HR hb51
   go_wp2_with fail
   rw[zbl HB.out (i:=0) (v:=.int .i64 wd) rfl,zbl HB.out (i:=1) (v:=.slice (some ⟨gc,0,none⟩) cs.length c) rfl,zbl HB.out (i:=2) (v:=.slice (some ⟨bl,0,none⟩) M M) rfl,zbl HB.out (i:=3) (v:=.slice (some ⟨bf,0,none⟩) M M) rfl]
   refine⟨⟨k+1,_,_,_,by omega,by simp,hnx,HB.out,hrv1,Nat.le_trans hxs hsz,fun j hj b hb=>?_⟩,?_⟩
   ·by_cases q:j=k
    ·rw[if_pos q] at hb
     exact Nat.le_trans hxs (hnw b hb)
    ·rw[if_neg q] at hb
     exact hnew j (by omega) b hb
   ·simp only[intOf]
    omega
  ·have bl1:decide ((k:Int)<(M:Int))=false:=decide_eq_false (by omega)
   have ek:k=M:=by omega
   subst ek
   have f0:=frozen_of_row _ _ 0 _ _ hrv
   have f1:=frozen_of_row _ _ 1 _ _ hrv
   have f2:=frozen_of_row _ _ 2 _ _ hrv
   have f3:=frozen_of_row _ _ 3 _ _ hrv
   have g0:wo.cell? ⟨rv,0,none⟩=some (.int .i64 0):=(cell_of_row _ _ 0 _ _ _ hrv).trans rfl
   have g1:wo.cell? ⟨rv,1,none⟩=some (.slice none 0 0):=(cell_of_row _ _ 1 _ _ _ hrv).trans rfl
   have g2:wo.cell? ⟨rv,2,none⟩=some (.slice none 0 0):=(cell_of_row _ _ 2 _ _ _ hrv).trans rfl
   have g3:wo.cell? ⟨rv,3,none⟩=some (.slice none 0 0):=(cell_of_row _ _ 3 _ _ _ hrv).trans rfl
   have hlt:=hI.lt
   have HI:Hid (ScS w0 wo wd cs k gc c bl bf k arrL arrF xs):=hI
   have HR:Hid (wo.heap[rv]?=some (.cells #[.int .i64 0,.slice none 0 0,.slice none 0 0,.slice none 0 0] 35)):=hrv
   clear hI hb5 hrv
   go_wp2_with fail
   obtain⟨w9,h9⟩:∃ w9,w9=((((wo.setCell ⟨rv,0,none⟩ (.int .i64 wd)).setCell ⟨rv,1,none⟩ (.slice (some ⟨gc,0,none⟩) cs.length c)).setCell ⟨rv,2,none⟩ (.slice (some ⟨bl,0,none⟩) k k)).setCell ⟨rv,3,none⟩ (.slice (some ⟨bf,0,none⟩) k k)):=⟨_,rfl⟩
   rw[<- h9]
   have r1:=heap_setCell_same _ _ 0 _ _ (.int .i64 wd) HR.out
   have r2:=heap_setCell_same _ _ 1 _ _ (.slice (some ⟨gc,0,none⟩) cs.length c) r1
   have r3:=heap_setCell_same _ _ 2 _ _ (.slice (some ⟨bl,0,none⟩) k k) r2
   have r4:=heap_setCell_same _ _ 3 _ _ (.slice (some ⟨bf,0,none⟩) k k) r3
   rw[<- h9] at r4
   simp only[List.setIfInBounds_toArray,List.set_cons_zero,List.set_cons_succ] at r4
   have o4:∀ b,b≠rv->w9.heap[b]?=wo.heap[b]?:=fun b q=>by
    rw[h9,heap_setCell_other _ _ _ _ q,heap_setCell_other _ _ _ _ q,heap_setCell_other _ _ _ _ q,heap_setCell_other _ _ _ _ q]
   have hB9:Below w0.heap.size w0 w9:=by
    rw[h9]
    exact(((HI.out.below.setCell (p:=⟨rv,0,none⟩) hd.1.2 _).setCell (p:=⟨rv,1,none⟩) hd.1.2 _).setCell (p:=⟨rv,2,none⟩) hd.1.2 _).setCell (p:=⟨rv,3,none⟩) hd.1.2 _
   have k0:w9.cell? ⟨rv,0,none⟩=some (.int .i64 wd):=(cell_of_row _ _ 0 _ _ _ r4).trans rfl
   have k1:w9.cell? ⟨rv,1,none⟩=some (.slice (some ⟨gc,0,none⟩) cs.length c):=(cell_of_row _ _ 1 _ _ _ r4).trans rfl
   have k2:w9.cell? ⟨rv,2,none⟩=some (.slice (some ⟨bl,0,none⟩) k k):=(cell_of_row _ _ 2 _ _ _ r4).trans rfl
   have k3:w9.cell? ⟨rv,3,none⟩=some (.slice (some ⟨bf,0,none⟩) k k):=(cell_of_row _ _ 3 _ _ _ r4).trans rfl
   refine bodyPost_ret (v:=.tuple #[(.agg #[.int .i64 wd,.slice (some ⟨gc,0,none⟩) cs.length c,.slice (some ⟨bl,0,none⟩) k k,.slice (some ⟨bf,0,none⟩) k k]),.bool true]) (by simp[results,go_sem,k0,k1,k2,k3]) rfl (hK w9 arrL arrF xs (HI.out.other hB9 (fun b hb q=>o4 b ?_)))
   rcases q with rfl|rfl|rfl|⟨j,hj,q⟩
   ·exact Ne.symm hd.2.2.1.1
   ·exact Ne.symm hd.2.2.1.2.1
   ·exact Ne.symm hd.2.2.1.2.2
   ·have:=hnew j hj b q
    omega
end Sp
namespace Sp
variable{aLt:Nat->Func->Func}
open Go.RowKit
attribute [local go_sem ↓] Go.wp_at_zero Go.wp_at_succ
def zhY(n:Nat->Nat):Nat->Nat
 | 0=>0
 | i+1=>zhY n i+n i
structure zcA(S:Nat->Prop)(w w':World):Prop where
 os:w'.os=w.os
 tape:w'.tape=w.tape
 output:w'.output=w.output
 size:w.heap.size<=w'.heap.size
 block:∀ k,k<w.heap.size->¬ S k->w'.heap[k]?=w.heap[k]?
theorem zcA.refl(S:Nat->Prop)(w:World):zcA S w w:=⟨rfl,rfl,rfl,Nat.le_refl _,fun _ _ _=>rfl⟩
theorem zcA.grown{w1 w2:World}(h:zcA S w w1)(hg:w1.grownBy w2 g)(hs:∀ b,g=some b->S b):zcA S w w2 :=
 ⟨hg.os.trans h.os,hg.tape.trans h.tape,hg.output.trans h.output,Nat.le_trans h.size hg.size,fun k hk hn=>(hg.block k (nll hk h.size) (fun e=>hn (hs k e.symm))).trans (h.block k hk hn)⟩
theorem zcA.cell(h:zcA S w w'){o:Nat}(hg:¬ S b)(hc:w.cell? ⟨b,o,none⟩=some v):w'.cell? ⟨b,o,none⟩=some v:=by
 rw[World.cell?_of_block (w:=w) (h.block b (World.block_lt_of_cell? w _ hc) hg)]
 exact hc
theorem zcA.below(h:zcA S w w')(hb:Below B w0 w)(hS:∀ e,S e->B<=e)(hz:B<=w.heap.size):Below B w0 w' :=
 ⟨h.os.trans hb.os,h.tape.trans hb.tape,h.output.trans hb.output,Nat.le_trans hb.size h.size,fun k hk=>(h.block k (by omega) (fun q=>by have:=hS k q;omega)).trans (hb.block k hk)⟩
theorem RI.offN{m:Nat}{f:Nat->Int}(h:RI w a m f)(ho:zcA S w w')(hn:∀ x,a=some x->¬ S x.block):RI w' a m f:=by
 rcases h with h|⟨g,rfl,hl,hc⟩
 ·exact .inl h
 ·have q:=hn _ rfl
  exact .inr ⟨g,rfl,nll hl ho.size,fun j hj=>⟨ho.cell q (hc j hj).1,by rw[World.frozen?_of_block (w:=w) (ho.block g hl q)];exact(hc j hj).2⟩⟩
structure zmU(w:World)(lo hi b M:Nat)(ad:Nat->Option Addr)(n cp:Nat->Nat)(f:Nat->Nat->Int):Prop where
 out:lo<=b/\b<hi
 cell:∀ k,k<M->w.cell? ⟨b,k,none⟩=some (.slice (ad k) (n k) (cp k))
 row:∀ k,k<M->RI w (ad k) (n k * 1) (f k)
 lt:∀ k x,k<M->ad k=some x->(lo<=x.block/\x.block<hi)/\¬ x.block=b
 inj:∀ k k' x x',k<M->k'<M->ad k=some x->ad k'=some x'->x.block=x'.block->k=k'
 top:hi<=w.heap.size
def zcB(w:World)(lo hi:Nat)(a:Option Addr)(M:Nat)(ad:Nat->Option Addr)(n cp:Nat->Nat)(f:Nat->Nat->Int):Prop:=M=0\/∃ b,a=some ⟨b,0,none⟩/\zmU w lo hi b M ad n cp f
theorem zmU.below(h:zmU w lo hi b M ad n cp f)(hb:Below w.heap.size w w'):zmU w' lo hi b M ad n cp f :=
 ⟨h.out,fun k hk=>zab hb (h.cell k hk),fun k hk=>(h.row k hk).below hb,h.lt,h.inj,Nat.le_trans h.top hb.size⟩
theorem zcB.below(h:zcB w lo hi a M ad n cp f)(hb:Below w.heap.size w w'):zcB w' lo hi a M ad n cp f:=by
 rcases h with h|⟨b,e,h⟩
 ·exact .inl h
 ·exact .inr ⟨b,e,h.below hb⟩
def zcM(M:Nat)(ad:Nat->Option Addr)(e:Nat):Prop:=∃ k x,k<M/\ad k=some x/\e=x.block
end Sp
namespace Sp
open Go.RowKit
theorem ziO{xs:List Int}(h:zdL w B 3 v xs):zb7 w B v xs:=by
 refine⟨by simp[zbG],?_⟩
 rcases h with ⟨h1,h2⟩|⟨g,cap,h1,h2,h3,h4,h5,h6⟩
 ·exact .inl ⟨h1,by rw[h2];rfl⟩
 ·refine .inr ⟨g,cap,zgu xs cap,h1,h2,h6,h4,h5,by rw[zgt xs cap h4,Nat.mul_one],?_⟩
  rw[Nat.mul_one]
  have e:(zgu xs cap).toList=zbG xs++List.replicate (cap - xs.length) (.int .i64 0):=by simp[zgu,zea,zbG]
  rw[e,List.take_append_of_le_length (by simp[zbG])]
  rw[List.take_of_length_le (by simp[zbG])]
theorem zed{xs:List Int}(h:zb7 w B v xs):∃ a c,v=.slice a xs.length c/\RI w a (xs.length * 1) (fun i=>xs.getD i 0)/\∀ x,a=some x->v.ownBlock=some x.block:=by
 obtain⟨h1,h2⟩:=h
 rcases h2 with ⟨q1,q2⟩|⟨g,cap,cur,q1,q2,q3,q4,q5,q6,q7⟩
 ·exact⟨none,0,by rw[q1,q2],.inl (by omega),fun x e=>by cases e⟩
 ·refine⟨_,cap,q1,.inr ⟨g,rfl,(gei q3).1,fun j hj=>⟨?_,frozen_of_row _ _ j _ _ q3⟩⟩,fun x e=>by rw[q1];cases e;rfl⟩
  have hj':j<xs.length:=by omega
  have e:(cur.toList.take (xs.length * 1))[j]?=(zbG xs)[j]?:=by rw[q7]
  rw[List.getElem?_take_of_lt hj,Array.getElem?_toList] at e
  rw[cell_of_row _ _ j _ _ _ q3,e]
  simp[zbG,hj']
theorem ScA.toS{k:Nat}(h:ScA w0 w wd cs M gc bl bf k arrL arrF xs):ScS w0 w wd cs M gc cs.length bl bf k arrL arrF xs:=by
 have hlt:=h.lt
 exact⟨h.below,h.grid,h.lights,h.feet,h.sizeL,h.sizeF,h.atL,h.atF,by omega,fun j hj=>ziO (h.row j hj),fun j hj b hb=>by have:=h.apart j hj b hb;omega,h.once⟩
end Sp
namespace Sp
open Go.RowKit
attribute [local go_sem ↓] Go.wp_at_zero Go.wp_at_succ
theorem zkT(wd:Int)(a:Option Addr)(cap:Nat)(cs:List (Int × Int))(w:World):zdK w ((w.alloc (.cells #[.int .i64 wd,.slice a cs.length cap] 33)).alloc (.cells #[.int .i64 0,.slice none 0 0,.slice none 0 0,.slice none 0 0] 35)) [(w.heap.size+1,.cells #[.int .i64 0,.slice none 0 0,.slice none 0 0,.slice none 0 0] 35),(w.heap.size,.cells #[.int .i64 wd,.slice a cs.length cap] 33)]:=by
 have h1:zdK w w []:=⟨Below.refl _ _,(fun _ h=>nomatch h),List.nodup_nil⟩
 have h2:=(h1.made (.cells #[.int .i64 wd,.slice a cs.length cap] 33)).made (.cells #[.int .i64 0,.slice none 0 0,.slice none 0 0,.slice none 0 0] 35)
 have e:(w.alloc (.cells #[.int .i64 wd,.slice a cs.length cap] 33)).heap.size=w.heap.size+1:=Array.size_push _
 rw[e] at h2
 exact h2
theorem zdK.on{x x':World}(h:zdK w0 x l)(hb:Below x.heap.size x x'):zdK w0 x' l:=by
 have hz:=h.below.size
 refine⟨⟨hb.os.trans h.below.os,hb.tape.trans h.below.tape,hb.output.trans h.below.output,Nat.le_trans hz hb.size,fun k hk=>(hb.block k (by omega)).trans (h.below.block k hk)⟩,fun p hp=>?_,h.once⟩
 have q:=h.lies p hp
 exact⟨(hb.block p.1 (gei q.1).1).trans q.1,q.2⟩
theorem zf2(wd:Int)(a:Option Addr)(cap:Nat)(cs:List (Int × Int))(w:World)(h:zak w a cs)(hm:cs.length<=1048576)(hk:okG wd cs=false) :
  Calls SqP.prog 50 #[.agg #[.int .i64 wd,.slice a cs.length cap]] w fun e w'=>e=.returned (.tuple #[.agg #[.int .i64 0,.slice none 0 0,.slice none 0 0,.slice none 0 0],.bool false])/\Below w.heap.size w w':=by
 obtain⟨w2,hw2⟩:∃ w2,w2=(w.alloc (.cells #[.int .i64 wd,.slice a cs.length cap] 33)).alloc (.cells #[.int .i64 0,.slice none 0 0,.slice none 0 0,.slice none 0 0] 35):=⟨_,rfl⟩
 have hM:zdK w w2 [(w.heap.size+1,.cells #[.int .i64 0,.slice none 0 0,.slice none 0 0,.slice none 0 0] 35),(w.heap.size,.cells #[.int .i64 wd,.slice a cs.length cap] 33)]:=by rw[hw2];exact zkT wd a cap cs w
 have hG:=(zbD (aLt:=Sq.altP)) wd a cap cs w2 (h.below hM.below) (by omega)
 rw[hk] at hG
 have c0:w2.cell? ⟨w.heap.size,0,none⟩=some (.int .i64 wd):=(cell_of_row _ _ 0 _ _ _ (hM.lies (w.heap.size,.cells #[.int .i64 wd,.slice a cs.length cap] 33) (by simp)).1).trans rfl
 have c1:w2.cell? ⟨w.heap.size,1,none⟩=some (.slice a cs.length cap):=(cell_of_row _ _ 1 _ _ _ (hM.lies (w.heap.size,.cells #[.int .i64 wd,.slice a cs.length cap] 33) (by simp)).1).trans rfl
 have HM:Hid (zdK w w2 [(w.heap.size+1,.cells #[.int .i64 0,.slice none 0 0,.slice none 0 0,.slice none 0 0] 35),(w.heap.size,.cells #[.int .i64 wd,.slice a cs.length cap] 33)]):=hM
 clear hM
 go_enter SqP.func50,Tryz.ntmps50
 go_upto_region 1 with fail
 rw[<- hw2]
 clear hw2
 go_wp2_with fail
 refine hG.mono ?_
 rintro e w3 ⟨rfl,hb3⟩
 have h3:zdK w w3 [(w.heap.size+1,.cells #[.int .i64 0,.slice none 0 0,.slice none 0 0,.slice none 0 0] 35),(w.heap.size,.cells #[.int .i64 wd,.slice a cs.length cap] 33)]:=HM.out.on hb3
 clear hG hb3 c0 c1
 have hrv:w3.heap[w.heap.size+1]?=some (.cells #[.int .i64 0,.slice none 0 0,.slice none 0 0,.slice none 0 0] 35):=(h3.lies (w.heap.size+1,.cells #[.int .i64 0,.slice none 0 0,.slice none 0 0,.slice none 0 0] 35) (by simp)).1
 have f0:=frozen_of_row _ _ 0 _ _ hrv
 have f1:=frozen_of_row _ _ 1 _ _ hrv
 have f2:=frozen_of_row _ _ 2 _ _ hrv
 have f3:=frozen_of_row _ _ 3 _ _ hrv
 have g0:w3.cell? ⟨w.heap.size+1,0,none⟩=some (.int .i64 0):=(cell_of_row _ _ 0 _ _ _ hrv).trans rfl
 have g1:w3.cell? ⟨w.heap.size+1,1,none⟩=some (.slice none 0 0):=(cell_of_row _ _ 1 _ _ _ hrv).trans rfl
 have g2:w3.cell? ⟨w.heap.size+1,2,none⟩=some (.slice none 0 0):=(cell_of_row _ _ 2 _ _ _ hrv).trans rfl
 have g3:w3.cell? ⟨w.heap.size+1,3,none⟩=some (.slice none 0 0):=(cell_of_row _ _ 3 _ _ _ hrv).trans rfl
 have HR:Hid (w3.heap[w.heap.size+1]?=some (.cells #[.int .i64 0,.slice none 0 0,.slice none 0 0,.slice none 0 0] 35)):=hrv
 have hB3:Hid (Below w.heap.size w w3):=h3.below
 clear hrv HM h3
 go_wp2_with fail
 rw[zbl HR.out (i:=0) (v:=.int .i64 0) rfl,zbl HR.out (i:=1) (v:=.slice none 0 0) rfl,zbl HR.out (i:=2) (v:=.slice none 0 0) rfl,zbl HR.out (i:=3) (v:=.slice none 0 0) rfl]
 refine bodyPost_ret (v:=.tuple #[.agg #[.int .i64 0,.slice none 0 0,.slice none 0 0,.slice none 0 0],.bool false]) (by simp[results,go_sem,g0,g1,g2,g3]) rfl ⟨rfl,hB3.out⟩
theorem ze2{W H:Nat}(S:Siz wd cs W H)(a:Option Addr)(cap:Nat)(w:World)(h:zak w a cs) :
  Calls SqP.prog 50 #[.agg #[.int .i64 wd,.slice a cs.length cap]] w fun e w'=>∃ gc c bl bf arrL arrF xs,e=.returned (.tuple #[.agg #[.int .i64 wd,.slice (some ⟨gc,0,none⟩) cs.length c,.slice (some ⟨bl,0,none⟩) (2 * (W+H)) (2 * (W+H)),.slice (some ⟨bf,0,none⟩) (2 * (W+H)) (2 * (W+H))],.bool true])/\ScS w w' wd cs (2 * (W+H)) gc c bl bf (2 * (W+H)) arrL arrF xs:=by
 have hn:cs.length<=25:=by rw[S.el];exact Nat.le_trans (Nat.mul_le_mul S.hW.2 S.hH.2) (by omega)
 have hp:0<cs.length:=by rw[S.el];exact Nat.mul_pos (by have:=S.hW;omega) (by have:=S.hH;omega)
 have hk:=S.ok
 obtain⟨M,hMW⟩:∃ M,M=2 * (W+H):=⟨_,rfl⟩
 have hM20:M<=20:=by have:=S.hW;have:=S.hH;omega
 have hmany:∀ w:World,Calls SqP.prog 70 #[.agg #[.int .i64 wd,.slice a cs.length cap]] w fun e w'=>e=.returned (.int .i64 (M:Int))/\Below w.heap.size w w':=by
  intro w
  have e1:(2 * ((W:Int)+(H:Int)))=(M:Int):=by omega
  rw[<- e1,S.ew]
  exact zgQ W H a cs.length cap w S.hW S.hH.2 (by omega) (by rw[S.el,Nat.mul_div_cancel_left _ (by have:=S.hW;omega)])
 have HH:Hid (zak w a cs):=h
 have SS:Hid (Siz wd cs W H):=S
 rw[<- hMW]
 have HMW:Hid (M=2 * (W+H)):=hMW
 clear hMW
 obtain⟨w2,hw2⟩:∃ w2,w2=(w.alloc (.cells #[.int .i64 wd,.slice a cs.length cap] 33)).alloc (.cells #[.int .i64 0,.slice none 0 0,.slice none 0 0,.slice none 0 0] 35):=⟨_,rfl⟩
 have hM:zdK w w2 [(w.heap.size+1,.cells #[.int .i64 0,.slice none 0 0,.slice none 0 0,.slice none 0 0] 35),(w.heap.size,.cells #[.int .i64 wd,.slice a cs.length cap] 33)]:=by rw[hw2];exact zkT wd a cap cs w
 have hG:=(zbD (aLt:=Sq.altP)) wd a cap cs w2 (h.below hM.below) (by omega)
 rw[hk] at hG
 have c0:w2.cell? ⟨w.heap.size,0,none⟩=some (.int .i64 wd):=(cell_of_row _ _ 0 _ _ _ (hM.lies (w.heap.size,.cells #[.int .i64 wd,.slice a cs.length cap] 33) (by simp)).1).trans rfl
 have c1:w2.cell? ⟨w.heap.size,1,none⟩=some (.slice a cs.length cap):=(cell_of_row _ _ 1 _ _ _ (hM.lies (w.heap.size,.cells #[.int .i64 wd,.slice a cs.length cap] 33) (by simp)).1).trans rfl
 have HM:Hid (zdK w w2 [(w.heap.size+1,.cells #[.int .i64 0,.slice none 0 0,.slice none 0 0,.slice none 0 0] 35),(w.heap.size,.cells #[.int .i64 wd,.slice a cs.length cap] 33)]):=hM
 clear hM
 go_enter SqP.func50,Tryz.ntmps50
 go_upto_region 1 with fail
 rw[<- hw2]
 clear hw2
 go_wp2_with fail
 refine hG.mono ?_
 rintro e w3 ⟨rfl,hb3⟩
 have h3:zdK w w3 [(w.heap.size+1,.cells #[.int .i64 0,.slice none 0 0,.slice none 0 0,.slice none 0 0] 35),(w.heap.size,.cells #[.int .i64 wd,.slice a cs.length cap] 33)]:=HM.out.on hb3
 clear hG hb3 c0 c1
 clear S h hk HM
 have c0:w3.cell? ⟨w.heap.size,0,none⟩=some (.int .i64 wd):=(cell_of_row _ _ 0 _ _ _ (h3.lies (w.heap.size,.cells #[.int .i64 wd,.slice a cs.length cap] 33) (by simp)).1).trans rfl
 have c1:w3.cell? ⟨w.heap.size,1,none⟩=some (.slice a cs.length cap):=(cell_of_row _ _ 1 _ _ _ (h3.lies (w.heap.size,.cells #[.int .i64 wd,.slice a cs.length cap] 33) (by simp)).1).trans rfl
 have H3:Hid (zdK w w3 [(w.heap.size+1,.cells #[.int .i64 0,.slice none 0 0,.slice none 0 0,.slice none 0 0] 35),(w.heap.size,.cells #[.int .i64 wd,.slice a cs.length cap] 33)]):=h3
 clear h3
 go_wp2_with fail
 refine(hmany _).mono ?_
 rintro e w4 ⟨rfl,hb4⟩
 have h4:zdK w w4 [(w.heap.size+1,.cells #[.int .i64 0,.slice none 0 0,.slice none 0 0,.slice none 0 0] 35),(w.heap.size,.cells #[.int .i64 wd,.slice a cs.length cap] 33)]:=H3.out.on hb4
 clear hmany hb4 c0 c1 H3
 go_upto_region 4 with fail
 rename_i Q' K hK
 refine zth w w4 a cap M (w.heap.size) (w.heap.size+1) hM20 hp h4 (fun _ _ d _ _ h=>by cases d <;> exact h) (fun y hy=>?_) _ _ _ _ _ _ _ _ _ _ _ _ _ _ _ _ _ _ _ _ _ _ _ _ _ _ (fun x gc c cur bl bf b5 hown hx=>?_)
 ·obtain h0|⟨b,off,rfl,hbl,hcell⟩:=HH.out.below hy
  ·rw[h0] at hp
   exact absurd hp (by simp)
  ·exact zlL wd b off cap cs y hbl hcell (by omega) hp
 refine hK _ _ ?_
 obtain⟨x9,h9⟩:∃ x9,x9=((((x.setCell ⟨b5,0,none⟩ (.int .i64 wd)).setCell ⟨b5,1,none⟩ (.slice (some ⟨gc,0,none⟩) cs.length c)).setCell ⟨b5,2,none⟩ (.slice (some ⟨bl,0,none⟩) M M)).setCell ⟨b5,3,none⟩ (.slice (some ⟨bf,0,none⟩) M M)):=⟨_,rfl⟩
 rw[<- h9]
 have n:=hx.once
 simp only[List.cons_append,List.nil_append,List.map_cons,List.map_nil,List.nodup_cons,List.mem_cons,List.not_mem_nil,or_false,not_or] at n
 have l5:=hx.lies (b5,.cells #[.int .i64 0,.slice none 0 0,.slice none 0 0,.slice none 0 0] 35) (by simp)
 have lf:=hx.lies (bf,.cells (madeCells #[.slice none 0 0] M) 25) (by simp)
 have ll:=hx.lies (bl,.cells (madeCells #[.int .i64 0] M) 3) (by simp)
 have lg:=hx.lies (gc,.cells cur 48) (by simp)
 have lr:=hx.lies (w.heap.size+1,.cells #[.int .i64 0,.slice none 0 0,.slice none 0 0,.slice none 0 0] 35) (by simp)
 dsimp only at l5 lf ll lg lr
 have r1:=heap_setCell_same _ _ 0 _ _ (.int .i64 wd) l5.1
 have r2:=heap_setCell_same _ _ 1 _ _ (.slice (some ⟨gc,0,none⟩) cs.length c) r1
 have r3:=heap_setCell_same _ _ 2 _ _ (.slice (some ⟨bl,0,none⟩) M M) r2
 have r4:=heap_setCell_same _ _ 3 _ _ (.slice (some ⟨bf,0,none⟩) M M) r3
 rw[<- h9] at r4
 simp only[List.setIfInBounds_toArray,List.set_cons_zero,List.set_cons_succ] at r4
 have o4:∀ b,b≠b5->x9.heap[b]?=x.heap[b]?:=fun b q=>by
  rw[h9,heap_setCell_other _ _ _ _ q,heap_setCell_other _ _ _ _ q,heap_setCell_other _ _ _ _ q,heap_setCell_other _ _ _ _ q]
 have hB9:Below w.heap.size w x9:=by
  rw[h9]
  exact(((hx.below.setCell (p:=⟨b5,0,none⟩) l5.2 _).setCell (p:=⟨b5,1,none⟩) l5.2 _).setCell (p:=⟨b5,2,none⟩) l5.2 _).setCell (p:=⟨b5,3,none⟩) l5.2 _
 have hS0:ScS w x9 wd cs M gc c bl bf 0 (madeCells #[.int .i64 0] M) (madeCells #[.slice none 0 0] M) (fun _=>.slice none 0 0) :=
  ⟨hB9,hown x9 _ lg.2 ((o4 gc (by omega)).trans lg.1),(o4 bl (by omega)).trans ll.1,(o4 bf (by omega)).trans lf.1,by simp[madeCells],by simp[madeCells],(fun j hj=>absurd hj (by omega)),(fun j hj=>absurd hj (by omega)),⟨⟨lg.2,ll.2,lf.2⟩,by omega⟩,(fun j hj=>absurd hj (by omega)),(fun j hj=>absurd hj (by omega)),(fun j _ _ hj=>absurd hj (by omega))⟩
 have hgo:=zov SS.out w x9 M gc c bl bf b5 (w.heap.size+1) HMW.out hS0 r4 ((o4 _ (by omega)).trans lr.1) ⟨⟨l5.2,lr.2⟩,by omega⟩ (Post:=fun e w'=>∃ gc c bl bf arrL arrF xs,e=.returned (.tuple #[.agg #[.int .i64 wd,.slice (some ⟨gc,0,none⟩) cs.length c,.slice (some ⟨bl,0,none⟩) M M,.slice (some ⟨bf,0,none⟩) M M],.bool true])/\ScS w w' wd cs M gc c bl bf M arrL arrF xs) (fun w' arrL arrF xs hS=>⟨gc,c,bl,bf,arrL,arrF,xs,rfl,hS⟩)
 exact hgo _ _ _ _ _ _ _ _ _ _ _ _ _ _ _ _ _ _ _ _ _ _ _ _ _ _
theorem zcA.imp{S':Nat->Prop}(h:zcA S w w')(hi:∀ e,S e->S' e):zcA S' w w':=⟨h.os,h.tape,h.output,h.size,fun k hk hn=>h.block k hk (fun q=>hn (hi k q))⟩
theorem zcA.trans{w1 w2:World}(h:zcA S w w1)(h2:zcA S w1 w2):zcA S w w2:=⟨h2.os.trans h.os,h2.tape.trans h.tape,h2.output.trans h.output,Nat.le_trans h.size h2.size,fun k hk hn=>(h2.block k (nll hk h.size) hn).trans (h.block k hk hn)⟩
theorem zcA.of(h:Below w.heap.size w w'):zcA S w w':=⟨h.os,h.tape,h.output,h.size,fun k hk _=>h.block k hk⟩
theorem zhL(h:Own w B v cs)(ho:zcA S w w')(hn:∀ b,v.ownBlock=some b->¬ S b):Own w' B v cs:=by
 obtain⟨h1,h2⟩:=h
 refine⟨h1,?_⟩
 rcases h2 with h2|⟨g,cp,cur,q1,q2,q3,q4⟩
 ·exact .inl h2
 ·exact .inr ⟨g,cp,cur,q1,q2,(ho.block g (gei q3).1 (hn g (by rw[q1];rfl))).trans q3,q4⟩
theorem zcB.offS(h:zcB w lo hi a M ad n cp f)(ho:zcA S w w')(ha:∀ x,a=some x->¬ S x.block)(hr:∀ k x,k<M->ad k=some x->¬ S x.block):zcB w' lo hi a M ad n cp f:=by
 rcases h with h|⟨b,rfl,h⟩
 ·exact .inl h
 ·exact .inr ⟨b,rfl,h.out,fun k hk=>ho.cell (ha _ rfl) (h.cell k hk),fun k hk=>(h.row k hk).offN ho (fun x q=>hr k x hk q),h.lt,h.inj,Nat.le_trans h.top ho.size⟩
def zbn(a:Option Addr)(e:Nat):Prop:=∃ x,a=some x/\e=x.block
theorem zd1{n:Nat}(h:(Value.slice a n c).ownBlock=some b):zbn a b:=by
 rcases a with _|x
 ·exact absurd h (by simp[Value.ownBlock])
 ·simp only[Value.ownBlock,Option.some.injEq] at h
  exact⟨x,rfl,h.symm⟩
structure zmS(sz:Nat)(ga la fa:Option Addr)(M:Nat)(ad:Nat->Option Addr):Prop where
 gl:∀ e,zbn ga e->¬ zbn la e
 gf:∀ e,zbn ga e->¬ zbn fa e
 gr:∀ e,zbn ga e->¬ zcM M ad e
 lf:∀ e,zbn la e->¬ zbn fa e
 lr:∀ e,zbn la e->¬ zcM M ad e
 lt:∀ e,zbn ga e\/zbn la e\/zcM M ad e->e<sz
end Sp
namespace Sp
open Go.RowKit
def zr4:Value->Option Addr
 | .slice a _ _=>a
 | _=>none
def zsO(w:World)(wd:Int)(cs:List (Int × Int))(M:Nat)(l:Nat->Int)(n:Nat->Nat)(f:Nat->Nat->Int)(ok:Bool)(r:Ending)(w':World):Prop :=
 ∃ ga la fa gc lc fc ad cp,r=.returned (.tuple #[.agg #[.int .i64 wd,.slice ga cs.length gc,.slice la M lc,.slice fa M fc],.bool ok])/\Own w' w.heap.size (.slice ga cs.length gc) cs/\RI w' la (M * 1) l/\zcB w' w.heap.size w'.heap.size fa M ad n cp f/\zmS w'.heap.size ga la fa M ad/\(∀ e,zbn ga e\/zbn la e\/zbn fa e\/zcM M ad e->w.heap.size<=e)/\Below w.heap.size w w'
theorem zaS{e:Nat}(h:zbn (some ⟨b,0,none⟩) e):e=b:=by
 obtain⟨x,h1,h2⟩:=h
 cases h1
 exact h2
theorem zqX{l:Nat->Int}(hr:r=.returned (.tuple #[.agg #[.int .i64 0,.slice none 0 0,.slice none 0 0,.slice none 0 0],.bool false]))(hb:Below w.heap.size w w'):zsO w 0 [] 0 l n f false r w':=by
 have h0:∀ e,¬ zbn none e:=fun e ⟨x,h,_⟩=>by cases h
 have h1:∀ e,¬ zcM 0 (fun _=>none) e:=fun e ⟨k,x,h,_⟩=>by omega
 exact⟨none,none,none,0,0,0,fun _=>none,fun _=>0,hr,⟨rfl,.inl ⟨rfl,rfl⟩⟩,.inl rfl,.inl rfl,⟨fun e h=>absurd h (h0 e),fun e h=>absurd h (h0 e),fun e h=>absurd h (h0 e),fun e h=>absurd h (h0 e),fun e h=>absurd h (h0 e),fun e h=>by rcases h with h|h|h;exact absurd h (h0 e);exact absurd h (h0 e);exact absurd h (h1 e)⟩,fun e h=>by rcases h with h|h|h|h;exact absurd h (h0 e);exact absurd h (h0 e);exact absurd h (h0 e);exact absurd h (h1 e),hb⟩
theorem zmX(h:ScS w w' wd cs M gc c bl bf M arrL arrF xs)(hr:r=.returned (.tuple #[.agg #[.int .i64 wd,.slice (some ⟨gc,0,none⟩) cs.length c,.slice (some ⟨bl,0,none⟩) M M,.slice (some ⟨bf,0,none⟩) M M],.bool true])) :
  zsO w wd cs M (fun j=>za3 wd cs (j:Int)) (fun j=>(zaL wd cs (j:Int)).length) (fun j i=>(zaL wd cs (j:Int)).getD i 0) true r w':=by
 have hx:∀ j,j<M->xs j=.slice (zr4 (xs j)) (zaL wd cs (j:Int)).length (zbK (xs j))/\RI w' (zr4 (xs j)) ((zaL wd cs (j:Int)).length * 1) (fun i=>(zaL wd cs (j:Int)).getD i 0)/\∀ x,zr4 (xs j)=some x->(xs j).ownBlock=some x.block:=fun j hj=>by
  obtain⟨a,c,h1,h2,h3⟩:=zed (h.row j hj)
  rw[h1] at h3 ⊢
  exact⟨rfl,h2,h3⟩
 have hblk:∀ j x,j<M->zr4 (xs j)=some x->(w.heap.size<=x.block/\x.block<w'.heap.size)/\(x.block≠gc/\x.block≠bl/\x.block≠bf):=fun j x hj q=>⟨World.ownsRow.lt (h.row j hj) x.block ((hx j hj).2.2 x q),h.apart j hj x.block ((hx j hj).2.2 x q)⟩
 have hrow:∀ e,zcM M (fun j=>zr4 (xs j)) e->(w.heap.size<=e/\e<w'.heap.size)/\(e≠gc/\e≠bl/\e≠bf):=fun e ⟨k,x,q1,q2,q3⟩=>by rw[q3];exact hblk k x q1 q2
 have hlt:=h.lt
 have hgl:=(World.ownsRow.lt h.grid gc rfl).2
 have hbl:=(gei h.lights).1
 have hbf:=(gei h.feet).1
 refine⟨some ⟨gc,0,none⟩,some ⟨bl,0,none⟩,some ⟨bf,0,none⟩,c,M,M,fun j=>zr4 (xs j),fun j=>zbK (xs j),hr,h.grid,.inr ⟨bl,rfl,hbl,fun j hj=>⟨?_,frozen_of_row _ _ j _ _ h.lights⟩⟩,.inr ⟨bf,rfl,⟨hlt.1.2.2,hbf⟩,fun k hk=>?_,fun k hk=>(hx k hk).2.1,fun k x hk q=>⟨(hblk k x hk q).1,(hblk k x hk q).2.2.2⟩,fun k k' x x' hk hk' q q' e=>?_,Nat.le_refl _⟩,⟨?_,?_,?_,?_,?_,?_⟩,?_,h.below⟩
 ·rw[cell_of_row _ _ j _ _ _ h.lights,h.atL j (by omega)]
 ·rw[cell_of_row _ _ k _ _ _ h.feet,h.atF k hk]
  exact congrArg some (hx k hk).1
 ·have q1:=(hx k hk).2.2 x q
  have q2:=(hx k' hk').2.2 x' q'
  rw[<- e] at q2
  exact h.inj k k' x.block hk hk' q1 q2
 ·intro e q q'
  have:=zaS q;have:=zaS q';omega
 ·intro e q q'
  have:=zaS q;have:=zaS q';omega
 ·intro e q q'
  have:=zaS q;have:=(hrow e q').2.1;omega
 ·intro e q q'
  have:=zaS q;have:=zaS q';omega
 ·intro e q q'
  have:=zaS q;have:=(hrow e q').2.2.1;omega
 ·rintro e (q|q|q)
  ·have:=zaS q;omega
  ·have:=zaS q;omega
  ·exact(hrow e q).1.2
 ·rintro e (q|q|q|q)
  ·have:=zaS q;omega
  ·have:=zaS q;omega
  ·have:=zaS q;omega
  ·exact(hrow e q).1.1
