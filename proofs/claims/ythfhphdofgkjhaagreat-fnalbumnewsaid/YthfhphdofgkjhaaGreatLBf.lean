/- Part. -/
import Derived.Test.YthfhphdofgkjhaaGreatLAy
import Derived.Test.YthfhphdofgkjhaaGreatLBd
set_option maxHeartbeats 4000000
set_option linter.unusedVariables false
namespace Go.Proofs.YthfhphdofgkjhaaGreat
variable{arrF arrL:Array Value}{Post:Ending->World->Prop}{wd:Int}{cs:List (Int × Int)}{l:List (Nat × Obj)}{xs:Nat->Value}{v:Value}{w w' w0:World}
namespace Sp
open Go.RowKit
attribute [local go_sem ↓] Go.wp_at_zero Go.wp_at_succ
structure ScS(w0 w:World)(wd:Int)(cs:List (Int × Int))(M gc c bl bf k:Nat)(arrL arrF:Array Value)(xs:Nat->Value):Prop where
 below:Below w0.heap.size w0 w
 grid:Own w w0.heap.size (.slice (some ⟨gc,0,none⟩) cs.length c) cs
 lights:w.heap[bl]?=some (.cells arrL 3)
 feet:w.heap[bf]?=some (.cells arrF 27)
 sizeL:arrL.size=M
 sizeF:arrF.size=M
 atL:∀ j,j<k->arrL[j]?=some (.int .i64 (zaW wd cs (j:Int)))
 atF:∀ j,j<k->arrF[j]?=some (xs j)
 lt:(w0.heap.size<=gc/\w0.heap.size<=bl/\w0.heap.size<=bf)/\gc≠bl/\gc≠bf/\bl≠bf
 row:∀ j,j<k->zj1 w w0.heap.size (xs j) (zaH wd cs (j:Int))
 apart:∀ j,j<k->∀ b,(xs j).ownBlock=some b->b≠gc/\b≠bl/\b≠bf
 inj:∀ j j' b,j<k->j'<k->(xs j).ownBlock=some b->(xs j').ownBlock=some b->j=j'
theorem zij{B:Nat}{x:Value}{xs:List Int}(h:zj1 w B x xs)(hk:∀ b,b<w.heap.size->x.ownBlock=some b->w'.heap[b]?=w.heap[b]?):zj1 w' B x xs:=by
 obtain⟨h1,h2⟩:=h
 refine⟨h1,?_⟩
 rcases h2 with h2|⟨g,cp,cur,q1,q2,q3,q4⟩
 ·exact .inl h2
 ·exact .inr ⟨g,cp,cur,q1,q2,(hk g (gei q3).1 (by rw[q1];rfl)).trans q3,q4⟩
theorem ScS.next{M gc c bl bf k:Nat}(hI:ScS w0 w wd cs M gc c bl bf k arrL arrF xs)(hkM:k<M)(hZ:zj1 w' w.heap.size v (zaH wd cs (k:Int)))(hL:w'.heap[bl]?=some (.cells (arrL.setIfInBounds k (.int .i64 (zaW wd cs (k:Int)))) 3))(hF:w'.heap[bf]?=some (.cells (arrF.setIfInBounds k v) 27))(hfr:∀ b,b<w.heap.size->b≠bl->b≠bf->w'.heap[b]?=w.heap[b]?)(hsz:w.heap.size<=w'.heap.size)(ho:w'.os=w.os/\w'.tape=w.tape/\w'.output=w.output) :
  ScS w0 w' wd cs M gc c bl bf (k+1) (arrL.setIfInBounds k (.int .i64 (zaW wd cs (k:Int)))) (arrF.setIfInBounds k v) (fun j=>if j=k then v else xs j):=by
 have hz0':=hI.below.size
 have hlt:=hI.lt
 have hbl:=(gei hI.lights).1
 have hbf:=(gei hI.feet).1
 have hgc:gc<w.heap.size:=(World.ownsRow.lt hI.grid gc rfl).2
 have hnew:∀ b,v.ownBlock=some b->w.heap.size<=b:=fun b hb=>(World.ownsRow.lt hZ b hb).1
 refine⟨⟨ho.1.trans hI.below.os,ho.2.1.trans hI.below.tape,ho.2.2.trans hI.below.output,Nat.le_trans hz0' hsz,fun b hb=>?_⟩,?_,hL,hF,by simpa using hI.sizeL,by simpa using hI.sizeF,fun j hj=>?_,fun j hj=>?_,hlt,fun j hj=>?_,fun j hj b hb=>?_,fun j j' b hj hj' hb hb'=>?_⟩
 ·exact(hfr b (by omega) (by omega) (by omega)).trans (hI.below.block b hb)
 ·obtain⟨g1,g2⟩:=hI.grid
  refine⟨g1,?_⟩
  rcases g2 with g2|⟨g,cp,cur,q1,q2,q3,q4⟩
  ·exact .inl g2
  ·have e:gc=g:=by simp only[Value.slice.injEq,Option.some.injEq,Addr.mk.injEq] at q1;exact q1.1.1
   subst e
   exact .inr ⟨gc,cp,cur,q1,q2,(hfr gc (gei q3).1 (by omega) (by omega)).trans q3,q4⟩
 ·by_cases q:j=k
  ·subst q
   rw[Array.getElem?_setIfInBounds_self_of_lt (by rw[hI.sizeL];exact hkM)]
  ·rw[Array.getElem?_setIfInBounds_ne (Ne.symm q)]
   exact hI.atL j (by omega)
 ·by_cases q:j=k
  ·subst q
   rw[Array.getElem?_setIfInBounds_self_of_lt (by rw[hI.sizeF];exact hkM),if_pos rfl]
  ·rw[Array.getElem?_setIfInBounds_ne (Ne.symm q),if_neg q]
   exact hI.atF j (by omega)
 ·by_cases q:j=k
  ·subst q
   rw[if_pos rfl]
   exact zeB hZ hz0'
  ·rw[if_neg q]
   exact zij (hI.row j (by omega)) (fun b hb1 hb2=>hfr b hb1 (hI.apart j (by omega) b hb2).2.1 (hI.apart j (by omega) b hb2).2.2)
 ·by_cases q:j=k
  ·rw[if_pos q] at hb
   have:=hnew b hb
   have:=hgc
   omega
  ·rw[if_neg q] at hb
   exact hI.apart j (by omega) b hb
 ·have hold:∀ i,i<k->(xs i).ownBlock=some b->b<w.heap.size:=fun i hi q=>(World.ownsRow.lt (hI.row i hi) b q).2
  by_cases q:j=k <;> by_cases q':j'=k
  ·omega
  ·rw[if_pos q] at hb
   rw[if_neg q'] at hb'
   have:=hnew b hb
   have:=hold j' (by omega) hb'
   omega
  ·rw[if_neg q] at hb
   rw[if_pos q'] at hb'
   have:=hnew b hb'
   have:=hold j (by omega) hb
   omega
  ·rw[if_neg q] at hb
   rw[if_neg q'] at hb'
   exact hI.inj j j' b (by omega) (by omega) hb hb'
theorem ScS.other{M gc c bl bf k:Nat}(h:ScS w0 w wd cs M gc c bl bf k arrL arrF xs)(hB:Below w0.heap.size w0 w')(hk:∀ b,b<w.heap.size->(b=gc\/b=bl\/b=bf\/∃ j,j<k/\(xs j).ownBlock=some b)->w'.heap[b]?=w.heap[b]?):ScS w0 w' wd cs M gc c bl bf k arrL arrF xs:=by
 have hkeep:∀ b o,(b=gc\/b=bl\/b=bf\/∃ j,j<k/\(xs j).ownBlock=some b)->w.heap[b]?=some o->w'.heap[b]?=some o:=fun b o q0 q=>(hk b (gei q).1 q0).trans q
 refine⟨hB,?_,hkeep _ _ (.inr (.inl rfl)) h.lights,hkeep _ _ (.inr (.inr (.inl rfl))) h.feet,h.sizeL,h.sizeF,h.atL,h.atF,h.lt,fun j hj=>zij (h.row j hj) (fun b hb1 hb2=>hk b hb1 (.inr (.inr (.inr ⟨j,hj,hb2⟩)))),h.apart,h.inj⟩
 obtain⟨g1,g2⟩:=h.grid
 refine⟨g1,?_⟩
 rcases g2 with g2|⟨g,cp,cur,q1,q2,q3,q4⟩
 ·exact .inl g2
 ·have e:gc=g:=by simp only[Value.slice.injEq,Option.some.injEq,Addr.mk.injEq] at q1;exact q1.1.1
  subst e
  exact .inr ⟨gc,cp,cur,q1,q2,hkeep _ _ (.inl rfl) q3,q4⟩
theorem zbo{b i:Nat}{cs:Array Value}{t:TypeId}(h:w.heap[b]?=some (.cells cs t))(hv:cs[i]?=some v):w.setCell ⟨b,i,none⟩ v=w:=by
 have e2:cs.setIfInBounds i v=cs:=by
  apply Array.ext_getElem?
  intro j
  by_cases q:i=j
  ·subst q
   rw[Array.getElem?_setIfInBounds_self_of_lt (gei hv).1,hv]
  ·rw[Array.getElem?_setIfInBounds_ne q]
 have e:(w.setCell ⟨b,i,none⟩ v).heap=w.heap:=by
  apply Array.ext_getElem?
  intro j
  by_cases q:j=b
  ·subst q
   rw[heap_setCell_same _ _ _ _ _ _ h,h,e2]
  ·exact heap_setCell_other _ _ _ _ q
 exact congrArg (fun h=>{ w with heap:=h }) e
noncomputable abbrev zqd:Code:=match Tryz.f15.body with|some (.seq _ (.seq _ (.seq _ (.seq _ r))))=>r|_=>.skip
set_option maxRecDepth 20000 in
theorem zny{W H:Nat}(S:Siz wd cs W H)(w0 x:World)(M gc c bl bf b5 rv:Nat)(hM:M=2 * (W+H))(hI0:ScS w0 x wd cs M gc c bl bf 0 (madeCells #[.int .i64 0] M) (madeCells #[.slice none 0 0] M) (fun _=>.slice none 0 0))(hb5:x.heap[b5]?=some (.cells #[.int .i64 wd,.slice (some ⟨gc,0,none⟩) cs.length c,.slice (some ⟨bl,0,none⟩) M M,.slice (some ⟨bf,0,none⟩) M M] 30))(hrv:x.heap[rv]?=some (.cells #[.int .i64 0,.slice none 0 0,.slice none 0 0,.slice none 0 0] 30))(hd:(w0.heap.size<=b5/\w0.heap.size<=rv)/\(b5≠gc/\b5≠bl/\b5≠bf)/\(rv≠gc/\rv≠bl/\rv≠bf)/\rv≠b5)(hK:∀(w':World) (arrL arrF:Array Value) (xs:Nat->Value),ScS w0 w' wd cs M gc c bl bf M arrL arrF xs->Post (.returned (.tuple #[(.agg #[.int .i64 wd,.slice (some ⟨gc,0,none⟩) cs.length c,.slice (some ⟨bl,0,none⟩) M M,.slice (some ⟨bf,0,none⟩) M M]),.bool true])) w')(u0 u1 u3 u6 u7 u8 u9 u10 u11 u12 u13 u14 u15 u16 u17 u18 u19 u20 u21 u22 u23 u24 u25 u26 u27 u28:Value) :
  zqd.wp SqP.prog (bodyPost SqP.prog Tryz.f15 Post) ⟨#[u0,u1,.pointer (some ⟨rv,0,none⟩),u3,.int .i64 (M:Int),.pointer (some ⟨b5,0,none⟩),u6,u7,u8,u9,u10,u11,u12,u13,u14,u15,u16,u17,u18,u19,u20,u21,u22,u23,u24,u25,u26,u27,u28],[]⟩ x:=by
 have hn:cs.length<=25:=by rw[S.el];exact Nat.le_trans (Nat.mul_le_mul S.hW.2 S.hH.2) (by omega)
 have hM20:M<=20:=by have:=S.hW;have:=S.hH;omega
 have HMW:Hid (M=2 * (W+H)):=hM
 have SS:Hid (Siz wd cs W H):=S
 clear hM
 have hrv0:Hid (x.heap[rv]?=some (.cells #[.int .i64 0,.slice none 0 0,.slice none 0 0,.slice none 0 0] 30)):=hrv
 simp only[zqd,Tryz.f15]
 go_wp2_with fail
 go_loopw [6] (fun kk wr=>∃ (k:Nat) (arrL arrF:Array Value) (xs:Nat->Value),k<=M/\kk=.int .i64 k/\ScS w0 wr wd cs M gc c bl bf k arrL arrF xs/\wr.heap[b5]?=some (.cells #[.int .i64 wd,.slice (some ⟨gc,0,none⟩) cs.length c,.slice (some ⟨bl,0,none⟩) M M,.slice (some ⟨bf,0,none⟩) M M] 30)/\wr.heap[rv]?=some (.cells #[.int .i64 0,.slice none 0 0,.slice none 0 0,.slice none 0 0] 30)/\x.heap.size<=wr.heap.size/\∀ j,j<k->∀ b,(xs j).ownBlock=some b->x.heap.size<=b) (fun kk _=>M - (intOf kk).toNat)
 case atStart=>exact⟨0,_,_,_,Nat.zero_le _,rfl,hI0,hb5,hrv,Nat.le_refl _,fun j hj=>absurd hj (by omega)⟩
 case round =>
  rename World=>wo
  obtain⟨k,arrL,arrF,xs,hkM',rfl,hI,hb5,hrv,hxs,hnew⟩:=hrel
  have c0:wo.cell? ⟨b5,0,none⟩=some (.int .i64 wd):=(cell_of_row _ _ 0 _ _ _ hb5).trans rfl
  have c1:wo.cell? ⟨b5,1,none⟩=some (.slice (some ⟨gc,0,none⟩) cs.length c):=(cell_of_row _ _ 1 _ _ _ hb5).trans rfl
  have c2:wo.cell? ⟨b5,2,none⟩=some (.slice (some ⟨bl,0,none⟩) M M):=(cell_of_row _ _ 2 _ _ _ hb5).trans rfl
  have c3:wo.cell? ⟨b5,3,none⟩=some (.slice (some ⟨bf,0,none⟩) M M):=(cell_of_row _ _ 3 _ _ _ hb5).trans rfl
  have hrx:=(gei hrv0.out).1
  have h5l:=(gei hb5).1
  have hrl:=(gei hrv).1
  by_cases hkM:k<M
  ·have bl1:decide ((k:Int)<(M:Int))=true:=decide_eq_true (by omega)
   have hlt:=hI.lt
   have hin:inS wd cs (k:Int)=true:=by unfold inS;rw[SS.out.em];exact decide_eq_true (by have:=HMW.out;omega)
   obtain⟨ax,cx,ex,hCx⟩:=hI.grid.slice
   simp only[Value.slice.injEq,true_and] at ex
   obtain⟨rfl,rfl⟩:=ex
   have HI:Hid (ScS w0 wo wd cs M gc c bl bf k arrL arrF xs):=hI
   have H5:Hid (wo.heap[b5]?=some (.cells #[.int .i64 wd,.slice (some ⟨gc,0,none⟩) cs.length c,.slice (some ⟨bl,0,none⟩) M M,.slice (some ⟨bf,0,none⟩) M M] 30)):=hb5
   have HR:Hid (wo.heap[rv]?=some (.cells #[.int .i64 0,.slice none 0 0,.slice none 0 0,.slice none 0 0] 30)):=hrv
   have hlook:=(zoX (aLt:=Sq.altP)) SS.out (some ⟨gc,0,none⟩) c wo hCx M k bl bf hkM hM20 hin arrL arrF hI.lights hI.feet hI.sizeL hI.sizeF hlt.2.2.2 (fun b off e=>by simp only[Option.some.injEq,Addr.mk.injEq] at e;omega)
   clear hI hb5 hrv hCx
   go_wp2_with fail
   refine hlook.mono ?_
   rintro e w1 ⟨rfl,v,hZ,hL,hF,hfr,hsz,ho⟩
   have hnx:=HI.out.next hkM hZ hL hF hfr hsz ho
   have hb51:=(hfr b5 h5l hd.2.1.2.1 hd.2.1.2.2).trans H5.out
   have hrv1:=(hfr rv hrl hd.2.2.1.2.1 hd.2.2.1.2.2).trans HR.out
   have d0:w1.cell? ⟨b5,0,none⟩=some (.int .i64 wd):=(cell_of_row _ _ 0 _ _ _ hb51).trans rfl
   have d1:w1.cell? ⟨b5,1,none⟩=some (.slice (some ⟨gc,0,none⟩) cs.length c):=(cell_of_row _ _ 1 _ _ _ hb51).trans rfl
   have d2:w1.cell? ⟨b5,2,none⟩=some (.slice (some ⟨bl,0,none⟩) M M):=(cell_of_row _ _ 2 _ _ _ hb51).trans rfl
   have d3:w1.cell? ⟨b5,3,none⟩=some (.slice (some ⟨bf,0,none⟩) M M):=(cell_of_row _ _ 3 _ _ _ hb51).trans rfl
   have f0:=frozen_of_row _ _ 0 _ _ hb51
   have f1:=frozen_of_row _ _ 1 _ _ hb51
   have f2:=frozen_of_row _ _ 2 _ _ hb51
   have f3:=frozen_of_row _ _ 3 _ _ hb51
   have hnw:∀ b,v.ownBlock=some b->wo.heap.size<=b:=fun b hb=>(World.ownsRow.lt hZ b hb).1
   have HB:Hid (w1.heap[b5]?=some (.cells #[.int .i64 wd,.slice (some ⟨gc,0,none⟩) cs.length c,.slice (some ⟨bl,0,none⟩) M M,.slice (some ⟨bf,0,none⟩) M M] 30)):=hb51
   clear hlook hZ hL hF hfr HI H5 HR hb51
   go_wp2_with fail
   rw[zbo HB.out (i:=0) (v:=.int .i64 wd) rfl,zbo HB.out (i:=1) (v:=.slice (some ⟨gc,0,none⟩) cs.length c) rfl,zbo HB.out (i:=2) (v:=.slice (some ⟨bl,0,none⟩) M M) rfl,zbo HB.out (i:=3) (v:=.slice (some ⟨bf,0,none⟩) M M) rfl]
   refine⟨⟨k+1,_,_,_,by omega,by simp,hnx,HB.out,hrv1,Nat.le_trans hxs hsz,fun j hj b hb=>?_⟩,?_⟩
   ·by_cases q:j=k
    ·rw[if_pos q] at hb
     exact Nat.le_trans hxs (hnw b hb)
    ·rw[if_neg q] at hb
     exact hnew j (by omega) b hb
   ·simp only[intOf]
    omega
  ·have bl1:decide ((k:Int)<(M:Int))=false:=decide_eq_false (by omega)
   have ek:k=M:=by omega
   subst ek
   have f0:=frozen_of_row _ _ 0 _ _ hrv
   have f1:=frozen_of_row _ _ 1 _ _ hrv
   have f2:=frozen_of_row _ _ 2 _ _ hrv
   have f3:=frozen_of_row _ _ 3 _ _ hrv
   have g0:wo.cell? ⟨rv,0,none⟩=some (.int .i64 0):=(cell_of_row _ _ 0 _ _ _ hrv).trans rfl
   have g1:wo.cell? ⟨rv,1,none⟩=some (.slice none 0 0):=(cell_of_row _ _ 1 _ _ _ hrv).trans rfl
   have g2:wo.cell? ⟨rv,2,none⟩=some (.slice none 0 0):=(cell_of_row _ _ 2 _ _ _ hrv).trans rfl
   have g3:wo.cell? ⟨rv,3,none⟩=some (.slice none 0 0):=(cell_of_row _ _ 3 _ _ _ hrv).trans rfl
   have hlt:=hI.lt
   have HI:Hid (ScS w0 wo wd cs k gc c bl bf k arrL arrF xs):=hI
   have HR:Hid (wo.heap[rv]?=some (.cells #[.int .i64 0,.slice none 0 0,.slice none 0 0,.slice none 0 0] 30)):=hrv
   clear hI hb5 hrv
   go_wp2_with fail
   obtain⟨w9,h9⟩:∃ w9,w9=((((wo.setCell ⟨rv,0,none⟩ (.int .i64 wd)).setCell ⟨rv,1,none⟩ (.slice (some ⟨gc,0,none⟩) cs.length c)).setCell ⟨rv,2,none⟩ (.slice (some ⟨bl,0,none⟩) k k)).setCell ⟨rv,3,none⟩ (.slice (some ⟨bf,0,none⟩) k k)):=⟨_,rfl⟩
   rw[<- h9]
   have r1:=heap_setCell_same _ _ 0 _ _ (.int .i64 wd) HR.out
   have r2:=heap_setCell_same _ _ 1 _ _ (.slice (some ⟨gc,0,none⟩) cs.length c) r1
   have r3:=heap_setCell_same _ _ 2 _ _ (.slice (some ⟨bl,0,none⟩) k k) r2
   have r4:=heap_setCell_same _ _ 3 _ _ (.slice (some ⟨bf,0,none⟩) k k) r3
   rw[<- h9] at r4
   simp only[List.setIfInBounds_toArray,List.set_cons_zero,List.set_cons_succ] at r4
   have o4:∀ b,b≠rv->w9.heap[b]?=wo.heap[b]?:=fun b q=>by
    rw[h9,heap_setCell_other _ _ _ _ q,heap_setCell_other _ _ _ _ q,heap_setCell_other _ _ _ _ q,heap_setCell_other _ _ _ _ q]
   have hB9:Below w0.heap.size w0 w9:=by
    rw[h9]
    exact(((HI.out.below.setCell (p:=⟨rv,0,none⟩) hd.1.2 _).setCell (p:=⟨rv,1,none⟩) hd.1.2 _).setCell (p:=⟨rv,2,none⟩) hd.1.2 _).setCell (p:=⟨rv,3,none⟩) hd.1.2 _
   have k0:w9.cell? ⟨rv,0,none⟩=some (.int .i64 wd):=(cell_of_row _ _ 0 _ _ _ r4).trans rfl
   have k1:w9.cell? ⟨rv,1,none⟩=some (.slice (some ⟨gc,0,none⟩) cs.length c):=(cell_of_row _ _ 1 _ _ _ r4).trans rfl
   have k2:w9.cell? ⟨rv,2,none⟩=some (.slice (some ⟨bl,0,none⟩) k k):=(cell_of_row _ _ 2 _ _ _ r4).trans rfl
   have k3:w9.cell? ⟨rv,3,none⟩=some (.slice (some ⟨bf,0,none⟩) k k):=(cell_of_row _ _ 3 _ _ _ r4).trans rfl
   refine bodyPost_ret (v:=.tuple #[(.agg #[.int .i64 wd,.slice (some ⟨gc,0,none⟩) cs.length c,.slice (some ⟨bl,0,none⟩) k k,.slice (some ⟨bf,0,none⟩) k k]),.bool true]) (by simp[results,go_sem,k0,k1,k2,k3]) rfl (hK w9 arrL arrF xs (HI.out.other hB9 (fun b hb q=>o4 b ?_)))
   rcases q with rfl|rfl|rfl|⟨j,hj,q⟩
   ·exact Ne.symm hd.2.2.1.1
   ·exact Ne.symm hd.2.2.1.2.1
   ·exact Ne.symm hd.2.2.1.2.2
   ·have:=hnew j hj b q
    omega
theorem zko(wd:Int)(a:Option Addr)(cap:Nat)(cs:List (Int × Int))(w:World):zcN w ((w.alloc (.cells #[.int .i64 wd,.slice a cs.length cap] 25)).alloc (.cells #[.int .i64 0,.slice none 0 0,.slice none 0 0,.slice none 0 0] 30)) [(w.heap.size+1,.cells #[.int .i64 0,.slice none 0 0,.slice none 0 0,.slice none 0 0] 30),(w.heap.size,.cells #[.int .i64 wd,.slice a cs.length cap] 25)]:=by
 have h1:zcN w w []:=⟨Below.refl _ _,(fun _ h=>nomatch h),List.nodup_nil⟩
 have h2:=(h1.made (.cells #[.int .i64 wd,.slice a cs.length cap] 25)).made (.cells #[.int .i64 0,.slice none 0 0,.slice none 0 0,.slice none 0 0] 30)
 have e:(w.alloc (.cells #[.int .i64 wd,.slice a cs.length cap] 25)).heap.size=w.heap.size+1:=Array.size_push _
 rw[e] at h2
 exact h2
theorem zcN.on{x x':World}(h:zcN w0 x l)(hb:Below x.heap.size x x'):zcN w0 x' l:=by
 have hz:=h.below.size
 refine⟨⟨hb.os.trans h.below.os,hb.tape.trans h.below.tape,hb.output.trans h.below.output,Nat.le_trans hz hb.size,fun k hk=>(hb.block k (by omega)).trans (h.below.block k hk)⟩,fun p hp=>?_,h.once⟩
 have q:=h.lies p hp
 exact⟨(hb.block p.1 (gei q.1).1).trans q.1,q.2⟩
theorem zfK(wd:Int)(a:Option Addr)(cap:Nat)(cs:List (Int × Int))(w:World)(h:zai w a cs)(hm:cs.length<=1048576)(hk:okG wd cs=false) :
  Calls SqP.prog 15 #[.agg #[.int .i64 wd,.slice a cs.length cap]] w fun e w'=>e=.returned (.tuple #[.agg #[.int .i64 0,.slice none 0 0,.slice none 0 0,.slice none 0 0],.bool false])/\Below w.heap.size w w':=by
 obtain⟨w2,hw2⟩:∃ w2,w2=(w.alloc (.cells #[.int .i64 wd,.slice a cs.length cap] 25)).alloc (.cells #[.int .i64 0,.slice none 0 0,.slice none 0 0,.slice none 0 0] 30):=⟨_,rfl⟩
 have hM:zcN w w2 [(w.heap.size+1,.cells #[.int .i64 0,.slice none 0 0,.slice none 0 0,.slice none 0 0] 30),(w.heap.size,.cells #[.int .i64 wd,.slice a cs.length cap] 25)]:=by rw[hw2];exact zko wd a cap cs w
 have hG:=(zbD (aLt:=Sq.altP)) wd a cap cs w2 (h.below hM.below) (by omega)
 rw[hk] at hG
 have c0:w2.cell? ⟨w.heap.size,0,none⟩=some (.int .i64 wd):=(cell_of_row _ _ 0 _ _ _ (hM.lies (w.heap.size,.cells #[.int .i64 wd,.slice a cs.length cap] 25) (by simp)).1).trans rfl
 have c1:w2.cell? ⟨w.heap.size,1,none⟩=some (.slice a cs.length cap):=(cell_of_row _ _ 1 _ _ _ (hM.lies (w.heap.size,.cells #[.int .i64 wd,.slice a cs.length cap] 25) (by simp)).1).trans rfl
 have HM:Hid (zcN w w2 [(w.heap.size+1,.cells #[.int .i64 0,.slice none 0 0,.slice none 0 0,.slice none 0 0] 30),(w.heap.size,.cells #[.int .i64 wd,.slice a cs.length cap] 25)]):=hM
 clear hM
 go_enter SqP.func15,Tryz.ntmps15
 go_upto_region 1 with fail
 rw[<- hw2]
 clear hw2
 go_wp2_with fail
 refine hG.mono ?_
 rintro e w3 ⟨rfl,hb3⟩
 have h3:zcN w w3 [(w.heap.size+1,.cells #[.int .i64 0,.slice none 0 0,.slice none 0 0,.slice none 0 0] 30),(w.heap.size,.cells #[.int .i64 wd,.slice a cs.length cap] 25)]:=HM.out.on hb3
 clear hG hb3 c0 c1
 have hrv:w3.heap[w.heap.size+1]?=some (.cells #[.int .i64 0,.slice none 0 0,.slice none 0 0,.slice none 0 0] 30):=(h3.lies (w.heap.size+1,.cells #[.int .i64 0,.slice none 0 0,.slice none 0 0,.slice none 0 0] 30) (by simp)).1
 have f0:=frozen_of_row _ _ 0 _ _ hrv
 have f1:=frozen_of_row _ _ 1 _ _ hrv
 have f2:=frozen_of_row _ _ 2 _ _ hrv
 have f3:=frozen_of_row _ _ 3 _ _ hrv
 have g0:w3.cell? ⟨w.heap.size+1,0,none⟩=some (.int .i64 0):=(cell_of_row _ _ 0 _ _ _ hrv).trans rfl
 have g1:w3.cell? ⟨w.heap.size+1,1,none⟩=some (.slice none 0 0):=(cell_of_row _ _ 1 _ _ _ hrv).trans rfl
 have g2:w3.cell? ⟨w.heap.size+1,2,none⟩=some (.slice none 0 0):=(cell_of_row _ _ 2 _ _ _ hrv).trans rfl
 have g3:w3.cell? ⟨w.heap.size+1,3,none⟩=some (.slice none 0 0):=(cell_of_row _ _ 3 _ _ _ hrv).trans rfl
 have HR:Hid (w3.heap[w.heap.size+1]?=some (.cells #[.int .i64 0,.slice none 0 0,.slice none 0 0,.slice none 0 0] 30)):=hrv
 have hB3:Hid (Below w.heap.size w w3):=h3.below
 clear hrv HM h3
 go_wp2_with fail
 rw[zbo HR.out (i:=0) (v:=.int .i64 0) rfl,zbo HR.out (i:=1) (v:=.slice none 0 0) rfl,zbo HR.out (i:=2) (v:=.slice none 0 0) rfl,zbo HR.out (i:=3) (v:=.slice none 0 0) rfl]
 refine bodyPost_ret (v:=.tuple #[.agg #[.int .i64 0,.slice none 0 0,.slice none 0 0,.slice none 0 0],.bool false]) (by simp[results,go_sem,g0,g1,g2,g3]) rfl ⟨rfl,hB3.out⟩
theorem zeQ{W H:Nat}(S:Siz wd cs W H)(a:Option Addr)(cap:Nat)(w:World)(h:zai w a cs) :
  Calls SqP.prog 15 #[.agg #[.int .i64 wd,.slice a cs.length cap]] w fun e w'=>∃ gc c bl bf arrL arrF xs,e=.returned (.tuple #[.agg #[.int .i64 wd,.slice (some ⟨gc,0,none⟩) cs.length c,.slice (some ⟨bl,0,none⟩) (2 * (W+H)) (2 * (W+H)),.slice (some ⟨bf,0,none⟩) (2 * (W+H)) (2 * (W+H))],.bool true])/\ScS w w' wd cs (2 * (W+H)) gc c bl bf (2 * (W+H)) arrL arrF xs:=by
 have hn:cs.length<=25:=by rw[S.el];exact Nat.le_trans (Nat.mul_le_mul S.hW.2 S.hH.2) (by omega)
 have hp:0<cs.length:=by rw[S.el];exact Nat.mul_pos (by have:=S.hW;omega) (by have:=S.hH;omega)
 have hk:=S.ok
 obtain⟨M,hMW⟩:∃ M,M=2 * (W+H):=⟨_,rfl⟩
 have hM20:M<=20:=by have:=S.hW;have:=S.hH;omega
 have hmany:∀ w:World,Calls SqP.prog 35 #[.agg #[.int .i64 wd,.slice a cs.length cap]] w fun e w'=>e=.returned (.int .i64 (M:Int))/\Below w.heap.size w w':=by
  intro w
  have e1:(2 * ((W:Int)+(H:Int)))=(M:Int):=by omega
  rw[<- e1,S.ew]
  exact zgB W H a cs.length cap w S.hW S.hH.2 (by omega) (by rw[S.el,Nat.mul_div_cancel_left _ (by have:=S.hW;omega)])
 have HH:Hid (zai w a cs):=h
 have SS:Hid (Siz wd cs W H):=S
 rw[<- hMW]
 have HMW:Hid (M=2 * (W+H)):=hMW
 clear hMW
 obtain⟨w2,hw2⟩:∃ w2,w2=(w.alloc (.cells #[.int .i64 wd,.slice a cs.length cap] 25)).alloc (.cells #[.int .i64 0,.slice none 0 0,.slice none 0 0,.slice none 0 0] 30):=⟨_,rfl⟩
 have hM:zcN w w2 [(w.heap.size+1,.cells #[.int .i64 0,.slice none 0 0,.slice none 0 0,.slice none 0 0] 30),(w.heap.size,.cells #[.int .i64 wd,.slice a cs.length cap] 25)]:=by rw[hw2];exact zko wd a cap cs w
 have hG:=(zbD (aLt:=Sq.altP)) wd a cap cs w2 (h.below hM.below) (by omega)
 rw[hk] at hG
 have c0:w2.cell? ⟨w.heap.size,0,none⟩=some (.int .i64 wd):=(cell_of_row _ _ 0 _ _ _ (hM.lies (w.heap.size,.cells #[.int .i64 wd,.slice a cs.length cap] 25) (by simp)).1).trans rfl
 have c1:w2.cell? ⟨w.heap.size,1,none⟩=some (.slice a cs.length cap):=(cell_of_row _ _ 1 _ _ _ (hM.lies (w.heap.size,.cells #[.int .i64 wd,.slice a cs.length cap] 25) (by simp)).1).trans rfl
 have HM:Hid (zcN w w2 [(w.heap.size+1,.cells #[.int .i64 0,.slice none 0 0,.slice none 0 0,.slice none 0 0] 30),(w.heap.size,.cells #[.int .i64 wd,.slice a cs.length cap] 25)]):=hM
 clear hM
 go_enter SqP.func15,Tryz.ntmps15
 go_upto_region 1 with fail
 rw[<- hw2]
 clear hw2
 go_wp2_with fail
 refine hG.mono ?_
 rintro e w3 ⟨rfl,hb3⟩
 have h3:zcN w w3 [(w.heap.size+1,.cells #[.int .i64 0,.slice none 0 0,.slice none 0 0,.slice none 0 0] 30),(w.heap.size,.cells #[.int .i64 wd,.slice a cs.length cap] 25)]:=HM.out.on hb3
 clear hG hb3 c0 c1
 clear S h hk HM
 have c0:w3.cell? ⟨w.heap.size,0,none⟩=some (.int .i64 wd):=(cell_of_row _ _ 0 _ _ _ (h3.lies (w.heap.size,.cells #[.int .i64 wd,.slice a cs.length cap] 25) (by simp)).1).trans rfl
 have c1:w3.cell? ⟨w.heap.size,1,none⟩=some (.slice a cs.length cap):=(cell_of_row _ _ 1 _ _ _ (h3.lies (w.heap.size,.cells #[.int .i64 wd,.slice a cs.length cap] 25) (by simp)).1).trans rfl
 have H3:Hid (zcN w w3 [(w.heap.size+1,.cells #[.int .i64 0,.slice none 0 0,.slice none 0 0,.slice none 0 0] 30),(w.heap.size,.cells #[.int .i64 wd,.slice a cs.length cap] 25)]):=h3
 clear h3
 go_wp2_with fail
 refine(hmany _).mono ?_
 rintro e w4 ⟨rfl,hb4⟩
 have h4:zcN w w4 [(w.heap.size+1,.cells #[.int .i64 0,.slice none 0 0,.slice none 0 0,.slice none 0 0] 30),(w.heap.size,.cells #[.int .i64 wd,.slice a cs.length cap] 25)]:=H3.out.on hb4
 clear hmany hb4 c0 c1 H3
 go_upto_region 4 with fail
 rename_i Q' K hK
 refine zsq w w4 a cap M (w.heap.size) (w.heap.size+1) hM20 hp h4 (fun _ _ d _ _ h=>by cases d <;> exact h) (fun y hy=>?_) _ _ _ _ _ _ _ _ _ _ _ _ _ _ _ _ _ _ _ _ _ _ _ _ _ _ (fun x gc c cur bl bf b5 hown hx=>?_)
 ·obtain h0|⟨b,off,rfl,hbl,hcell⟩:=HH.out.below hy
  ·rw[h0] at hp
   exact absurd hp (by simp)
  ·exact zk8 wd b off cap cs y hbl hcell (by omega) hp
 refine hK _ _ ?_
 obtain⟨x9,h9⟩:∃ x9,x9=((((x.setCell ⟨b5,0,none⟩ (.int .i64 wd)).setCell ⟨b5,1,none⟩ (.slice (some ⟨gc,0,none⟩) cs.length c)).setCell ⟨b5,2,none⟩ (.slice (some ⟨bl,0,none⟩) M M)).setCell ⟨b5,3,none⟩ (.slice (some ⟨bf,0,none⟩) M M)):=⟨_,rfl⟩
 rw[<- h9]
 have n:=hx.once
 simp only[List.cons_append,List.nil_append,List.map_cons,List.map_nil,List.nodup_cons,List.mem_cons,List.not_mem_nil,or_false,not_or] at n
 have l5:=hx.lies (b5,.cells #[.int .i64 0,.slice none 0 0,.slice none 0 0,.slice none 0 0] 30) (by simp)
 have lf:=hx.lies (bf,.cells (madeCells #[.slice none 0 0] M) 27) (by simp)
 have ll:=hx.lies (bl,.cells (madeCells #[.int .i64 0] M) 3) (by simp)
 have lg:=hx.lies (gc,.cells cur 64) (by simp)
 have lr:=hx.lies (w.heap.size+1,.cells #[.int .i64 0,.slice none 0 0,.slice none 0 0,.slice none 0 0] 30) (by simp)
 dsimp only at l5 lf ll lg lr
 have r1:=heap_setCell_same _ _ 0 _ _ (.int .i64 wd) l5.1
 have r2:=heap_setCell_same _ _ 1 _ _ (.slice (some ⟨gc,0,none⟩) cs.length c) r1
 have r3:=heap_setCell_same _ _ 2 _ _ (.slice (some ⟨bl,0,none⟩) M M) r2
 have r4:=heap_setCell_same _ _ 3 _ _ (.slice (some ⟨bf,0,none⟩) M M) r3
 rw[<- h9] at r4
 simp only[List.setIfInBounds_toArray,List.set_cons_zero,List.set_cons_succ] at r4
 have o4:∀ b,b≠b5->x9.heap[b]?=x.heap[b]?:=fun b q=>by
  rw[h9,heap_setCell_other _ _ _ _ q,heap_setCell_other _ _ _ _ q,heap_setCell_other _ _ _ _ q,heap_setCell_other _ _ _ _ q]
 have hB9:Below w.heap.size w x9:=by
  rw[h9]
  exact(((hx.below.setCell (p:=⟨b5,0,none⟩) l5.2 _).setCell (p:=⟨b5,1,none⟩) l5.2 _).setCell (p:=⟨b5,2,none⟩) l5.2 _).setCell (p:=⟨b5,3,none⟩) l5.2 _
 have hS0:ScS w x9 wd cs M gc c bl bf 0 (madeCells #[.int .i64 0] M) (madeCells #[.slice none 0 0] M) (fun _=>.slice none 0 0) :=
  ⟨hB9,hown x9 _ lg.2 ((o4 gc (by omega)).trans lg.1),(o4 bl (by omega)).trans ll.1,(o4 bf (by omega)).trans lf.1,by simp[madeCells],by simp[madeCells],(fun j hj=>absurd hj (by omega)),(fun j hj=>absurd hj (by omega)),⟨⟨lg.2,ll.2,lf.2⟩,by omega⟩,(fun j hj=>absurd hj (by omega)),(fun j hj=>absurd hj (by omega)),(fun j _ _ hj=>absurd hj (by omega))⟩
 have hgo:=zny SS.out w x9 M gc c bl bf b5 (w.heap.size+1) HMW.out hS0 r4 ((o4 _ (by omega)).trans lr.1) ⟨⟨l5.2,lr.2⟩,by omega⟩ (Post:=fun e w'=>∃ gc c bl bf arrL arrF xs,e=.returned (.tuple #[.agg #[.int .i64 wd,.slice (some ⟨gc,0,none⟩) cs.length c,.slice (some ⟨bl,0,none⟩) M M,.slice (some ⟨bf,0,none⟩) M M],.bool true])/\ScS w w' wd cs M gc c bl bf M arrL arrF xs) (fun w' arrL arrF xs hS=>⟨gc,c,bl,bf,arrL,arrF,xs,rfl,hS⟩)
 exact hgo _ _ _ _ _ _ _ _ _ _ _ _ _ _ _ _ _ _ _ _ _ _ _ _ _ _
