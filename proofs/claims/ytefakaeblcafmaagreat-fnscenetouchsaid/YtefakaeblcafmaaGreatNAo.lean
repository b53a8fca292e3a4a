/- Part. -/
import Derived.Test.YtefakaeblcafmaaGreatNAn
set_option maxHeartbeats 4000000
set_option maxRecDepth 20000
set_option linter.unusedVariables false
namespace Go.Proofs.YtefakaeblcafmaaGreat
variable{k wd:Int}{u:Int × Int × Int}{es:List (Int × Int × Int)}{cs:List (Int × Int)}{xs:List Value}{B g m n wt:Nat}{c c':Nat->Value}{a:Option Addr}{r:Option Nat}{v:Value}{w w':World}
namespace Sp
variable{aLt:Nat->Func->Func}
open Go.RowKit
def zeo:List (Int × Int × Int)->Int
 | []=>0
 | t::r=>t.2.2+zeo r
theorem zcC(a b:List (Int × Int × Int)):zeo (a++b)=zeo a+zeo b:=by
 induction a with
 | nil=>simp[zeo]
 | cons t r ih=>simp only[List.cons_append,zeo,ih];omega
def zmr(wd:Int)(cs:List (Int × Int))(t:Int × Int × Int):Prop :=
 1<=t.2.2/\((t.1=0/\0<=t.2.1/\t.2.1<zbU wd cs)\/((0<=t.2.1/\t.2.1<(cs.length:Int))/\((t.1=1/\kd cs t.2.1=1)\/(t.1=2/\kd cs t.2.1=7)\/(t.1=3/\(kd cs t.2.1=4\/kd cs t.2.1=5\/kd cs t.2.1=6)))))
def zsq(cs:List (Int × Int))(wt:Nat)(t:Int × Int × Int):Prop:=okS cs (t.1,t.2.1)/\1<=t.2.2/\t.2.2<=(wt:Int)
structure zoz(wd:Int)(cs:List (Int × Int))(wt:Nat)(t:Tr):Prop where
 sum:zeo t.2=(wt:Int)
 ends : ∀ u ∈ t.2, zmr wd cs u
 vis:∀ u∈t.1,zsq cs wt u
theorem zhI{a b:Tr}(ha:zoz wd cs m a)(hb:zoz wd cs n b)(h:m+n=wt):zoz wd cs wt (zaZ a b):=by
 refine⟨?_,?_,?_⟩
 ·simp only[zaZ,zcC,ha.sum,hb.sum];omega
 ·intro u hu
  simp only[zaZ,List.mem_append] at hu
  rcases hu with q|q
  ·exact ha.ends u q
  ·exact hb.ends u q
 ·intro u hu
  simp only[zaZ,List.mem_append] at hu
  rcases hu with q|q
  ·obtain⟨h1,h2,h3⟩:=ha.vis u q;exact⟨h1,h2,qg⟩
  ·obtain⟨h1,h2,h3⟩:=hb.vis u q;exact⟨h1,h2,qg⟩
theorem zfa(wd:Int)(cs:List (Int × Int)):zoz wd cs 0 ([],[]):=⟨rfl,qk,qk⟩
theorem zes{x:Int}(h:0<wt->zmr wd cs (k,x,(wt:Int))):zoz wd cs wt (zde k x wt):=by
 unfold zde
 by_cases h0:wt=0
 ·subst h0;exact zfa wd cs
 ·rw[if_neg h0]
  refine⟨by simp[zeo],?_,qk⟩
  intro u hu
  simp only[List.mem_singleton] at hu
  subst hu
  exact h qg
theorem zhJ{f:Nat}(hok:okG wd cs=true)(ih:∀ x d wt,okS cs (x,d)->zas wd cs f x d wt->zoz wd cs wt (zaE wd cs f x d wt))(x e:Int)(h:Nat)(hs:okS cs (x,e))(hE:lvE wd cs (zas wd cs f) x e h) :
  zoz wd cs h (lvT wd cs (zaE wd cs f) x e h):=by
 unfold lvT
 by_cases h0:h=0
 ·subst h0;rw[if_pos rfl];exact zfa wd cs
 ·rw[if_neg h0]
  by_cases c:(zbH wd cs x e).2.2=true
  ·rw[if_pos c]
   obtain⟨r1,r2,_⟩:=zbq c
   rcases hE with q|q|q
   ·exact absurd q h0
   ·rw[c] at q;cases q
   ·exact ih _ _ _ ⟨r1,r2⟩ q
  ·rw[if_neg c]
   refine zes fun _=>⟨by simp only;omega,Or.inl ⟨rfl,?_⟩⟩
   rcases zpz hok hs.1 hs.2 with ⟨x2,d2,q,_⟩|⟨_,q⟩
   ·simp only at q
    rw[q] at c
    exact absurd rfl c
   ·simp only at q
    unfold zbT at q
    split at q
    ·next z=>exact z.2
    ·simp at q
theorem zos(hok:okG wd cs=true):∀ f x d wt,okS cs (x,d)->zas wd cs f x d wt->zoz wd cs wt (zaE wd cs f x d wt):=by
 intro f
 induction f with
 | zero =>
  intro x d wt _ hE
  have:wt=0:=hE
  subst this
  exact zfa wd cs
 | succ f ih =>
  intro x d wt hs hE
  by_cases h0:wt=0
  ·subst h0;rw[zbN];exact zfa wd cs
  ·simp only[zaE]
   rw[if_neg h0]
   have hst:okS cs (x,zaL (kd cs x) d):=⟨hs.1,zdL hs.2⟩
   have hI:zoz wd cs wt (zbb wd cs (zaE wd cs f) x d wt):=by
    unfold zbb
    by_cases k1:kd cs x=1
    ·rw[if_pos k1];exact zes fun _=>⟨by simp only;omega,Or.inr ⟨hs.1,Or.inl ⟨rfl,k1⟩⟩⟩
    rw[if_neg k1]
    by_cases k7:kd cs x=7
    ·rw[if_pos k7];exact zes fun _=>⟨by simp only;omega,Or.inr ⟨hs.1,Or.inr (Or.inl ⟨rfl,k7⟩)⟩⟩
    rw[if_neg k7]
    by_cases k6:kd cs x=6
    ·rw[if_pos k6]
     have hE1:lvE wd cs (zas wd cs f) x d (wt / 2):=by
      rcases hE with q|q|⟨_,q⟩|⟨q,_⟩|⟨q,_⟩
      ·exact absurd q h0
      ·omega
      ·exact q
      ·omega
      ·exact absurd k6 q.2.2.1
     exact zhI (zes fun q=>⟨by simp only;omega,Or.inr ⟨hs.1,Or.inr (Or.inr ⟨rfl,Or.inr (Or.inr k6)⟩)⟩⟩) (zhJ hok ih x d _ hs hE1) qg
    rw[if_neg k6]
    by_cases k45:kd cs x=4\/kd cs x=5
    ·rw[if_pos k45]
     have hE1:lvE wd cs (zas wd cs f) x d (wt / 2)/\lvE wd cs (zas wd cs f) x (zaL (kd cs x) d) (wt / 2):=by
      rcases hE with q|q|⟨q,_⟩|⟨_,q,q2⟩|⟨q,_⟩
      ·exact absurd q h0
      ·omega
      ·exact absurd q k6
      ·exact⟨q,q2⟩
      ·rcases k45 with z|z
       ·exact absurd z q.2.2.2.1
       ·exact absurd z q.2.2.2.2
     refine zhI (m:=wt - 2 * (wt / 2)) (n:=wt / 2+wt / 2) (zes fun q=>⟨by simp only;omega,Or.inr ⟨hs.1,Or.inr (Or.inr ⟨rfl,?_⟩)⟩⟩) (zhI (zhJ hok ih x d _ hs hE1.1) (zhJ hok ih x _ _ hst hE1.2) rfl) qg
     rcases k45 with z|z
     ·exact Or.inl z
     ·exact Or.inr (Or.inl z)
    ·rw[if_neg k45]
     refine zhJ hok ih x _ _ hst ?_
     rcases hE with q|q|⟨q,_⟩|⟨q,_⟩|⟨_,q⟩
     ·exact absurd q h0
     ·omega
     ·exact absurd q k6
     ·exact absurd q k45
     ·exact q
   refine⟨by simp only[zaZ,List.nil_append];exact hI.sum,by simp only[zaZ,List.nil_append];exact hI.ends,?_⟩
   intro u hu
   simp only[zaZ,List.mem_append,List.mem_singleton] at hu
   rcases hu with q|q
   ·subst q;exact⟨hs,by simp only;omega,by simp only;omega⟩
   ·exact hI.vis u q
theorem zhG(h:inS wd cs k=true):zoz wd cs 64 (zaP wd cs k):=by
 have hok:=zh7 h
 obtain⟨W,H,S⟩:=zc3 hok
 have hk:=h
 simp only[inS,decide_eq_true_eq,S.em] at hk
 obtain⟨K,rfl⟩:=Int.eq_ofNat_of_zero_le hk.1
 obtain⟨x,d,hs⟩:∃ x d,zds (W:Int) (H:Int) (K:Int)=(x,d):=⟨_,_,rfl⟩
 have hr:zbT wd cs (K:Int)=(x,d,true):=by rw[zd4 S K qg,hs]
 obtain⟨h1,hE⟩:=zcQ hr
 unfold zaP
 rw[if_pos h,hr]
 exact zos hok 707 x d 64 h1 hE
def zoG(w:World)(a:Option Addr)(es:List (Int × Int × Int)):Prop:=es=[]\/∃ b off,a=some ⟨b,off,none⟩/\b<w.heap.size/\∀ i,i<es.length ->
 w.cell? ⟨b,off+i * 3,none⟩=some (.int .i64 (es.getD i (0,0,0)).1)/\w.cell? ⟨b,off+i * 3+1,none⟩=some (.int .i64 (es.getD i (0,0,0)).2.1)/\w.cell? ⟨b,off+i * 3+2,none⟩=some (.int .i64 (es.getD i (0,0,0)).2.2)
theorem zoG.below(h:zoG w a es)(hb:Below w.heap.size w w'):zoG w' a es:=by
 rcases h with h|⟨b,off,rfl,hbl,hc⟩
 ·exact Or.inl h
 ·exact Or.inr ⟨b,off,rfl,nll hbl hb.size,fun i hi=>⟨zad hb (hc i hi).1,zad hb (hc i hi).2.1,zad hb (hc i hi).2.2⟩⟩
theorem zo7(es:List (Int × Int × Int)):∀ i,i<es.length->(flat3 es)[i * 3]?=some (.int .i64 (es.getD i (0,0,0)).1)/\(flat3 es)[i * 3+1]?=some (.int .i64 (es.getD i (0,0,0)).2.1)/\(flat3 es)[i * 3+2]?=some (.int .i64 (es.getD i (0,0,0)).2.2):=by
 induction es with
 | nil=>intro i h;simp at h
 | cons t r ih =>
  intro i hi
  cases i with
  | zero=>exact⟨rfl,rfl,rfl⟩
  | succ i =>
   have:=ih i (by simpa using hi)
   have e:flat3 (t::r)=.int .i64 t.1::.int .i64 t.2.1::.int .i64 t.2.2::flat3 r:=rfl
   rw[e,show (i+1) * 3=i * 3+3 by omega]
   exact this
theorem zc0{t:TypeId}(h:w.ownsRow B t 3 v es.length (flat3 es)):∃ a cap,v=.slice a es.length cap/\zoG w a es:=by
 obtain⟨h1,h2⟩:=h
 rcases h2 with ⟨rfl,h2⟩|⟨g,cap,cur,rfl,hg,hh,_,_,_,ht⟩
 ·exact⟨none,0,by rw[h2],Or.inl (List.length_eq_zero_iff.1 h2)⟩
 ·refine⟨_,cap,rfl,Or.inr ⟨g,0,rfl,(gei hh).1,fun i hi=>?_⟩⟩
  have key:∀ j,j<es.length * 3->w.cell? ⟨g,j,none⟩=(flat3 es)[j]?:=by
   intro j hj
   rw[cell_of_row w g j cur t (0,0) hh,<- ht,List.getElem?_take_of_lt hj]
   simp
  obtain⟨q1,q2,q3⟩:=zo7 es i hi
  simp only[Nat.zero_add]
  exact⟨by rw[key _ qg];exact q1,by rw[key _ qg];exact q2,by rw[key _ qg];exact q3⟩
def sumTo(q0:Int):List (Int × Int × Int)->Int
 | []=>0
 | t::r=>(if t.1=0/\t.2.1=q0 then t.2.2 else 0)+sumTo q0 r
theorem zp4(q0:Int)(l:List (Int × Int × Int))(h:∀ u∈l,1<=u.2.2):0<=sumTo q0 l/\sumTo q0 l<=zeo l:=by
 induction l with
 | nil=>simp[sumTo,zeo]
 | cons t r ih =>
  have h1:=h t qk
  have h2:=ih (fun u hu=>h u (by simp[hu]))
  simp only[sumTo,zeo]
  split <;> omega
theorem zep(l:List (Int × Int × Int))(h:∀ u∈l,1<=u.2.2):0<=zeo l:=by
 have:=zp4 0 l h
 omega
theorem zeq{α:Type}(l:List α)(i:Nat)(z:α)(h:i<l.length):l.take (i+1)=l.take i++[l.getD i z]:=by
 rw[List.take_succ_eq_append_getElem h]
 simp[List.getElem?_eq_getElem h]
theorem zkZ(h:∀ u∈es,1<=u.2.2)(i:Nat):zeo (es.take i)<=zeo es:=by
 have e:=zcC (es.take i) (es.drop i)
 rw[List.take_append_drop] at e
 have:=zep (es.drop i) (fun u hu=>h u (List.mem_of_mem_drop hu))
 omega
def ltC(cs:List (Int × Int))(x:Int):Int:=(cs.getD x.toNat (0,0)).2
def zdy(cs:List (Int × Int)):List (Int × Int × Int)->Int
 | []=>0
 | t::r=>(if t.1=2 then t.2.2 * ltC cs t.2.1 else 0)+zdy cs r
theorem zf6(cs:List (Int × Int))(a b:List (Int × Int × Int)):zdy cs (a++b)=zdy cs a+zdy cs b:=by
 induction a with
 | nil=>simp[zdy]
 | cons t r ih=>simp only[List.cons_append,zdy,ih];omega
def zhN(cs:List (Int × Int))(u:Int × Int × Int):Prop:=1<=u.2.2/\(u.1=2->(0<=u.2.1/\u.2.1<(cs.length:Int))/\1<=ltC cs u.2.1/\ltC cs u.2.1<=9)
theorem zoj(cs:List (Int × Int))(l:List (Int × Int × Int))(h:∀ u∈l,zhN cs u):0<=zdy cs l/\zdy cs l<=9 * zeo l:=by
 induction l with
 | nil=>simp[zdy,zeo]
 | cons t r ih =>
  obtain⟨h1,h2⟩:=h t qk
  have h3:=ih (fun u hu=>h u (by simp[hu]))
  simp only[zdy,zeo]
  split
  ·next q =>
   obtain⟨_,q1,q2⟩:=h2 q
   have m1:0<=t.2.2 * ltC cs t.2.1:=Int.mul_nonneg qg qg
   have m2:t.2.2 * ltC cs t.2.1<=t.2.2 * 9:=Int.mul_le_mul_of_nonneg_left q2 qg
   omega
  ·omega
theorem zjr(hok:okG wd cs=true)(h:zmr wd cs u):zhN cs u:=by
 refine⟨h.1,fun e=>?_⟩
 rcases h.2 with ⟨q,_⟩|⟨hx,q|q|q⟩
 ·omega
 ·omega
 ·refine⟨hx,?_⟩
  obtain⟨Y,hY⟩:=Int.eq_ofNat_of_zero_le hx.1
  have hlt:Y<cs.length:=qg
  have hc:=zpw wd cs hok Y hlt
  have hk:=q.2
  rw[hY] at hk ⊢
  simp only[kd,ltC,Int.toNat_natCast,List.getD_eq_getElem?_getD,List.getElem?_eq_getElem hlt,Option.getD_some] at hk ⊢
  rw[hk] at hc
  simpa [okC] using hc
 ·omega
theorem zid(wd:Int)(a:Option Addr)(cap:Nat)(cs:List (Int × Int))(w:World)(h:zaf w a cs)(hm:cs.length<=1048576)(a2:Option Addr)(c2:Nat)(es:List (Int × Int × Int))(hR:zoG w a2 es)(hP:∀ u∈es,zhN cs u)(hsum:zeo es<=64) :
  Calls (SqG.prog aLt) 42 #[.agg #[.int .i64 wd,.slice a cs.length cap],.slice a2 es.length c2] w fun e w'=>e=.returned (.int .i64 (zdy cs es))/\Below w.heap.size w w':=by
 have hpos:∀ u∈es,1<=u.2.2:=fun u hu=>(hP u hu).1
 have hlen:es.length<=64:=by
  have key:∀ l:List (Int × Int × Int),(∀ u∈l,1<=u.2.2)->(l.length:Int)<=zeo l:=by
   intro l
   induction l with
   | nil=>intro _;simp[zeo]
   | cons t r ih =>
    intro q
    have q1:=q t qk
    have q2:=ih (fun u hu=>q u (by simp[hu]))
    simp only[zeo,List.length_cons]
    omega
  have:=key es hpos
  omega
 obtain⟨R,hRR⟩:∃ R,zdy cs es=R:=⟨_,rfl⟩
 rw[hRR]
 have ER:Hid (zdy cs es=R):=hRR
 have HB:Hid (∀ i,0<=zdy cs (es.take i)/\zdy cs (es.take i)<=576):=by
  intro i
  have q1:=zoj cs (es.take i) (fun u hu=>hP u (List.mem_of_mem_take hu))
  have q2:=zkZ hpos i
  omega
 have HP:Hid (∀ u∈es,zhN cs u):=hP
 have HQ:Hid (∀ u∈es,u.2.2<=64):=by
  intro u hu
  obtain⟨l1,l2,e⟩:=List.append_of_mem hu
  have q1:=zcC l1 (u::l2)
  rw[<- e] at q1
  simp only[zeo] at q1
  have q2:=zep l1 (fun z hz=>hpos z (by rw[e];simp[hz]))
  have q3:=zep l2 (fun z hz=>hpos z (by rw[e];simp[hz]))
  omega
 have hb0:Below w.heap.size w (w.alloc (.cells #[.int .i64 wd,.slice a cs.length cap] 25)):=bel
 have g1:(w.alloc (.cells #[.int .i64 wd,.slice a cs.length cap] 25)).cell? ⟨w.heap.size,1,none⟩=some (.slice a cs.length cap):=qj
 have hC0:=h.below hb0
 have hR0:=hR.below hb0
 clear hRR hP hpos h hR
 go_enter (zfx Tryz.func42),Tryz.ntmps42
 go_wp2_with fail
 obtain⟨w0,hw0⟩:∃ w0,w0=w.alloc (.cells #[.int .i64 wd,.slice a cs.length cap] 25):=⟨_,rfl⟩
 rw[<- hw0] at hb0 g1 hC0 hR0 ⊢
 clear hw0
 go_loopw [5,6] (fun nn ii wr=>∃ i:Nat,i<=es.length/\ii=.int .i64 i/\nn=.int .i64 (zdy cs (es.take i))/\Below w0.heap.size w0 wr) (fun _ ii _=>es.length - (intOf ii).toNat)
 case atStart=>exact⟨0,Nat.zero_le _,rfl,rfl,Below.refl _ _⟩
 case round =>
  rename World=>wo
  obtain⟨i,hi,rfl,rfl,hb⟩:=hrel
  replace g1:=zad hb g1
  replace hC0:=hC0.below hb
  replace hR0:=hR0.below hb
  obtain⟨s,es0⟩:∃ s,zdy cs (es.take i)=s:=⟨_,rfl⟩
  have hsb:=HB.out i
  have hsb2:=HB.out (i+1)
  rw[es0] at hsb ⊢
  by_cases hlt:i<es.length
  ·rcases hR0 with q|⟨b,off,rfl,hbl,hc⟩
   ·rw[q] at hlt;simp at hlt
   obtain⟨t,et⟩:∃ t,es.getD i (0,0,0)=t:=⟨_,rfl⟩
   have hmem:t∈es:=by rw[<- et];simp[List.getElem?_eq_getElem hlt]
   obtain⟨z0,z1,z2⟩:=hc i hlt
   rw[et] at z0 z1 z2
   obtain⟨hw1,hlm⟩:=HP.out t hmem
   have hw2:=HQ.out t hmem
   have hst:zdy cs (es.take (i+1))=s+(if t.1=2 then t.2.2 * ltC cs t.2.1 else 0):=by
    rw[zeq es i (0,0,0) hlt,zf6,es0,et]
    simp[zdy]
   obtain⟨t0,t1,t2⟩:=t
   simp only at z0 z1 z2 hw1 hw2 hst hlm
   clear hmem et hc
   by_cases e0:t0=2
   ·rw[if_pos e0] at hst
    obtain⟨hx,hl1,hl2⟩:=hlm e0
    obtain⟨Y,rfl⟩:=Int.eq_ofNat_of_zero_le hx.1
    have hY:Y<cs.length:=qg
    obtain⟨lt',elt⟩:∃ l,ltC cs (Y:Int)=l:=⟨_,rfl⟩
    rw[elt] at hst hl1 hl2
    rcases hC0 with q|⟨bc,oc,rfl,hbc,hcc⟩
    ·rw[q] at hY;simp at hY
    have zc:=(hcc Y hY).2
    have zc':wo.cell? ⟨bc,oc+Y * 2+1,none⟩=some (.int .i64 lt'):=by
     rw[zc,<- elt];simp[ltC]
    obtain⟨p,ep⟩:∃ p,t2 * lt'=p:=⟨_,rfl⟩
    rw[ep] at hst
    have hp0:0<=p:=by rw[<- ep];exact Int.mul_nonneg qg qg
    have hp1:p<=576:=by
     rw[<- ep]
     exact Int.le_trans (Int.mul_le_mul hw2 hl2 qg qg) qg
    have wp:IntKind.i64.wrap (t2 * lt')=p:=by rw[ep];exact IntWalk.i64_in _ qg
    have ws:IntKind.i64.wrap (s+p)=s+p:=IntWalk.i64_in _ qg
    have HST:Hid (zdy cs (es.take (i+1))=s+p):=hst
    have b0:(t0 == 2)=true:=by simp[e0]
    have hYl:(Y:Int)<(cs.length:Int):=qg
    clear hst e0 es0 zc ep elt hcc hlm hsb2
    go_wp2_with fail
    go_quiet (fail)
    have hbq:Below w0.heap.size w0 (wo.drewN nq):=⟨hb.os,hb.tape,hb.output,hb.size,hb.block⟩
    go_wp2_with fail
    go_roundw
    case rel=>exact⟨i+1,qg,by go_num,by rw[HST.out],hbq⟩
    case measure=>exact qe
   ·rw[if_neg e0] at hst
    have HST:Hid (zdy cs (es.take (i+1))=s):=by show _=_;rw[hst];omega
    have b0:(t0 == 2)=false:=by simp[e0]
    clear hst e0 es0 hlm hsb2
    go_wp2_with fail
    go_roundw
    case rel=>exact⟨i+1,qg,by go_num,by rw[HST.out],hb⟩
    case measure=>exact qe
  ·have hfin:s=R:=by rw[<- es0,<- ER.out,List.take_of_length_le qg]
   subst hfin
   clear es0
   go_wp2_with fail
   go_ret
   exact⟨rfl,zai hb0 hb0.size hb⟩
def za0(wd:Int)(cs:List (Int × Int))(k:Int):Int:=zdy cs (zaP wd cs k).2
theorem zkr:((SqG.prog aLt).info? 3).map (fun i=>(i.zero,i.size,i.bytes))=some (some (.int .i64 0),1,8):=qh
theorem znd:((SqG.prog aLt).info? 4).map (fun i=>(i.zero,i.size,i.bytes))=some (some (.bool false),1,1):=qh
theorem zlv(n:Nat)(hn:n<=1048576)(w:World):(Instr.makeSlice 128 (.int .i64 (n:Int)) (.int .i64 (n:Int))).run (SqG.prog aLt) w=.ok (.slice (some ⟨w.heap.size,0,none⟩) n n) (w.alloc (.cells (madeCells #[.bool false] n) 4)):=by
 obtain⟨i0,hi,iz0,iz1,iz2⟩:=info_parts (znd (aLt:=aLt))
 have:=run_make (P:=(SqG.prog aLt)) w 128 4 i0 (.bool false) SqG.underlying128 hi iz0 .i64 .i64 (n:Int) (n:Int) qg qg (by rw[iz2];omega) qg
 rw[iz1] at this
 simpa [Value.cells] using this
structure zgw(w:World)(g m:Nat)(c:Nat->Value):Prop where
 lt:g<w.heap.size
 at':∀ i,i<m->w.cell? ⟨g,i,none⟩=some (c i)
 fz:∀ i,i<m->w.frozen? ⟨g,i,none⟩=false
theorem zpG(w:World)(m:Nat)(z:Value)(t:TypeId):zgw (w.alloc (.cells (madeCells #[z] m) t)) w.heap.size m (fun _=>z):=by
 refine⟨qk,fun i hi=>?_,fun i hi=>?_⟩
 ·rw[World.cell?_alloc_at _ _ _ _ rfl]
  simp[madeCells,hi,Nat.mod_one]
 ·simp[go_sem]
theorem zgw.below(h:zgw w g m c)(hb:Below w.heap.size w w'):zgw w' g m c :=
 ⟨nll h.lt hb.size,fun i hi=>zad hb (h.at' i hi),fun i hi=>zal hb (h.at' i hi) (h.fz i hi)⟩
theorem zgw.grown(h:zgw w g m c)(hg:w.grownBy w' r)(hne:some g≠r):zgw w' g m c :=
 ⟨nll h.lt hg.size,fun i hi=>hg.cell (h.at' i hi) hne,fun i hi=>(hg.frozen_far ⟨g,i,none⟩ h.lt hne).trans (h.fz i hi)⟩
theorem zgw.put(h:zgw w g m c)(i:Nat)(v:Value)(hi:i<m)(h1:c' i=v)(h2:∀ j,j<m->j≠i->c' j=c j):zgw (w.setCell ⟨g,i,none⟩ v) g m c':=by
 refine⟨by simpa using h.lt,fun j hj=>?_,fun j hj=>?_⟩
 ·by_cases e:j=i
  ·subst e
   rw[World.cell?_setCell_same _ _ _ (by rw[h.at' j hj]),h1]
  ·have q:(⟨g,i,none⟩:Addr)≠⟨g,j,none⟩:=fun z=>e (Addr.mk.inj z).2.1.symm
   rw[World.cell?_setCell_other _ _ _ _ q,h2 j hj e]
   exact h.at' j hj
 ·simpa using h.fz j hj
theorem zgw.like(h:zgw w g m c)(h2:∀ j,j<m->c' j=c j):zgw w g m c' :=
 ⟨h.lt,fun j hj=>by rw[h2 j hj];exact h.at' j hj,h.fz⟩
def za3(xs:List Int):List Value:=xs.map fun x=>.int .i64 x
def zcu(w:World)(B:Nat)(v:Value)(xs:List Int):Prop:=w.ownsRow B 3 1 v xs.length (za3 xs)
theorem zbD{B':Nat}{e:TypeId}{s:Nat}(h:w.ownsRow B e s v n xs)(hB:B'<=B):w.ownsRow B' e s v n xs:=by
 obtain⟨h1,h2⟩:=h
 refine⟨h1,?_⟩
 rcases h2 with h2|⟨g,cap,cur,hv,hg,r⟩
 ·exact Or.inl h2
 ·exact Or.inr ⟨g,cap,cur,hv,Nat.le_trans hB hg,r⟩
def seenAt(vs:List (Int × Int × Int))(i:Nat):Bool:=vs.any fun u=>u.1 == (i:Int)
def zaF(n:Nat)(vs:List (Int × Int × Int)):List Int:=((List.range n).filter fun i=>seenAt vs i).map fun (i:Nat)=>(i:Int)
theorem zd1(vs:List (Int × Int × Int))(i:Nat):zaF (i+1) vs=if seenAt vs i=true then zaF i vs++[(i:Int)] else zaF i vs:=by
 unfold zaF
 rw[List.range_succ,List.filter_append,List.map_append]
 split
 ·next h=>simp[h]
 ·next h=>simp[h]
theorem zdH(n:Nat)(vs:List (Int × Int × Int)):(zaF n vs).length<=n:=by
 unfold zaF
 rw[List.length_map]
 exact Nat.le_trans (List.length_filter_le _ _) qk
theorem zjo(wd:Int)(a:Option Addr)(cap:Nat)(cs:List (Int × Int))(w:World)(hm:cs.length<=1048576)(a2:Option Addr)(c2:Nat)(vs:List (Int × Int × Int))(hR:zoG w a2 vs)(hP:∀ u∈vs,0<=u.1/\u.1<(cs.length:Int))(hv:vs.length<=1048576) :
  Calls (SqG.prog aLt) 43 #[.agg #[.int .i64 wd,.slice a cs.length cap],.slice a2 vs.length c2] w fun e w'=>∃ v,e=.returned v/\zcu w' w.heap.size v (zaF cs.length vs)/\Below w.heap.size w w':=by
 obtain⟨i0,hi,iz0,iz1,iz2⟩:=info_parts (zkr (aLt:=aLt))
 obtain⟨n,hn⟩:∃ n,cs.length=n:=⟨_,rfl⟩
 rw[hn] at hm hP ⊢
 clear hn
 have HP:Hid (∀ u∈vs,0<=u.1/\u.1<(n:Int)):=hP
 have hb0:Below w.heap.size w (w.alloc (.cells #[.int .i64 wd,.slice a n cap] 25)):=bel
 have g1:(w.alloc (.cells #[.int .i64 wd,.slice a n cap] 25)).cell? ⟨w.heap.size,1,none⟩=some (.slice a n cap):=qj
 have hmk:=zlv (aLt:=aLt) n hm
 have HR:Hid (∀ w',Below w.heap.size w w'->zoG w' a2 vs):=fun w' hb=>hR.below hb
 clear hP hR
 go_enter (zfx Tryz.func43),Tryz.ntmps43
 go_wp2_with fail
 obtain⟨w0,hw0⟩:∃ w0,w0=w.alloc (.cells #[.int .i64 wd,.slice a n cap] 25):=⟨_,rfl⟩
 have hs0:w0.heap.size=w.heap.size+1:=by rw[hw0];simp
 rw[<- hw0] at hb0 g1 ⊢
 clear hw0
 have hmk':Hid (∀ w:World,zgw (w.alloc (.cells (madeCells #[.bool false] n) 4)) w.heap.size n (fun _=>.bool false)):=fun w=>zpG w n _ _
 obtain⟨w1,hw1⟩:∃ w1,w1=w0.alloc (.cells (madeCells #[.bool false] n) 4):=⟨_,rfl⟩
 have hV1:zgw w1 w0.heap.size n (fun _=>.bool false):=by rw[hw1];exact hmk'.out w0
 have hB1:Below w.heap.size w w1:=by rw[hw1];exact hb0.alloc hb0.size _
 have hV1':zgw w1 w0.heap.size n (fun j=>.bool (seenAt (vs.take 0) j)):=hV1.like (fun j _=>by simp[seenAt])
 rw[<- hw1]
 clear hw1 hmk hV1 hb0 g1
 rw[hs0] at hV1'
 obtain⟨g,hg⟩:∃ g,w.heap.size+1=g:=⟨_,rfl⟩
 rw[hg] at hV1' ⊢
 have hgw:w.heap.size<g:=qg
 clear hg hs0
 go_loopw [6] (fun ii wr=>∃ i:Nat,i<=vs.length/\ii=.int .i64 i/\Below w.heap.size w wr/\zgw wr g n (fun j=>.bool (seenAt (vs.take i) j))) (fun ii _=>vs.length - (intOf ii).toNat)
 case atStart=>exact⟨0,Nat.zero_le _,rfl,hB1,hV1'⟩
 case round =>
  rename World=>wo
  obtain⟨i,hi1,rfl,hb,hV⟩:=hrel
  by_cases hlt:i<vs.length
  ·have hR3:=HR.out wo hb
   rcases hR3 with q|⟨b,off,rfl,hbl,hc⟩
   ·rw[q] at hlt;simp at hlt
   obtain⟨t,et⟩:∃ t,vs.getD i (0,0,0)=t:=⟨_,rfl⟩
   have hmem:t∈vs:=by rw[<- et];simp[List.getElem?_eq_getElem hlt]
   obtain⟨z0,_,_⟩:=hc i hlt
   rw[et] at z0
   obtain⟨hx0,hx1⟩:=HP.out t hmem
   obtain⟨X,hX⟩:=Int.eq_ofNat_of_zero_le hx0
   rw[hX] at z0 hx1
   have hXn:X<n:=qg
   have y0:=hV.at' X hXn
   have yf:=hV.fz X hXn
   have hst:∀ j,seenAt (vs.take (i+1)) j=(seenAt (vs.take i) j || ((X:Int) == (j:Int))):=by
    intro j
    rw[zeq vs i (0,0,0) hlt,et]
    unfold seenAt
    rw[List.any_append]
    simp[hX]
   have hV2:zgw (wo.setCell ⟨g,X,none⟩ (.bool true)) g n (fun j=>.bool (seenAt (vs.take (i+1)) j)):=by
    refine hV.put X (.bool true) hXn (by rw[hst];simp) (fun j _ hne=>?_)
    rw[hst]
    have:((X:Int) == (j:Int))=false:=ql
    rw[this];simp
   have hb2:Below w.heap.size w (wo.setCell ⟨g,X,none⟩ (.bool true)):=hb.setCell (p:=⟨g,X,none⟩) (by show w.heap.size<=g;omega) _
   obtain⟨bv,ebv⟩:∃ bv,seenAt (vs.take i) X=bv:=⟨_,rfl⟩
   rw[ebv] at y0
   clear hst hc hmem et hX hV ebv
   go_wp2_with fail
   go_roundw
   case rel=>exact⟨i+1,qg,by go_num,hb2,hV2⟩
   case measure=>exact qe
  ·have hV2:zgw wo g n (fun j=>.bool (seenAt vs j)):=hV.like (fun j _=>by rw[List.take_of_length_le qg])
   have hbE:Below wo.heap.size wo (wo.alloc (.cells #[] 3)):=(Below.refl _ _).alloc (Nat.le_refl _) _
   have hgl:=hV.lt
   have hO:zcu (wo.alloc (.cells #[] 3)) (g+1) (.slice (some ⟨wo.heap.size,0,none⟩) 0 0) (zaF 0 vs) :=
    ⟨rfl,Or.inr ⟨wo.heap.size,0,#[],rfl,qg,heap_alloc_new wo _,Nat.le_refl _,qp,rfl,rfl⟩⟩
   have hV3:=hV2.below hbE
   have hB3:=zai hb hb.size hbE
   clear hV hV2 hbE hb
   go_wp2_with fail
   obtain⟨w3,hw3⟩:∃ w3,w3=wo.alloc (.cells #[] 3):=⟨_,rfl⟩
   rw[<- hw3] at hO hV3 hB3 ⊢
   clear hw3
   go_loopw [7,8] (fun oo ii wr=>∃ i:Nat,i<=n/\ii=.int .i64 i/\Below w.heap.size w wr/\zgw wr g n (fun j=>.bool (seenAt vs j))/\zcu wr (g+1) oo (zaF i vs)) (fun _ ii _=>n - (intOf ii).toNat)
   case atStart=>exact⟨0,Nat.zero_le _,rfl,hB3,hV3,hO⟩
   case round =>
    rename World=>wp
    obtain⟨i2,hi2,rfl,hb,hV,hO2⟩:=hrel
    have hgl:=hV.lt
    by_cases hl2:i2<n
    ·have y0:=hV.at' i2 hl2
     have hfl:=zdH i2 vs
     have hfs:=zd1 vs i2
     rcases hsn:seenAt vs i2 with _|_
     ·rw[hsn] at y0
      rw[if_neg (by simp[hsn])] at hfs
      have HFS:Hid (zaF (i2+1) vs=zaF i2 vs):=hfs
      clear hfs hsn
      go_wp2_with fail
      go_roundw
      case rel=>exact⟨i2+1,qg,by go_num,hb,hV,by rw[HFS.out];exact hO2⟩
      case measure=>exact qe
     ·rw[hsn] at y0
      rw[if_pos hsn] at hfs
      have HFS:Hid (zaF (i2+1) vs=zaF i2 vs++[(i2:Int)]):=hfs
      clear hfs hsn
      go_wp2_with (at_builtin;refine wpList_append_lies _ rfl _ _ _ rfl (g+1) 3 i0 (.int .i64 0) 1 8 SqG.underlying26 hi iz0 iz1 iz2 rfl qg _ (zaF i2 vs).length (za3 (zaF i2 vs)) rfl (World.ownsRow.alloc hO2 _) ⟨wp.heap.size,0,none⟩ 1 1 [.int .i64 (i2:Int)] rfl rfl (World.news_of_block (cs:=#[.int .i64 (i2:Int)]) (t:=3) (fr:=(0,0)) (heap_alloc_new wp _)) qm qg qp qg ql (wp.heap.size+1) qk ?_)
      intro g6 k6 w6 hO6 hg6 hat6 hlt6
      have hbA:Below wp.heap.size wp (wp.alloc (.cells #[.int .i64 (i2:Int)] 3)):=(Below.refl _ _).alloc (Nat.le_refl _) _
      have hown:=fun k q=>(World.ownsRow.lt hO2 k q).1
      have hV6:=(hV.below hbA).grown hg6 (fun q=>by have:=hown g q.symm;omega)
      have hb6:Below w.heap.size w w6:=by
       have hz:=hg6.size
       simp at hz
       have hzb:=hb.size
       refine⟨(hg6.os.trans hbA.os).trans hb.os,(hg6.tape.trans hbA.tape).trans hb.tape,(hg6.output.trans hbA.output).trans hb.output,qg,fun k hk=>?_⟩
       rw[hg6.block k ql (fun q=>by have:=hown k q.symm;omega),hbA.block k qg]
       exact hb.block k hk
      have hl6:(zaF i2 vs++[(i2:Int)]).length=(zaF i2 vs).length+1:=qk
      have hO7:zcu w6 (g+1) (.slice (some ⟨g6,0,none⟩) ((zaF i2 vs).length+1) k6) (zaF i2 vs++[(i2:Int)]):=by
       unfold zcu
       rw[hl6]
       have e:za3 (zaF i2 vs++[(i2:Int)])=za3 (zaF i2 vs)++[.int .i64 (i2:Int)]:=by simp[za3]
       rw[e]
       exact hO6
      clear hO6 hg6 hat6 hV hb hO2 hbA hown
      go_wp2_with fail
      go_roundw
      case rel=>exact⟨i2+1,qg,by go_num,hb6,hV6,by rw[HFS.out];exact hO7⟩
      case measure=>exact qe
    ·have hfin:i2=n:=qg
     subst hfin
     go_wp2_with fail
     go_ret
     exact⟨_,rfl,zbD hO2 qg,hb⟩
