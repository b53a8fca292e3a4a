/- Part. -/
import Derived.Test.YthfhlgdeghnggaaGreatRows
import Derived.Deep.DrawnRows
import Derived.Deep.QuietTactic
import Derived.Laws.Bits64
import Derived.ProofKit
import Derived.OpenShut
import Derived.Carry
import Derived.Test.YthfhlgdeghnggaaGreatEAl
set_option maxHeartbeats 4000000
set_option maxRecDepth 20000
set_option linter.unusedVariables false
namespace Go.Proofs.YthfhlgdeghnggaaGreat
variable{k wd:Int}{u:Int × Int × Int}{es:Le}{fs:List (List Int)}{xs:List Value}{cs:Lp}{B g m n s wt:Nat}{c c':Nat->Value}{a:Od}{r:Option Nat}{e:TypeId}{v:Value}{w w':World}
open _root_.Go.Proofs.Tryz
section
open Go
noncomputable abbrev SqP.prog:Program:=SqG.prog Sq.altP
abbrev SqP.underlying3:=@SqG.underlying3 Sq.altP
abbrev SqP.underlying25:=@SqG.underlying25 Sq.altP
abbrev SqP.underlying26:=@SqG.underlying26 Sq.altP
abbrev SqP.underlying67:=@SqG.underlying67 Sq.altP
theorem SqP.func54:SqP.prog.funcs[54]?=some (zm5 Tryz.f54):=zls rfl Tryz.func54
theorem SqP.ntmps54:(zm5 Tryz.f54).ntmps=22:=rfl
theorem SqP.body54:(zm5 Tryz.f54).body=some zsD:=rfl
theorem SqP.results54:(zm5 Tryz.f54).results=Tryz.f54.results:=rfl
@[simp] theorem SqP.call54(a : Array Value)(w : World) : (callFunc 54 a).run SqP.prog w = .ok (.enter 54 a) w := zj9 rfl Tryz.func54 rfl rfl a w
end
namespace Sp
open Go.RowKit
attribute [local go_sem ↓] Go.wp_at_zero Go.wp_at_succ
theorem zsE{Q:Exit->Act->Wq}{rest:Code}(wd:Int)(a:Od)(cap:Nat)(cs:Lp)(w:World)(h:zaf w a cs)(hm:cs.length<4611686018427387904)(hK:∀(w':World) (u1 u2 u3 u4 u5 u6 u7 u8 u9 u10 u11 u12 u13 u14 u15 u16 u17 u18 u19 u20 u21:Value),xE w w'->Code.wp SqP.prog rest Q ⟨#[.agg (xG wd a cs.length cap),u1,u2,u3,u4,u5,u6,u7,u8,u9,u10,u11,u12,u13,u14,u15,u16,u17,u18,u19,u20,u21],[]⟩ w') :
  Code.wp SqP.prog (zj7 rest) Q ⟨#[.agg (xG wd a cs.length cap),undef,undef,undef,undef,undef,undef,undef,undef,undef,undef,undef,undef,undef,undef,undef,undef,undef,undef,undef,undef,undef],[]⟩ w:=by
 unfold zj7 ckA ckS ckL
 simp only[opr]
 have b1:decide ((cs.length:Int)<4611686018427387904)=true:=decide_eq_true qg
 have wz:IntKind.i64.wrap (wd * 0)=0:=by rw[Int.mul_zero];exact IntWalk.i64_in _ qg
 have h0:xE w (w.alloc (.cells (xG wd a cs.length cap) 33)):=bel
 have g0:(w.alloc (.cells (xG wd a cs.length cap) 33)).cell? (xC w 0)=some (J wd):=ql
 have g1:(w.alloc (.cells (xG wd a cs.length cap) 33)).cell? (xC w 1)=some (.slice a cs.length cap):=ql
 have f0:(w.alloc (.cells (xG wd a cs.length cap) 33)).frozen? (xC w 0)=false:=ql
 have f1:(w.alloc (.cells (xG wd a cs.length cap) 33)).frozen? (xC w 1)=false:=ql
 go_wp2_with fail
 obtain⟨w1,h1⟩:∃ w1,w1=w.alloc (.cells (xG wd a cs.length cap) 33):=⟨_,rfl⟩
 rw[<- h1] at h0 g0 g1 f0 f1 ⊢
 clear h1 wz
 have hC:=h.below h0
 go_loopw [9,10,11,12,13,14,15,16,17,18] (fun ii _ _ _ _ _ _ _ _ _ wr=>∃ i:Nat,i<=cs.length/\ii=J i/\wr=w1) (fun ii _ _ _ _ _ _ _ _ _ _=>cs.length - (intOf ii).toNat)
 case atStart=>exact⟨0,Nat.zero_le _,rfl,rfl⟩
 case round =>
  rename World=>wo
  obtain⟨i,hi,rfl,ew⟩:=hrel
  subst ew
  by_cases hlt:i<cs.length
  ·rcases hC with q|⟨b,off,rfl,h3,hc⟩
   ·rw[q] at hlt;simp at hlt
   obtain⟨z0,z1⟩:=hc i hlt
   obtain⟨t,et⟩:∃ t,cs.getD i (0,0)=t:=⟨_,rfl⟩
   rw[et] at z0 z1
   obtain⟨t0,t1⟩:=t
   simp only at z0 z1
   have bl:decide ((i:Int)<(cs.length:Int))=true:=decide_eq_true qg
   have wa:IntKind.i64.wrap (t0 * 0)=0:=by rw[Int.mul_zero];exact IntWalk.i64_in _ qg
   have wb:IntKind.i64.wrap (t1 * 0)=0:=by rw[Int.mul_zero];exact IntWalk.i64_in _ qg
   have wi:IntKind.i64.wrap ((i:Int)+1)=(i:Int)+1:=IntWalk.i64_in _ qg
   clear hc et
   go_wp2_with fail
   go_roundw
   case rel=>exact⟨i+1,qg,by go_num,by first|rfl|trivial⟩
   case measure=>exact qe
  ·have bl:decide ((i:Int)<(cs.length:Int))=false:=decide_eq_false qg
   have h2:=(h0.setCell (p:=(xC w 0)) (Nat.le_refl _) (J wd)).setCell (p:=(xC w 1)) (Nat.le_refl _) (.slice a cs.length cap)
   go_wp2_with fail
   exact hK _ _ _ _ _ _ _ _ _ _ _ _ _ _ _ _ _ _ _ _ _ _ h2
end Sp
namespace Sp
variable{aLt:Nat->Func->Func}
open Go.RowKit
def zeD:Le->Int
 | []=>0
 | t::r=>t.2.2+zeD r
theorem zcW(a b:Le):zeD (a++b)=zeD a+zeD b:=by
 induction a with
 | nil=>simp[zeD]
 | cons t r ih=>simp only[List.cons_append,zeD,ih];omega
def znL(wd:Int)(cs:Lp)(t:Int × Int × Int):Prop :=
 1<=t.2.2/\((t.1=0/\0<=t.2.1/\t.2.1<zbV wd cs)\/((0<=t.2.1/\t.2.1<(cs.length:Int))/\((t.1=1/\kd cs t.2.1=1)\/(t.1=2/\kd cs t.2.1=7)\/(t.1=3/\(kd cs t.2.1=4\/kd cs t.2.1=5\/kd cs t.2.1=6)))))
def zum(cs:Lp)(wt:Nat)(t:Int × Int × Int):Prop:=okS cs (t.1,t.2.1)/\1<=t.2.2/\t.2.2<=(wt:Int)
structure zp9(wd:Int)(cs:Lp)(wt:Nat)(t:Tr):Prop where
 sum:zeD t.2=(wt:Int)
 ends : ∀ u ∈ t.2, znL wd cs u
 vis:∀ u∈t.1,zum cs wt u
theorem ziv{a b:Tr}(ha:zp9 wd cs m a)(hb:zp9 wd cs n b)(h:m+n=wt):zp9 wd cs wt (za8 a b):=by
 refine⟨?_,?_,?_⟩
 ·simp only[za8,zcW,ha.sum,hb.sum];omega
 ·intro u hu
  simp only[za8,List.mem_append] at hu
  rcases hu with q|q
  ·exact ha.ends u q
  ·exact hb.ends u q
 ·intro u hu
  simp only[za8,List.mem_append] at hu
  rcases hu with q|q
  ·obtain⟨h1,h2,h3⟩:=ha.vis u q;exact⟨h1,h2,qg⟩
  ·obtain⟨h1,h2,h3⟩:=hb.vis u q;exact⟨h1,h2,qg⟩
theorem zfw(wd:Int)(cs:Lp):zp9 wd cs 0 ([],[]):=⟨rfl,qm,qm⟩
theorem zeH{x:Int}(h:0<wt->znL wd cs (k,x,(wt:Int))):zp9 wd cs wt (zdA k x wt):=by
 unfold zdA
 by_cases h0:wt=0
 ·subst h0;exact zfw wd cs
 ·rw[if_neg h0]
  refine⟨by simp[zeD],?_,qm⟩
  intro u hu
  simp only[List.mem_singleton] at hu
  subst hu
  exact h qg
theorem ziw{f:Nat}(h1:okG wd cs=true)(ih:∀ x d wt,okS cs (x,d)->zax wd cs f x d wt->zp9 wd cs wt (zaI wd cs f x d wt))(x e:Int)(h:Nat)(hs:okS cs (x,e))(hE:lvE wd cs (zax wd cs f) x e h) :
  zp9 wd cs h (lvT wd cs (zaI wd cs f) x e h):=by
 unfold lvT
 by_cases h0:h=0
 ·subst h0;rw[if_pos rfl];exact zfw wd cs
 ·rw[if_neg h0]
  by_cases c:(zbR wd cs x e).2.2=true
  ·rw[if_pos c]
   obtain⟨r1,r2,_⟩:=zbz c
   rcases hE with q|q|q
   ·exact absurd q h0
   ·rw[c] at q;cases q
   ·exact ih _ _ _ ⟨r1,r2⟩ q
  ·rw[if_neg c]
   refine zeH fun _=>⟨by simp only;omega,Or.inl ⟨rfl,?_⟩⟩
   rcases zrf h1 hs.1 hs.2 with ⟨x2,d2,q,_⟩|⟨_,q⟩
   ·simp only at q
    rw[q] at c
    exact absurd rfl c
   ·simp only at q
    unfold zbU at q
    split at q
    ·next z=>exact z.2
    ·simp at q
theorem zp1(h1:okG wd cs=true):∀ f x d wt,okS cs (x,d)->zax wd cs f x d wt->zp9 wd cs wt (zaI wd cs f x d wt):=by
 intro f
 induction f with
 | zero =>
  intro x d wt _ hE
  have:wt=0:=hE
  subst this
  exact zfw wd cs
 | succ f ih =>
  intro x d wt hs hE
  by_cases h0:wt=0
  ·subst h0;rw[zbZ];exact zfw wd cs
  ·simp only[zaI]
   rw[if_neg h0]
   have h3:okS cs (x,zaS (kd cs x) d):=⟨hs.1,zd2 hs.2⟩
   have hI:zp9 wd cs wt (zbg wd cs (zaI wd cs f) x d wt):=by
    unfold zbg
    by_cases k1:kd cs x=1
    ·rw[if_pos k1];exact zeH fun _=>⟨by simp only;omega,Or.inr ⟨hs.1,Or.inl ⟨rfl,k1⟩⟩⟩
    rw[if_neg k1]
    by_cases k7:kd cs x=7
    ·rw[if_pos k7];exact zeH fun _=>⟨by simp only;omega,Or.inr ⟨hs.1,Or.inr (Or.inl ⟨rfl,k7⟩)⟩⟩
    rw[if_neg k7]
    by_cases k6:kd cs x=6
    ·rw[if_pos k6]
     have h2:lvE wd cs (zax wd cs f) x d (wt / 2):=by
      rcases hE with q|q|⟨_,q⟩|⟨q,_⟩|⟨q,_⟩
      ·exact absurd q h0
      ·omega
      ·exact q
      ·omega
      ·exact absurd k6 q.2.2.1
     exact ziv (zeH fun q=>⟨by simp only;omega,Or.inr ⟨hs.1,Or.inr (Or.inr ⟨rfl,Or.inr (Or.inr k6)⟩)⟩⟩) (ziw h1 ih x d _ hs h2) qg
    rw[if_neg k6]
    by_cases k45:kd cs x=4\/kd cs x=5
    ·rw[if_pos k45]
     have h2:lvE wd cs (zax wd cs f) x d (wt / 2)/\lvE wd cs (zax wd cs f) x (zaS (kd cs x) d) (wt / 2):=by
      rcases hE with q|q|⟨q,_⟩|⟨_,q,q2⟩|⟨q,_⟩
      ·exact absurd q h0
      ·omega
      ·exact absurd q k6
      ·exact⟨q,q2⟩
      ·rcases k45 with z|z
       ·exact absurd z q.2.2.2.1
       ·exact absurd z q.2.2.2.2
     refine ziv (m:=wt - 2 * (wt / 2)) (n:=wt / 2+wt / 2) (zeH fun q=>⟨by simp only;omega,Or.inr ⟨hs.1,Or.inr (Or.inr ⟨rfl,?_⟩)⟩⟩) (ziv (ziw h1 ih x d _ hs h2.1) (ziw h1 ih x _ _ h3 h2.2) rfl) qg
     rcases k45 with z|z
     ·exact Or.inl z
     ·exact Or.inr (Or.inl z)
    ·rw[if_neg k45]
     refine ziw h1 ih x _ _ h3 ?_
     rcases hE with q|q|⟨q,_⟩|⟨q,_⟩|⟨_,q⟩
     ·exact absurd q h0
     ·omega
     ·exact absurd q k6
     ·exact absurd q k45
     ·exact q
   refine⟨by simp only[za8,List.nil_append];exact hI.sum,by simp only[za8,List.nil_append];exact hI.ends,?_⟩
   intro u hu
   simp only[za8,List.mem_append,List.mem_singleton] at hu
   rcases hu with q|q
   ·subst q;exact⟨hs,by simp only;omega,by simp only;omega⟩
   ·exact hI.vis u q
theorem zit(h:inS wd cs k=true):zp9 wd cs 64 (zaO wd cs k):=by
 have h0:=zi0 h
 obtain⟨W,H,S⟩:=zc3 h0
 have hk:=h
 simp only[inS,decide_eq_true_eq,S.em] at hk
 obtain⟨K,rfl⟩:=Int.eq_ofNat_of_zero_le hk.1
 obtain⟨x,d,hs⟩:∃ x d,zdI (W:Int) (H:Int) (K:Int)=(x,d):=⟨_,_,rfl⟩
 have hr:zbU wd cs (K:Int)=(x,d,true):=by rw[zdC S K qg,hs]
 obtain⟨h1,hE⟩:=zdb hr
 unfold zaO
 rw[if_pos h,hr]
 exact zp1 h0 707 x d 64 h1 hE
def zqg(w:World)(a:Od)(es:Le):Prop:=es=[]\/∃ b off,a=some (O b off)/\b<w.heap.size/\∀ i,i<es.length ->
 w.cell? (O b (off+i * 3))=some (J (es.getD i (0,0,0)).1)/\w.cell? (O b (off+i * 3+1))=some (J (es.getD i (0,0,0)).2.1)/\w.cell? (O b (off+i * 3+2))=some (J (es.getD i (0,0,0)).2.2)
theorem zqg.below(h:zqg w a es)(hb:xE w w'):zqg w' a es:=by
 rcases h with h|⟨b,off,rfl,h0,hc⟩
 ·exact Or.inl h
 ·exact Or.inr ⟨b,off,rfl,nll h0 hb.size,fun i hi=>⟨zaa hb (hc i hi).1,zaa hb (hc i hi).2.1,zaa hb (hc i hi).2.2⟩⟩
theorem zqI(es:Le):∀ i,i<es.length->(flat3 es)[i * 3]?=some (J (es.getD i (0,0,0)).1)/\(flat3 es)[i * 3+1]?=some (J (es.getD i (0,0,0)).2.1)/\(flat3 es)[i * 3+2]?=some (J (es.getD i (0,0,0)).2.2):=by
 induction es with
 | nil=>intro i h;simp at h
 | cons t r ih =>
  intro i hi
  cases i with
  | zero=>exact⟨rfl,rfl,rfl⟩
  | succ i =>
   have:=ih i (by simpa using hi)
   have e:flat3 (t::r)=J t.1::J t.2.1::J t.2.2::flat3 r:=rfl
   rw[e,show (i+1) * 3=i * 3+3 by omega]
   exact this
theorem zdn{t:TypeId}(h:w.ownsRow B t 3 v es.length (flat3 es)):∃ a cap,v=.slice a es.length cap/\zqg w a es:=by
 obtain⟨h1,h2⟩:=h
 rcases h2 with ⟨rfl,h2⟩|⟨g,cap,cur,rfl,hg,hh,_,_,_,ht⟩
 ·exact⟨none,0,by rw[h2],Or.inl (List.length_eq_zero_iff.1 h2)⟩
 ·refine⟨_,cap,rfl,Or.inr ⟨g,0,rfl,(gei hh).1,fun i hi=>?_⟩⟩
  have key:∀ j,j<es.length * 3->w.cell? (O g j)=(flat3 es)[j]?:=by
   intro j hj
   rw[cell_of_row w g j cur t (0,0) hh,<- ht,List.getElem?_take_of_lt hj]
   simp
  obtain⟨q1,q2,q3⟩:=zqI es i hi
  simp only[Nat.zero_add]
  exact⟨by rw[key _ qg];exact q1,by rw[key _ qg];exact q2,by rw[key _ qg];exact q3⟩
def sumTo(q0:Int):Le->Int
 | []=>0
 | t::r=>(if t.1=0/\t.2.1=q0 then t.2.2 else 0)+sumTo q0 r
theorem zrJ(q0:Int)(l:Le)(h:∀ u∈l,1<=u.2.2):0<=sumTo q0 l/\sumTo q0 l<=zeD l:=by
 induction l with
 | nil=>simp[sumTo,zeD]
 | cons t r ih =>
  have h1:=h t qm
  have h2:=ih (fun u hu=>h u (by simp[hu]))
  simp only[sumTo,zeD]
  split <;> omega
theorem zeE(l:Le)(h:∀ u∈l,1<=u.2.2):0<=zeD l:=by
 have:=zrJ 0 l h
 omega
theorem zeF{α:Type}(l:List α)(i:Nat)(z:α)(h:i<l.length):l.take (i+1)=l.take i++[l.getD i z]:=by
 rw[List.take_succ_eq_append_getElem h]
 simp[List.getElem?_eq_getElem h]
theorem zmc(h:∀ u∈es,1<=u.2.2)(i:Nat):zeD (es.take i)<=zeD es:=by
 have e:=zcW (es.take i) (es.drop i)
 rw[List.take_append_drop] at e
 have:=zeE (es.drop i) (fun u hu=>h u (List.mem_of_mem_drop hu))
 omega
def ltC(cs:Lp)(x:Int):Int:=(cs.getD x.toNat (0,0)).2
def zdR(cs:Lp):Le->Int
 | []=>0
 | t::r=>(if t.1=2 then t.2.2 * ltC cs t.2.1 else 0)+zdR cs r
theorem zgw(cs:Lp)(a b:Le):zdR cs (a++b)=zdR cs a+zdR cs b:=by
 induction a with
 | nil=>simp[zdR]
 | cons t r ih=>simp only[List.cons_append,zdR,ih];omega
def ziA(cs:Lp)(u:Int × Int × Int):Prop:=1<=u.2.2/\(u.1=2->(0<=u.2.1/\u.2.1<(cs.length:Int))/\1<=ltC cs u.2.1/\ltC cs u.2.1<=9)
theorem zpT(cs:Lp)(l:Le)(h:∀ u∈l,ziA cs u):0<=zdR cs l/\zdR cs l<=9 * zeD l:=by
 induction l with
 | nil=>simp[zdR,zeD]
 | cons t r ih =>
  obtain⟨h1,h2⟩:=h t qm
  have h3:=ih (fun u hu=>h u (by simp[hu]))
  simp only[zdR,zeD]
  split
  ·next q =>
   obtain⟨_,q1,q2⟩:=h2 q
   have m1:0<=t.2.2 * ltC cs t.2.1:=Int.mul_nonneg qg qg
   have m2:t.2.2 * ltC cs t.2.1<=t.2.2 * 9:=Int.mul_le_mul_of_nonneg_left q2 qg
   omega
  ·omega
theorem zku(h1:okG wd cs=true)(h:znL wd cs u):ziA cs u:=by
 refine⟨h.1,fun e=>?_⟩
 rcases h.2 with ⟨q,_⟩|⟨hx,q|q|q⟩
 ·omega
 ·omega
 ·refine⟨hx,?_⟩
  obtain⟨Y,hY⟩:=Int.eq_ofNat_of_zero_le hx.1
  have h0:Y<cs.length:=qg
  have hc:=zre wd cs h1 Y h0
  have hk:=q.2
  rw[hY] at hk ⊢
  simp only[kd,ltC,Int.toNat_natCast,List.getD_eq_getElem?_getD,List.getElem?_eq_getElem h0,Option.getD_some] at hk ⊢
  rw[hk] at hc
  simpa [okC] using hc
 ·omega
theorem zi6(wd:Int)(a:Od)(cap:Nat)(cs:Lp)(w:World)(h:zaf w a cs)(hm:cs.length<=1048576)(a2:Od)(c2:Nat)(es:Le)(hR:zqg w a2 es)(hP:∀ u∈es,ziA cs u)(hs:zeD es<=64) :
  Calls (SqG.prog aLt) 76 #[.agg (xG wd a cs.length cap),.slice a2 es.length c2] w (xB w (J (zdR cs es))):=by
 have h1:∀ u∈es,1<=u.2.2:=fun u hu=>(hP u hu).1
 have hw:es.length<=64:=by
  have key:∀ l:Le,(∀ u∈l,1<=u.2.2)->(l.length:Int)<=zeD l:=by
   intro l
   induction l with
   | nil=>intro _;simp[zeD]
   | cons t r ih =>
    intro q
    have q1:=q t qm
    have q2:=ih (fun u hu=>q u (by simp[hu]))
    simp only[zeD,List.length_cons]
    omega
  have:=key es h1
  omega
 obtain⟨R,h8⟩:∃ R,zdR cs es=R:=⟨_,rfl⟩
 rw[h8]
 have ER:Hid (zdR cs es=R):=h8
 have HB:Hid (∀ i,0<=zdR cs (es.take i)/\zdR cs (es.take i)<=576):=by
  intro i
  have q1:=zpT cs (es.take i) (fun u hu=>hP u (List.mem_of_mem_take hu))
  have q2:=zmc h1 i
  omega
 have HP:Hid (∀ u∈es,ziA cs u):=hP
 have HQ:Hid (∀ u∈es,u.2.2<=64):=by
  intro u hu
  obtain⟨l1,l2,e⟩:=List.append_of_mem hu
  have q1:=zcW l1 (u::l2)
  rw[<- e] at q1
  simp only[zeD] at q1
  have q2:=zeE l1 (fun z hz=>h1 z (by rw[e];simp[hz]))
  have q3:=zeE l2 (fun z hz=>h1 z (by rw[e];simp[hz]))
  omega
 have h2:xE w (w.alloc (.cells (xG wd a cs.length cap) 33)):=bel
 have g1:(w.alloc (.cells (xG wd a cs.length cap) 33)).cell? (xC w 1)=some (.slice a cs.length cap):=ql
 have h4:=h.below h2
 have h5:=hR.below h2
 clear h8 hP h1 h hR
 go_enter (zfx func76),ntmps76
 go_wp2_with fail
 obtain⟨w0,h9⟩:∃ w0,w0=w.alloc (.cells (xG wd a cs.length cap) 33):=⟨_,rfl⟩
 rw[<- h9] at h2 g1 h4 h5 ⊢
 clear h9
 go_loopw [5,6] (fun nn ii wr=>∃ i:Nat,i<=es.length/\ii=J i/\nn=J (zdR cs (es.take i))/\xE w0 wr) (fun _ ii _=>es.length - (intOf ii).toNat)
 case atStart=>exact⟨0,Nat.zero_le _,rfl,rfl,Below.refl _ _⟩
 case round =>
  rename World=>wo
  obtain⟨i,hi,rfl,rfl,hb⟩:=hrel
  replace g1:=zaa hb g1
  replace h4:=h4.below hb
  replace h5:=h5.below hb
  obtain⟨s,es0⟩:∃ s,zdR cs (es.take i)=s:=⟨_,rfl⟩
  have hk:=HB.o i
  have h7:=HB.o (i+1)
  rw[es0] at hk ⊢
  by_cases hlt:i<es.length
  ·rcases h5 with q|⟨b,off,rfl,hy,hc⟩
   ·rw[q] at hlt;simp at hlt
   obtain⟨t,et⟩:∃ t,es.getD i (0,0,0)=t:=⟨_,rfl⟩
   have h3:t∈es:=by rw[<- et];simp[List.getElem?_eq_getElem hlt]
   obtain⟨z0,z1,z2⟩:=hc i hlt
   rw[et] at z0 z1 z2
   obtain⟨hl,h6⟩:=HP.o t h3
   have he:=HQ.o t h3
   have h0:zdR cs (es.take (i+1))=s+(if t.1=2 then t.2.2 * ltC cs t.2.1 else 0):=by
    rw[zeF es i (0,0,0) hlt,zgw,es0,et]
    simp[zdR]
   obtain⟨t0,t1,t2⟩:=t
   simp only at z0 z1 z2 hl he h0 h6
   clear h3 et hc
   by_cases e0:t0=2
   ·rw[if_pos e0] at h0
    obtain⟨hx,hp,hf⟩:=h6 e0
    obtain⟨Y,rfl⟩:=Int.eq_ofNat_of_zero_le hx.1
    have hY:Y<cs.length:=qg
    obtain⟨lt',elt⟩:∃ l,ltC cs (Y:Int)=l:=⟨_,rfl⟩
    rw[elt] at h0 hp hf
    rcases h4 with q|⟨bc,oc,rfl,hA,hg⟩
    ·rw[q] at hY;simp at hY
    have zc:=(hg Y hY).2
    have zc':wo.cell? (O bc (oc+Y * 2+1))=some (J lt'):=by
     rw[zc,<- elt];simp[ltC]
    obtain⟨p,ep⟩:∃ p,t2 * lt'=p:=⟨_,rfl⟩
    rw[ep] at h0
    have hD:0<=p:=by rw[<- ep];exact Int.mul_nonneg qg qg
    have hE:p<=576:=by
     rw[<- ep]
     exact Int.le_trans (Int.mul_le_mul he hf qg qg) qg
    have wp:IntKind.i64.wrap (t2 * lt')=p:=by rw[ep];exact IntWalk.i64_in _ qg
    have ws:IntKind.i64.wrap (s+p)=s+p:=IntWalk.i64_in _ qg
    have HST:Hid (zdR cs (es.take (i+1))=s+p):=h0
    have b0:(t0 == 2)=true:=by simp[e0]
    have hF:(Y:Int)<(cs.length:Int):=qg
    clear h0 e0 es0 zc ep elt hg h6 h7
    go_wp2_with fail
    go_quiet (fail)
    have hq:xE w0 (wo.drewN nq):=⟨hb.os,hb.tape,hb.output,hb.size,hb.block⟩
    go_wp2_with fail
    go_roundw
    case rel=>exact⟨i+1,qg,by go_num,by rw[HST.o],hq⟩
    case measure=>exact qe
   ·rw[if_neg e0] at h0
    have HST:Hid (zdR cs (es.take (i+1))=s):=by show _=_;rw[h0];omega
    have b0:(t0 == 2)=false:=by simp[e0]
    clear h0 e0 es0 h6 h7
    go_wp2_with fail
    go_roundw
    case rel=>exact⟨i+1,qg,by go_num,by rw[HST.o],hb⟩
    case measure=>exact qe
  ·have hj:s=R:=by rw[<- es0,<- ER.o,List.take_of_length_le qg]
   subst hj
   clear es0
   go_wp2_with fail
   go_ret
   exact⟨rfl,zae h2 h2.size hb⟩
def zaU(wd:Int)(cs:Lp)(k:Int):Int:=zdR cs (zaO wd cs k).2
theorem zlE:((SqG.prog aLt).info? 3).map (fun i=>(i.zero,i.size,i.bytes))=some (some (J 0),1,8):=qh
theorem zoG:((SqG.prog aLt).info? 4).map (fun i=>(i.zero,i.size,i.bytes))=some (some (.bool false),1,1):=qh
theorem zmJ(n:Nat)(hn:n<=1048576)(w:World):(Instr.makeSlice 81 (J (n:Int)) (J (n:Int))).run (SqG.prog aLt) w=.ok (.slice (xA w.heap.size) n n) (w.alloc (.cells (madeCells #[.bool false] n) 4)):=by
 obtain⟨i0,hi,iz0,iz1,iz2⟩:=info_parts (zoG (aLt:=aLt))
 have:=run_make (P:=(SqG.prog aLt)) w 81 4 i0 (.bool false) SqG.underlying81 hi iz0 .i64 .i64 (n:Int) (n:Int) qg qg (by rw[iz2];omega) qg
 rw[iz1] at this
 simpa [Value.cells] using this
structure zgZ(w:World)(g m:Nat)(c:Nat->Value):Prop where
 lt:g<w.heap.size
 at':∀ i,i<m->w.cell? (O g i)=some (c i)
 fz:∀ i,i<m->w.frozen? (O g i)=false
theorem zrl(w:World)(m:Nat)(z:Value)(t:TypeId):zgZ (w.alloc (.cells (madeCells #[z] m) t)) w.heap.size m (fun _=>z):=by
 refine⟨qm,fun i hi=>?_,fun i hi=>?_⟩
 ·rw[World.cell?_alloc_at _ _ _ _ rfl]
  simp[madeCells,hi,Nat.mod_one]
 ·simp[go_sem]
theorem zgZ.below(h:zgZ w g m c)(hb:xE w w'):zgZ w' g m c :=
 ⟨nll h.lt hb.size,fun i hi=>zaa hb (h.at' i hi),fun i hi=>zak hb (h.at' i hi) (h.fz i hi)⟩
theorem zgZ.grown(h:zgZ w g m c)(hg:w.grownBy w' r)(h0:some g≠r):zgZ w' g m c :=
 ⟨nll h.lt hg.size,fun i hi=>hg.cell (h.at' i hi) h0,fun i hi=>(hg.frozen_far (O g i) h.lt h0).trans (h.fz i hi)⟩
theorem zgZ.put(h:zgZ w g m c)(i:Nat)(v:Value)(hi:i<m)(h1:c' i=v)(h2:∀ j,j<m->j≠i->c' j=c j):zgZ (w.setCell (O g i) v) g m c':=by
 refine⟨by simpa using h.lt,fun j hj=>?_,fun j hj=>?_⟩
 ·by_cases e:j=i
  ·subst e
   rw[World.cell?_setCell_same _ _ _ (by rw[h.at' j hj]),h1]
  ·have q:((O g i):Addr)≠(O g j):=fun z=>e (Addr.mk.inj z).2.1.symm
   rw[World.cell?_setCell_other _ _ _ _ q,h2 j hj e]
   exact h.at' j hj
 ·simpa using h.fz j hj
theorem zgZ.like(h:zgZ w g m c)(h2:∀ j,j<m->c' j=c j):zgZ w g m c' :=
 ⟨h.lt,fun j hj=>by rw[h2 j hj];exact h.at' j hj,h.fz⟩
def zaG(xs:List Int):List Value:=xs.map fun x=>J x
def zaL(w:World)(B:Nat)(v:Value)(xs:List Int):Prop:=w.ownsRow B 3 1 v xs.length (zaG xs)
theorem zaw{B':Nat}(h:w.ownsRow B e s v n xs)(hB:B'<=B):w.ownsRow B' e s v n xs:=by
 obtain⟨h1,h2⟩:=h
 refine⟨h1,?_⟩
 rcases h2 with h2|⟨g,cap,cur,hv,hg,r⟩
 ·exact Or.inl h2
 ·exact Or.inr ⟨g,cap,cur,hv,Nat.le_trans hB hg,r⟩
def seenAt(vs:Le)(i:Nat):Bool:=vs.any fun u=>u.1 == (i:Int)
def zaK(n:Nat)(vs:Le):List Int:=((List.range n).filter fun i=>seenAt vs i).map fun (i:Nat)=>(i:Int)
theorem zeh(vs:Le)(i:Nat):zaK (i+1) vs=if seenAt vs i=true then zaK i vs++[(i:Int)] else zaK i vs:=by
 unfold zaK
 rw[List.range_succ,List.filter_append,List.map_append]
 split
 ·next h=>simp[h]
 ·next h=>simp[h]
theorem zeO(n:Nat)(vs:Le):(zaK n vs).length<=n:=by
 unfold zaK
 rw[List.length_map]
 exact Nat.le_trans (List.length_filter_le _ _) qm
theorem zks(wd:Int)(a:Od)(cap:Nat)(cs:Lp)(w:World)(hm:cs.length<=1048576)(a2:Od)(c2:Nat)(vs:Le)(hR:zqg w a2 vs)(hP:∀ u∈vs,0<=u.1/\u.1<(cs.length:Int))(hv:vs.length<=1048576) :
  Calls (SqG.prog aLt) 77 #[.agg (xG wd a cs.length cap),.slice a2 vs.length c2] w fun e w'=>∃ v,e=.returned v/\zaL w' w.heap.size v (zaK cs.length vs)/\xE w w':=by
 obtain⟨i0,hi,iz0,iz1,iz2⟩:=info_parts (zlE (aLt:=aLt))
 obtain⟨n,hn⟩:∃ n,cs.length=n:=⟨_,rfl⟩
 rw[hn] at hm hP ⊢
 clear hn
 have HP:Hid (∀ u∈vs,0<=u.1/\u.1<(n:Int)):=hP
 have h5:xE w (w.alloc (.cells (xG wd a n cap) 33)):=bel
 have g1:(w.alloc (.cells (xG wd a n cap) 33)).cell? (xC w 1)=some (.slice a n cap):=ql
 have hD:=zmJ (aLt:=aLt) n hm
 have HR:Hid (∀ w',xE w w'->zqg w' a2 vs):=fun w' hb=>hR.below hb
 clear hP hR
 go_enter (zfx func77),ntmps77
 go_wp2_with fail
 obtain⟨w0,h9⟩:∃ w0,w0=w.alloc (.cells (xG wd a n cap) 33):=⟨_,rfl⟩
 have hl:w0.heap.size=w.heap.size+1:=by rw[h9];simp
 rw[<- h9] at h5 g1 ⊢
 clear h9
 have hmk':Hid (∀ w:World,zgZ (w.alloc (.cells (madeCells #[.bool false] n) 4)) w.heap.size n (fun _=>.bool false)):=fun w=>zrl w n _ _
 obtain⟨w1,h6⟩:∃ w1,w1=w0.alloc (.cells (madeCells #[.bool false] n) 4):=⟨_,rfl⟩
 have hp:zgZ w1 w0.heap.size n (fun _=>.bool false):=by rw[h6];exact hmk'.o w0
 have hE:xE w w1:=by rw[h6];exact h5.alloc h5.size _
 have hV1':zgZ w1 w0.heap.size n (fun j=>.bool (seenAt (vs.take 0) j)):=hp.like (fun j _=>by simp[seenAt])
 rw[<- h6]
 clear h6 hD hp h5 g1
 rw[hl] at hV1'
 obtain⟨g,hg⟩:∃ g,w.heap.size+1=g:=⟨_,rfl⟩
 rw[hg] at hV1' ⊢
 have hY:w.heap.size<g:=qg
 clear hg hl
 go_loopw [6] (fun ii wr=>∃ i:Nat,i<=vs.length/\ii=J i/\xE w wr/\zgZ wr g n (fun j=>.bool (seenAt (vs.take i) j))) (fun ii _=>vs.length - (intOf ii).toNat)
 case atStart=>exact⟨0,Nat.zero_le _,rfl,hE,hV1'⟩
 case round =>
  rename World=>wo
  obtain⟨i,hZ,rfl,hb,hV⟩:=hrel
  by_cases hlt:i<vs.length
  ·have hF:=HR.o wo hb
   rcases hF with q|⟨b,off,rfl,p0,hc⟩
   ·rw[q] at hlt;simp at hlt
   obtain⟨t,et⟩:∃ t,vs.getD i (0,0,0)=t:=⟨_,rfl⟩
   have h8:t∈vs:=by rw[<- et];simp[List.getElem?_eq_getElem hlt]
   obtain⟨z0,_,_⟩:=hc i hlt
   rw[et] at z0
   obtain⟨hG,hJ⟩:=HP.o t h8
   obtain⟨X,hX⟩:=Int.eq_ofNat_of_zero_le hG
   rw[hX] at z0 hJ
   have he:X<n:=qg
   have y0:=hV.at' X he
   have yf:=hV.fz X he
   have hf:∀ j,seenAt (vs.take (i+1)) j=(seenAt (vs.take i) j || ((X:Int) == (j:Int))):=by
    intro j
    rw[zeF vs i (0,0,0) hlt,et]
    unfold seenAt
    rw[List.any_append]
    simp[hX]
   have h7:zgZ (wo.setCell (O g X) (.bool true)) g n (fun j=>.bool (seenAt (vs.take (i+1)) j)):=by
    refine hV.put X (.bool true) he (by rw[hf];simp) (fun j _ p1=>?_)
    rw[hf]
    have:((X:Int) == (j:Int))=false:=qn
    rw[this];simp
   have hK:xE w (wo.setCell (O g X) (.bool true)):=hb.setCell (p:=(O g X)) (by show w.heap.size<=g;omega) _
   obtain⟨bv,ebv⟩:∃ bv,seenAt (vs.take i) X=bv:=⟨_,rfl⟩
   rw[ebv] at y0
   clear hf hc h8 et hX hV ebv
   go_wp2_with fail
   go_roundw
   case rel=>exact⟨i+1,qg,by go_num,hK,h7⟩
   case measure=>exact qe
  ·have h7:zgZ wo g n (fun j=>.bool (seenAt vs j)):=hV.like (fun j _=>by rw[List.take_of_length_le qg])
   have hj:xE wo (wo.alloc (.cells #[] 3)):=(Below.refl _ _).alloc (Nat.le_refl _) _
   have hL:=hV.lt
   have hO:zaL (wo.alloc (.cells #[] 3)) (g+1) (.slice (xA wo.heap.size) 0 0) (zaK 0 vs) :=
    ⟨rfl,Or.inr ⟨wo.heap.size,0,#[],rfl,qg,heap_alloc_new wo _,Nat.le_refl _,qs,rfl,rfl⟩⟩
   have hq:=h7.below hj
   have hs:=zae hb hb.size hj
   clear hV h7 hj hb
   go_wp2_with fail
   obtain⟨w3,hu⟩:∃ w3,w3=wo.alloc (.cells #[] 3):=⟨_,rfl⟩
   rw[<- hu] at hO hq hs ⊢
   clear hu
   go_loopw [7,8] (fun oo ii wr=>∃ i:Nat,i<=n/\ii=J i/\xE w wr/\zgZ wr g n (fun j=>.bool (seenAt vs j))/\zaL wr (g+1) oo (zaK i vs)) (fun _ ii _=>n - (intOf ii).toNat)
   case atStart=>exact⟨0,Nat.zero_le _,rfl,hs,hq,hO⟩
   case round =>
    rename World=>wp
    obtain⟨i2,p5,rfl,hb,hV,h3⟩:=hrel
    have hL:=hV.lt
    by_cases hl2:i2<n
    ·have y0:=hV.at' i2 hl2
     have p6:=zeO i2 vs
     have h1:=zeh vs i2
     rcases hsn:seenAt vs i2 with _|_
     ·rw[hsn] at y0
      rw[if_neg (by simp[hsn])] at h1
      have HFS:Hid (zaK (i2+1) vs=zaK i2 vs):=h1
      clear h1 hsn
      go_wp2_with fail
      go_roundw
      case rel=>exact⟨i2+1,qg,by go_num,hb,hV,by rw[HFS.o];exact h3⟩
      case measure=>exact qe
     ·rw[hsn] at y0
      rw[if_pos hsn] at h1
      have HFS:Hid (zaK (i2+1) vs=zaK i2 vs++[(i2:Int)]):=h1
      clear h1 hsn
      go_wp2_with (at_builtin;refine wpList_append_lies _ rfl _ _ _ rfl (g+1) 3 i0 (J 0) 1 8 SqG.underlying25 hi iz0 iz1 iz2 rfl qg _ (zaK i2 vs).length (zaG (zaK i2 vs)) rfl (World.ownsRow.alloc h3 _) (xC wp 0) 1 1 [J (i2:Int)] rfl rfl (World.news_of_block (cs:=#[J (i2:Int)]) (t:=3) (fr:=(0,0)) (heap_alloc_new wp _)) qo qg qs qg qn (wp.heap.size+1) qm ?_)
      intro g6 k6 w6 hw h0 hy hU
      have h2:xE wp (wp.alloc (.cells #[J (i2:Int)] 3)):=(Below.refl _ _).alloc (Nat.le_refl _) _
      have h4:=fun k q=>(World.ownsRow.lt h3 k q).1
      have hM:=(hV.below h2).grown h0 (fun q=>by have:=h4 g q.symm;omega)
      have hN:xE w w6:=by
       have hz:=h0.size
       simp at hz
       have p7:=hb.size
       refine⟨(h0.os.trans h2.os).trans hb.os,(h0.tape.trans h2.tape).trans hb.tape,(h0.output.trans h2.output).trans hb.output,qg,fun k hk=>?_⟩
       rw[h0.block k qn (fun q=>by have:=h4 k q.symm;omega),h2.block k qg]
       exact hb.block k hk
      have hQ:(zaK i2 vs++[(i2:Int)]).length=(zaK i2 vs).length+1:=qm
      have hT:zaL w6 (g+1) (.slice (xA g6) ((zaK i2 vs).length+1) k6) (zaK i2 vs++[(i2:Int)]):=by
       unfold zaL
       rw[hQ]
       have e:zaG (zaK i2 vs++[(i2:Int)])=zaG (zaK i2 vs)++[J (i2:Int)]:=by simp[zaG]
       rw[e]
       exact hw
      clear hw h0 hy hV hb h3 h2 h4
      go_wp2_with fail
      go_roundw
      case rel=>exact⟨i2+1,qg,by go_num,hN,hM,by rw[HFS.o];exact hT⟩
      case measure=>exact qe
    ·have hA:i2=n:=qg
     subst hA
     go_wp2_with fail
     go_ret
     exact⟨_,rfl,zaw h3 qg,hb⟩
def zcA(w:World)(a:Od)(xs:List Int):Prop:=xs=[]\/∃ b off,a=some (O b off)/\b<w.heap.size/\∀ i,i<xs.length->w.cell? (O b (off+i))=some (J (xs.getD i 0))
theorem zcA.below{xs:List Int}(h:zcA w a xs)(hb:xE w w'):zcA w' a xs:=by
 rcases h with h|⟨b,off,rfl,h0,hc⟩
 ·exact Or.inl h
 ·exact Or.inr ⟨b,off,rfl,nll h0 hb.size,fun i hi=>zaa hb (hc i hi)⟩
theorem zpj{xs:List Int}(h:zaL w B v xs):∃ a cap,v=.slice a xs.length cap/\zcA w a xs:=by
 obtain⟨h1,h2⟩:=h
 rcases h2 with ⟨rfl,h2⟩|⟨g,cap,cur,rfl,hg,hh,_,_,_,ht⟩
 ·exact⟨none,0,by rw[h2],Or.inl (List.length_eq_zero_iff.1 h2)⟩
 ·refine⟨_,cap,rfl,Or.inr ⟨g,0,rfl,(gei hh).1,fun i hi=>?_⟩⟩
  simp only[Nat.zero_add]
  have e:(zaG xs)[i]?=some (J (xs.getD i 0)):=by simp[zaG,List.getElem?_eq_getElem hi]
  rw[cell_of_row w g i cur 3 (0,0) hh,<- e,<- ht,List.getElem?_take_of_lt qg]
  simp
theorem zcA.at{w:World}{a:Od}{xs:List Int}(h:zcA w a xs){i:Nat}(hi:i<xs.length):∃ b off,a=some (O b off)/\b<w.heap.size/\w.cell? (O b (off+i))=some (J (xs.getD i 0)):=by
 rcases h with q|⟨b,off,e,hb,hc⟩
 ·rw[q] at hi;simp at hi
 ·exact⟨b,off,e,hb,hc i hi⟩
theorem zqS:((SqG.prog aLt).info? 3).map (fun i=>(i.zero,i.size,i.bytes))=some (some (J 0),1,8):=qh
theorem zaV(h:w.ownsRow B e s v n xs)(hb:xE w w'):w'.ownsRow B e s v n xs:=by
 refine⟨h.1,?_⟩
 rcases h.2 with hn|⟨g,cap,cur,hv,hB,hg,rest⟩
 ·exact .inl hn
 ·exact .inr ⟨g,cap,cur,hv,hB,by rw[hb.block g (gei hg).1];exact hg,rest⟩
end Sp
namespace Sp
open Go.RowKit
attribute [local go_sem ↓] Go.wp_at_zero Go.wp_at_succ
abbrev zfr(wd:Int)(cs:Lp)(M:Nat):Obj:=.cells (Array.ofFn fun k:Fin M=>J (zaU wd cs ((k:Nat):Int))) 3
theorem zom{a b:List Int}(hl:a.length=b.length)(h:∀ i,i<a.length->a.getD i 0=b.getD i 0):a=b:=by
 refine List.ext_getElem hl fun i h1 h2=>?_
 have:=h i h1
 simpa [List.getD,List.getElem?_eq_getElem h1,List.getElem?_eq_getElem h2] using this
theorem zlC{a b:List (List Int)}(hl:a.length=b.length)(h:∀ i,i<a.length->a.getD i []=b.getD i []):a=b:=by
 refine List.ext_getElem hl fun i h1 h2=>?_
 have:=h i h1
 simpa [List.getD,List.getElem?_eq_getElem h1,List.getElem?_eq_getElem h2] using this
def zc7(w:World)(a:Od)(fs:List (List Int)):Prop:=fs=[]\/∃ b off,a=some (O b off)/\b<w.heap.size/\∀ k,k<fs.length->∃ a' c',w.cell? (O b (off+k))=some (.slice a' (fs.getD k []).length c')/\zcA w a' (fs.getD k [])
theorem zc7.below(h:zc7 w a fs)(hb:xE w w'):zc7 w' a fs:=by
 rcases h with h|⟨b,off,rfl,h0,hc⟩
 ·exact Or.inl h
 ·refine Or.inr ⟨b,off,rfl,nll h0 hb.size,fun k hk=>?_⟩
  obtain⟨a',c',h1,h2⟩:=hc k hk
  exact⟨a',c',zaa hb h1,h2.below hb⟩
theorem zc7.at{w:World}{a:Od}{fs:List (List Int)}(h:zc7 w a fs){k:Nat}(hk:k<fs.length):∃ b off a' c',a=some (O b off)/\w.cell? (O b (off+k))=some (.slice a' (fs.getD k []).length c')/\zcA w a' (fs.getD k []):=by
 rcases h with q|⟨b,off,e,hb,hc⟩
 ·rw[q] at hk;simp at hk
 ·obtain⟨a',c',h1,h2⟩:=hc k hk
  exact⟨b,off,a',c',e,h1,h2⟩
theorem zl5(a a2:Od)(c c2:Nat)(xs ys:List Int)(w:World)(h:zcA w a xs)(h2:zcA w a2 ys)(hm:xs.length<=1099511627776) :
  Calls SqP.prog 55 #[.slice a xs.length c,.slice a2 ys.length c2] w (xB w (.bool (decide (xs=ys)))):=by
 by_cases hl:xs.length=ys.length
 ·have bl:((xs.length:Int) != (ys.length:Int))=false:=by simp[hl]
  obtain⟨N,hN⟩:∃ N,xs.length=N:=⟨_,rfl⟩
  have h1:ys.length=N:=qg
  have HN:Hid (xs.length=N/\ys.length=N):=⟨hN,h1⟩
  rw[hN,h1] at bl ⊢
  rw[hN] at hm
  clear hl hN h1
  go_enter (zfx func55),ntmps55
  go_wp2_with fail
  go_loopw [13,5] (fun ii _ wr=>∃ i:Nat,i<=N/\ii=J i/\(∀ j,j<i->xs.getD j 0=ys.getD j 0)/\xE w wr) (fun ii _ _=>N - (intOf ii).toNat)
  case atStart=>exact⟨0,Nat.zero_le _,rfl,fun j h=>qg,Below.refl _ _⟩
  case round =>
   rename World=>wo
   obtain⟨i,hi,rfl,h0,hb⟩:=hrel
   by_cases hlt:i<N
   ·obtain⟨g,o,rfl,_,x0⟩:=(h.below hb).at (i:=i) qa
    obtain⟨g2,o2,rfl,_,y0⟩:=(h2.below hb).at (i:=i) qa
    have h4:(i:Int)<(N:Int):=qg
    have wk:IntKind.i64.wrap ((i:Int)+1)=(i:Int)+1:=IntWalk.i64_in _ qg
    have HS:Hid (∀ j,j<i->xs.getD j 0=ys.getD j 0):=h0
    obtain⟨x,ex⟩:∃ x,xs.getD i 0=x:=⟨_,rfl⟩
    obtain⟨y,ey⟩:∃ y,ys.getD i 0=y:=⟨_,rfl⟩
    have HX:Hid (xs.getD i 0=x/\ys.getD i 0=y):=⟨ex,ey⟩
    rw[ex] at x0
    rw[ey] at y0
    clear h h2 h0 ex ey
    by_cases hxy:x=y
    ·have h5:(x != y)=false:=by simp[hxy]
     have HE:Hid (x=y):=hxy
     clear hxy
     go_wp2_with fail
     go_quiet (fail)
     have h3:xE w (wo.drewN nq):=⟨hb.os,hb.tape,hb.output,hb.size,hb.block⟩
     go_wp2_with fail
     go_roundw
     case rel =>
      refine⟨i+1,qg,by go_num,fun j hj=>?_,h3⟩
      rcases Nat.lt_succ_iff_lt_or_eq.1 hj with q|rfl
      ·exact HS.o j q
      ·rw[HX.o.1,HX.o.2];exact HE.o
     case measure=>exact qe
    ·have h5:(x != y)=true:=by simp[hxy]
     have HE:Hid (¬ x=y):=hxy
     clear hxy
     go_wp2_with fail
     go_quiet (fail)
     have h3:xE w (wo.drewN nq):=⟨hb.os,hb.tape,hb.output,hb.size,hb.block⟩
     go_wp2_with fail
     go_ret
     refine⟨?_,h3⟩
     rw[show decide (xs=ys)=false from decide_eq_false fun e=>HE.o (by rw[<- HX.o.1,<- HX.o.2,e])]
     rfl
   ·have h4:¬ (i:Int)<(N:Int):=qg
    have HS:Hid (∀ j,j<i->xs.getD j 0=ys.getD j 0):=h0
    clear h0
    go_wp2_with fail
    go_ret
    refine⟨?_,hb⟩
    rw[show decide (xs=ys)=true from decide_eq_true (zom (HN.o.1.trans HN.o.2.symm) fun j hj=>HS.o j qa)]
    rfl
 ·have bl:((xs.length:Int) != (ys.length:Int))=true:=qn
  have hd:decide (xs=ys)=false:=decide_eq_false (fun e=>hl (by rw[e]))
  rw[hd]
  clear hd hl
  go_enter (zfx func55),ntmps55
  go_wp2_with fail
  go_ret
  exact⟨rfl,Below.refl _ _⟩
theorem zf3(a a2:Od)(c c2:Nat)(xs ys:List Int)(w:World)(h:zcA w a xs)(h2:zcA w a2 ys)(hm:xs.length<=1099511627776) :
  Calls SqP.prog 51 #[.slice a xs.length c,.slice a2 ys.length c2] w (xB w (.bool (decide (xs=ys)))):=by
 by_cases hl:xs.length=ys.length
 ·have bl:((xs.length:Int) != (ys.length:Int))=false:=by simp[hl]
  obtain⟨N,hN⟩:∃ N,xs.length=N:=⟨_,rfl⟩
  have h1:ys.length=N:=qg
  have HN:Hid (xs.length=N/\ys.length=N):=⟨hN,h1⟩
  rw[hN,h1] at bl ⊢
  rw[hN] at hm
  clear hl hN h1
  go_enter (zfx func51),ntmps51
  go_wp2_with fail
  go_loopw [5] (fun ii  wr=>∃ i:Nat,i<=N/\ii=J i/\(∀ j,j<i->xs.getD j 0=ys.getD j 0)/\xE w wr) (fun ii  _=>N - (intOf ii).toNat)
  case atStart=>exact⟨0,Nat.zero_le _,rfl,fun j h=>qg,Below.refl _ _⟩
  case round =>
   rename World=>wo
   obtain⟨i,hi,rfl,h0,hb⟩:=hrel
   by_cases hlt:i<N
   ·obtain⟨g,o,rfl,_,x0⟩:=(h.below hb).at (i:=i) qa
    obtain⟨g2,o2,rfl,_,y0⟩:=(h2.below hb).at (i:=i) qa
    have h4:(i:Int)<(N:Int):=qg
    have wk:IntKind.i64.wrap ((i:Int)+1)=(i:Int)+1:=IntWalk.i64_in _ qg
    have HS:Hid (∀ j,j<i->xs.getD j 0=ys.getD j 0):=h0
    obtain⟨x,ex⟩:∃ x,xs.getD i 0=x:=⟨_,rfl⟩
    obtain⟨y,ey⟩:∃ y,ys.getD i 0=y:=⟨_,rfl⟩
    have HX:Hid (xs.getD i 0=x/\ys.getD i 0=y):=⟨ex,ey⟩
    rw[ex] at x0
    rw[ey] at y0
    clear h h2 h0 ex ey
    by_cases hxy:x=y
    ·have h5:(x != y)=false:=by simp[hxy]
     have HE:Hid (x=y):=hxy
     clear hxy
     go_wp2_with fail
     go_quiet (fail)
     have h3:xE w (wo.drewN nq):=⟨hb.os,hb.tape,hb.output,hb.size,hb.block⟩
     go_wp2_with fail
     go_roundw
     case rel =>
      refine⟨i+1,qg,by go_num,fun j hj=>?_,h3⟩
      rcases Nat.lt_succ_iff_lt_or_eq.1 hj with q|rfl
      ·exact HS.o j q
      ·rw[HX.o.1,HX.o.2];exact HE.o
     case measure=>exact qe
    ·have h5:(x != y)=true:=by simp[hxy]
     have HE:Hid (¬ x=y):=hxy
     clear hxy
     go_wp2_with fail
     go_quiet (fail)
     have h3:xE w (wo.drewN nq):=⟨hb.os,hb.tape,hb.output,hb.size,hb.block⟩
     go_wp2_with fail
     go_ret
     refine⟨?_,h3⟩
     rw[show decide (xs=ys)=false from decide_eq_false fun e=>HE.o (by rw[<- HX.o.1,<- HX.o.2,e])]
     rfl
   ·have h4:¬ (i:Int)<(N:Int):=qg
    have HS:Hid (∀ j,j<i->xs.getD j 0=ys.getD j 0):=h0
    clear h0
    go_wp2_with fail
    go_ret
    refine⟨?_,hb⟩
    rw[show decide (xs=ys)=true from decide_eq_true (zom (HN.o.1.trans HN.o.2.symm) fun j hj=>HS.o j qa)]
    rfl
 ·have bl:((xs.length:Int) != (ys.length:Int))=true:=qn
  have hd:decide (xs=ys)=false:=decide_eq_false (fun e=>hl (by rw[e]))
  rw[hd]
  clear hd hl
  go_enter (zfx func51),ntmps51
  go_wp2_with fail
  go_ret
  exact⟨rfl,Below.refl _ _⟩
theorem zpz(a a2:Od)(c c2:Nat)(xs ys:List (List Int))(w:World)(h:zc7 w a xs)(h2:zc7 w a2 ys)(hm:xs.length<=1099511627776)(hx:∀ k,k<xs.length->(xs.getD k []).length<=1099511627776) :
  Calls SqP.prog 56 #[.slice a xs.length c,.slice a2 ys.length c2,.func (.func 55) #[] #[]] w (xB w (.bool (decide (xs=ys)))):=by
 by_cases hl:xs.length=ys.length
 ·have bl:((xs.length:Int) != (ys.length:Int))=false:=by simp[hl]
  obtain⟨N,hN⟩:∃ N,xs.length=N:=⟨_,rfl⟩
  have h1:ys.length=N:=qg
  have HN:Hid (xs.length=N/\ys.length=N):=⟨hN,h1⟩
  have HX0:Hid (∀ k,k<xs.length->(xs.getD k []).length<=1099511627776):=hx
  rw[hN,h1] at bl ⊢
  rw[hN] at hm
  clear hl hN h1 hx
  go_enter (zfx func56),ntmps56
  go_wp2_with fail
  go_loopw [17,7,8,9] (fun ii _ _ _ wr=>∃ i:Nat,i<=N/\ii=J i/\(∀ j,j<i->xs.getD j []=ys.getD j [])/\xE w wr) (fun ii _ _ _ _=>N - (intOf ii).toNat)
  case atStart=>exact⟨0,Nat.zero_le _,rfl,fun j h=>qg,Below.refl _ _⟩
  case round =>
   rename World=>wo
   obtain⟨i,hi,rfl,h0,hb⟩:=hrel
   have h5:=hb.size
   by_cases hlt:i<N
   ·obtain⟨g,o,a3,c3,rfl,x0,hX⟩:=(h.below hb).at (k:=i) qa
    obtain⟨g2,o2,a4,c4,rfl,y0,hY⟩:=(h2.below hb).at (k:=i) qa
    have h6:=HX0.o i qa
    have h7:(i:Int)<(N:Int):=qg
    have wk:IntKind.i64.wrap ((i:Int)+1)=(i:Int)+1:=IntWalk.i64_in _ qg
    have HS:Hid (∀ j,j<i->xs.getD j []=ys.getD j []):=h0
    obtain⟨x,ex⟩:∃ x,xs.getD i []=x:=⟨_,rfl⟩
    obtain⟨y,ey⟩:∃ y,ys.getD i []=y:=⟨_,rfl⟩
    have HX:Hid (xs.getD i []=x/\ys.getD i []=y):=⟨ex,ey⟩
    rw[ex] at x0 hX h6
    rw[ey] at y0 hY
    have hC:=fun w hb=>zl5 a3 a4 c3 c4 x y w (hX.below hb) (hY.below hb) h6
    clear h h2 h0 ex ey hX hY
    by_cases hxy:x=y
    ·rw[decide_eq_true hxy] at hC
     have HE:Hid (x=y):=hxy
     clear hxy
     go_wp2_with fail
     refine(hC _ (Below.refl _ _)).mono ?_
     rintro e w7 ⟨rfl,h3⟩
     have h4:=zae hb h5 h3
     go_wp2_with fail
     go_roundw
     case rel =>
      refine⟨i+1,qg,by go_num,fun j hj=>?_,h4⟩
      rcases Nat.lt_succ_iff_lt_or_eq.1 hj with q|rfl
      ·exact HS.o j q
      ·rw[HX.o.1,HX.o.2];exact HE.o
     case measure=>exact qe
    ·rw[decide_eq_false hxy] at hC
     have HE:Hid (¬ x=y):=hxy
     clear hxy
     go_wp2_with fail
     refine(hC _ (Below.refl _ _)).mono ?_
     rintro e w7 ⟨rfl,h3⟩
     have h4:=zae hb h5 h3
     go_wp2_with fail
     go_ret
     refine⟨?_,h4⟩
     rw[show decide (xs=ys)=false from decide_eq_false fun e=>HE.o (by rw[<- HX.o.1,<- HX.o.2,e])]
     rfl
   ·have h7:¬ (i:Int)<(N:Int):=qg
    have HS:Hid (∀ j,j<i->xs.getD j []=ys.getD j []):=h0
    clear h0
    go_wp2_with fail
    go_ret
    refine⟨?_,hb⟩
    rw[show decide (xs=ys)=true from decide_eq_true (zlC (HN.o.1.trans HN.o.2.symm) fun j hj=>HS.o j qa)]
    rfl
 ·have bl:((xs.length:Int) != (ys.length:Int))=true:=qn
  have hd:decide (xs=ys)=false:=decide_eq_false (fun e=>hl (by rw[e]))
  rw[hd]
  clear hd hl
  go_enter (zfx func56),ntmps56
  go_wp2_with fail
  go_ret
  exact⟨rfl,Below.refl _ _⟩
end Sp
namespace Sp
open Go.ChangeShapes Go.WideShapes Go.ChangeAt Go.RowKit
attribute [local go_sem ↓] Go.wp_at_zero Go.wp_at_succ
theorem zq3(n:Nat):(madeCells #[Value.int .i64 0] (n * 1)).toList=zaG (List.replicate n 0):=by
 apply List.ext_getElem?
 intro i
 by_cases hi:i<n
 ·simp[madeCells,zaG,hi,Nat.mod_one]
 ·simp[madeCells,zaG,hi]
theorem zht(a:Od)(cap:Nat)(xs:List Int)(w:World)(h:zcA w a xs)(hm:xs.length<=1048576) :
  Calls SqP.prog 31 #[.slice a xs.length cap] w fun e w'=>∃ g,e=.returned (.slice (xA g) xs.length xs.length)/\zaL w' w.heap.size (.slice (xA g) xs.length xs.length) xs/\xE w w':=by
 obtain⟨i0,hi,h9,he,hf⟩:=info_parts (zqS (aLt:=Sq.altP))
 go_enter (zfx func31),ntmps31
 go_wp2_with (at_make;refine wpList_make_full _ rfl _ _ 25 rfl w.heap.size 3 i0 (J 0) 1 SqP.underlying25 hi h9 he .i64 .i64 _ _ xs.length rfl rfl rfl rfl ?_ ?_ ?_ ?_)
 ·rw[hf];omega
 ·unfold maxLen;omega
 ·exact Nat.le_refl _
 intro w1 h4 h5
 have HO1:zaL w1 w.heap.size (.slice (xA w.heap.size) xs.length xs.length) (List.replicate xs.length 0):=by
  unfold zaL
  rw[List.length_replicate,<- zq3,Nat.mul_one]
  simpa [Value.cells] using h4
 have hg:xE w w1:=(Below.refl _ _).grown h5 (Nat.le_refl _) (fun k hk=>by cases hk)
 clear h4 h5
 go_wp2
 go_loopw [4] (fun i wr=>∃ (k:Nat) (ys:List Int),k<=xs.length/\i=J k/\ys=xs.take k++List.replicate (xs.length - k) 0/\zaL wr w.heap.size (.slice (xA w.heap.size) xs.length xs.length) ys/\xE w wr) (fun i _=>xs.length - (intOf i).toNat)
 case atStart=>exact⟨0,_,Nat.zero_le _,rfl,qm,HO1,hg⟩
 case round =>
  rename World=>wo
  obtain⟨k,ys,hk,rfl,h0,hO,hb⟩:=hrel
  by_cases hlt:k<xs.length
  ·obtain⟨b,off,rfl,hj,hc⟩:=h.at hlt
   have hc2:=(hb.cell (p:=(O b (off+k))) hj).trans hc
   have hl:(k:Int)<(xs.length:Int):=qg
   have h2:ys.length=xs.length:=by rw[h0];simp;omega
   unfold zaL at hO
   rw[h2] at hO
   have q0:=hO.cellAt k qg
   have f0:=hO.frozenAt k
   have h6:=hO.stored k (J (xs.getD k 0))
   have e0:(zaG ys)[k]?=some (J (ys.getD k 0)):=by simp[zaG,List.getElem?_eq_getElem (show k<ys.length by omega)]
   rw[e0] at q0
   have h7:zaL (wo.setCell (xC w k) (J (xs.getD k 0))) w.heap.size (.slice (xA w.heap.size) xs.length xs.length) (ys.set k (xs.getD k 0)):=by
    unfold zaL
    rw[show (ys.set k (xs.getD k 0)).length=xs.length by simp[h2],show zaG (ys.set k (xs.getD k 0))=(zaG ys).set k (J (xs.getD k 0)) by simp[zaG,List.map_set]]
    exact h6.1
   have h3:ys.set k (xs.getD k 0)=xs.take (k+1)++List.replicate (xs.length - (k+1)) 0:=by
    rw[h0,zeF xs k 0 hlt,show xs.length - k=(xs.length - (k+1))+1 by omega,List.replicate_succ,List.set_append]
    simp
    rw[show min k xs.length=k by omega]
    simp
   have h8:xE w (wo.setCell (xC w k) (J (xs.getD k 0))):=hb.setCell (p:=(xC w k)) (Nat.le_refl _) _
   obtain⟨x,ex⟩:∃ x,xs.getD k 0=x:=⟨_,rfl⟩
   obtain⟨y,ey⟩:∃ y,ys.getD k 0=y:=⟨_,rfl⟩
   rw[ex] at hc2 h7 h3 h8
   rw[ey] at q0
   have HSE:Hid (ys.set k x=xs.take (k+1)++List.replicate (xs.length - (k+1)) 0):=h3
   clear hO h6 e0 h2 h0 hc h3 ex ey
   go_wp2_with fail
   go_roundw
   case rel=>exact⟨k+1,_,qg,by go_num,HSE.o,h7,h8⟩
   case measure=>exact qe
  ·have h1:ys=xs:=by rw[h0,List.take_of_length_le qg,show xs.length - k=0 by omega];simp
   rw[h1] at hO
   clear h0 h1
   go_wp2_with fail
   go_ret
   exact⟨_,rfl,hO,hb⟩
theorem ziR(a a2:Od)(c c2:Nat)(xs:List Int)(w:World)(h:zcA w a xs)(h2:zcA w a2 xs)(hm:xs.length<=1048576) :
  Calls SqP.prog 10 #[.slice a xs.length c,.slice a2 xs.length c2] w (xB w (.bool true)):=by
 have bl:((xs.length:Int) != (xs.length:Int))=false:=qm
 go_enter (zfx func10),ntmps10
 go_wp2_with fail
 go_loopw [5] (fun ii wr=>∃ i:Nat,i<=xs.length/\ii=J i/\xE w wr) (fun ii _=>xs.length - (intOf ii).toNat)
 case atStart=>exact⟨0,Nat.zero_le _,rfl,Below.refl _ _⟩
 case round =>
  rename World=>wo
  obtain⟨i,hi,rfl,hb⟩:=hrel
  by_cases hlt:i<xs.length
  ·obtain⟨g,off,ea,_,x0⟩:=(h.below hb).at hlt
   obtain⟨g2,off2,ea2,_,y0⟩:=(h2.below hb).at hlt
   subst ea
   subst ea2
   have h1:(i:Int)<(xs.length:Int):=qg
   obtain⟨x,ex⟩:∃ x,xs.getD i 0=x:=⟨_,rfl⟩
   rw[ex] at x0 y0
   have h3:(x != x)=false:=qm
   clear h h2 ex
   go_wp2_with fail
   go_quiet (fail)
   have h0:xE w (wo.drewN nq):=⟨hb.os,hb.tape,hb.output,hb.size,hb.block⟩
   go_wp2_with fail
   go_roundw
   case rel=>exact⟨i+1,qg,by go_num,h0⟩
   case measure=>exact qe
  ·go_wp2_with fail
   go_ret
   exact⟨rfl,hb⟩
end Sp
namespace Sp
variable{aLt:Nat->Func->Func}
open Go.RowKit
theorem zqT:((SqG.prog aLt).info? 3).map (fun i=>(i.zero,i.size,i.bytes))=some (some (J 0),1,8):=qh
theorem zlI(n:Nat)(hn:n<=1048576)(w:World):(Instr.makeSlice 25 (J (n:Int)) (J (n:Int))).run (SqG.prog aLt) w=.ok (.slice (xA w.heap.size) n n) (w.alloc (.cells (madeCells #[J 0] n) 3)):=by
 obtain⟨i0,hi,iz0,iz1,iz2⟩:=info_parts (zqT (aLt:=aLt))
 have:=run_make (P:=(SqG.prog aLt)) w 25 3 i0 (J 0) SqG.underlying25 hi iz0 .i64 .i64 (n:Int) (n:Int) qg qg (by rw[iz2];omega) qg
 rw[iz1] at this
 simpa [Value.cells] using this
