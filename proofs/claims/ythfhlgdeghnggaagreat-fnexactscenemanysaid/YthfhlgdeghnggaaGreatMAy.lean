/- Part. -/
import Derived.Test.YthfhlgdeghnggaaGreatMAx
set_option maxHeartbeats 8000000
set_option maxRecDepth 100000
set_option linter.unusedVariables false
namespace Go.Proofs.YthfhlgdeghnggaaGreat
variable{r:Ending}{wd:Int}{es:List (Int × Int × Int)}{fs:List (List Int)}{ls:List Int}{cs:Lp}{B M N fc g gc hi lc:Nat}{s:Nat->Bool}{L l:Nat->Int}{F:Nat->List Int}{cp n:Nat->Nat}{f:Nat->Nat->Int}{ad ad2:Nat->Option Addr}{S:Nat->Prop}{a fa ga la:Option Addr}{w w':World}
open _root_.Go.Proofs.Tryz
namespace Sp
open Go.RowKit
attribute [local go_sem ↓] Go.wp_at_zero Go.wp_at_succ
theorem zh8{c:Nat}(h:Own w B (.slice a N c) cs):zaf w a cs:=by
 obtain⟨a2,c2,e,hC⟩:=h.slice
 simp only[Value.slice.injEq] at e
 obtain⟨rfl,_,rfl⟩:=e
 exact hC
structure Sn(w:World)(B hi N:Nat)(cs:Lp)(M:Nat)(l:Nat->Int)(n:Nat->Nat)(f:Nat->Nat->Int)(ga la fa:Option Addr)(gc:Nat)(ad:Nat->Option Addr)(cp:Nat->Nat):Prop where
 own:Own w B (.slice ga N gc) cs
 li:RI w la (M * 1) l
 feet:zbj w B hi fa M ad n cp f
 ap:zfA hi ga la fa M ad
 lo:∀ e,zaL ga e\/zaL la e\/zaL fa e\/zbd M ad e->B<=e
 top:hi<=w.heap.size
theorem Sn.off(h:Sn w B hi N cs M l n f ga la fa gc ad cp)(ho:za0 S w w')(hS:∀ e,B<=e->e<hi->¬ S e):Sn w' B hi N cs M l n f ga la fa gc ad cp :=
 ⟨zeu h.own ho (fun b hb=>hS b (h.lo b (.inl (zch hb))) (h.ap.lt b (.inl (zch hb)))),h.li.offN ho (fun x e=>hS _ (h.lo _ (.inr (.inl ⟨x,e,rfl⟩))) (h.ap.lt _ (.inr (.inl ⟨x,e,rfl⟩)))),h.feet.off ho hS,h.ap,h.lo,Nat.le_trans h.top ho.size⟩
theorem Sn.below(h:Sn w B hi N cs M l n f ga la fa gc ad cp)(hb:xE w w'):Sn w' B hi N cs M l n f ga la fa gc ad cp :=
 h.off (S:=fun _=>False) (za0.of hb) (fun _ _ _=>id)
theorem zfA.mono{sz sz':Nat}(h:zfA sz ga la fa M ad)(hz:sz<=sz'):zfA sz' ga la fa M ad :=
 ⟨h.gl,h.gf,h.gr,h.lf,h.lr,fun e q=>nll (h.lt e q) hz⟩
theorem zur{ga2 la2 fa2:Option Addr}{gc2 lc2 fc2 B2 h0:Nat}{cp2:Nat->Nat}(h:Sn w B hi N cs M l n f ga la fa gc ad cp)(h2:Sn w B2 h0 N cs M l n f ga2 la2 fa2 gc2 ad2 cp2)(hN:cs.length=N)(hm:N<=25)(hM:M<=20)(hn:∀ k,k<M->n k<=1000) :
  Calls SqP.prog 11 #[.agg (xH wd ga N gc la M lc fa M fc),.agg (xH wd ga2 N gc2 la2 M lc2 fa2 M fc2)] w (xB w (.bool true)):=by
 subst hN
 exact zom wd cs M ga ga2 la la2 fa fa2 gc gc2 lc lc2 fc fc2 B hi B2 h0 ad ad2 n cp cp2 l f w (zh8 h.own) (zh8 h2.own) h.li h2.li h.feet h2.feet qg hM hn
theorem zsd{k1 k2 k3:Int}(h:Sn w B hi N (marks 1 N) M (fun j=>k1+(j:Int)) n (fun k j=>k2+(zb8 n k:Int)+(j:Int)) ga la fa gc ad cp)(hm:N<=25)(hM:M<=20)(hn:∀ k,k<M->n k<=1000)(e1:k1=1+2 * (N:Int))(e2:k2=k1+1 * (M:Int))(e3:k3=k2+(zb8 n M:Int)) :
  Calls SqP.prog 18 #[.agg (xH wd ga N gc la M lc fa M fc),J 1] w (xB w (J k3)) :=
 zki wd 1 k1 k2 k3 N M ga la fa gc lc fc B hi ad n cp w e1 e2 e3 qg (zh8 h.own) h.li h.feet qg hM hn
end Sp
namespace Sp
open Go.RowKit
theorem zpB{lo:Nat}{ga ck bl bf:Nat}{arrL arrF:Array Value}(h:ScE lo w cs M ga ck bl bf arrL arrF L F)(hN:cs.length=N) :
  ∃ ad cp,Sn w lo w.heap.size N cs M L (fun j=>(F j).length) (fun j i=>(F j).getD i 0) (xA ga) (xA bl) (xA bf) ck ad cp/\∀ e,zbd M ad e->∃ j u,j<M/\arrF[j]?=some u/\u.ownBlock=some e:=by
 subst hN
 obtain⟨xs,exs⟩:∃ xs:Nat->Value,xs=fun j=>(arrF[j]?).getD undef:=⟨_,rfl⟩
 have h0:∀ j,j<M->arrF[j]?=some (xs j)/\zaR w lo (xs j) (F j):=fun j hj=>by
  obtain⟨v,e,q⟩:=h.row j hj
  have e2:xs j=v:=by
   rw[exs]
   show (arrF[j]?).getD undef=v
   rw[e]
   rfl
  rw[e2]
  exact⟨e,q⟩
 have hx:∀ j,j<M->xs j=.slice (znK (xs j)) (F j).length (zbD (xs j))/\RI w (znK (xs j)) ((F j).length * 1) (fun i=>(F j).getD i 0)/\∀ x,znK (xs j)=some x->(xs j).ownBlock=some x.block:=fun j hj=>by
  obtain⟨a,c,h1,h2,h3⟩:=zcF (h0 j hj).2
  rw[h1] at h3 ⊢
  exact⟨rfl,h2,h3⟩
 have h5:∀ j x,j<M->znK (xs j)=some x->(lo<=x.block/\x.block<w.heap.size)/\(x.block≠ga/\x.block≠bl/\x.block≠bf):=fun j x hj q=>⟨World.ownsRow.lt (h0 j hj).2 x.block ((hx j hj).2.2 x q),h.apart j _ hj (h0 j hj).1 x.block ((hx j hj).2.2 x q)⟩
 have h4:∀ e,zbd M (fun j=>znK (xs j)) e->(lo<=e/\e<w.heap.size)/\(e≠ga/\e≠bl/\e≠bf):=fun e ⟨k,x,q1,q2,q3⟩=>by rw[q3];exact h5 k x q1 q2
 have h7:=h.lt
 have h6:=h.lts
 refine⟨fun j=>znK (xs j),fun j=>zbD (xs j),⟨h.grid,.inr ⟨bl,rfl,h6.2.1,fun j hj=>⟨?_,frozen_of_row _ _ j _ _ h.lights⟩⟩,.inr ⟨bf,rfl,⟨h7.1.2.2,h6.2.2⟩,fun k hk=>?_,fun k hk=>(hx k hk).2.1,fun k x hk q=>⟨(h5 k x hk q).1,(h5 k x hk q).2.2.2⟩,fun k k' x x' hk hk' q q' e=>?_,Nat.le_refl _⟩,⟨?_,?_,?_,?_,?_,?_⟩,?_,Nat.le_refl _⟩,?_⟩
 ·rw[cell_of_row _ _ j _ _ _ h.lights,h.atL j qg]
 ·rw[cell_of_row _ _ k _ _ _ h.feet,(h0 k hk).1]
  exact congrArg some (hx k hk).1
 ·have q1:=(hx k hk).2.2 x q
  have q2:=(hx k' hk').2.2 x' q'
  rw[<- e] at q2
  exact h.inj k k' _ _ x.block hk hk' (h0 k hk).1 (h0 k' hk').1 q1 q2
 ·intro e q q'
  have:=zam q;have:=zam q';omega
 ·intro e q q'
  have:=zam q;have:=zam q';omega
 ·intro e q q'
  have:=zam q;have:=(h4 e q').2.1;omega
 ·intro e q q'
  have:=zam q;have:=zam q';omega
 ·intro e q q'
  have:=zam q;have:=(h4 e q').2.2.1;omega
 ·rintro e (q|q|q)
  ·have:=zam q;omega
  ·have:=zam q;omega
  ·exact(h4 e q).1.2
 ·rintro e (q|q|q|q)
  ·have:=zam q;omega
  ·have:=zam q;omega
  ·have:=zam q;omega
  ·exact(h4 e q).1.1
 ·rintro e ⟨k,x,q1,q2,q3⟩
  exact⟨k,xs k,q1,(h0 k q1).1,by rw[q3];exact(hx k q1).2.2 x q2⟩
theorem ztY(h:hi<=w.heap.size):Sn w B hi 0 [] 0 l n f none none none 0 (fun _=>none) (fun _=>0):=by
 have h0:∀ e,¬ zaL none e:=fun e ⟨x,h,_⟩=>by cases h
 have h1:∀ e,¬ zbd 0 (fun _=>none) e:=fun e ⟨k,x,h,_⟩=>by omega
 exact⟨⟨rfl,.inl ⟨rfl,rfl⟩⟩,.inl rfl,.inl rfl,⟨fun e h=>absurd h (h0 e),fun e h=>absurd h (h0 e),fun e h=>absurd h (h0 e),fun e h=>absurd h (h0 e),fun e h=>absurd h (h0 e),fun e h=>by rcases h with h|h|h;exact absurd h (h0 e);exact absurd h (h0 e);exact absurd h (h1 e)⟩,fun e h=>by rcases h with h|h|h|h;exact absurd h (h0 e);exact absurd h (h0 e);exact absurd h (h0 e);exact absurd h (h1 e),h⟩
def ztr(w:World)(wd:Int)(N:Nat)(cs:Lp)(M:Nat)(l:Nat->Int)(n:Nat->Nat)(f:Nat->Nat->Int)(m:Nat)(A:Nat->Int)(ok:Bool)(r:Ending)(w':World):Prop :=
 ∃ ga la fa gc lc fc ad cp a c,r=.returned (.tuple #[.agg (xH wd ga N gc la M lc fa M fc),.slice a m c,.bool ok])/\Sn w' w.heap.size w'.heap.size N cs M l n f ga la fa gc ad cp/\Row1 w' w.heap.size w'.heap.size a m A/\(∀ x,a=some x->¬ (zaL ga x.block\/zaL la x.block\/zaL fa x.block\/zbd M ad x.block))/\xE w w'
theorem zsz(h:ztq w wd cs ls fs es r w')(ho:zb4 wd cs ls fs es=false):ztr w 0 0 [] 0 (fun _=>0) (fun _=>0) (fun _ _=>0) 0 (fun _=>0) false r w':=by
 obtain⟨x,v,b,rfl,eb,hb,h0,_⟩:=h
 rw[ho] at eb
 subst eb
 obtain⟨rfl,hO⟩:=h0 rfl
 obtain⟨a,c,rfl,h4⟩:=zrk hO
 refine⟨none,none,none,0,0,0,fun _=>none,fun _=>0,a,c,rfl,ztY (Nat.le_refl _),⟨.inl rfl,h4.2⟩,?_,hb⟩
 rintro x rfl (q|q|q|q)
 ·obtain⟨y,q1,_⟩:=q;cases q1
 ·obtain⟨y,q1,_⟩:=q;cases q1
 ·obtain⟨y,q1,_⟩:=q;cases q1
 ·obtain⟨k,y,q1,_⟩:=q;omega
theorem zqi(h:ztq w wd cs ls fs es r w')(ho:zb4 wd cs ls fs es=true)(hl:ls.length=fs.length)(es':sM fs es=s)(eL:doL wd (zck cs es es.length) (fun j=>ls.getD j 0) (sM fs es) fs.length=L)(eF:doF wd (zck cs es es.length) (fun j=>fs.getD j []) (sM fs es) fs.length=F) :
  ztr w wd cs.length (zck cs es es.length) fs.length L (fun j=>(F j).length) (fun j i=>(F j).getD i 0) (zbg s fs.length).length (fun i=>(zbg s fs.length).getD i 0) true r w':=by
 obtain⟨x,v,b,rfl,eb,hb,_,h1⟩:=h
 rw[ho] at eb
 subst eb
 obtain⟨ga,ck,bl,lk,bf,fk,arrL,arrF,rfl,hS,hO,h0,h4⟩:=h1 rfl
 rw[eL,eF] at hS
 rw[es'] at hO
 obtain⟨ad,cp,h5,h6⟩:=zpB hS (zbw cs es es.length)
 obtain⟨a,c,rfl,h2,h3⟩:=zcF hO
 rw[hl]
 refine⟨_,_,_,_,_,_,ad,cp,a,c,rfl,h5,⟨h2,fun x q=>World.ownsRow.lt hO _ (h3 x q)⟩,?_,hb⟩
 rintro x rfl (q|q|q|q)
 ·have:=h0 _ (h3 x rfl);have:=zam q;omega
 ·have:=h0 _ (h3 x rfl);have:=zam q;omega
 ·have:=h0 _ (h3 x rfl);have:=zam q;omega
 ·obtain⟨j,u,q1,q2,q3⟩:=h6 _ q
  exact h4 j u _ q1 q2 q3 (h3 x rfl)
theorem zmJ(ho:zb4 wd cs ls fs es=true):cs.length<=25/\fs.length<=20/\ls.length=fs.length/\(∀ k,k<fs.length->(doF wd (zck cs es es.length) (fun j=>fs.getD j []) (sM fs es) fs.length k).length<=1000)/\(zbg (sM fs es) fs.length).length<=20:=by
 unfold zb4 at ho
 simp only[Bool.and_eq_true,decide_eq_true_eq] at ho
 obtain⟨k1,k2,k3,k4,_⟩:=zbY ho.1 ho.2.1 ho.2.2
 refine⟨k1.2,k2.2,k3,fun k hk=>?_,Nat.le_trans (zeb _ _) k2.2⟩
 unfold doF
 split
 ·exact Nat.le_trans (zeQ _ _) (by rw[zbw];omega)
 ·exact(k4 k hk).2
end Sp
namespace Sp
open Go.RowKit
attribute [local go_sem ↓] Go.wp_at_zero Go.wp_at_succ
def EdM(w:World)(g:Nat)(es:List (Int × Int × Int)):Prop:=∃ arr,w.heap[g]?=some (.cells arr 50)/\arr.size=es.length * 3/\∀ j,j<es.length->arr[j * 3]?=some (J (es.getD j (0,0,0)).1)/\arr[j * 3+1]?=some (J (es.getD j (0,0,0)).2.1)/\arr[j * 3+2]?=some (J (es.getD j (0,0,0)).2.2)
theorem EdM.lt(h:EdM w g es):g<w.heap.size:=let ⟨_,h1,_⟩:=h;(gei h1).1
theorem EdM.heap(h:EdM w g es)(hk:w'.heap[g]?=w.heap[g]?):EdM w' g es:=let ⟨arr,h1,h2⟩:=h;⟨arr,hk.trans h1,h2⟩
theorem EdM.m(h:EdM w g es):zdO w (xA g) es:=by
 have hl:=h.lt
 obtain⟨arr,h1,h2,h3⟩:=h
 refine .inr ⟨g,0,rfl,hl,fun i hi=>?_⟩
 obtain⟨q1,q2,q3⟩:=h3 i hi
 refine⟨?_,?_,?_⟩
 ·rw[Nat.zero_add,cell_of_row _ _ _ _ _ _ h1,q1]
 ·rw[Nat.zero_add,cell_of_row _ _ _ _ _ _ h1,q2]
 ·rw[Nat.zero_add,cell_of_row _ _ _ _ _ _ h1,q3]
def edF(es:List (Int × Int × Int))(j:Nat):Int:=if j % 3=0 then (es.getD (j / 3) (0,0,0)).1 else if j % 3=1 then (es.getD (j / 3) (0,0,0)).2.1 else (es.getD (j / 3) (0,0,0)).2.2
theorem EdM.ri(h:EdM w g es):RI w (xA g) (es.length * 3) (edF es):=by
 have hl:=h.lt
 obtain⟨arr,h1,h2,h3⟩:=h
 refine .inr ⟨g,rfl,hl,fun j hj=>⟨?_,frozen_of_row _ _ j _ _ h1⟩⟩
 obtain⟨q1,q2,q3⟩:=h3 (j / 3) qg
 rw[cell_of_row _ _ _ _ _ _ h1]
 have:j % 3=0\/j % 3=1\/j % 3=2:=qg
 unfold edF
 rcases this with q|q|q
 ·rw[if_pos q,<- q1,show j / 3 * 3=j by omega]
 ·rw[if_neg qg,if_pos q,<- q2,show j / 3 * 3+1=j by omega]
 ·rw[if_neg qg,if_neg qg,<- q3,show j / 3 * 3+2=j by omega]
theorem zk7(a:Option Addr)(cap:Nat)(es:List (Int × Int × Int))(w:World)(h:zdO w a es)(hm:es.length<=1048576) :
  Calls SqP.prog 21 #[.slice a es.length cap] w fun e w'=>e=.returned (.slice (xA w.heap.size) es.length es.length)/\EdM w' w.heap.size es/\xE w w':=by
 obtain⟨N,hN⟩:∃ N,es.length=N:=⟨_,rfl⟩
 have HN:Hid (es.length=N):=hN
 rw[hN] at hm ⊢
 clear hN
 have h3:=zmI N hm w
 have H0:CpE w (w.alloc (.cells (madeCells #[J 0,J 0,J 0] (N * 3)) 50)) w.heap.size N 0 es (madeCells #[J 0,J 0,J 0] (N * 3)):=⟨bel,(zaU _ w).1,by simp[madeCells],fun j hj=>qg⟩
 go_enter (zfx func21),ntmps21
 go_wp2_with fail
 obtain⟨wz,h2⟩:∃ wz,wz=w.alloc (.cells (madeCells #[J 0,J 0,J 0] (N * 3)) 50):=⟨_,rfl⟩
 rw[<- h2] at H0 ⊢
 clear h3 h2
 go_loopw [4] (fun i wr=>∃ (k:Nat) (arr:Array Value),k<=N/\i=J k/\CpE w wr w.heap.size N k es arr) (fun i _=>N - (intOf i).toNat)
 case atStart=>exact⟨0,_,Nat.zero_le _,rfl,H0⟩
 case round =>
  rename World=>wo
  obtain⟨i,arr,hi,rfl,hI⟩:=hrel
  have hb:=hI.below
  have h7:=hb.size
  by_cases hlt:i<N
  ·obtain⟨b,off,x,k,l,rfl,he,x0,x1,x2⟩:=(h.below hb).at (i:=i) qa
   have h6:(i:Int)<(N:Int):=qg
   have HI:Hid (CpE w wo w.heap.size N i es arr):=hI
   have HE:Hid (es.getD i (0,0,0)=(x,k,l)):=he
   clear h he hI
   go_wp2_with fail
   refine(znA x k l wo).mono ?_
   rintro e w1 ⟨rfl,h1⟩
   have h4:=HI.o.next (Nat.le_refl _) hlt HE.o h1
   have h0:w1.heap[w.heap.size]?=some (.cells arr 50):=(h1.block _ (gei HI.o.top).1).trans HI.o.top
   have h5:=HI.o.size
   have l0:w1.cell? (O w.heap.size (i * 3))=some (arr.getD (i * 3) .nilFunc):=by rw[cell_of_row _ _ _ _ _ _ h0];simp[show i * 3<arr.size by omega]
   have l1:w1.cell? (O w.heap.size (i * 3+1))=some (arr.getD (i * 3+1) .nilFunc):=by rw[cell_of_row _ _ _ _ _ _ h0];simp[show i * 3+1<arr.size by omega]
   have l2:w1.cell? (O w.heap.size (i * 3+2))=some (arr.getD (i * 3+2) .nilFunc):=by rw[cell_of_row _ _ _ _ _ _ h0];simp[show i * 3+2<arr.size by omega]
   have f0:=thaw h0 (i * 3)
   have f1:=thaw h0 (i * 3+1)
   have f2:=thaw h0 (i * 3+2)
   clear h0 h1 h5
   go_wp2_with fail
   go_roundw
   case rel=>exact⟨i+1,_,qg,by go_num,h4⟩
   case measure=>exact qe
  ·have h8:¬ (i:Int)<(N:Int):=qg
   have HI:Hid (CpE w wo w.heap.size N i es arr):=hI
   clear hI h
   go_wp2_with fail
   go_ret
   obtain rfl:i=N:=qg
   exact⟨rfl,⟨arr,HI.o.top,by rw[HN.o];exact HI.o.size,by rw[HN.o];exact HI.o.at'⟩,hb⟩
theorem zkw(k0:Int)(a:Option Addr)(n cap:Nat)(f:Nat->Int)(w:World)(h:RI w a (n * 3) f)(hm:n<=1048576)(h7:0<=k0/\k0<=4611686018427387904) :
  Calls SqP.prog 24 #[.slice a n cap,J k0] w fun e w'=>e=.returned (J (k0+3 * (n:Int)))/\RI w' a (n * 3) (fun j=>k0+(j:Int))/\w.grownBy w' (Value.slice a n cap).ownBlock:=by
 go_enter (zfx func24),ntmps24
 go_wp2_with fail
 go_loopw [1,5] (fun v ii wr=>∃ i:Nat,i<=n/\ii=J i/\v=J (k0+3 * (i:Int))/\RI wr a (n * 3) (fun j=>if j<i * 3 then k0+(j:Int) else f j)/\w.grownBy wr (Value.slice a n cap).ownBlock) (fun _ ii _=>n - (intOf ii).toNat)
 case atStart=>exact⟨0,Nat.zero_le _,rfl,qm,h.like (fun j _=>qm),World.grownBy.refl _ _⟩
 case round =>
  rename World=>wo
  obtain⟨i,hi,rfl,rfl,hR,hg⟩:=hrel
  by_cases hlt:i<n
  ·obtain⟨g,ea,h8,hc⟩:=hR.at qg
   subst ea
   have h9:(i:Int)<(n:Int):=qg
   obtain⟨c0,z0⟩:=hc (i * 3) qg
   obtain⟨u0,eu0⟩:∃ u,(if i * 3<i * 3 then k0+((i * 3:Nat):Int) else f (i * 3))=u:=⟨_,rfl⟩
   simp only[eu0] at c0
   obtain⟨c1,z1⟩:=hc (i * 3+1) qg
   obtain⟨u1,eu1⟩:∃ u,(if i * 3+1<i * 3 then k0+((i * 3+1:Nat):Int) else f (i * 3+1))=u:=⟨_,rfl⟩
   simp only[eu1] at c1
   obtain⟨c2,z2⟩:=hc (i * 3+2) qg
   obtain⟨u2,eu2⟩:∃ u,(if i * 3+2<i * 3 then k0+((i * 3+2:Nat):Int) else f (i * 3+2))=u:=⟨_,rfl⟩
   simp only[eu2] at c2
   have h2:RI (wo.setCell (O g (i * 3)) (J (k0+3 * (i:Int)))) (xA g) (n * 3) (fun j=>if j<i * 3+1 then k0+(j:Int) else f j):=hR.put (i * 3) (k0+3 * (i:Int)) qg (by rw[if_pos qg];try omega) (fun j hj h0=>by by_cases z:j<i * 3;rw[if_pos qg,if_pos qg];rw[if_neg qg,if_neg qg])
   have h3:RI ((wo.setCell (O g (i * 3)) (J (k0+3 * (i:Int)))).setCell (O g (i * 3+1)) (J (k0+3 * (i:Int)+1))) (xA g) (n * 3) (fun j=>if j<i * 3+2 then k0+(j:Int) else f j):=h2.put (i * 3+1) (k0+3 * (i:Int)+1) qg (by rw[if_pos qg];try omega) (fun j hj h0=>by by_cases z:j<i * 3+1;rw[if_pos qg,if_pos qg];rw[if_neg qg,if_neg qg])
   have h4:RI (((wo.setCell (O g (i * 3)) (J (k0+3 * (i:Int)))).setCell (O g (i * 3+1)) (J (k0+3 * (i:Int)+1))).setCell (O g (i * 3+2)) (J (k0+3 * (i:Int)+1+1))) (xA g) (n * 3) (fun j=>if j<i * 3+3 then k0+(j:Int) else f j):=h3.put (i * 3+2) (k0+3 * (i:Int)+1+1) qg (by rw[if_pos qg];try omega) (fun j hj h0=>by by_cases z:j<i * 3+2;rw[if_pos qg,if_pos qg];rw[if_neg qg,if_neg qg])
   have h5:w.grownBy (((wo.setCell (O g (i * 3)) (J (k0+3 * (i:Int)))).setCell (O g (i * 3+1)) (J (k0+3 * (i:Int)+1))).setCell (O g (i * 3+2)) (J (k0+3 * (i:Int)+1+1))) (Value.slice (xA g) n cap).ownBlock:=⟨hg.os,hg.tape,hg.output,by simpa using hg.size,fun j hj h0=>by
    have h1:j≠g:=fun e=>h0 (by simp[Value.ownBlock,e])
    rw[Below.heap_setCell _ _ _ _ h1,Below.heap_setCell _ _ _ _ h1,Below.heap_setCell _ _ _ _ h1]
    exact hg.block j hj h0⟩
   have HF:Hid (RI (((wo.setCell (O g (i * 3)) (J (k0+3 * (i:Int)))).setCell (O g (i * 3+1)) (J (k0+3 * (i:Int)+1))).setCell (O g (i * 3+2)) (J (k0+3 * (i:Int)+1+1))) (xA g) (n * 3) (fun j=>if j<(i+1) * 3 then k0+(j:Int) else f j)):=h4.like (fun j _=>by rw[show (i+1) * 3=i * 3+3 by omega])
   clear hc hR h2 h3 h4 eu0 eu1 eu2
   go_wp2_with fail
   go_roundw
   case rel=>exact⟨i+1,qg,by go_num,by go_num,HF.o,h5⟩
   case measure=>exact qe
  ·have h6:i=n:=qg
   subst h6
   go_wp2_with fail
   go_ret
   exact⟨rfl,hR.like (fun j hj=>by rw[if_pos hj]),hg⟩
theorem zjh{lo g1 g2 g3:Nat}(h:Mk w lo hi g1 g2 g3 cs ls fs)(hS:zdV cs ls fs)(hc:gc=cs.length/\lc=ls.length) :
  Calls SqP.prog 12 #[.agg (xH wd (xA g1) cs.length gc (xA g2) ls.length lc (xA g3) fs.length fc),J 1] w fun e w'=>∃ r:Int,e=.returned (J r)/\(0<=r/\r<=4398046511104)/\za0 (fun e=>lo<=e/\e<hi) w w':=by
 obtain⟨rfl,rfl⟩:=hc
 obtain⟨h1,h2,h3,ad,h4,h5⟩:=h
 obtain⟨a,c,q1,q2,q3⟩:=zcF h2
 cases q1
 have one:∀ {b e:Nat},zaL (xA b) e->e=b:=fun ⟨x,p1,p2⟩=>by cases p1;exact p2
 have row:∀ {e:Nat},zbd fs.length ad e->g3<e/\e<hi:=fun ⟨k,x,p1,p2,p3⟩=>by rw[p3];exact h5 k x p1 p2
 have hA:zfA w.heap.size (xA g1) (xA g2) (xA g3) fs.length ad:=by
  refine⟨fun e p p'=>?_,fun e p p'=>?_,fun e p p'=>?_,fun e p p'=>?_,fun e p p'=>?_,fun e p=>?_⟩
  ·have:=one p;have:=one p';omega
  ·have:=one p;have:=one p';omega
  ·have:=one p;have:=row p';omega
  ·have:=one p;have:=one p';omega
  ·have:=one p;have:=row p';omega
  ·rcases p with p|p|p
   ·have:=one p;omega
   ·have:=one p;omega
   ·have:=row p;omega
 have hs:=zfw (n:=fun k=>(fs.getD k []).length) hS.2.2.2 fs.length (Nat.le_refl _)
 refine(zf7 wd 1 _ _ _ cs ls.length fs.length lo _ _ _ _ _ fc _ _ ad _ _ _ _ w rfl rfl rfl qg h1 q2 h4 hS.1 hS.2.1 hS.2.2.1 hS.2.2.2 hA).mono ?_
 rintro e w' ⟨rfl,_,_,_,ho⟩
 refine⟨_,rfl,⟨qg,by have:=hS.1;have:=hS.2.1;have:=hS.2.2.1;omega⟩,ho.imp fun e p=>?_⟩
 rcases p with p|p|p
 ·have:=one p;omega
 ·have:=one p;omega
 ·have:=row p;omega
theorem ztF(wd:Int)(cs:Lp)(ls:List Int)(fs:List (List Int))(es:List (Int × Int × Int)):∃ (wd':Int) (N':Nat) (cs':Lp) (M':Nat) (l:Nat->Int) (n:Nat->Nat) (f:Nat->Nat->Int) (m:Nat) (A:Nat->Int) (ok:Bool),cs'.length=N'/\N'<=25/\M'<=20/\(∀ k,k<M'->n k<=1000)/\m<=20 /\
  ∀(w w':World) (r:Ending),ztq w wd cs ls fs es r w'->ztr w wd' N' cs' M' l n f m A ok r w':=by
 rcases ho:zb4 wd cs ls fs es with _|_
 ·exact⟨0,0,[],0,_,_,_,0,_,false,rfl,qg,qg,fun k hk=>qg,qg,fun w w' r h=>zsz h ho⟩
 ·obtain⟨k1,k2,k3,k4,k5⟩:=zmJ ho
  exact⟨wd,cs.length,zck cs es es.length,fs.length,_,_,_,_,_,true,zbw _ _ _,k1,k2,k4,k5,fun w w' r h=>zqi h ho k3 rfl rfl rfl⟩
theorem Sn.offS(h:Sn w B hi N cs M l n f ga la fa gc ad cp)(ho:za0 S w w')(hS:∀ e,zaL ga e\/zaL la e\/zaL fa e\/zbd M ad e->¬ S e):Sn w' B hi N cs M l n f ga la fa gc ad cp :=
 ⟨zeu h.own ho (fun b hb=>hS b (.inl (zch hb))),h.li.offN ho (fun x e=>hS _ (.inr (.inl ⟨x,e,rfl⟩))),h.feet.offS ho (fun x q=>hS _ (.inr (.inr (.inl ⟨x,q,rfl⟩)))) (fun k x hk q=>hS _ (.inr (.inr (.inr ⟨k,x,hk,q,rfl⟩)))),h.ap,h.lo,Nat.le_trans h.top ho.size⟩
theorem zsR(h:Sn w B hi N cs M l n f ga la fa gc ad cp)(hN:cs.length=N)(hm:N<=25)(hM:M<=20)(hn:∀ k,k<M->n k<=1000){k1 k2 k3:Int}(e1:k1=1+2 * (N:Int))(e2:k2=k1+1 * (M:Int))(e3:k3=k2+(zb8 n M:Int)) :
  Calls SqP.prog 12 #[.agg (xH wd ga N gc la M lc fa M fc),J 1] w fun e w'=>e=.returned (J k3)/\Sn w' B hi N (marks 1 N) M (fun j=>k1+(j:Int)) n (fun k j=>k2+(zb8 n k:Int)+(j:Int)) ga la fa gc ad cp/\za0 (fun e=>zaL ga e\/zaL la e\/zbd M ad e) w w':=by
 subst hN
 refine(zf7 wd 1 k1 k2 k3 cs M M B ga la fa gc lc fc B hi ad n cp l f w e1 e2 e3 qg h.own h.li h.feet qg qg qg (fun k hk=>Nat.le_trans (hn k hk) qg) (h.ap.mono h.top)).mono ?_
 rintro e w' ⟨rfl,q1,q2,q3,q4⟩
 exact⟨rfl,⟨q1,q2,q3,h.ap,h.lo,Nat.le_trans h.top q4.size⟩,q4⟩
theorem zfO(wd:Int)(g l f p:Option Addr)(gc lc fc pc:Nat)(cs:Lp)(ls:List Int)(fs:List (List Int))(es:List (Int × Int × Int))(w:World)(hM:ScM w g l f cs ls fs)(hE:zdO w p es)(hF:Fits cs ls fs)(pm:es.length<=9223372036854775807) :
  Calls SqP.prog 5 #[.agg (xH wd g cs.length gc l ls.length lc f fs.length fc),.slice p es.length pc] w (xB w (.bool true)):=by
 obtain⟨w1,hK⟩:∃ w1,w1=w.alloc (.cells (xH wd g cs.length gc l ls.length lc f fs.length fc) 28):=⟨_,rfl⟩
 obtain⟨x1,B1⟩:=zaU (.cells (xH wd g cs.length gc l ls.length lc f fs.length fc) 28) w
 rw[<- hK] at x1 B1
 have z1:w.heap.size<w1.heap.size:=by rw[hK];simp
 go_enter (zfx func5),ntmps5
 go_upto_region 1 with fail
 rw[<- hK]
 obtain⟨c0,c1,c2,c3⟩:=zaz x1
 clear hK x1
 have HM:Hid (ScM w g l f cs ls fs/\zdO w p es):=⟨hM,hE⟩
 go_wp2_with fail
 refine(zk2 wd g l f gc lc fc cs ls fs 1048576 w1 (hM.2.2.below B1) hF qg).mono ?_
 rintro e w2 ⟨r,rfl,hr,hb⟩
 have z2:w.heap.size<w2.heap.size:=nll z1 hb.size
 have B2:xE w w2:=zae B1 B1.size hb
 replace c0:=zab hb c0;replace c1:=zab hb c1;replace c2:=zab hb c2;replace c3:=zab hb c3
 clear hb B1 hM hE
 rcases hr with hr|⟨hr,hS⟩
 ·go_wp2_with fail
  go_ret
  exact⟨rfl,B2⟩
 have hn:¬ r<0:=qg
 by_cases hbig:r - (es.length:Int)<0
 ·have hy:=zkZ p es.length pc r w2 pm qg hbig
  clear hr hS hbig
  go_wp2_with fail
  refine hy.mono ?_
  rintro e w' ⟨rfl,rfl⟩
  go_wp2_with fail
  go_ret
  exact⟨rfl,B2⟩
 have hy:=zk0 p es.length pc r w2 pm qg hbig
 have hU:es.length<=1048576:=qg
 have br2:decide (r - (es.length:Int)<0)=false:=decide_eq_false hbig
 obtain⟨wq,N',cs',M',L,n,F,m,A,ok,hN',hP,hQ,pn,hD,hu⟩:=ztF wd cs ls fs es
 have CI:Hid (∀(g l f p:Option Addr) (gc lc fc pc:Nat) (w:World),ScM w g l f cs ls fs->zdO w p es->Calls SqP.prog 22 #[.agg (xH wd g cs.length gc l ls.length lc f fs.length fc),.slice p es.length pc] w (ztr w wq N' cs' M' L n F m A ok)):=fun g l f p gc lc fc pc w h he=>(zjz wd g l f p gc lc fc pc cs ls fs es w h hS he hU).mono fun e w' q=>hu w w' e q
 have CP:Hid (∀(g l f p:Option Addr) (gc lc fc pc:Nat) (w:World),ScM w g l f cs ls fs->zdO w p es->Calls SqP.prog 20 #[.agg (xH wd g cs.length gc l ls.length lc f fs.length fc),.slice p es.length pc] w (ztr w wq N' cs' M' L n F m A ok)):=fun g l f p gc lc fc pc w h he=>(zjA wd g l f p gc lc fc pc cs ls fs es w h hS he hU).mono fun e w' q=>hu w w' e q
 have HS:Hid (zdV cs ls fs/\es.length<=1048576):=⟨hS,hU⟩
 have HQ:Hid (cs'.length=N'/\N'<=25/\M'<=20/\(∀ k,k<M'->n k<=1000)/\m<=20):=⟨hN',hP,hQ,pn,hD⟩
 obtain⟨U,hL⟩:∃ U,es.length=U:=⟨_,rfl⟩
 have HU:Hid (es.length=U):=hL
 have CT:Hid (∀ w1:World,zdO w1 p es->Calls SqP.prog 21 #[.slice p U pc] w1 fun e w'=>e=.returned (.slice (xA w1.heap.size) U U)/\EdM w' w1.heap.size es/\xE w1 w'):=fun w1 h=>by
  have:=zk7 p pc es w1 h hU
  rw[hL] at this
  exact this
 rw[hL] at hy br2 CI CP hbig ⊢
 clear hr hu hF hS hU hN' hP hQ pn hD hL
 go_wp2_with fail
 refine hy.mono ?_
 rintro e w' ⟨rfl,rfl⟩
 clear hy
 go_wp2_with fail
 refine(zd3 wd g l f gc lc fc cs ls fs w' (HM.o.1.below B2) HS.o.1).mono ?_
 rintro e w3 ⟨g1,l1,f1,rfl,pp,hb⟩
 have z3:w.heap.size<w3.heap.size:=nll z2 hb.size
 have B3:xE w w3:=zae B2 B2.size hb
 replace c0:=zab hb c0;replace c1:=zab hb c1;replace c2:=zab hb c2;replace c3:=zab hb c3
 clear hb B2 z2
 go_wp2_with fail
 refine(CT.o w3 (HM.o.2.below B3)).mono ?_
 rintro e w3a ⟨rfl,pq,hb⟩
 have z3a:w.heap.size<w3a.heap.size:=nll z3 hb.size
 have B3a:xE w w3a:=zae B3 B3.size hb
 have hT:=pp.below hb
 replace c0:=zab hb c0;replace c1:=zab hb c1;replace c2:=zab hb c2;replace c3:=zab hb c3
 clear hb B3 z3 pp
 go_wp2_with fail
 refine(CP.o _ _ _ _ _ _ _ _ w3a hT pq.m).mono ?_
 rintro e w4 ⟨ga0,la0,fa0,gc0,lc0,fc0,ad0,cp0,a0,k0,rfl,h0,r0,_,hb⟩
 have z4:w3a.heap.size<=w4.heap.size:=hb.size
 have B4:xE w w4:=zae B3a B3a.size hb
 replace c0:=zab hb c0;replace c1:=zab hb c1;replace c2:=zab hb c2;replace c3:=zab hb c3
 obtain⟨f0',h5⟩:=zaU (.cells (xH wq ga0 N' gc0 la0 M' lc0 fa0 M' fc0) 35) w4
 have H0:Hid (Sn (w4.alloc (.cells (xH wq ga0 N' gc0 la0 M' lc0 fa0 M' fc0) 35)) w3a.heap.size w4.heap.size N' cs' M' L n F ga0 la0 fa0 gc0 ad0 cp0/\Row1 (w4.alloc (.cells (xH wq ga0 N' gc0 la0 M' lc0 fa0 M' fc0) 35)) w3a.heap.size w4.heap.size a0 m A):=⟨h0.below h5,r0.below h5⟩
 have B5:Hid (xE w (w4.alloc (.cells (xH wq ga0 N' gc0 la0 M' lc0 fa0 M' fc0) 35))):=zae B4 B4.size h5
 have F5:Hid ((w4.alloc (.cells (xH wq ga0 N' gc0 la0 M' lc0 fa0 M' fc0) 35)).heap[w4.heap.size]?=some (.cells (xH wq ga0 N' gc0 la0 M' lc0 fa0 M' fc0) 35)):=f0'
 have Z5:Hid ((w4.alloc (.cells (xH wq ga0 N' gc0 la0 M' lc0 fa0 M' fc0) 35)).heap.size=w4.heap.size+1):=by show _=_;simp
 replace c0:=zab h5 c0
 replace c1:=zab h5 c1
 replace c2:=zab h5 c2
 replace c3:=zab h5 c3
 clear hb B3a hT pq h0 r0 B4 f0' h5
 go_upto_region 9 with fail
 obtain⟨w5,pr⟩:∃ w5,w5=w4.alloc (.cells (xH wq ga0 N' gc0 la0 M' lc0 fa0 M' fc0) 35):=⟨_,rfl⟩
 rw[<- pr] at H0 B5 F5 Z5 c0 c1 c2 c3 ⊢
 clear pr
 have b5:w4.heap.size<w5.heap.size:=by have:=Z5.o;omega
 go_wp2_with fail
 refine(zgD wd g l f gc lc fc cs ls fs w5 (HM.o.1.below B5.o) HS.o.1).mono ?_
 rintro e w6 ⟨gx,lx,fx,rfl,pe,hb⟩
 have z6:w5.heap.size<=w6.heap.size:=hb.size
 have B6:xE w w6:=zae B5.o B5.o.size hb
 have H06:Hid (Sn w6 w3a.heap.size w4.heap.size N' cs' M' L n F ga0 la0 fa0 gc0 ad0 cp0/\Row1 w6 w3a.heap.size w4.heap.size a0 m A):=⟨H0.o.1.below hb,H0.o.2.below hb⟩
 have F6:w6.heap[w4.heap.size]?=some (.cells (xH wq ga0 N' gc0 la0 M' lc0 fa0 M' fc0) 35):=(hb.block _ b5).trans F5.o
 replace c0:=zab hb c0;replace c1:=zab hb c1;replace c2:=zab hb c2;replace c3:=zab hb c3
 clear hb H0 F5 B5 Z5
 obtain⟨y1,h4⟩:=zaU (.cells (xH wd (xA gx) cs.length cs.length (xA lx) ls.length ls.length (xA fx) fs.length fs.length) 35) w6
 have Y7:Hid ((w6.alloc (.cells (xH wd (xA gx) cs.length cs.length (xA lx) ls.length ls.length (xA fx) fs.length fs.length) 35)).heap[w6.heap.size]?=some (.cells (xH wd (xA gx) cs.length cs.length (xA lx) ls.length ls.length (xA fx) fs.length fs.length) 35)):=y1
 have B7:Hid (xE w (w6.alloc (.cells (xH wd (xA gx) cs.length cs.length (xA lx) ls.length ls.length (xA fx) fs.length fs.length) 35))):=zae B6 B6.size h4
 have M7:Hid (ScN (w6.alloc (.cells (xH wd (xA gx) cs.length cs.length (xA lx) ls.length ls.length (xA fx) fs.length fs.length) 35)) w5.heap.size gx lx fx cs ls fs):=pe.on2 h4
 have H07:Hid (Sn (w6.alloc (.cells (xH wd (xA gx) cs.length cs.length (xA lx) ls.length ls.length (xA fx) fs.length fs.length) 35)) w3a.heap.size w4.heap.size N' cs' M' L n F ga0 la0 fa0 gc0 ad0 cp0/\Row1 (w6.alloc (.cells (xH wd (xA gx) cs.length cs.length (xA lx) ls.length ls.length (xA fx) fs.length fs.length) 35)) w3a.heap.size w4.heap.size a0 m A):=⟨H06.o.1.below h4,H06.o.2.below h4⟩
 have F7:Hid ((w6.alloc (.cells (xH wd (xA gx) cs.length cs.length (xA lx) ls.length ls.length (xA fx) fs.length fs.length) 35)).heap[w4.heap.size]?=some (.cells (xH wq ga0 N' gc0 la0 M' lc0 fa0 M' fc0) 35)):=(h4.block _ qg).trans F6
 have Z7:Hid ((w6.alloc (.cells (xH wd (xA gx) cs.length cs.length (xA lx) ls.length ls.length (xA fx) fs.length fs.length) 35)).heap.size=w6.heap.size+1):=by show _=_;simp
 replace c0:=zab h4 c0
 replace c1:=zab h4 c1
 replace c2:=zab h4 c2
 replace c3:=zab h4 c3
 clear y1 h4 H06 F6 B6
 have M6:Hid (ScN w6 w5.heap.size gx lx fx cs ls fs):=pe
 clear pe
 go_upto_region 10 with fail
 obtain⟨w7,pf⟩:∃ w7,w7=w6.alloc (.cells (xH wd (xA gx) cs.length cs.length (xA lx) ls.length ls.length (xA fx) fs.length fs.length) 35):=⟨_,rfl⟩
 rw[<- pf] at Y7 B7 M7 H07 F7 Z7 c0 c1 c2 c3 ⊢
 have MK7:Hid (∀ w':World,w6.heap.size<=w'.heap.size->(∀ b,w5.heap.size<=b->b<w6.heap.size->w'.heap[b]?=w7.heap[b]?)->Mk w' w5.heap.size w6.heap.size gx lx fx cs ls fs):=fun w' h1 h2=>(M6.o w' h1 fun b q1 q2=>(h2 b q1 q2).trans (by rw[pf];exact Below.heap_alloc _ _ _ q2)).2
 clear pf M6
 have z7:w6.heap.size<w7.heap.size:=by have:=Z7.o;omega
 go_wp2_with fail
 refine(CT.o w7 (HM.o.2.below B7.o)).mono ?_
 rintro e w8 ⟨rfl,hN,hb⟩
 have z8:w7.heap.size<=w8.heap.size:=hb.size
 have B8:Hid (xE w w8):=zae B7.o B7.o.size hb
 have pg:ScM w8 (xA gx) (xA lx) (xA fx) cs ls fs:=M7.o.m.below hb
 have H08:Hid (Sn w8 w3a.heap.size w4.heap.size N' cs' M' L n F ga0 la0 fa0 gc0 ad0 cp0/\Row1 w8 w3a.heap.size w4.heap.size a0 m A):=⟨H07.o.1.below hb,H07.o.2.below hb⟩
 have F8:Hid (w8.heap[w4.heap.size]?=some (.cells (xH wq ga0 N' gc0 la0 M' lc0 fa0 M' fc0) 35)):=(hb.block _ qg).trans F7.o
 have Y8:Hid (w8.heap[w6.heap.size]?=some (.cells (xH wd (xA gx) cs.length cs.length (xA lx) ls.length ls.length (xA fx) fs.length fs.length) 35)):=(hb.block _ z7).trans Y7.o
 have O8:Hid (za0 (fun _=>False) w7 w8):=za0.of hb
 have E8:Hid (EdM w8 w7.heap.size es):=hN
 have SM8:Hid (ScM w8 (xA gx) (xA lx) (xA fx) cs ls fs):=pg
 replace c0:=zab hb c0;replace c1:=zab hb c1;replace c2:=zab hb c2;replace c3:=zab hb c3
 clear hb H07 F7 Y7 B7 M7
 have hV:=hN.m
 have hl:=CI.o _ _ _ _ cs.length ls.length fs.length U w8 pg hV
 have z8b:=hN.lt
 clear hN pg hV
 obtain⟨d0,d1,d2,d3⟩:=zaz Y8.o
 go_wp2_with fail
 refine hl.mono ?_
 rintro e w9 ⟨ga1,la1,fa1,gc1,lc1,fc1,ad1,cp1,a1,k1,rfl,h1,r1,hX,hb⟩
 have z9:w8.heap.size<=w9.heap.size:=hb.size
 have B9:xE w w9:=zae B8.o B8.o.size hb
 replace c0:=zab hb c0;replace c1:=zab hb c1;replace c2:=zab hb c2;replace c3:=zab hb c3
 obtain⟨y1,h5⟩:=zaU (.cells (xH wq ga1 N' gc1 la1 M' lc1 fa1 M' fc1) 35) w9
 have h3:xE w8 (w9.alloc (.cells (xH wq ga1 N' gc1 la1 M' lc1 fa1 M' fc1) 35)):=zae hb hb.size h5
 have G10:Hid ((w9.alloc (.cells (xH wq ga1 N' gc1 la1 M' lc1 fa1 M' fc1) 35)).heap[w9.heap.size]?=some (.cells (xH wq ga1 N' gc1 la1 M' lc1 fa1 M' fc1) 35)):=y1
 have B10:Hid (xE w (w9.alloc (.cells (xH wq ga1 N' gc1 la1 M' lc1 fa1 M' fc1) 35))):=zae B9 B9.size h5
 have H10:Hid (Sn (w9.alloc (.cells (xH wq ga1 N' gc1 la1 M' lc1 fa1 M' fc1) 35)) w3a.heap.size w4.heap.size N' cs' M' L n F ga0 la0 fa0 gc0 ad0 cp0/\Row1 (w9.alloc (.cells (xH wq ga1 N' gc1 la1 M' lc1 fa1 M' fc1) 35)) w3a.heap.size w4.heap.size a0 m A):=⟨H08.o.1.below h3,H08.o.2.below h3⟩
 have I10:Hid (Sn (w9.alloc (.cells (xH wq ga1 N' gc1 la1 M' lc1 fa1 M' fc1) 35)) w8.heap.size w9.heap.size N' cs' M' L n F ga1 la1 fa1 gc1 ad1 cp1/\Row1 (w9.alloc (.cells (xH wq ga1 N' gc1 la1 M' lc1 fa1 M' fc1) 35)) w8.heap.size w9.heap.size a1 m A):=⟨h1.below h5,r1.below h5⟩
 have HAP:Hid (∀ x,a1=some x->¬ (zaL ga1 x.block\/zaL la1 x.block\/zaL fa1 x.block\/zbd M' ad1 x.block)):=hX
 have F10:Hid ((w9.alloc (.cells (xH wq ga1 N' gc1 la1 M' lc1 fa1 M' fc1) 35)).heap[w4.heap.size]?=some (.cells (xH wq ga0 N' gc0 la0 M' lc0 fa0 M' fc0) 35)):=(h3.block _ qg).trans F8.o
 have Y10:Hid ((w9.alloc (.cells (xH wq ga1 N' gc1 la1 M' lc1 fa1 M' fc1) 35)).heap[w6.heap.size]?=some (.cells (xH wd (xA gx) cs.length cs.length (xA lx) ls.length ls.length (xA fx) fs.length fs.length) 35)):=(h3.block _ qg).trans Y8.o
 have O10:Hid (za0 (fun _=>False) w7 (w9.alloc (.cells (xH wq ga1 N' gc1 la1 M' lc1 fa1 M' fc1) 35))):=O8.o.trans (za0.of h3)
 have E10:Hid (EdM (w9.alloc (.cells (xH wq ga1 N' gc1 la1 M' lc1 fa1 M' fc1) 35)) w7.heap.size es):=E8.o.heap (h3.block _ z8b)
 have SM10:Hid (ScM (w9.alloc (.cells (xH wq ga1 N' gc1 la1 M' lc1 fa1 M' fc1) 35)) (xA gx) (xA lx) (xA fx) cs ls fs):=SM8.o.below h3
 have Z10:Hid ((w9.alloc (.cells (xH wq ga1 N' gc1 la1 M' lc1 fa1 M' fc1) 35)).heap.size=w9.heap.size+1):=by show _=_;simp
 replace c0:=zab h5 c0
 replace c1:=zab h5 c1
 replace c2:=zab h5 c2
 replace c3:=zab h5 c3
 clear y1 h5 h3 hb hX h1 r1 H08 F8 Y8 O8 E8 SM8 B8 B9 d0 d1 d2 d3 hl
 go_upto_region 12 with fail
 obtain⟨w10,hY⟩:∃ w10,w10=w9.alloc (.cells (xH wq ga1 N' gc1 la1 M' lc1 fa1 M' fc1) 35):=⟨_,rfl⟩
 rw[<- hY] at G10 B10 H10 I10 F10 Y10 O10 E10 SM10 Z10 c0 c1 c2 c3 ⊢
 clear hY
 have z10:w9.heap.size<w10.heap.size:=by have:=Z10.o;omega
 obtain⟨f0,f1,f2,f3⟩:=zaz F10.o
 obtain⟨e0,e1,e2,e3⟩:=zaz G10.o
 have he:=zur (wd:=wq) (gc:=gc1) (lc:=lc1) (fc:=fc1) (gc2:=gc0) (lc2:=lc0) (fc2:=fc0) I10.o.1 H10.o.1 HQ.o.1 HQ.o.2.1 HQ.o.2.2.1 HQ.o.2.2.2.1
 have pu:(ok != ok)=false:=qm
 go_wp2_with fail
 refine he.mono ?_
 rintro e w11 ⟨rfl,hb⟩
 have z11:w10.heap.size<=w11.heap.size:=hb.size
 have hq:=(zb3 (aLt:=Sq.altP)) a1 a0 k1 k0 m A w11 (I10.o.2.below hb).1 (H10.o.2.below hb).1 (by have:=HQ.o.2.2.2.2;omega)
 have HB11:Hid (xE w10 w11):=hb
 replace c0:=zab hb c0;replace c1:=zab hb c1;replace c2:=zab hb c2;replace c3:=zab hb c3
 clear hb he f0 f1 f2 f3 e0 e1 e2 e3
 go_wp2_with fail
 refine hq.mono ?_
 rintro e w12 ⟨rfl,hb⟩
 have z12:w11.heap.size<=w12.heap.size:=hb.size
 have h3:xE w10 w12:=zae HB11.o HB11.o.size hb
 replace c0:=zab hb c0;replace c1:=zab hb c1;replace c2:=zab hb c2;replace c3:=zab hb c3
 have B12:xE w w12:=zae B10.o B10.o.size h3
 have G12:Hid (w12.heap[w9.heap.size]?=some (.cells (xH wq ga1 N' gc1 la1 M' lc1 fa1 M' fc1) 35)):=(h3.block _ z10).trans G10.o
 have F12:Hid (w12.heap[w4.heap.size]?=some (.cells (xH wq ga0 N' gc0 la0 M' lc0 fa0 M' fc0) 35)):=(h3.block _ qg).trans F10.o
 have Y12:Hid (w12.heap[w6.heap.size]?=some (.cells (xH wd (xA gx) cs.length cs.length (xA lx) ls.length ls.length (xA fx) fs.length fs.length) 35)):=(h3.block _ qg).trans Y10.o
 have H12:Hid (Sn w12 w3a.heap.size w4.heap.size N' cs' M' L n F ga0 la0 fa0 gc0 ad0 cp0/\Row1 w12 w3a.heap.size w4.heap.size a0 m A):=⟨H10.o.1.below h3,H10.o.2.below h3⟩
 have I12:Hid (Sn w12 w8.heap.size w9.heap.size N' cs' M' L n F ga1 la1 fa1 gc1 ad1 cp1/\Row1 w12 w8.heap.size w9.heap.size a1 m A):=⟨I10.o.1.below h3,I10.o.2.below h3⟩
 have O12:Hid (za0 (fun _=>False) w7 w12):=O10.o.trans (za0.of h3)
 have E12:Hid (EdM w12 w7.heap.size es):=E10.o.heap (h3.block _ qg)
 have SM12:ScM w12 (xA gx) (xA lx) (xA fx) cs ls fs:=SM10.o.below h3
 clear hb h3 hq HB11 G10 F10 Y10 H10 I10 O10 E10 SM10 B10
 obtain⟨d0,d1,d2,d3⟩:=zaz Y12.o
 go_wp2
 go_region_held3 (fun w'=>w'.cell? (xC w6 0)=some (J wd)/\w'.cell? (xC w6 1)=some (.slice (xA gx) cs.length cs.length)/\w'.cell? (xC w6 2)=some (.slice (xA lx) ls.length ls.length)/\w'.cell? (xC w6 3)=some (.slice (xA fx) fs.length fs.length)/\w'.cell? (xC w 0)=some (J wd)/\w'.cell? (xC w 1)=some (.slice g cs.length gc)/\w'.cell? (xC w 2)=some (.slice l ls.length lc)/\w'.cell? (xC w 3)=some (.slice f fs.length fc))
  (first
   | exact⟨zab hj (zab h4 d0),zab hj (zab h4 d1),zab hj (zab h4 d2),zab hj (zab h4 d3),zab hj (zab h4 c0),zab hj (zab h4 c1),zab hj (zab h4 c2),zab hj (zab h4 c3)⟩
   | exact⟨zab h4 d0,zab h4 d1,zab h4 d2,zab h4 d3,zab h4 c0,zab h4 c1,zab h4 c2,zab h4 c3⟩
   | exact⟨d0,d1,d2,d3,c0,c1,c2,c3⟩
   | go_keep)
  (first
   | (go_at_call 8;refine(zd3 wd g l f gc lc fc cs ls fs _ (HM.o.1.below (by first|exact B12|exact B12.drew)) HS.o.1).mono ?_;rintro e w13 ⟨gy,ly,fy,rfl,hZ,hb7'⟩;have h4:xE w12 w13:=(by first|exact hb7'|exact zb9 hb7'))
   | (go_at_call 11;refine(zok (SM12.below h4) hZ HS.o.1).mono ?_;rintro e w14 ⟨rfl,hb8'⟩;have hj:xE w13 w14:=(by first|exact hb8'|exact zb9 hb8'))
   | fail)
 have h3:xE w12 w14:=zae h4 h4.size hj
 have z14:w12.heap.size<=w14.heap.size:=h3.size
 replace c0:=zab h3 c0;replace c1:=zab h3 c1;replace c2:=zab h3 c2;replace c3:=zab h3 c3
 have B14:xE w w14:=zae B12 B12.size h3
 have G14:Hid (w14.heap[w9.heap.size]?=some (.cells (xH wq ga1 N' gc1 la1 M' lc1 fa1 M' fc1) 35)):=(h3.block _ qg).trans G12.o
 have F14:Hid (w14.heap[w4.heap.size]?=some (.cells (xH wq ga0 N' gc0 la0 M' lc0 fa0 M' fc0) 35)):=(h3.block _ qg).trans F12.o
 have Y14:Hid (w14.heap[w6.heap.size]?=some (.cells (xH wd (xA gx) cs.length cs.length (xA lx) ls.length ls.length (xA fx) fs.length fs.length) 35)):=(h3.block _ qg).trans Y12.o
 have H14:Hid (Sn w14 w3a.heap.size w4.heap.size N' cs' M' L n F ga0 la0 fa0 gc0 ad0 cp0/\Row1 w14 w3a.heap.size w4.heap.size a0 m A):=⟨H12.o.1.below h3,H12.o.2.below h3⟩
 have I14:Hid (Sn w14 w8.heap.size w9.heap.size N' cs' M' L n F ga1 la1 fa1 gc1 ad1 cp1/\Row1 w14 w8.heap.size w9.heap.size a1 m A):=⟨I12.o.1.below h3,I12.o.2.below h3⟩
 have O14:Hid (za0 (fun _=>False) w7 w14):=O12.o.trans (za0.of h3)
 have E14:Hid (EdM w14 w7.heap.size es):=E12.o.heap (h3.block _ qg)
 clear h4 hj h3 hZ SM12 G12 F12 Y12 H12 I12 O12 E12 B12 d0 d1 d2 d3
 go_wp2_with fail
 refine(CT.o w14 (HM.o.2.below B14)).mono ?_
 rintro e w15 ⟨rfl,p0,hb⟩
 have pi:=zoh (xA w7.heap.size) (xA w14.heap.size) U U es w15 (E14.o.heap (hb.block _ qg)).m p0.m HS.o.2
 rw[HU.o] at pi
 have HB15:Hid (xE w14 w15):=hb
 replace c0:=zab hb c0;replace c1:=zab hb c1;replace c2:=zab hb c2;replace c3:=zab hb c3
 clear hb p0
 go_wp2_with fail
 refine pi.mono ?_
 rintro e w16 ⟨rfl,hb⟩
 have h3:xE w14 w16:=zae HB15.o HB15.o.size hb
 have z16:w14.heap.size<=w16.heap.size:=h3.size
 replace c0:=zab hb c0;replace c1:=zab hb c1;replace c2:=zab hb c2;replace c3:=zab hb c3
 have B16:xE w w16:=zae B14 B14.size h3
 have M16:Mk w16 w5.heap.size w6.heap.size gx lx fx cs ls fs:=MK7.o w16 qg fun b q1 q2=>by
  rw[h3.block b qg]
  exact O14.o.block b qg id
 have G16:Hid (w16.heap[w9.heap.size]?=some (.cells (xH wq ga1 N' gc1 la1 M' lc1 fa1 M' fc1) 35)):=(h3.block _ qg).trans G14.o
 have F16:Hid (w16.heap[w4.heap.size]?=some (.cells (xH wq ga0 N' gc0 la0 M' lc0 fa0 M' fc0) 35)):=(h3.block _ qg).trans F14.o
 have y16:=(h3.block _ qg).trans Y14.o
 have H16:Hid (Sn w16 w3a.heap.size w4.heap.size N' cs' M' L n F ga0 la0 fa0 gc0 ad0 cp0/\Row1 w16 w3a.heap.size w4.heap.size a0 m A):=⟨H14.o.1.below h3,H14.o.2.below h3⟩
 have I16:Hid (Sn w16 w8.heap.size w9.heap.size N' cs' M' L n F ga1 la1 fa1 gc1 ad1 cp1/\Row1 w16 w8.heap.size w9.heap.size a1 m A):=⟨I14.o.1.below h3,I14.o.2.below h3⟩
 have E16:Hid (EdM w16 w7.heap.size es):=E14.o.heap (h3.block _ qg)
 obtain⟨d0,d1,d2,d3⟩:=zaz y16
 have hz:=zjh (wd:=wd) (fc:=fs.length) M16 HS.o.1 ⟨rfl,rfl⟩
 clear hb h3 HB15 pi G14 F14 Y14 H14 I14 O14 E14 B14 M16 y16 MK7
 go_wp2_with fail
 refine hz.mono ?_
 rintro e w17 ⟨r17,rfl,ps,h6⟩
 have z17:w16.heap.size<=w17.heap.size:=h6.size
 have B17:xE w w17:=h6.below B16 (fun e q=>qg) B16.size
 have nb:¬ (w5.heap.size<=w.heap.size/\w.heap.size<w6.heap.size):=qg
 replace c0:=h6.cell nb c0
 replace c1:=h6.cell nb c1
 replace c2:=h6.cell nb c2
 replace c3:=h6.cell nb c3
 have G17:Hid (w17.heap[w9.heap.size]?=some (.cells (xH wq ga1 N' gc1 la1 M' lc1 fa1 M' fc1) 35)):=(h6.block _ qg qg).trans G16.o
 have F17:Hid (w17.heap[w4.heap.size]?=some (.cells (xH wq ga0 N' gc0 la0 M' lc0 fa0 M' fc0) 35)):=(h6.block _ qg qg).trans F16.o
 have H17:Hid (Sn w17 w3a.heap.size w4.heap.size N' cs' M' L n F ga0 la0 fa0 gc0 ad0 cp0/\Row1 w17 w3a.heap.size w4.heap.size a0 m A):=⟨H16.o.1.off h6 (fun e q1 q2 q3=>qg),H16.o.2.off h6 (fun e q1 q2 q3=>qg)⟩
 have I17:Hid (Sn w17 w8.heap.size w9.heap.size N' cs' M' L n F ga1 la1 fa1 gc1 ad1 cp1/\Row1 w17 w8.heap.size w9.heap.size a1 m A):=⟨I16.o.1.off h6 (fun e q1 q2 q3=>qg),I16.o.2.off h6 (fun e q1 q2 q3=>qg)⟩
 have p1:EdM w17 w7.heap.size es:=E16.o.heap (h6.block _ qg qg)
 have pj:=p1.ri
 rw[HU.o] at pj
 have hp:=zkw r17 (xA w7.heap.size) U U (edF es) w17 pj (by have:=HS.o.2;have:=HU.o;omega) ⟨ps.1,qg⟩
 clear hz h6 nb G16 F16 H16 I16 E16 B16 d0 d1 d2 d3 p1 pj
 go_wp2_with fail
 refine hp.mono ?_
 rintro e w18 ⟨rfl,_,hg⟩
 have h7:=(za0.refl (fun e=>e=w7.heap.size) w17).grown hg (fun b q=>obk q)
 have z18:w17.heap.size<=w18.heap.size:=h7.size
 have B18:xE w w18:=h7.below B17 (fun e q=>qg) B17.size
 have nb:¬ (w.heap.size=w7.heap.size):=qg
 replace c0:=h7.cell nb c0
 replace c1:=h7.cell nb c1
 replace c2:=h7.cell nb c2
 replace c3:=h7.cell nb c3
 have G18:Hid (w18.heap[w9.heap.size]?=some (.cells (xH wq ga1 N' gc1 la1 M' lc1 fa1 M' fc1) 35)):=(h7.block _ qg qg).trans G17.o
 have F18:Hid (w18.heap[w4.heap.size]?=some (.cells (xH wq ga0 N' gc0 la0 M' lc0 fa0 M' fc0) 35)):=(h7.block _ qg qg).trans F17.o
 have H18:Hid (Sn w18 w3a.heap.size w4.heap.size N' cs' M' L n F ga0 la0 fa0 gc0 ad0 cp0/\Row1 w18 w3a.heap.size w4.heap.size a0 m A):=⟨H17.o.1.off h7 (fun e q1 q2 q3=>qg),H17.o.2.off h7 (fun e q1 q2 q3=>qg)⟩
 have I18:Hid (Sn w18 w8.heap.size w9.heap.size N' cs' M' L n F ga1 la1 fa1 gc1 ad1 cp1/\Row1 w18 w8.heap.size w9.heap.size a1 m A):=⟨I17.o.1.off h7 (fun e q1 q2 q3=>qg),I17.o.2.off h7 (fun e q1 q2 q3=>qg)⟩
 have br18:decide (r17+3 * (U:Int)<0)=false:=decide_eq_false qg
 have nr18:¬ (r17+3 * (U:Int)<0):=qg
 clear hp hg h7 nb G17 F17 H17 I17 B17
 obtain⟨f0,f1,f2,f3⟩:=zaz F18.o
 obtain⟨e0,e1,e2,e3⟩:=zaz G18.o
 have he:=zur (wd:=wq) (gc:=gc1) (lc:=lc1) (fc:=fc1) (gc2:=gc0) (lc2:=lc0) (fc2:=fc0) I18.o.1 H18.o.1 HQ.o.1 HQ.o.2.1 HQ.o.2.2.1 HQ.o.2.2.2.1
 go_wp2_with fail
 refine he.mono ?_
 rintro e w19 ⟨rfl,hb⟩
 have z19:w18.heap.size<=w19.heap.size:=hb.size
 have hq:=(zb3 (aLt:=Sq.altP)) a1 a0 k1 k0 m A w19 (I18.o.2.below hb).1 (H18.o.2.below hb).1 (by have:=HQ.o.2.2.2.2;omega)
 have HB19:Hid (xE w18 w19):=hb
 replace c0:=zab hb c0;replace c1:=zab hb c1;replace c2:=zab hb c2;replace c3:=zab hb c3
 clear hb he f0 f1 f2 f3 e0 e1 e2 e3
 go_wp2_with fail
 refine hq.mono ?_
 rintro e w20 ⟨rfl,hb⟩
 have h3:xE w18 w20:=zae HB19.o HB19.o.size hb
 have z20:w18.heap.size<=w20.heap.size:=h3.size
 replace c0:=zab hb c0;replace c1:=zab hb c1;replace c2:=zab hb c2;replace c3:=zab hb c3
 have B20:xE w w20:=zae B18 B18.size h3
 have G20:Hid (w20.heap[w9.heap.size]?=some (.cells (xH wq ga1 N' gc1 la1 M' lc1 fa1 M' fc1) 35)):=(h3.block _ qg).trans G18.o
 have F20:Hid (w20.heap[w4.heap.size]?=some (.cells (xH wq ga0 N' gc0 la0 M' lc0 fa0 M' fc0) 35)):=(h3.block _ qg).trans F18.o
 have H20:Hid (Sn w20 w3a.heap.size w4.heap.size N' cs' M' L n F ga0 la0 fa0 gc0 ad0 cp0/\Row1 w20 w3a.heap.size w4.heap.size a0 m A):=⟨H18.o.1.below h3,H18.o.2.below h3⟩
 have I20:Hid (Sn w20 w8.heap.size w9.heap.size N' cs' M' L n F ga1 la1 fa1 gc1 ad1 cp1/\Row1 w20 w8.heap.size w9.heap.size a1 m A):=⟨I18.o.1.below h3,I18.o.2.below h3⟩
 clear hb h3 hq HB19 G18 F18 H18 I18 B18 br18 nr18
 obtain⟨q1,eq1⟩:∃ q1:Int,q1=1+2 * (N':Int):=⟨_,rfl⟩
 obtain⟨q2,eq2⟩:∃ q2:Int,q2=q1+1 * (M':Int):=⟨_,rfl⟩
 obtain⟨q3,eq3⟩:∃ q3:Int,q3=q2+(zb8 n M':Int):=⟨_,rfl⟩
 have hs:=zfw (n:=n) (M:=M') (fun k hk=>Nat.le_trans (HQ.o.2.2.2.1 k hk) qg) M' (Nat.le_refl _)
 have pk:0<=q3/\q3<=1099511627776:=by
  have:=HQ.o.2.1
  have:=HQ.o.2.2.1
  omega
 have EQ:Hid (q1=1+2 * (N':Int)/\q2=q1+1 * (M':Int)/\q3=q2+(zb8 n M':Int)):=⟨eq1,eq2,eq3⟩
 have hz:=zsR (wd:=wq) (gc:=gc1) (lc:=lc1) (fc:=fc1) I20.o.1 HQ.o.1 HQ.o.2.1 HQ.o.2.2.1 HQ.o.2.2.2.1 eq1 eq2 eq3
 obtain⟨e0,e1,e2,e3⟩:=zaz G20.o
 have hD:m<=20:=HQ.o.2.2.2.2
 clear eq1 eq2 eq3 hs
 go_wp2_with fail
 refine hz.mono ?_
 rintro e w21 ⟨rfl,p5,h8⟩
 have z21:w20.heap.size<=w21.heap.size:=h8.size
 have hf:∀ e,zaL ga1 e\/zaL la1 e\/zbd M' ad1 e->w8.heap.size<=e/\e<w9.heap.size:=fun e q=>⟨I20.o.1.lo e (by rcases q with q|q|q;exact .inl q;exact .inr (.inl q);exact .inr (.inr (.inr q))),I20.o.1.ap.lt e q⟩
 have B21:xE w w21:=h8.below B20 (fun e q=>by have:=hf e q;omega) B20.size
 have nb:¬ (zaL ga1 w.heap.size\/zaL la1 w.heap.size\/zbd M' ad1 w.heap.size):=fun q=>by have:=hf _ q;omega
 replace c0:=h8.cell nb c0
 replace c1:=h8.cell nb c1
 replace c2:=h8.cell nb c2
 replace c3:=h8.cell nb c3
 have G21:Hid (w21.heap[w9.heap.size]?=some (.cells (xH wq ga1 N' gc1 la1 M' lc1 fa1 M' fc1) 35)):=(h8.block _ qg (fun q=>by have:=hf _ q;omega)).trans G20.o
 have F21:Hid (w21.heap[w4.heap.size]?=some (.cells (xH wq ga0 N' gc0 la0 M' lc0 fa0 M' fc0) 35)):=(h8.block _ qg (fun q=>by have:=hf _ q;omega)).trans F20.o
 have H21:Hid (Sn w21 w3a.heap.size w4.heap.size N' cs' M' L n F ga0 la0 fa0 gc0 ad0 cp0/\Row1 w21 w3a.heap.size w4.heap.size a0 m A):=⟨H20.o.1.off h8 (fun e q1 q2 q3=>by have:=hf _ q3;omega),H20.o.2.off h8 (fun e q1 q2 q3=>by have:=hf _ q3;omega)⟩
 have HS21:Hid (Sn w21 w8.heap.size w9.heap.size N' (marks 1 N') M' (fun j=>q1+(j:Int)) n (fun k j=>q2+(zb8 n k:Int)+(j:Int)) ga1 la1 fa1 gc1 ad1 cp1):=p5
 have p6:RI w21 a1 (m * 1) A:=I20.o.2.1.offN h8 fun x q h=>HAP.o x q (by rcases h with h|h|h;exact .inl h;exact .inr (.inl h);exact .inr (.inr (.inr h)))
 have HR:Hid (∀ x,a1=some x->w8.heap.size<=x.block/\x.block<w9.heap.size):=I20.o.2.2
 have hp:=(zjg (aLt:=Sq.altP)) q3 a1 m k1 A w21 p6 qg pk
 clear hz h8 hf nb G20 F20 H20 I20 B20 p5 p6 e0 e1 e2 e3
 go_wp2_with fail
 refine hp.mono ?_
 rintro e w22 ⟨rfl,p7,hg⟩
 have h9:=(za0.refl (zaL a1) w21).grown hg (fun b q=>zch q)
 have z22:w21.heap.size<=w22.heap.size:=h9.size
 have hf:∀ e,zaL a1 e->w8.heap.size<=e/\e<w9.heap.size:=fun e ⟨x,q1,q2⟩=>by rw[q2];exact HR.o x q1
 have B22:xE w w22:=h9.below B21 (fun e q=>by have:=hf e q;omega) B21.size
 have nb:¬ zaL a1 w.heap.size:=fun q=>by have:=hf _ q;omega
 replace c0:=h9.cell nb c0
 replace c1:=h9.cell nb c1
 replace c2:=h9.cell nb c2
 replace c3:=h9.cell nb c3
 have G22:Hid (w22.heap[w9.heap.size]?=some (.cells (xH wq ga1 N' gc1 la1 M' lc1 fa1 M' fc1) 35)):=(h9.block _ qg (fun q=>by have:=hf _ q;omega)).trans G21.o
 have F22:Hid (w22.heap[w4.heap.size]?=some (.cells (xH wq ga0 N' gc0 la0 M' lc0 fa0 M' fc0) 35)):=(h9.block _ qg (fun q=>by have:=hf _ q;omega)).trans F21.o
 have H22:Hid (Sn w22 w3a.heap.size w4.heap.size N' cs' M' L n F ga0 la0 fa0 gc0 ad0 cp0/\Row1 w22 w3a.heap.size w4.heap.size a0 m A):=⟨H21.o.1.off h9 (fun e q1 q2 q3=>by have:=hf _ q3;omega),H21.o.2.off h9 (fun e q1 q2 q3=>by have:=hf _ q3;omega)⟩
 have S22:Hid (Sn w22 w8.heap.size w9.heap.size N' (marks 1 N') M' (fun j=>q1+(j:Int)) n (fun k j=>q2+(zb8 n k:Int)+(j:Int)) ga1 la1 fa1 gc1 ad1 cp1):=HS21.o.offS h9 fun e q1 ⟨x,h1,h2⟩=>by rw[h2] at q1;exact HAP.o x h1 q1
 have R22:Hid (Row1 w22 w8.heap.size w9.heap.size a1 m (fun j=>q3+(j:Int))):=⟨p7,HR.o⟩
 have hh:=zsd (wd:=wq) (lc:=lc1) (fc:=fc1) S22.o HQ.o.2.1 HQ.o.2.2.1 HQ.o.2.2.2.1 EQ.o.1 EQ.o.2.1 EQ.o.2.2
 obtain⟨e0,e1,e2,e3⟩:=zaz G22.o
 have nq3:¬ q3<0:=qg
 have nq4:¬ (q3+1 * (m:Int)<0):=qg
 have nq5:((q3+1 * (m:Int)) != (q3+1 * (m:Int)))=false:=qm
 clear hp hg h9 hf nb G21 F21 H21 HS21 B21 p7
 go_wp2_with fail
 refine hh.mono ?_
 rintro e w23 ⟨rfl,hb⟩
 have hA:=(zcg (aLt:=Sq.altP)) q3 a1 m k1 w23 (R22.o.below hb).1 qg pk
 have HB23:Hid (xE w22 w23):=hb
 replace c0:=zab hb c0;replace c1:=zab hb c1;replace c2:=zab hb c2;replace c3:=zab hb c3
 clear hb hh e0 e1 e2 e3
 go_wp2_with fail
 refine hA.mono ?_
 rintro e w24 ⟨rfl,rfl⟩
 clear hA
 go_wp2_with fail
 refine(zd3 wd g l f gc lc fc cs ls fs _ (HM.o.1.below (zae B22 B22.size HB23.o)) HS.o.1).mono ?_
 rintro e w25 ⟨gz,lz,fz,rfl,p8,hb⟩
 have hw:=zae HB23.o HB23.o.size hb
 replace c0:=zab hb c0;replace c1:=zab hb c1;replace c2:=zab hb c2;replace c3:=zab hb c3
 clear hb HB23
 go_wp2_with fail
 refine(CT.o w25 (HM.o.2.below (zae B22 B22.size hw))).mono ?_
 rintro e w26 ⟨rfl,p9,hb⟩
 have hG:=zae hw hw.size hb
 have hl:=CI.o _ _ _ _ cs.length ls.length fs.length U w26 (p8.below hb) p9.m
 clear hb hw p8 p9 c0 c1 c2 c3
 go_wp2_with fail
 refine hl.mono ?_
 rintro e w27 ⟨ga2,la2,fa2,gc2,lc2,fc2,ad2,cp2,a2,k2,rfl,h2,r2,_,hb⟩
 have hJ:=zae hG hG.size hb
 clear hb hG hl
 obtain⟨y1,h5⟩:=zaU (.cells (xH wq ga2 N' gc2 la2 M' lc2 fa2 M' fc2) 35) w27
 have HB28:Hid (xE w22 (w27.alloc (.cells (xH wq ga2 N' gc2 la2 M' lc2 fa2 M' fc2) 35))):=zae hJ hJ.size h5
 have Y28:Hid ((w27.alloc (.cells (xH wq ga2 N' gc2 la2 M' lc2 fa2 M' fc2) 35)).heap[w27.heap.size]?=some (.cells (xH wq ga2 N' gc2 la2 M' lc2 fa2 M' fc2) 35)):=y1
 have J28:Hid (Sn (w27.alloc (.cells (xH wq ga2 N' gc2 la2 M' lc2 fa2 M' fc2) 35)) w26.heap.size w27.heap.size N' cs' M' L n F ga2 la2 fa2 gc2 ad2 cp2/\Row1 (w27.alloc (.cells (xH wq ga2 N' gc2 la2 M' lc2 fa2 M' fc2) 35)) w26.heap.size w27.heap.size a2 m A):=⟨h2.below h5,r2.below h5⟩
 clear y1 h5 hJ h2 r2
 go_upto_region 36 with fail
 obtain⟨w28,pa⟩:∃ w28,w28=w27.alloc (.cells (xH wq ga2 N' gc2 la2 M' lc2 fa2 M' fc2) 35):=⟨_,rfl⟩
 rw[<- pa] at HB28 Y28 J28 ⊢
 clear pa
 have G28:Hid (w28.heap[w9.heap.size]?=some (.cells (xH wq ga1 N' gc1 la1 M' lc1 fa1 M' fc1) 35)):=(HB28.o.block _ (gei G22.o).1).trans G22.o
 have pb:=(HB28.o.block _ (gei F22.o).1).trans F22.o
 have H28:Hid (Sn w28 w3a.heap.size w4.heap.size N' cs' M' L n F ga0 la0 fa0 gc0 ad0 cp0/\Row1 w28 w3a.heap.size w4.heap.size a0 m A):=⟨H22.o.1.below HB28.o,H22.o.2.below HB28.o⟩
 have S28:Hid (Sn w28 w8.heap.size w9.heap.size N' (marks 1 N') M' (fun j=>q1+(j:Int)) n (fun k j=>q2+(zb8 n k:Int)+(j:Int)) ga1 la1 fa1 gc1 ad1 cp1/\Row1 w28 w8.heap.size w9.heap.size a1 m (fun j=>q3+(j:Int))):=⟨S22.o.below HB28.o,R22.o.below HB28.o⟩
 have B28:Hid (xE w w28):=zae B22 B22.size HB28.o
 obtain⟨f0,f1,f2,f3⟩:=zaz pb
 obtain⟨e0,e1,e2,e3⟩:=zaz Y28.o
 have he:=zur (wd:=wq) (gc:=gc2) (lc:=lc2) (fc:=fc2) (gc2:=gc0) (lc2:=lc0) (fc2:=fc0) J28.o.1 H28.o.1 HQ.o.1 HQ.o.2.1 HQ.o.2.2.1 HQ.o.2.2.2.1
 clear G22 F22 H22 S22 R22 HB28 B22 pb Y28
 go_wp2_with fail
 refine he.mono ?_
 rintro e w29 ⟨rfl,hb⟩
 have hq:=(zb3 (aLt:=Sq.altP)) a2 a0 k2 k0 m A w29 (J28.o.2.below hb).1 (H28.o.2.below hb).1 qg
 have HB29:Hid (xE w28 w29):=hb
 clear hb he f0 f1 f2 f3 e0 e1 e2 e3
 go_wp2_with fail
 refine hq.mono ?_
 rintro e w30 ⟨rfl,hb⟩
 have h3:xE w28 w30:=zae HB29.o HB29.o.size hb
 have pd:=(h3.block _ (gei G28.o).1).trans G28.o
 obtain⟨e0,e1,e2,e3⟩:=zaz pd
 have hh:=zsd (wd:=wq) (lc:=lc1) (fc:=fc1) (S28.o.1.below h3) HQ.o.2.1 HQ.o.2.2.1 HQ.o.2.2.2.1 EQ.o.1 EQ.o.2.1 EQ.o.2.2
 have R30:Hid (Row1 w30 w8.heap.size w9.heap.size a1 m (fun j=>q3+(j:Int))):=S28.o.2.below h3
 have B30:Hid (xE w w30):=zae B28.o B28.o.size h3
 clear hb h3 hq HB29 G28 pd H28 J28 S28 B28
 go_wp2_with fail
 refine hh.mono ?_
 rintro e w31 ⟨rfl,hb⟩
 have hA:=(zcg (aLt:=Sq.altP)) q3 a1 m k1 w31 (R30.o.below hb).1 qg pk
 have B31:Hid (xE w w31):=zae B30.o B30.o.size hb
 clear hb hh e0 e1 e2 e3 R30 B30
 go_wp2_with fail
 refine hA.mono ?_
 rintro e w32 ⟨rfl,rfl⟩
 clear hA
 go_wp2_with fail
 go_ret
 exact⟨rfl,B31.o⟩
