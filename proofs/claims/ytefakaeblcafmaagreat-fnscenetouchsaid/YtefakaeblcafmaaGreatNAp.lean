/- Part. -/
import Derived.WalkSmall
import Derived.Deep.RegionHeldLaw
import Derived.Deep.DrawnRows
import Derived.Deep.LoopGhost
import Derived.Test.YtefakaeblcafmaaGreatNAo
set_option maxHeartbeats 4000000
set_option maxRecDepth 20000
set_option linter.unusedVariables false
namespace Go.Proofs.YtefakaeblcafmaaGreat
variable{e how k wd x y z:Int}{b:Int × Int × Int}{A E G l:List (Int × Int × Int)}{cs:List (Int × Int)}{B en g g6 h k6 on pb tu wt:Nat}{L L':Nat->List (Int × Int × Int)}{v v2:Nat->Value}{a:Option Addr}{r:Option Nat}{u:Value}{w w' w6:World}
open Tryz
namespace Sp
variable{aLt:Nat->Func->Func}
open Go.RowKit
theorem zh6{go go':Int->Int->Nat->Tr}{d:Int}(h6:kd cs x=6->lvT wd cs go x d (wt / 2)=lvT wd cs go' x d (wt / 2))(h45:kd cs x=4\/kd cs x=5->lvT wd cs go x d (wt / 2)=lvT wd cs go' x d (wt / 2)/\lvT wd cs go x (zaL (kd cs x) d) (wt / 2)=lvT wd cs go' x (zaL (kd cs x) d) (wt / 2))(hp:zfK (kd cs x)->lvT wd cs go x (zaL (kd cs x) d) wt=lvT wd cs go' x (zaL (kd cs x) d) wt):zbb wd cs go x d wt=zbb wd cs go' x d wt:=by
 unfold zbb
 by_cases k1:kd cs x=1
 ·rw[if_pos k1,if_pos k1]
 rw[if_neg k1,if_neg k1]
 by_cases k7:kd cs x=7
 ·rw[if_pos k7,if_pos k7]
 rw[if_neg k7,if_neg k7]
 by_cases k6:kd cs x=6
 ·rw[if_pos k6,if_pos k6,h6 k6]
 rw[if_neg k6,if_neg k6]
 by_cases k45:kd cs x=4\/kd cs x=5
 ·rw[if_pos k45,if_pos k45,(h45 k45).1,(h45 k45).2]
 rw[if_neg k45,if_neg k45]
 exact hp ⟨k1,k7,k6,fun q=>k45 (Or.inl q),fun q=>k45 (Or.inr q)⟩
theorem zgQ{f:Nat}{d:Int}(hE:zas wd cs (f+1) x d wt)(h0:wt≠0) :
  (kd cs x=6->lvE wd cs (zas wd cs f) x d (wt / 2))/\(kd cs x=4\/kd cs x=5->lvE wd cs (zas wd cs f) x d (wt / 2)/\lvE wd cs (zas wd cs f) x (zaL (kd cs x) d) (wt / 2)) /\
   (zfK (kd cs x)->lvE wd cs (zas wd cs f) x (zaL (kd cs x) d) wt):=by
 rcases hE with q|q|⟨q,q1⟩|⟨q,q1,q2⟩|⟨q,q1⟩
 ·exact absurd q h0
 ·refine⟨fun z=>qg,fun z=>qg,fun z=>?_⟩
  rcases q with q|q
  ·exact absurd q z.1
  ·exact absurd q z.2.1
 ·exact⟨fun _=>q1,fun z=>qg,fun z=>absurd q z.2.2.1⟩
 ·refine⟨fun z=>qg,fun _=>⟨q1,q2⟩,fun z=>?_⟩
  rcases q with q|q
  ·exact absurd q z.2.2.2.1
  ·exact absurd q z.2.2.2.2
 ·refine⟨fun z=>absurd z q.2.2.1,fun z=>?_,fun _=>q1⟩
  rcases z with z|z
  ·exact absurd z q.2.2.2.1
  ·exact absurd z q.2.2.2.2
theorem zd6{f:Nat}(ih:∀ x d wt,zas wd cs f x d wt->zaE wd cs (f+1) x d wt=zaE wd cs f x d wt)(hE:lvE wd cs (zas wd cs f) x e h) :
  lvT wd cs (zaE wd cs (f+1)) x e h=lvT wd cs (zaE wd cs f) x e h:=by
 unfold lvT
 by_cases h0:h=0
 ·rw[if_pos h0,if_pos h0]
 ·rw[if_neg h0,if_neg h0]
  by_cases c:(zbH wd cs x e).2.2=true
  ·rw[if_pos c,if_pos c]
   rcases hE with q|q|q
   ·exact absurd q h0
   ·rw[c] at q;cases q
   ·exact ih _ _ _ q
  ·rw[if_neg c,if_neg c]
theorem zi8(wd:Int)(cs:List (Int × Int)):∀ f x d wt,zas wd cs f x d wt->zaE wd cs (f+1) x d wt=zaE wd cs f x d wt:=by
 intro f
 induction f with
 | zero =>
  intro x d wt h
  have q:wt=0:=h
  subst q
  rw[zbN,zbN]
 | succ f ih =>
  intro x d wt h
  by_cases h0:wt=0
  ·subst h0;rw[zbN,zbN]
  ·obtain⟨s6,s45,sp⟩:=zgQ h h0
   have e:zbb wd cs (zaE wd cs (f+1)) x d wt=zbb wd cs (zaE wd cs f) x d wt:=zh6 (fun q=>zd6 ih (s6 q)) (fun q=>⟨zd6 ih (s45 q).1,zd6 ih (s45 q).2⟩) (fun q=>zd6 ih (sp q))
   show (if wt=0 then (([],[]):Tr) else zaZ ([(x,d,(wt:Int))],[]) (zbb wd cs (zaE wd cs (f+1)) x d wt))=(if wt=0 then (([],[]):Tr) else zaZ ([(x,d,(wt:Int))],[]) (zbb wd cs (zaE wd cs f) x d wt))
   rw[e]
theorem zoS{f:Nat}{d:Int}(h:zas wd cs f x d wt)(h0:wt≠0):zaE wd cs f x d wt=zaZ ([(x,d,(wt:Int))],[]) (zbb wd cs (zaE wd cs f) x d wt):=by
 have e:=zi8 wd cs f x d wt h
 rw[<- e]
 show (if wt=0 then (([],[]):Tr) else zaZ ([(x,d,(wt:Int))],[]) (zbb wd cs (zaE wd cs f) x d wt))=_
 rw[if_neg h0]
abbrev Bm:=Int × Int × Int
def lvB(wd:Int)(cs:List (Int × Int))(b:Bm):Tr:=lvT wd cs (zaE wd cs 707) b.1 b.2.1 b.2.2.toNat
def pend(wd:Int)(cs:List (Int × Int)):List Bm->Tr
 | []=>([],[])
 | b::r=>zaZ (pend wd cs r) (lvB wd cs b)
theorem zd8(a:Tr):zaZ ([],[]) a=a:=by simp[zaZ]
theorem zfI(wd:Int)(cs:List (Int × Int))(l:List Bm)(b:Bm):pend wd cs (l++[b])=zaZ (lvB wd cs b) (pend wd cs l):=by
 induction l with
 | nil=>simp[pend,zd8,zbL]
 | cons c r ih=>simp only[List.cons_append,pend,ih,zbQ]
def bm1(x e:Int)(h:Nat):List Bm:=if h=0 then [] else [(x,e,(h:Int))]
theorem znE(wd:Int)(cs:List (Int × Int))(l:List Bm)(x e:Int)(h:Nat):pend wd cs (l++bm1 x e h)=zaZ (lvT wd cs (zaE wd cs 707) x e h) (pend wd cs l):=by
 unfold bm1
 by_cases h0:h=0
 ·rw[if_pos h0]
  unfold lvT
  rw[if_pos h0,zd8,List.append_nil]
 ·rw[if_neg h0,zfI]
  simp[lvB]
def okB(wd:Int)(cs:List (Int × Int))(b:Bm):Prop:=okS cs (b.1,b.2.1)/\(1<=b.2.2/\b.2.2<=64)/\lvE wd cs (zas wd cs 707) b.1 b.2.1 b.2.2.toNat
theorem zqA(hs:okS cs (x,e))(hw:h<=64)(hE:h≠0->lvE wd cs (zas wd cs 707) x e h):∀ b∈bm1 x e h,okB wd cs b:=by
 intro b hb
 unfold bm1 at hb
 by_cases h0:h=0
 ·rw[if_pos h0] at hb;cases hb
 ·rw[if_neg h0] at hb
  simp only[List.mem_singleton] at hb
  subst hb
  exact⟨hs,⟨by simp only;omega,by simp only;omega⟩,by simpa using hE h0⟩
def zdF(k:Int)(wt:Nat):Int × Nat × Nat × Nat :=
 if k=1 then (1,wt,0,0) else if k=7 then (2,wt,0,0) else if k=6 then (3,wt - wt / 2,wt / 2,0)
 else if k=4\/k=5 then (3,wt - 2 * (wt / 2),wt / 2,wt / 2) else if k=2\/k=3 then (0,0,0,wt) else (0,0,wt,0)
theorem zgS{d:Int}(hd:0<=d/\d<=3):zaL 0 d=d:=by
 rw[zdp 0 d hd.1 hd.2]
 simp
theorem zmZ{d:Int}(hd:0<=d/\d<=3)(hk:0<=kd cs x/\kd cs x<=7)(go:Int->Int->Nat->Tr)(hf:zdF (kd cs x) wt=(how,en,on,tu)) :
  zbb wd cs go x d wt=zaZ (zde how x en) (zaZ (lvT wd cs go x d on) (lvT wd cs go x (zaL (kd cs x) d) tu)):=by
 have z:∀ e,lvT wd cs go x e 0=([],[]):=fun e=>by unfold lvT;rw[if_pos rfl]
 have zn:∀ k,zde k x 0=([],[]):=fun k=>by simp[zde]
 unfold zbb
 unfold zdF at hf
 by_cases k1:kd cs x=1
 ·rw[if_pos k1] at hf ⊢
  simp only[Prod.mk.injEq] at hf
  obtain⟨rfl,rfl,rfl,rfl⟩:=hf
  rw[z,z,zbL,zbL]
 rw[if_neg k1] at hf ⊢
 by_cases k7:kd cs x=7
 ·rw[if_pos k7] at hf ⊢
  simp only[Prod.mk.injEq] at hf
  obtain⟨rfl,rfl,rfl,rfl⟩:=hf
  rw[z,z,zbL,zbL]
 rw[if_neg k7] at hf ⊢
 by_cases k6:kd cs x=6
 ·rw[if_pos k6] at hf ⊢
  simp only[Prod.mk.injEq] at hf
  obtain⟨rfl,rfl,rfl,rfl⟩:=hf
  rw[z,zbL]
 rw[if_neg k6] at hf ⊢
 by_cases k45:kd cs x=4\/kd cs x=5
 ·rw[if_pos k45] at hf ⊢
  simp only[Prod.mk.injEq] at hf
  obtain⟨rfl,rfl,rfl,rfl⟩:=hf
  rfl
 rw[if_neg k45] at hf ⊢
 by_cases k23:kd cs x=2\/kd cs x=3
 ·rw[if_pos k23] at hf
  simp only[Prod.mk.injEq] at hf
  obtain⟨rfl,rfl,rfl,rfl⟩:=hf
  rw[z,zn,zd8,zd8]
 ·rw[if_neg k23] at hf
  simp only[Prod.mk.injEq] at hf
  obtain⟨rfl,rfl,rfl,rfl⟩:=hf
  have k0:kd cs x=0:=qg
  rw[k0,zgS hd,z,zn,zd8,zbL]
theorem zm0(k:Int)(wt:Nat)(hf:zdF k wt=(how,en,on,tu)):en<=wt/\on<=wt/\tu<=wt:=by
 unfold zdF at hf
 repeat' split at hf
 all_goals (simp only[Prod.mk.injEq] at hf;obtain⟨rfl,rfl,rfl,rfl⟩:=hf;omega)
theorem zjb{f:Nat}{d:Int}(hd:0<=d/\d<=3)(hk:0<=kd cs x/\kd cs x<=7)(hE:zas wd cs (f+1) x d wt)(h0:wt≠0)(hf:zdF (kd cs x) wt=(how,en,on,tu)) :
  (on≠0->lvE wd cs (zas wd cs (f+1)) x d on)/\(tu≠0->lvE wd cs (zas wd cs (f+1)) x (zaL (kd cs x) d) tu):=by
 obtain⟨s6,s45,sp⟩:=zgQ hE h0
 have up:∀ {e:Int} {h:Nat},lvE wd cs (zas wd cs f) x e h->lvE wd cs (zas wd cs (f+1)) x e h:=fun q=>zd5 (zfk wd cs f) q
 unfold zdF at hf
 by_cases k1:kd cs x=1
 ·rw[if_pos k1] at hf
  simp only[Prod.mk.injEq] at hf
  obtain⟨rfl,rfl,rfl,rfl⟩:=hf
  exact⟨fun q=>absurd rfl q,fun q=>absurd rfl q⟩
 rw[if_neg k1] at hf
 by_cases k7:kd cs x=7
 ·rw[if_pos k7] at hf
  simp only[Prod.mk.injEq] at hf
  obtain⟨rfl,rfl,rfl,rfl⟩:=hf
  exact⟨fun q=>absurd rfl q,fun q=>absurd rfl q⟩
 rw[if_neg k7] at hf
 by_cases k6:kd cs x=6
 ·rw[if_pos k6] at hf
  simp only[Prod.mk.injEq] at hf
  obtain⟨rfl,rfl,rfl,rfl⟩:=hf
  exact⟨fun _=>up (s6 k6),fun q=>absurd rfl q⟩
 rw[if_neg k6] at hf
 by_cases k45:kd cs x=4\/kd cs x=5
 ·rw[if_pos k45] at hf
  simp only[Prod.mk.injEq] at hf
  obtain⟨rfl,rfl,rfl,rfl⟩:=hf
  exact⟨fun _=>up (s45 k45).1,fun _=>up (s45 k45).2⟩
 rw[if_neg k45] at hf
 have hp:zfK (kd cs x):=⟨k1,k7,k6,fun q=>k45 (Or.inl q),fun q=>k45 (Or.inr q)⟩
 by_cases k23:kd cs x=2\/kd cs x=3
 ·rw[if_pos k23] at hf
  simp only[Prod.mk.injEq] at hf
  obtain⟨rfl,rfl,rfl,rfl⟩:=hf
  exact⟨fun q=>absurd rfl q,fun _=>up (sp hp)⟩
 ·rw[if_neg k23] at hf
  simp only[Prod.mk.injEq] at hf
  obtain⟨rfl,rfl,rfl,rfl⟩:=hf
  have k0:kd cs x=0:=qg
  refine⟨fun _=>?_,fun q=>absurd rfl q⟩
  have:=sp hp
  rw[k0,zgS hd] at this
  exact up this
theorem zgU{d:Int}(hs:okS cs (x,d))(hk:0<=kd cs x/\kd cs x<=7)(h0:wt≠0)(hw:wt<=64)(hE:zas wd cs 707 x d wt)(hf:zdF (kd cs x) wt=(how,en,on,tu))(T:Tr)(st:List Bm) :
  zaZ (zaZ (T.1++[(x,d,(wt:Int))],T.2) (zde how x en)) (pend wd cs (st++bm1 x (zaL (kd cs x) d) tu++bm1 x d on))=zaZ T (zaZ (zaE wd cs 707 x d wt) (pend wd cs st)) /\
   ∀ b∈bm1 x (zaL (kd cs x) d) tu++bm1 x d on,okB wd cs b:=by
 have e1:((T.1++[(x,d,(wt:Int))],T.2):Tr)=zaZ T ([(x,d,(wt:Int))],[]):=by simp[zaZ]
 obtain⟨l1,l2,l3⟩:=zm0 _ _ hf
 obtain⟨q1,q2⟩:=zjb (f:=706) hs.2 hk hE h0 hf
 refine⟨?_,?_⟩
 ·rw[znE,znE,zoS hE h0,zmZ hs.2 hk _ hf,e1]
  simp only[zbQ]
 ·intro b hb
  rcases List.mem_append.1 hb with q|q
  ·exact zqA (show okS cs (x,zaL (kd cs x) d) from ⟨hs.1,zdL hs.2⟩) qg q2 b q
  ·exact zqA hs qg q1 b q
theorem zpc:((SqG.prog aLt).info? 103).map (fun i=>(i.zero,i.size,i.bytes))=some (some (.agg #[.int .i64 0,.int .i64 0,.int .i64 0]),3,24):=qh
def tyR(j:Nat):TypeId:=if j=0 then 54 else if j=1 then 99 else 103
def upd{α:Type}(f:Nat->α)(j:Nat)(x:α):Nat->α:=fun i=>if i=j then x else f i
theorem upd_same{α:Type}(f:Nat->α)(j:Nat)(x:α):upd f j x j=x:=by simp[upd]
theorem zaJ{α:Type}(f:Nat->α)(j i:Nat)(x:α)(h:i≠j):upd f j x i=f i:=by simp[upd,h]
structure Tk(w:World)(B pb:Nat)(v:Nat->Value)(L:Nat->List (Int × Int × Int)):Prop where
 c:∀ j,j<3->w.cell? ⟨pb,j,none⟩=some (v j)
 f:∀ j,j<3->w.frozen? ⟨pb,j,none⟩=false
 o:∀ j,j<3->w.ownsRow B (tyR j) 3 (v j) (L j).length (flat3 (L j))
 hB:B<=pb
 d:∀ j,j<3->(v j).ownBlock≠some pb
 dd:∀ i j,i<3->j<3->i≠j->∀ g,(v i).ownBlock=some g->(v j).ownBlock≠some g
theorem Tk.lt(h:Tk w B pb v L):pb<w.heap.size:=World.block_lt_of_cell? w _ (h.c 0 qg)
theorem Tk.below(h:Tk w B pb v L)(hb:Below w.heap.size w w'):Tk w' B pb v L :=
 ⟨fun j hj=>zad hb (h.c j hj),fun j hj=>zal hb (h.c j hj) (h.f j hj),
  fun j hj=>(h.o j hj).kept (row:=none) ⟨hb.os,hb.tape,hb.output,hb.size,fun k hk _=>hb.block k hk⟩ (by by_cases q:(v j).ownBlock=none;exact Or.inl q;exact Or.inr q),h.hB,h.d,h.dd⟩
theorem Tk.like(h:Tk w B pb v L)(e:∀ j,j<3->L' j=L j):Tk w B pb v L' :=
 ⟨h.c,h.f,fun j hj=>by rw[e j hj];exact h.o j hj,h.hB,h.d,h.dd⟩
def Far(v:Nat->Value)(pb b:Nat):Prop:=b≠pb/\∀ j,j<3->(v j).ownBlock≠some b
theorem Tk.far(h:Tk w B pb v L){b:Nat}(hb:w.heap.size<=b):Far v pb b :=
 ⟨fun q=>by have:=h.lt;omega,fun j hj q=>by have:=((h.o j hj).lt b q).2;omega⟩
theorem Tk.farB(h:Tk w B pb v L){b:Nat}(hb:b<B):Far v pb b :=
 ⟨fun q=>by have:=h.hB;omega,fun j hj q=>by have:=((h.o j hj).lt b q).1;omega⟩
structure Fr(w w':World)(pb:Nat)(v v2:Nat->Value):Prop where
 os:w'.os=w.os
 tape:w'.tape=w.tape
 output:w'.output=w.output
 size:w.heap.size<=w'.heap.size
 block:∀ b,b<w.heap.size->Far v pb b->w'.heap[b]?=w.heap[b]?/\Far v2 pb b
theorem Fr.trans{w1 w2:World}{v1:Nat->Value}(h:Fr w w1 pb v v1)(g:Fr w1 w2 pb v1 v2):Fr w w2 pb v v2 :=
 ⟨g.os.trans h.os,g.tape.trans h.tape,g.output.trans h.output,Nat.le_trans h.size g.size,fun b hb hf=>by
  obtain⟨e1,f1⟩:=h.block b hb hf
  obtain⟨e2,f2⟩:=g.block b (nll hb h.size) f1
  exact⟨e2.trans e1,f2⟩⟩
theorem Fr.of(h:Below w.heap.size w w'):Fr w w' pb v v :=
 ⟨h.os,h.tape,h.output,h.size,fun b hb hf=>⟨h.block b hb,hf⟩⟩
theorem Fr.below(f:Fr w w' pb v v2)(h:Tk w B pb v L):Below B w w' :=
 ⟨f.os,f.tape,f.output,f.size,fun k hk=>(f.block k (by have:=h.lt;have:=h.hB;omega) (h.farB hk)).1⟩
theorem Fr.cell(f:Fr w w' pb v v2){b o:Nat}(hf:Far v pb b)(h:w.cell? ⟨b,o,none⟩=some u):w'.cell? ⟨b,o,none⟩=some u:=by
 rw[World.cell?_of_block (w:=w) (f.block b (World.block_lt_of_cell? w _ h) hf).1]
 exact h
theorem Fr.frozen(f:Fr w w' pb v v2){b o:Nat}{c:Bool}(hf:Far v pb b)(h:w.cell? ⟨b,o,none⟩=some u)(hz:w.frozen? ⟨b,o,none⟩=c):w'.frozen? ⟨b,o,none⟩=c:=by
 rw[World.frozen?_of_block (w:=w) (f.block b (World.block_lt_of_cell? w _ h) hf).1]
 exact hz
theorem Fr.far(f:Fr w w' pb v v2){b:Nat}(hb:b<w.heap.size)(hf:Far v pb b):Far v2 pb b:=(f.block b hb hf).2
theorem zaf.belowB(h:zaf w a cs)(ha:∀ b off,a=some ⟨b,off,none⟩->b<B)(hb:Below B w w'):zaf w' a cs:=by
 rcases h with q|⟨b,off,rfl,hbl,hc⟩
 ·exact Or.inl q
 ·have hbB:=ha b off rfl
  refine Or.inr ⟨b,off,rfl,nll hbl hb.size,fun i hi=>?_⟩
  rw[hb.cell (p:=⟨b,off+i * 2,none⟩) hbB,hb.cell (p:=⟨b,off+i * 2+1,none⟩) hbB]
  exact hc i hi
theorem Tk.push{o:Obj}(h:Tk w B pb v L)(j:Nat)(hj:j<3)(hO:w6.ownsRow B (tyR j) 3 (.slice (some ⟨g6,0,none⟩) ((L j).length+1) k6) ((L j).length+1) (flat3 (L j)++[.int .i64 x,.int .i64 y,.int .i64 z]))(hg:(w.alloc o).grownBy w6 (v j).ownBlock)(hat:(v j).ownBlock=some g6\/g6=w.heap.size+1) :
  (w6.cell? ⟨pb,j,none⟩=some (v j)/\w6.frozen? ⟨pb,j,none⟩=false)/\Tk (w6.setCell ⟨pb,j,none⟩ (.slice (some ⟨g6,0,none⟩) ((L j).length+1) k6)) B pb (upd v j (.slice (some ⟨g6,0,none⟩) ((L j).length+1) k6)) (upd L j (L j++[(x,y,z)])) /\
   Fr w (w6.setCell ⟨pb,j,none⟩ (.slice (some ⟨g6,0,none⟩) ((L j).length+1) k6)) pb v (upd v j (.slice (some ⟨g6,0,none⟩) ((L j).length+1) k6)):=by
 have hpb:pb<w.heap.size:=h.lt
 have hbA:Below w.heap.size w (w.alloc o):=(Below.refl _ _).alloc (Nat.le_refl _) o
 have hp:some pb≠(v j).ownBlock:=fun q=>h.d j hj q.symm
 have hz:=hg.size
 simp at hz
 have hgp:g6≠pb:=by
  rcases hat with q|q
  ·intro q2;subst q2;exact h.d j hj q
  ·omega
 have cell:∀ i u,w.cell? ⟨pb,i,none⟩=some u->w6.cell? ⟨pb,i,none⟩=some u:=fun i u q=>hg.cell (zad hbA q) hp
 have froz:∀ i,w.frozen? ⟨pb,i,none⟩=false->w6.frozen? ⟨pb,i,none⟩=false:=fun i q=>by
  rw[hg.frozen_far ⟨pb,i,none⟩ ql hp,hbA.frozen (p:=⟨pb,i,none⟩) hpb];exact q
 have hfr:Fr w (w6.setCell ⟨pb,j,none⟩ (.slice (some ⟨g6,0,none⟩) ((L j).length+1) k6)) pb v (upd v j (.slice (some ⟨g6,0,none⟩) ((L j).length+1) k6)):=by
  refine⟨hg.os.trans hbA.os,hg.tape.trans hbA.tape,hg.output.trans hbA.output,by rw[World.size_setCell];omega,fun b hb hf=>⟨?_,hf.1,?_⟩⟩
  ·rw[Below.heap_setCell w6 ⟨pb,j,none⟩ _ b hf.1,hg.block b ql (fun q=>hf.2 j hj q.symm)]
   exact hbA.block b hb
  ·intro i hi
   by_cases q:i=j
   ·subst q
    rw[upd_same]
    simp only[Value.ownBlock]
    intro z
    simp only[Option.some.injEq] at z
    subst z
    rcases hat with q2|q2
    ·exact hf.2 i hi q2
    ·omega
   ·rw[zaJ _ _ _ _ q];exact hf.2 i hi
 refine⟨⟨cell _ _ (h.c j hj),froz _ (h.f j hj)⟩,?_,hfr⟩
 have hoth:∀ i,i<3->i≠j->w6.ownsRow B (tyR i) 3 (v i) (L i).length (flat3 (L i)):=fun i hi hij=>((h.o i hi).alloc o).kept hg (by
  by_cases q:(v i).ownBlock=none
  ·exact Or.inl q
  ·right;intro q2;obtain⟨g,hg2⟩:∃ g,(v i).ownBlock=some g:=Option.ne_none_iff_exists'.1 q
   exact h.dd i j hi hj hij g hg2 (q2 ▸ hg2))
 have hlen:(L j++[(x,y,z)]).length=(L j).length+1:=qk
 have hfl:flat3 (L j++[(x,y,z)])=flat3 (L j)++[.int .i64 x,.int .i64 y,.int .i64 z]:=by rw[zb5];rfl
 refine⟨?_,?_,?_,h.hB,?_,?_⟩
 ·intro i hi
  by_cases q:i=j
  ·subst q;rw[upd_same];exact World.cell?_setCell_same _ _ _ (by rw[cell _ _ (h.c i hi)])
  ·rw[zaJ _ _ _ _ q];exact zkP q (cell _ _ (h.c i hi))
 ·intro i hi
  simpa using froz _ (h.f i hi)
 ·intro i hi
  by_cases q:i=j
  ·subst q
   rw[upd_same,upd_same,hlen,hfl]
   exact ownsRow_setCell_other hO (by simp[Value.ownBlock,hgp]) _
  ·rw[zaJ _ _ _ _ q,zaJ _ _ _ _ q]
   exact ownsRow_setCell_other (hoth i hi q) (a:=⟨pb,j,none⟩) (h.d i hi) _
 ·intro i hi
  by_cases q:i=j
  ·subst q;rw[upd_same];simp[Value.ownBlock,hgp]
  ·rw[zaJ _ _ _ _ q];exact h.d i hi
 ·have new:∀ i,i<3->i≠j->(v i).ownBlock≠some g6:=by
   intro i hi hij q2
   rcases hat with q3|q3
   ·exact h.dd i j hi hj hij g6 q2 q3
   ·have:=((h.o i hi).lt g6 q2).2;omega
  intro i i2 hi hi2 hne g q
  by_cases q1:i=j
  ·subst q1
   rw[upd_same] at q
   simp only[Value.ownBlock,Option.some.injEq] at q
   subst q
   rw[zaJ _ _ _ _ (fun z=>hne z.symm)]
   exact new i2 hi2 (fun z=>hne z.symm)
  ·rw[zaJ _ _ _ _ q1] at q
   by_cases q2:i2=j
   ·subst q2
    rw[upd_same]
    simp only[Value.ownBlock]
    intro q3
    simp only[Option.some.injEq] at q3
    subst q3
    exact new i hi q1 q
   ·rw[zaJ _ _ _ _ q2];exact h.dd i i2 hi hi2 hne g q
theorem zm1(l:List (Int × Int × Int)):(flat3 l).length=l.length * 3:=by
 induction l with
 | nil=>rfl
 | cons t r ih=>have e:flat3 (t::r)=.int .i64 t.1::.int .i64 t.2.1::.int .i64 t.2.2::flat3 r:=rfl;rw[e];simp only[List.length_cons,ih];omega
theorem Tk.pop(h:Tk w B pb v L)(j:Nat)(hj:j<3)(hl:L j=l++[b]){cap:Nat}(hv:v j=.slice (some ⟨g,0,none⟩) (l.length+1) cap) :
  Tk (w.setCell ⟨pb,j,none⟩ (.slice (some ⟨g,0,none⟩) l.length cap)) B pb (upd v j (.slice (some ⟨g,0,none⟩) l.length cap)) (upd L j l):=by
 have hgp:g≠pb:=by
  intro q;subst q;exact h.d j hj (by rw[hv];rfl)
 have hob:∀ u,(Value.slice (some ⟨g,0,none⟩) l.length cap).ownBlock=some u ↔ (v j).ownBlock=some u:=by intro u;rw[hv];simp[Value.ownBlock]
 have h3:=zm1 l
 have hrow:w.ownsRow B (tyR j) 3 (.slice (some ⟨g,0,none⟩) l.length cap) l.length (flat3 l):=by
  have q:=h.o j hj
  rw[hl,hv,zb5] at q
  have e:(l++[b]).length=l.length+1:=qk
  rw[e] at q
  exact ownsRow_pop h3 q
 refine⟨?_,?_,?_,h.hB,?_,?_⟩
 ·intro i hi
  by_cases q:i=j
  ·subst q;rw[upd_same];exact World.cell?_setCell_same _ _ _ (by rw[h.c i hi])
  ·rw[zaJ _ _ _ _ q];exact zkP q (h.c i hi)
 ·intro i hi
  simpa using h.f i hi
 ·intro i hi
  by_cases q:i=j
  ·subst q
   rw[upd_same,upd_same]
   exact ownsRow_setCell_other hrow (by simp[Value.ownBlock,hgp]) _
  ·rw[zaJ _ _ _ _ q,zaJ _ _ _ _ q]
   exact ownsRow_setCell_other (h.o i hi) (a:=⟨pb,j,none⟩) (h.d i hi) _
 ·intro i hi
  by_cases q:i=j
  ·subst q;rw[upd_same];simp[Value.ownBlock,hgp]
  ·rw[zaJ _ _ _ _ q];exact h.d i hi
 ·intro i i2 hi hi2 hne u q
  by_cases q1:i=j
  ·subst q1
   rw[upd_same,hob] at q
   rw[zaJ _ _ _ _ (fun z=>hne z.symm)]
   exact h.dd i i2 hi hi2 hne u q
  ·rw[zaJ _ _ _ _ q1] at q
   by_cases q2:i2=j
   ·subst q2
    rw[upd_same]
    intro q3
    rw[hob] at q3
    exact h.dd i i2 hi hi2 hne u q q3
   ·rw[zaJ _ _ _ _ q2];exact h.dd i i2 hi hi2 hne u q
def zbK(A E G:List (Int × Int × Int)):Nat->List (Int × Int × Int):=fun j=>if j=0 then A else if j=1 then E else G
theorem zey(h:w.drew.grownBy w' r):w.grownBy w' r:=⟨h.os,h.tape,h.output,h.size,h.block⟩
theorem Tk.push0{o:Obj}(h:Tk w B pb v (zbK A E G))(hO:w6.ownsRow B 54 3 (.slice (some ⟨g6,0,none⟩) (A.length+1) k6) (A.length+1) (flat3 A++[.int .i64 x,.int .i64 y,.int .i64 z]))(hg:(w.alloc o).grownBy w6 (v 0).ownBlock)(hat:(v 0).ownBlock=some g6\/g6=w.heap.size+1) :
  (w6.cell? ⟨pb,0,none⟩=some (v 0)/\w6.frozen? ⟨pb,0,none⟩=false)/\(∃ v2,Tk (w6.setCell ⟨pb,0,none⟩ (.slice (some ⟨g6,0,none⟩) (A.length+1) k6)) B pb v2 (zbK (A++[(x,y,z)]) E G) /\
   Fr w (w6.setCell ⟨pb,0,none⟩ (.slice (some ⟨g6,0,none⟩) (A.length+1) k6)) pb v v2):=by
 obtain⟨h1,h2,h3⟩:=h.push 0 qg hO hg hat
 exact⟨h1,_,h2.like (L':=zbK (A++[(x,y,z)]) E G) (fun j hj=>by rcases (show j=0\/j=1\/j=2 by omega) with rfl|rfl|rfl <;> rfl),h3⟩
theorem Tk.push1{o:Obj}(h:Tk w B pb v (zbK A E G))(hO:w6.ownsRow B 99 3 (.slice (some ⟨g6,0,none⟩) (E.length+1) k6) (E.length+1) (flat3 E++[.int .i64 x,.int .i64 y,.int .i64 z]))(hg:(w.alloc o).grownBy w6 (v 1).ownBlock)(hat:(v 1).ownBlock=some g6\/g6=w.heap.size+1) :
  (w6.cell? ⟨pb,1,none⟩=some (v 1)/\w6.frozen? ⟨pb,1,none⟩=false)/\(∃ v2,Tk (w6.setCell ⟨pb,1,none⟩ (.slice (some ⟨g6,0,none⟩) (E.length+1) k6)) B pb v2 (zbK A (E++[(x,y,z)]) G) /\
   Fr w (w6.setCell ⟨pb,1,none⟩ (.slice (some ⟨g6,0,none⟩) (E.length+1) k6)) pb v v2):=by
 obtain⟨h1,h2,h3⟩:=h.push 1 qg hO hg hat
 exact⟨h1,_,h2.like (L':=zbK A (E++[(x,y,z)]) G) (fun j hj=>by rcases (show j=0\/j=1\/j=2 by omega) with rfl|rfl|rfl <;> rfl),h3⟩
theorem Tk.push2{o:Obj}(h:Tk w B pb v (zbK A E G))(hO:w6.ownsRow B 103 3 (.slice (some ⟨g6,0,none⟩) (G.length+1) k6) (G.length+1) (flat3 G++[.int .i64 x,.int .i64 y,.int .i64 z]))(hg:(w.alloc o).grownBy w6 (v 2).ownBlock)(hat:(v 2).ownBlock=some g6\/g6=w.heap.size+1) :
  (w6.cell? ⟨pb,2,none⟩=some (v 2)/\w6.frozen? ⟨pb,2,none⟩=false)/\(∃ v2,Tk (w6.setCell ⟨pb,2,none⟩ (.slice (some ⟨g6,0,none⟩) (G.length+1) k6)) B pb v2 (zbK A E (G++[(x,y,z)])) /\
   Fr w (w6.setCell ⟨pb,2,none⟩ (.slice (some ⟨g6,0,none⟩) (G.length+1) k6)) pb v v2):=by
 obtain⟨h1,h2,h3⟩:=h.push 2 qg hO hg hat
 exact⟨h1,_,h2.like (L':=zbK A E (G++[(x,y,z)])) (fun j hj=>by rcases (show j=0\/j=1\/j=2 by omega) with rfl|rfl|rfl <;> rfl),h3⟩
theorem Tk.pop2(h:Tk w B pb v (zbK A E (l++[b]))) :
  ∃ g cap,v 2=.slice (some ⟨g,0,none⟩) (l.length+1) cap/\l.length+1<=cap/\cap<=maxLen/\g<w.heap.size/\g≠pb /\
   (w.cell? ⟨g,l.length * 3,none⟩=some (.int .i64 b.1)/\w.cell? ⟨g,l.length * 3+1,none⟩=some (.int .i64 b.2.1)/\w.cell? ⟨g,l.length * 3+2,none⟩=some (.int .i64 b.2.2)) /\
   (∀ w',Below w.heap.size w w'->∃ v2,Tk (w'.setCell ⟨pb,2,none⟩ (.slice (some ⟨g,0,none⟩) l.length cap)) B pb v2 (zbK A E l)/\Fr w (w'.setCell ⟨pb,2,none⟩ (.slice (some ⟨g,0,none⟩) l.length cap)) pb v v2):=by
 have o2:w.ownsRow B 103 3 (v 2) (l.length+1) (flat3 (l++[b])):=by
  have q:w.ownsRow B 103 3 (v 2) (l++[b]).length (flat3 (l++[b])):=h.o 2 qg
  have e:(l++[b]).length=l.length+1:=qk
  rw[e] at q
  exact q
 have hc:∃ g cap,v 2=.slice (some ⟨g,0,none⟩) (l.length+1) cap/\l.length+1<=cap/\cap<=maxLen/\g<w.heap.size:=by
  rcases o2.2 with ⟨_,h0⟩|⟨g,cap,cur,e,_,hh,h3,h4,_⟩
  ·omega
  ·exact⟨g,cap,e,h3,h4,(gei hh).1⟩
 obtain⟨g,cap,hv,h3,h4,h5⟩:=hc
 refine⟨g,cap,hv,h3,h4,h5,?_,?_,?_⟩
 ·intro q;subst q;exact h.d 2 qg (by rw[hv];rfl)
 ·have q:w.ownsRow B 103 3 (v 2) (l++[b]).length (flat3 (l++[b])):=h.o 2 qg
  obtain⟨a,c,e,hR⟩:=zc0 q
  rcases hR with z|⟨b',off,ea,_,hcc⟩
  ·simp at z
  ·have z:=hcc l.length qk
   rw[hv,ea] at e
   simp only[Value.slice.injEq,Option.some.injEq,Addr.mk.injEq,and_true] at e
   obtain⟨⟨e1,e2⟩,_⟩:=e
   subst e1
   subst e2
   simp only[Nat.zero_add] at z
   have eg:(l++[b]).getD l.length (0,0,0)=b:=qk
   rw[eg] at z
   exact z
 ·intro w' hb
  refine⟨_,((h.below hb).pop 2 qg (l:=l) (b:=b) rfl hv).like (L':=zbK A E l) (fun j hj=>by rcases (show j=0\/j=1\/j=2 by omega) with rfl|rfl|rfl <;> rfl),?_⟩
  refine⟨hb.os,hb.tape,hb.output,by rw[World.size_setCell];exact hb.size,fun b2 hb2 hf=>⟨?_,hf.1,?_⟩⟩
  ·rw[Below.heap_setCell w' ⟨pb,2,none⟩ _ b2 hf.1]
   exact hb.block b2 hb2
  ·intro i hi
   by_cases q:i=2
   ·subst q
    rw[upd_same]
    have:=hf.2 2 qg
    rw[hv] at this
    exact this
   ·rw[zaJ _ _ _ _ q];exact hf.2 i hi
theorem znD(wt:Int)(w:World) :
  Calls (SqG.prog aLt) 69 #[.int .i64 wt] w fun e w'=>e=.returned (.agg #[.int .i64 0,.int .i64 0,.int .i64 wt,.int .i64 0])/\Below w.heap.size w w':=by
 go_enter (zfx func69),ntmps69
 go_wp2
 refine bodyPost_ret (v:=.agg #[.int .i64 0,.int .i64 0,.int .i64 wt,.int .i64 0]) (by simp[results,results69,go_sem]) rfl ⟨rfl,?_⟩
 exact bel
theorem ziT(wt:Int)(w:World) :
  Calls (SqG.prog aLt) 71 #[.int .i64 wt] w fun e w'=>e=.returned (.agg #[.int .i64 0,.int .i64 0,.int .i64 0,.int .i64 wt])/\Below w.heap.size w w':=by
 go_enter (zfx func71),ntmps71
 go_wp2
 refine bodyPost_ret (v:=.agg #[.int .i64 0,.int .i64 0,.int .i64 0,.int .i64 wt]) (by simp[results,results71,go_sem]) rfl ⟨rfl,?_⟩
 exact bel
theorem zla(wt:Int)(w:World) :
  Calls (SqG.prog aLt) 70 #[.int .i64 wt] w fun e w'=>e=.returned (.agg #[.int .i64 1,.int .i64 wt,.int .i64 0,.int .i64 0])/\Below w.heap.size w w':=by
 go_enter (zfx func70),ntmps70
 go_wp2
 refine bodyPost_ret (v:=.agg #[.int .i64 1,.int .i64 wt,.int .i64 0,.int .i64 0]) (by simp[results,results70,go_sem]) rfl ⟨rfl,?_⟩
 exact bel
theorem zpL(wt:Int)(w:World) :
  Calls (SqG.prog aLt) 74 #[.int .i64 wt] w fun e w'=>e=.returned (.agg #[.int .i64 2,.int .i64 wt,.int .i64 0,.int .i64 0])/\Below w.heap.size w w':=by
 go_enter (zfx func74),ntmps74
 go_wp2
 refine bodyPost_ret (v:=.agg #[.int .i64 2,.int .i64 wt,.int .i64 0,.int .i64 0]) (by simp[results,results74,go_sem]) rfl ⟨rfl,?_⟩
 exact bel
theorem zgM(wt hf m:Nat)(hw:wt<=64)(ehf:wt / 2=hf)(em:wt - 2 * hf=m)(w:World) :
  Calls (SqG.prog aLt) 72 #[.int .i64 (wt:Int)] w fun e w'=>e=.returned (.agg #[.int .i64 3,.int .i64 (m:Int),.int .i64 (hf:Int),.int .i64 (hf:Int)])/\Below w.heap.size w w':=by
 have q1:(wt:Int).tdiv 2=(hf:Int):=by rw[Int.tdiv_eq_ediv_of_nonneg qg];omega
 have q2:(wt:Int) / 2=(hf:Int):=qg
 have q3:(wt:Int) - 2 * (hf:Int)=(m:Int):=qg
 have hh:hf<=64:=qg
 clear ehf em
 go_enter (zfx func72),ntmps72
 go_wp2
 refine bodyPost_ret (v:=.agg #[.int .i64 3,.int .i64 (m:Int),.int .i64 (hf:Int),.int .i64 (hf:Int)]) (by simp[results,results72,go_sem]) rfl ⟨rfl,?_⟩
 exact bel
theorem zoW(wt hf m:Nat)(hw:wt<=64)(ehf:wt / 2=hf)(em:wt - hf=m)(w:World) :
  Calls (SqG.prog aLt) 73 #[.int .i64 (wt:Int)] w fun e w'=>e=.returned (.agg #[.int .i64 3,.int .i64 (m:Int),.int .i64 (hf:Int),.int .i64 0])/\Below w.heap.size w w':=by
 have q1:(wt:Int).tdiv 2=(hf:Int):=by rw[Int.tdiv_eq_ediv_of_nonneg qg];omega
 have q2:(wt:Int) / 2=(hf:Int):=qg
 have q3:(wt:Int) - (hf:Int)=(m:Int):=qg
 have hh:hf<=64:=qg
 clear ehf em
 go_enter (zfx func73),ntmps73
 go_wp2
 refine bodyPost_ret (v:=.agg #[.int .i64 3,.int .i64 (m:Int),.int .i64 (hf:Int),.int .i64 0]) (by simp[results,results73,go_sem]) rfl ⟨rfl,?_⟩
 exact bel
def zmR:Array Value:=#[.func (.func 69) #[] #[],.func (.func 70) #[] #[],.func (.func 71) #[] #[],.func (.func 71) #[] #[],.func (.func 72) #[] #[],.func (.func 72) #[] #[],.func (.func 73) #[] #[],.func (.func 74) #[] #[]]
theorem zmS(w:World) :
  Calls (SqG.prog aLt) 48 #[] w fun e w'=>e=.returned (.agg zmR)/\Below w.heap.size w w':=by
 unfold zmR
 go_enter (zfx func48),ntmps48
 go_wp2
 refine bodyPost_ret (v:=.agg #[.func (.func 69) #[] #[],.func (.func 70) #[] #[],.func (.func 71) #[] #[],.func (.func 71) #[] #[],.func (.func 72) #[] #[],.func (.func 72) #[] #[],.func (.func 73) #[] #[],.func (.func 74) #[] #[]]) (by simp[results,results48,go_sem]) rfl ⟨rfl,?_⟩
 exact bel
def zoU(k:Int):Nat:=if k=0 then 69 else if k=1 then 70 else if k=2\/k=3 then 71 else if k=4\/k=5 then 72 else if k=6 then 73 else 74
theorem zqY(k:Int)(h0:0<=k)(h7:k<=7)(w:World):Sem.run (SqG.prog aLt) (Instr.index 93 (.agg zmR) (.int .i64 k)) w=.ok (.func (.func (zoU k)) #[] #[]) w:=by
 rcases (show k=0\/k=1\/k=2\/k=3\/k=4\/k=5\/k=6\/k=7 by omega) with rfl|rfl|rfl|rfl|rfl|rfl|rfl|rfl <;> kernel_rfl
end Sp
namespace Sp
variable{aLt:Nat->Func->Func}
open Go.RowKit
attribute [local go_sem ↓] Go.wp_at_zero Go.wp_at_succ
def zdr(x y:Int)(wt:Nat):List (Int × Int × Int):=if wt=0 then [] else [(x,y,(wt:Int))]
theorem zec(x y:Int)(wt:Nat):(zdr x y wt).length<=1/\(zdr x y wt).length<=wt:=by
 unfold zdr
 by_cases h:wt=0
 ·simp[h]
 ·simp[h];omega
theorem zkj(h:Tk w B pb v (zbK A E G))(x y:Int)(wt:Nat)(hw:wt<=64)(hl:E.length<=1000000) :
  Calls (SqG.prog aLt) 49 #[.pointer (some ⟨pb,0,none⟩),.agg #[.int .i64 x,.int .i64 y,.int .i64 (wt:Int)]] w fun r w'=>r=.returned (.tuple #[])/\(∃ v2,Tk w' B pb v2 (zbK A (E++zdr x y wt) G)/\Fr w w' pb v v2):=by
 obtain⟨i0,hi,iz0,iz1,iz2⟩:=info_parts (zne (aLt:=aLt))
 have hpb:=h.lt
 have hB:=h.hB
 have hbX:Below w.heap.size w (w.alloc (.cells #[.int .i64 x,.int .i64 y,.int .i64 (wt:Int)] 99)):=bel
 have h1:=h.below hbX
 by_cases h0:wt=0
 ·subst h0
  have hT:E++zdr x y 0=E:=by simp[zdr]
  rw[hT]
  clear hT
  go_enter (zfx func49),ntmps49
  go_wp2
  exact bodyPost_end (v:=.tuple #[]) (by simp[results,results49,go_sem]) rfl ⟨rfl,v,h1,Fr.of hbX⟩
 ·have hT:zdr x y wt=[(x,y,(wt:Int))]:=by simp[zdr,h0]
  rw[hT]
  clear hT
  have hp:(0:Int)<(wt:Int):=qg
  obtain⟨w0,hw0⟩:∃ w0,w0=w.alloc (.cells #[.int .i64 x,.int .i64 y,.int .i64 (wt:Int)] 99):=⟨_,rfl⟩
  have e0:w0.cell? ⟨w.heap.size,0,none⟩=some (.int .i64 x):=by rw[hw0];simp[go_sem]
  have e1:w0.cell? ⟨w.heap.size,1,none⟩=some (.int .i64 y):=by rw[hw0];simp[go_sem]
  have e2:w0.cell? ⟨w.heap.size,2,none⟩=some (.int .i64 (wt:Int)):=by rw[hw0];simp[go_sem]
  have hs0:w0.heap.size=w.heap.size+1:=by rw[hw0];simp
  rw[<- hw0] at hbX h1
  have cj:=h1.c 1 qg
  have o1:w0.ownsRow B 99 3 (v 1) E.length (flat3 E):=h1.o 1 qg
  have hbA:Below w0.heap.size w0 (w0.alloc (.cells #[.int .i64 x,.int .i64 y,.int .i64 (wt:Int)] 99)):=bel
  have cj':=zad hbA cj
  have HS:Hid (w0.heap.size=w.heap.size+1):=hs0
  have hB0:B<=w0.heap.size:=qg
  clear hs0
  go_enter (zfx func49),ntmps49
  go_wp2
  rw[<- hw0]
  clear hw0
  go_region_law
   ((refine step_append_lies _ (by rfl) _ _ _ (by rfl) B 99 i0 (.agg #[.int .i64 0,.int .i64 0,.int .i64 0]) 3 24 SqG.underlying48 hi iz0 iz1 iz2 rfl qg (v 1) E.length (flat3 E) (by rfl) (by first|exact o1.alloc _|exact(o1.alloc _).drew) ⟨w0.heap.size,0,none⟩ 1 1 [.int .i64 x,.int .i64 y,.int .i64 (wt:Int)] (by rfl) rfl (World.news_of_block (cs:=#[.int .i64 x,.int .i64 y,.int .i64 (wt:Int)]) (t:=99) (fr:=(0,0)) (heap_alloc_new w0 _)) qm qg qp qg ql (w0.heap.size+1) qk ?_;intro g6 k6 w6 hO6 hg6' hat6 hlt6;have hg6:(w0.alloc (.cells #[.int .i64 x,.int .i64 y,.int .i64 (wt:Int)] 99)).grownBy w6 (v 1).ownBlock:=(by first|exact hg6'|exact zey hg6');obtain⟨r3,v7,hT7,hf7⟩:=h1.push1 hO6 hg6 hat6;have r4:∀ i u,w0.cell? ⟨w.heap.size,i,none⟩=some u->w6.cell? ⟨w.heap.size,i,none⟩=some u:=(fun i u q=>hg6.cell (zad hbA q) (fun z=>absurd ((h.o 1 qg).lt w.heap.size z.symm).2 (Nat.lt_irrefl _)))))
  all_goals
   obtain⟨r5,r6⟩:=r3
   clear r4 hO6 hg6 hg6'
   go_wp2
   exact bodyPost_end (v:=.tuple #[]) (by simp[results,results49,go_sem]) rfl ⟨rfl,v7,hT7,(Fr.of hbX).trans hf7⟩
theorem zgG(h:Tk w B pb v (zbK A E G))(x y:Int)(wt:Nat)(hw:wt<=64)(hl:G.length<=1000000) :
  Calls (SqG.prog aLt) 50 #[.pointer (some ⟨pb,0,none⟩),.agg #[.int .i64 x,.int .i64 y,.int .i64 (wt:Int)]] w fun r w'=>r=.returned (.tuple #[])/\(∃ v2,Tk w' B pb v2 (zbK A E (G++zdr x y wt))/\Fr w w' pb v v2):=by
 obtain⟨i0,hi,iz0,iz1,iz2⟩:=info_parts (zpc (aLt:=aLt))
 have hpb:=h.lt
 have hB:=h.hB
 have hbX:Below w.heap.size w (w.alloc (.cells #[.int .i64 x,.int .i64 y,.int .i64 (wt:Int)] 103)):=bel
 have h1:=h.below hbX
 by_cases h0:wt=0
 ·subst h0
  have hT:G++zdr x y 0=G:=by simp[zdr]
  rw[hT]
  clear hT
  go_enter (zfx func50),ntmps50
  go_wp2
  exact bodyPost_end (v:=.tuple #[]) (by simp[results,results50,go_sem]) rfl ⟨rfl,v,h1,Fr.of hbX⟩
 ·have hT:zdr x y wt=[(x,y,(wt:Int))]:=by simp[zdr,h0]
  rw[hT]
  clear hT
  have hp:(0:Int)<(wt:Int):=qg
  obtain⟨w0,hw0⟩:∃ w0,w0=w.alloc (.cells #[.int .i64 x,.int .i64 y,.int .i64 (wt:Int)] 103):=⟨_,rfl⟩
  have e0:w0.cell? ⟨w.heap.size,0,none⟩=some (.int .i64 x):=by rw[hw0];simp[go_sem]
  have e1:w0.cell? ⟨w.heap.size,1,none⟩=some (.int .i64 y):=by rw[hw0];simp[go_sem]
  have e2:w0.cell? ⟨w.heap.size,2,none⟩=some (.int .i64 (wt:Int)):=by rw[hw0];simp[go_sem]
  have hs0:w0.heap.size=w.heap.size+1:=by rw[hw0];simp
  rw[<- hw0] at hbX h1
  have cj:=h1.c 2 qg
  have o1:w0.ownsRow B 103 3 (v 2) G.length (flat3 G):=h1.o 2 qg
  have hbA:Below w0.heap.size w0 (w0.alloc (.cells #[.int .i64 x,.int .i64 y,.int .i64 (wt:Int)] 103)):=bel
  have cj':=zad hbA cj
  have HS:Hid (w0.heap.size=w.heap.size+1):=hs0
  have hB0:B<=w0.heap.size:=qg
  clear hs0
  go_enter (zfx func50),ntmps50
  go_wp2
  rw[<- hw0]
  clear hw0
  go_region_law
   ((refine step_append_lies _ (by rfl) _ _ _ (by rfl) B 103 i0 (.agg #[.int .i64 0,.int .i64 0,.int .i64 0]) 3 24 SqG.underlying49 hi iz0 iz1 iz2 rfl qg (v 2) G.length (flat3 G) (by rfl) (by first|exact o1.alloc _|exact(o1.alloc _).drew) ⟨w0.heap.size,0,none⟩ 1 1 [.int .i64 x,.int .i64 y,.int .i64 (wt:Int)] (by rfl) rfl (World.news_of_block (cs:=#[.int .i64 x,.int .i64 y,.int .i64 (wt:Int)]) (t:=103) (fr:=(0,0)) (heap_alloc_new w0 _)) qm qg qp qg ql (w0.heap.size+1) qk ?_;intro g6 k6 w6 hO6 hg6' hat6 hlt6;have hg6:(w0.alloc (.cells #[.int .i64 x,.int .i64 y,.int .i64 (wt:Int)] 103)).grownBy w6 (v 2).ownBlock:=(by first|exact hg6'|exact zey hg6');obtain⟨r3,v7,hT7,hf7⟩:=h1.push2 hO6 hg6 hat6;have r4:∀ i u,w0.cell? ⟨w.heap.size,i,none⟩=some u->w6.cell? ⟨w.heap.size,i,none⟩=some u:=(fun i u q=>hg6.cell (zad hbA q) (fun z=>absurd ((h.o 2 qg).lt w.heap.size z.symm).2 (Nat.lt_irrefl _)))))
  all_goals
   obtain⟨r5,r6⟩:=r3
   clear r4 hO6 hg6 hg6'
   go_wp2
   exact bodyPost_end (v:=.tuple #[]) (by simp[results,results50,go_sem]) rfl ⟨rfl,v7,hT7,(Fr.of hbX).trans hf7⟩
theorem zlg(k:Int)(h0:0<=k)(h7:k<=7)(args:Array Value)(w:World):Sem.run (SqG.prog aLt) (callFunc (zoU k) args) w=.ok (.enter (zoU k) args) w:=by
 rcases (show k=0\/k=1\/k=2\/k=3\/k=4\/k=5\/k=6\/k=7 by omega) with rfl|rfl|rfl|rfl|rfl|rfl|rfl|rfl <;> kernel_rfl
theorem zoV(k:Int)(hk:0<=k/\k<=7)(wt:Nat)(hw:wt<=64)(hf:zdF k wt=(how,en,on,tu))(w:World) :
  Calls (SqG.prog aLt) (zoU k) #[.int .i64 (wt:Int)] w fun e w'=>e=.returned (.agg #[.int .i64 how,.int .i64 (en:Int),.int .i64 (on:Int),.int .i64 (tu:Int)])/\Below w.heap.size w w':=by
 rcases (show k=0\/k=1\/k=2\/k=3\/k=4\/k=5\/k=6\/k=7 by omega) with rfl|rfl|rfl|rfl|rfl|rfl|rfl|rfl
 all_goals (simp[zdF] at hf;obtain⟨rfl,rfl,rfl,rfl⟩:=hf)
 ·exact znD _ w
 ·exact zla _ w
 ·exact ziT _ w
 ·exact ziT _ w
 ·exact zgM wt _ _ hw rfl rfl w
 ·exact zgM wt _ _ hw rfl rfl w
 ·exact zoW wt _ _ hw rfl rfl w
 ·exact zpL _ w
theorem zgT(h:Tk w B pb v (zbK A E G))(a:Option Addr)(cap:Nat)(hC:zaf w a cs)(ha:∀ b off,a=some ⟨b,off,none⟩->b<B)(x d:Int)(hs:okS cs (x,d))(hn:cs.length<=25)(hk:0<=kd cs x/\kd cs x<=7)(wt:Nat)(hw:wt<=64)(hl:A.length<=900000/\E.length<=900000/\G.length<=900000)(hf:zdF (kd cs x) wt=(how,en,on,tu)) :
  Calls (SqG.prog aLt) 31 #[.pointer (some ⟨pb,0,none⟩),.agg #[.int .i64 wd,.slice a cs.length cap],.agg #[.int .i64 x,.int .i64 d,.int .i64 (wt:Int)]] w fun r w'=>r=.returned (.tuple #[]) /\
   ∃ v2,Tk w' B pb v2 (zbK (A++[(x,d,(wt:Int))]) (E++zdr how x en) (G++zdr x (zaL (kd cs x) d) tu++zdr x d on))/\Fr w w' pb v v2:=by
 obtain⟨i0,hi,iz0,iz1,iz2⟩:=info_parts (zh9 (aLt:=aLt))
 have hpb:=h.lt
 have hB:=h.hB
 obtain⟨X,rfl⟩:=Int.eq_ofNat_of_zero_le hs.1.1
 have hX:X<cs.length:=by have:=hs.1.2;simp only at this;omega
 obtain⟨k,ek⟩:∃ k,kd cs (X:Int)=k:=⟨_,rfl⟩
 rw[ek] at hk hf ⊢
 obtain⟨tk,etk⟩:∃ t,zaL k d=t:=⟨_,rfl⟩
 rw[etk]
 obtain⟨l1,l2,l3⟩:=zm0 _ _ hf
 have hk0:=hk.1
 have hk7:=hk.2
 have HK:Hid (kd cs (X:Int)=k):=ek
 have HT:Hid (zaL k d=tk):=etk
 have HF:Hid (zdF k wt=(how,en,on,tu)):=hf
 have hdd:=zqY (aLt:=aLt) k hk0 hk7
 have hde:=zlg (aLt:=aLt) k hk0 hk7
 have hXi:(X:Int)<(cs.length:Int):=qg
 clear ek etk hf
 obtain⟨b,off,ea,HC0⟩:∃ b off,a=some ⟨b,off,none⟩/\Hid (w.cell? ⟨b,off+X * 2,none⟩=some (.int .i64 k)):=by
  rcases hC with q|⟨b,off,q,_,hc⟩
  ·rw[q] at hX;simp at hX
  ·refine⟨b,off,q,?_⟩
   show _=_
   rw[(hc X hX).1,<- HK.out]
   simp[kd]
 subst ea
 have hbB:=ha b off rfl
 obtain⟨w0,hw0⟩:∃ w0,w0=(w.alloc (.cells #[.int .i64 wd,.slice (some ⟨b,off,none⟩) cs.length cap] 25)).alloc (.cells #[.int .i64 (X:Int),.int .i64 d,.int .i64 (wt:Int)] 54):=⟨_,rfl⟩
 have hbX:Below w.heap.size w w0:=by rw[hw0];exact bel
 have h1:=h.below hbX
 have g1:w0.cell? ⟨w.heap.size,1,none⟩=some (.slice (some ⟨b,off,none⟩) cs.length cap):=by rw[hw0];simp[go_sem]
 have e0:w0.cell? ⟨w.heap.size+1,0,none⟩=some (.int .i64 (X:Int)):=by rw[hw0];simp[go_sem]
 have e1:w0.cell? ⟨w.heap.size+1,1,none⟩=some (.int .i64 d):=by rw[hw0];simp[go_sem]
 have e2:w0.cell? ⟨w.heap.size+1,2,none⟩=some (.int .i64 (wt:Int)):=by rw[hw0];simp[go_sem]
 have kc:w0.cell? ⟨b,off+X * 2,none⟩=some (.int .i64 k):=zad hbX HC0.out
 have hs0:w.heap.size+2<=w0.heap.size:=by rw[hw0];simp
 have cj:=h1.c 0 qg
 have o1:w0.ownsRow B 54 3 (v 0) A.length (flat3 A):=h1.o 0 qg
 have hbA:Below w0.heap.size w0 (w0.alloc (.cells #[.int .i64 (X:Int),.int .i64 d,.int .i64 (wt:Int)] 54)):=bel
 have cj':=zad hbA cj
 have hB0:B<=w0.heap.size:=qg
 have fg:Far v pb w.heap.size:=h.far (Nat.le_refl _)
 have fe:Far v pb (w.heap.size+1):=h.far qg
 have fb:Far v pb b:=h.farB hbB
 go_enter (zfx func31),ntmps31
 go_wp2
 rw[<- hw0]
 clear hw0
 go_cut [] (fun wc=>∃ v7,Tk wc B pb v7 (zbK (A++[((X:Int),d,(wt:Int))]) E G)/\Fr w0 wc pb v v7)
 case first =>
  go_region_law
   ((refine step_append_lies _ (by rfl) _ _ _ (by rfl) B 54 i0 (.agg #[.int .i64 0,.int .i64 0,.int .i64 0]) 3 24 SqG.underlying47 hi iz0 iz1 iz2 rfl qg (v 0) A.length (flat3 A) (by rfl) (by first|exact o1.alloc _|exact(o1.alloc _).drew) ⟨w0.heap.size,0,none⟩ 1 1 [.int .i64 (X:Int),.int .i64 d,.int .i64 (wt:Int)] (by rfl) rfl (World.news_of_block (cs:=#[.int .i64 (X:Int),.int .i64 d,.int .i64 (wt:Int)]) (t:=54) (fr:=(0,0)) (heap_alloc_new w0 _)) qm qg qp qg ql (w0.heap.size+1) qk ?_;intro g6 k6 w6 hO6 hg6' hat6 hlt6;have hg6:(w0.alloc (.cells #[.int .i64 (X:Int),.int .i64 d,.int .i64 (wt:Int)] 54)).grownBy w6 (v 0).ownBlock:=(by first|exact hg6'|exact zey hg6');obtain⟨r3,v7,hT7,hf7⟩:=h1.push0 hO6 hg6 hat6;have r4:∀ i u,w0.cell? ⟨w.heap.size+1,i,none⟩=some u->w6.cell? ⟨w.heap.size+1,i,none⟩=some u:=(fun i u q=>hg6.cell (zad hbA q) (fun z=>absurd ((h.o 0 qg).lt (w.heap.size+1) z.symm).2 qg))))
  all_goals
   obtain⟨r5,r6⟩:=r3
   clear r4 hO6 hg6 hg6'
   go_wp2_with fail
   go_meet
   case rel=>exact⟨v7,hT7,hf7⟩
 case rest =>
  obtain⟨v7,hT7,hf7⟩:=hcut
  rename World=>w7
  replace g1:=hf7.cell fg g1
  replace e0:=hf7.cell fe e0
  replace e1:=hf7.cell fe e1
  replace e2:=hf7.cell fe e2
  replace kc:=hf7.cell fb kc
  replace fe:=hf7.far qg fe
  have hF7:=(Fr.of (v:=v) (pb:=pb) hbX).trans hf7
  have hz7:=hf7.size
  clear cj cj' o1 hbA h1
  go_wp2_with fail
  refine(zmS _).mono ?_
  rintro e w8 ⟨rfl,hb8⟩
  have hT8:=hT7.below hb8
  have hF8:=hF7.trans (Fr.of hb8)
  have hz8:=hb8.size
  replace e0:=zad hb8 e0;replace e1:=zad hb8 e1;replace e2:=zad hb8 e2
  clear hb8 hT7 hF7 hf7
  go_wp2_with fail
  refine(zoV k ⟨hk0,hk7⟩ wt hw HF.out _).mono ?_
  rintro e w9 ⟨rfl,hb9⟩
  have hbY:Below w9.heap.size w9 (w9.alloc (.cells #[.int .i64 how,.int .i64 (en:Int),.int .i64 (on:Int),.int .i64 (tu:Int)] 96)):=bel
  have hT9:=(hT8.below hb9).below hbY
  have hF9:=(hF8.trans (Fr.of hb9)).trans (Fr.of hbY)
  have hz9:=hb9.size
  replace e0:=zad hb9 e0;replace e1:=zad hb9 e1;replace e2:=zad hb9 e2
  replace e0:=zad hbY e0;replace e1:=zad hbY e1;replace e2:=zad hbY e2
  have b0:(w9.alloc (.cells #[.int .i64 how,.int .i64 (en:Int),.int .i64 (on:Int),.int .i64 (tu:Int)] 96)).cell? ⟨w9.heap.size,0,none⟩=some (.int .i64 how):=qj
  have b1:(w9.alloc (.cells #[.int .i64 how,.int .i64 (en:Int),.int .i64 (on:Int),.int .i64 (tu:Int)] 96)).cell? ⟨w9.heap.size,1,none⟩=some (.int .i64 (en:Int)):=qj
  have b2:(w9.alloc (.cells #[.int .i64 how,.int .i64 (en:Int),.int .i64 (on:Int),.int .i64 (tu:Int)] 96)).cell? ⟨w9.heap.size,2,none⟩=some (.int .i64 (on:Int)):=qj
  have b3:(w9.alloc (.cells #[.int .i64 how,.int .i64 (en:Int),.int .i64 (on:Int),.int .i64 (tu:Int)] 96)).cell? ⟨w9.heap.size,3,none⟩=some (.int .i64 (tu:Int)):=qj
  have fy:Far v7 pb w9.heap.size:=(hT8.below hb9).far (Nat.le_refl _)
  have sy:w9.heap.size<(w9.alloc (.cells #[.int .i64 how,.int .i64 (en:Int),.int .i64 (on:Int),.int .i64 (tu:Int)] 96)).heap.size:=qk
  clear hb9 hbY hT8 hF8
  go_wp2_with fail
  obtain⟨wa,hwa⟩:∃ wa,wa=w9.alloc (.cells #[.int .i64 how,.int .i64 (en:Int),.int .i64 (on:Int),.int .i64 (tu:Int)] 96):=⟨_,rfl⟩
  rw[<- hwa] at hT9 hF9 e0 e1 e2 b0 b1 b2 b3 sy ⊢
  clear hwa
  refine(zkj hT9 how (X:Int) en qg qg).mono ?_
  rintro r wb ⟨rfl,v10,hT10,hf10⟩
  have hF10:=hF9.trans hf10
  replace e0:=hf10.cell fe e0
  replace e1:=hf10.cell fe e1
  replace b2:=hf10.cell fy b2
  replace b3:=hf10.cell fy b3
  have fe2:=hf10.far qg fe
  have fy2:=hf10.far sy fy
  have hz10:=hf10.size
  clear hf10 hT9 hF9 b0 b1 e2 fe fy
  go_wp2
  go_region_held3 (fun w'=>w'.cell? ⟨w.heap.size+1,0,none⟩=some (.int .i64 (X:Int))/\w'.cell? ⟨w.heap.size+1,1,none⟩=some (.int .i64 d)/\w'.cell? ⟨w9.heap.size,3,none⟩=some (.int .i64 (tu:Int)))
   (first
    | with_reducible exact⟨e0,e1,b3⟩
    | with_reducible exact⟨zad hbD e0,zad hbD e1,zad hbD b3⟩
    | with_reducible exact⟨hf11.cell fe2 (zad hbD e0),hf11.cell fe2 (zad hbD e1),hf11.cell fy2 (zad hbD b3)⟩
    | go_keep)
   (first
    | (go_at_call 51;refine(zfy k d _).mono ?_;rintro r wd' ⟨rfl,hbD'⟩;have hbD:Below wb.heap.size wb wd':=(by first|exact hbD'|exact zdU hbD');have hT11:=hT10.below hbD;have hF11:=hF10.trans (Fr.of hbD);rw[HT.out])
    | (go_at_call 50;refine(zgG hT11 (X:Int) tk tu qg qg).mono ?_;rintro r wc ⟨rfl,v12,hT12,hf11⟩)
    | fail)
  all_goals
   have hF12:=hF11.trans hf11
   replace e0:=hf11.cell fe2 (zad hbD e0)
   replace e1:=hf11.cell fe2 (zad hbD e1)
   replace b2:=hf11.cell fy2 (zad hbD b2)
   have hl12:(G++zdr (X:Int) tk tu).length<=1000000:=by have:=(zec (X:Int) tk tu).1;simp only[List.length_append];omega
   clear hf11 hT10 hF10 hbD hbD' hT11 hF11 b3
   go_wp2_with fail
   refine(zgG hT12 (X:Int) d on qg hl12).mono ?_
   rintro r we ⟨rfl,v13,hT13,hf13⟩
   have hF13:=hF12.trans hf13
   go_wp2_with fail
   exact bodyPost_end (v:=.tuple #[]) (by simp[results,results31,go_sem]) rfl ⟨rfl,v13,hT13,hF13⟩
theorem zq8(h:okG wd cs=true)(hx:0<=x/\x<(cs.length:Int)):0<=kd cs x/\kd cs x<=7:=by
 simp only[okG,Bool.and_eq_true,List.all_eq_true] at h
 obtain⟨X,rfl⟩:=Int.eq_ofNat_of_zero_le hx.1
 have hX:X<cs.length:=qg
 have q:=h.2 (cs[X]) (List.getElem_mem hX)
 have e:kd cs (X:Int)=cs[X].1:=by simp[kd,List.getElem?_eq_getElem hX]
 rw[e]
 unfold okC at q
 split at q
 ·omega
 ·simp at q;omega
theorem zhE(A E:List (Int × Int × Int))(k x:Int)(n:Nat):zaZ (A,E) (zde k x n)=(A,E++zdr k x n):=by
 show (A++[],E++zdr k x n)=_
 rw[List.append_nil]
def zj9(wd:Int)(cs:List (Int × Int))(A E l:List (Int × Int × Int))(b:Bm)(A' E' G':List (Int × Int × Int)):Prop :=
 zaZ (A',E') (pend wd cs G')=zaZ (A,E) (pend wd cs (l++[b]))/\(∀ c∈G',okB wd cs c)/\((A'=A/\G'=l)\/(A'.length=A.length+1/\G'.length<=l.length+2))
theorem step_end(h0:h≠0)(hok:∀ c∈l++[(x,e,(h:Int))],okB wd cs c)(hr:(zbH wd cs x e).2.2=false) :
  zj9 wd cs A E l (x,e,(h:Int)) A (E++zdr 0 (zcy wd cs x e) h) l:=by
 refine⟨?_,fun c hc=>hok c (by simp[hc]),Or.inl ⟨rfl,rfl⟩⟩
 rw[zfI]
 have q:lvB wd cs (x,e,(h:Int))=zde 0 (zcy wd cs x e) h:=by
  simp only[lvB,lvT,Int.toNat_natCast]
  rw[if_neg h0,if_neg (by simp[hr])]
 rw[q,<- zbQ,zhE]
theorem zmc(hokG:okG wd cs=true)(h0:h≠0)(hok:∀ c∈l++[(x,e,(h:Int))],okB wd cs c){x2:Int}(hr:(zbH wd cs x e).2.2=true)(hx2:(zbH wd cs x e).1=x2)(hf:zdF (kd cs x2) h=(how,en,on,tu)) :
  okS cs (x2,e)/\zj9 wd cs A E l (x,e,(h:Int)) (A++[(x2,e,(h:Int))]) (E++zdr how x2 en) (l++zdr x2 (zaL (kd cs x2) e) tu++zdr x2 e on):=by
 have hb:=hok (x,e,(h:Int)) qk
 obtain⟨r1,r2,_⟩:=zbq hr
 rw[hx2] at r1
 have hE:zas wd cs 707 x2 e h:=by
  rcases hb.2.2 with q|q|q
  ·simp only[Int.toNat_natCast] at q;exact absurd q h0
  ·simp only at q;rw[hr] at q;cases q
  ·simp only[Int.toNat_natCast] at q;rw[hx2] at q;exact q
 have hw:=hb.2.1
 simp only at hw
 obtain⟨f1,f2⟩:=zgU (T:=(A,E)) (st:=l) ⟨r1,r2⟩ (zq8 hokG r1) h0 qg hE hf
 refine⟨⟨r1,r2⟩,?_,?_,Or.inr ⟨qk,?_⟩⟩
 ·rw[zfI]
  have q:lvB wd cs (x,e,(h:Int))=zaE wd cs 707 x2 e h:=by
   simp only[lvB,lvT,Int.toNat_natCast]
   rw[if_neg h0,if_pos hr,hx2]
  rw[q]
  rw[zhE] at f1
  exact f1
 ·intro c hc
  rw[List.append_assoc] at hc
  rcases List.mem_append.1 hc with z|z
  ·exact hok c (by simp[z])
  ·exact f2 c z
 ·have q1:=(zec x2 (zaL (kd cs x2) e) tu).1
  have q2:=(zec x2 e on).1
  simp only[List.length_append]
  omega
theorem zjf{W H:Nat}(S:Siz wd cs W H)(hT:Tk w B pb v (zbK A E (l++[(x,e,(h:Int))])))(a:Option Addr)(cap:Nat)(hC:zaf w a cs)(ha:∀ b off,a=some ⟨b,off,none⟩->b<B)(hok:∀ c∈l++[(x,e,(h:Int))],okB wd cs c)(hl:A.length<=900000/\E.length<=900000/\l.length<=800000) :
  Calls (SqG.prog aLt) 32 #[.pointer (some ⟨pb,0,none⟩),.agg #[.int .i64 wd,.slice a cs.length cap]] w fun r w'=>r=.returned (.tuple #[]) /\
   ∃ v2 A' E' G',Tk w' B pb v2 (zbK A' E' G')/\Fr w w' pb v v2/\zj9 wd cs A E l (x,e,(h:Int)) A' E' G':=by
 have hpb:=hT.lt
 have hB:=hT.hB
 have hbk:=hok (x,e,(h:Int)) qk
 have hw1:=hbk.2.1
 simp only at hw1
 have h0:h≠0:=qg
 have h64:h<=64:=qg
 have hn:cs.length<=25:=by rw[S.el];exact Nat.le_trans (Nat.mul_le_mul S.hW.2 S.hH.2) qg
 obtain⟨g,c2,hv,hc1,hc2,hgw,hgp,⟨k0,k1,k2⟩,hpop⟩:=hT.pop2
 simp only at k0 k1 k2
 have cj:=hT.c 2 qg
 rw[hv] at cj
 have fj:=hT.f 2 qg
 have hb1:Below w.heap.size w (w.alloc (.cells #[.int .i64 wd,.slice a cs.length cap] 25)):=bel
 have hb2:Below w.heap.size w ((w.alloc (.cells #[.int .i64 wd,.slice a cs.length cap] 25)).alloc (.cells #[.int .i64 x,.int .i64 e,.int .i64 (h:Int)] 103)):=bel
 obtain⟨v2,hT2,hf2⟩:=hpop w (Below.refl _ _)
 have c1:(w.alloc (.cells #[.int .i64 wd,.slice a cs.length cap] 25)).cell? ⟨pb,2,none⟩=some (.slice (some ⟨g,0,none⟩) (l.length+1) c2):=zad hb1 cj
 have c2':((w.alloc (.cells #[.int .i64 wd,.slice a cs.length cap] 25)).alloc (.cells #[.int .i64 x,.int .i64 e,.int .i64 (h:Int)] 103)).cell? ⟨pb,2,none⟩=some (.slice (some ⟨g,0,none⟩) (l.length+1) c2):=zad hb2 cj
 have f2':((w.alloc (.cells #[.int .i64 wd,.slice a cs.length cap] 25)).alloc (.cells #[.int .i64 x,.int .i64 e,.int .i64 (h:Int)] 103)).frozen? ⟨pb,2,none⟩=false:=zal hb2 cj fj
 have m0:(w.alloc (.cells #[.int .i64 wd,.slice a cs.length cap] 25)).cell? ⟨g,l.length * 3,none⟩=some (.int .i64 x):=zad hb1 k0
 have m1:(w.alloc (.cells #[.int .i64 wd,.slice a cs.length cap] 25)).cell? ⟨g,l.length * 3+1,none⟩=some (.int .i64 e):=zad hb1 k1
 have m2:(w.alloc (.cells #[.int .i64 wd,.slice a cs.length cap] 25)).cell? ⟨g,l.length * 3+2,none⟩=some (.int .i64 (h:Int)):=zad hb1 k2
 obtain⟨ws,hws⟩:∃ ws,ws=w.setCell ⟨pb,2,none⟩ (.slice (some ⟨g,0,none⟩) l.length c2):=⟨_,rfl⟩
 have zs:ws.heap.size=w.heap.size:=by rw[hws];simp
 obtain⟨u,hu⟩:∃ u,u=(ws.alloc (.cells #[.int .i64 wd,.slice a cs.length cap] 25)).alloc (.cells #[.int .i64 x,.int .i64 e,.int .i64 (h:Int)] 103):=⟨_,rfl⟩
 rw[<- hws] at hT2 hf2
 have hbU:Below ws.heap.size ws u:=by rw[hu];exact bel
 have g0:u.cell? ⟨w.heap.size,0,none⟩=some (.int .i64 wd):=by rw[hu,<- zs];simp[go_sem]
 have g1:u.cell? ⟨w.heap.size,1,none⟩=some (.slice a cs.length cap):=by rw[hu,<- zs];simp[go_sem]
 have e0:u.cell? ⟨w.heap.size+1,0,none⟩=some (.int .i64 x):=by rw[hu,<- zs];simp[go_sem]
 have e1:u.cell? ⟨w.heap.size+1,1,none⟩=some (.int .i64 e):=by rw[hu,<- zs];simp[go_sem]
 have e2:u.cell? ⟨w.heap.size+1,2,none⟩=some (.int .i64 (h:Int)):=by rw[hu,<- zs];simp[go_sem]
 have fgr:Far v2 pb w.heap.size:=hT2.far qg
 have fbm:Far v2 pb (w.heap.size+1):=hT2.far qg
 have hT3:=hT2.below hbU
 have hF3:=hf2.trans (Fr.of hbU)
 have hC3:=hC.belowB ha (hF3.below hT)
 have zu:w.heap.size+2<=u.heap.size:=by rw[hu];simp;omega
 have HZ:Hid (ws.heap.size=w.heap.size):=zs
 have HOK:Hid (∀ c∈l++[(x,e,(h:Int))],okB wd cs c):=hok
 clear hpop hbU hT2 hf2 zs
 have hll:(l.length:Int)+1<=(c2:Int):=qg
 have hcm:(c2:Int)<=9223372036854775807:=by unfold maxLen at hc2;omega
 have hl3:(l.length:Int)<=800000:=qg
 obtain⟨x2,d2,b2,ev⟩:∃ x2 d2 b2,zbH wd cs x e=(x2,d2,b2):=⟨_,_,_,rfl⟩
 have EV:Hid (zbH wd cs x e=(x2,d2,b2)):=ev
 clear ev hok
 go_enter (zfx func32),ntmps32
 go_wp2_with fail
 rw[<- hws,<- hu]
 clear hu hws c1 c2' f2' m0 m1 m2 k0 k1 k2 hb1 hb2 cj fj
 refine(zfz wd a cap cs _ hC3 qg x e).mono ?_
 rintro r w4 ⟨rfl,hb4⟩
 rw[EV.out]
 unfold zgk
 have hbR:Below w4.heap.size w4 (w4.alloc (.cells #[.int .i64 x2,.int .i64 d2] 67)):=bel
 have hT4:=(hT3.below hb4).below hbR
 have hF4:=(hF3.trans (Fr.of hb4)).trans (Fr.of hbR)
 have hC4:=(hC3.below hb4).below hbR
 have hz4:=hb4.size
 replace g0:=zad hb4 g0;replace g1:=zad hb4 g1;replace e0:=zad hb4 e0;replace e1:=zad hb4 e1;replace e2:=zad hb4 e2
 replace g0:=zad hbR g0;replace g1:=zad hbR g1;replace e0:=zad hbR e0;replace e1:=zad hbR e1;replace e2:=zad hbR e2
 have y0:(w4.alloc (.cells #[.int .i64 x2,.int .i64 d2] 67)).cell? ⟨w4.heap.size,0,none⟩=some (.int .i64 x2):=qj
 have y1:(w4.alloc (.cells #[.int .i64 x2,.int .i64 d2] 67)).cell? ⟨w4.heap.size,1,none⟩=some (.int .i64 d2):=qj
 clear hb4 hbR hT3 hF3 hC3
 cases b2
 ·have hst:zj9 wd cs A E l (x,e,(h:Int)) A (E++zdr 0 (zcy wd cs x e) h) l:=step_end h0 HOK.out (by rw[EV.out])
  obtain⟨o,eo⟩:∃ o,zcy wd cs x e=o:=⟨_,rfl⟩
  rw[eo] at hst
  have HO:Hid (zcy wd cs x e=o):=eo
  clear eo
  go_wp2
  obtain⟨wa,hwa⟩:∃ wa,wa=w4.alloc (.cells #[.int .i64 x2,.int .i64 d2] 67):=⟨_,rfl⟩
  have hza:w4.heap.size<=wa.heap.size:=by rw[hwa];simp
  rw[<- hwa] at hT4 hF4 hC4 g0 g1 e0 e1 e2 ⊢
  clear hwa y0 y1
  go_region_held3 (fun w'=>w'.cell? ⟨w.heap.size,0,none⟩=some (.int .i64 wd)/\w'.cell? ⟨w.heap.size,1,none⟩=some (.slice a cs.length cap)/\w'.cell? ⟨w.heap.size+1,0,none⟩=some (.int .i64 x)/\w'.cell? ⟨w.heap.size+1,1,none⟩=some (.int .i64 e)/\w'.cell? ⟨w.heap.size+1,2,none⟩=some (.int .i64 (h:Int)))
   (first
    | with_reducible exact⟨g0,g1,e0,e1,e2⟩
    | with_reducible exact⟨zad hbD g0,zad hbD g1,zad hbD e0,zad hbD e1,zad hbD e2⟩
    | with_reducible exact⟨hf6.cell fgr (zad hbD g0),hf6.cell fgr (zad hbD g1),hf6.cell fbm (zad hbD e0),hf6.cell fbm (zad hbD e1),hf6.cell fbm (zad hbD e2)⟩
    | go_keep)
   (first
    | (go_at_call 53;refine(zlm wd a cap cs _ (by first|exact hC4|exact hC4.below (Below.refl _ _).drew) qg x e).mono ?_;rintro r w5 ⟨rfl,hbD'⟩;have hbD:Below wa.heap.size wa w5:=(by first|exact hbD'|exact zdU hbD');have hT5:=hT4.below hbD;have hF5:=hF4.trans (Fr.of hbD);rw[HO.out])
    | (go_at_call 49;refine(zkj hT5 0 o h h64 qg).mono ?_;rintro r w6 ⟨rfl,v6,hT6,hf6⟩)
    | fail)
  all_goals
   have hF6:=hF5.trans hf6
   clear hf6 hbD hbD'
   go_wp2
   exact bodyPost_ret (v:=.tuple #[]) (by simp[results,results32,go_sem]) rfl ⟨rfl,v6,_,_,_,hT6,hF6,hst⟩
 ·obtain⟨how,en,on,tu,ef⟩:∃ how en on tu,zdF (kd cs x2) h=(how,en,on,tu):=⟨_,_,_,_,rfl⟩
  obtain⟨hs2,hst⟩:=zmc (A:=A) (E:=E) S.ok h0 HOK.out (x2:=x2) (by rw[EV.out]) (by rw[EV.out]) ef
  have ed:d2=e:=by
   have q:(zbH wd cs x e).2.2=true:=by rw[EV.out]
   obtain⟨e2',_⟩:=zkF EV.out
   exact e2'
  subst ed
  have hkk:=zq8 S.ok hs2.1
  go_wp2_with fail
  refine(zgT hT4 a cap hC4 ha x2 d2 hs2 hn hkk h h64 qg ef).mono ?_
  rintro r w6 ⟨rfl,v6,hT6,hf6⟩
  have hF6:=hF4.trans hf6
  clear hf6 y0 y1
  go_wp2_with fail
  exact bodyPost_end (v:=.tuple #[]) (by simp[results,results32,go_sem]) rfl ⟨rfl,v6,_,_,_,hT6,hF6,hst⟩
theorem zrJ{d:Int}(h:zbT wd cs k=(x,d,true)):inS wd cs k=true:=by
 unfold zbT at h
 split at h
 ·next z=>exact decide_eq_true z.2
 ·simp at h
theorem zpb(h:inS wd cs k=true):∃ x d,zbT wd cs k=(x,d,true):=by
 have hok:=zh7 h
 have hk:0<=k/\k<zbU wd cs:=by simpa [inS] using h
 obtain⟨W,H,S⟩:=zc3 hok
 rw[S.em] at hk
 obtain⟨K,rfl⟩:=Int.eq_ofNat_of_zero_le hk.1
 exact⟨_,_,zd4 S K qg⟩
theorem zpC(wd:Int)(cs:List (Int × Int))(A E:List (Int × Int × Int)):zaZ (A,E) (pend wd cs [])=(A,E):=by simp[pend,zaZ]
theorem znF{L:Tr}(h:zaZ (A,E) (pend wd cs G)=L):A.length<=L.1.length/\E.length<=L.2.length:=by
 rw[<- h];simp[zaZ]
theorem zp7(u:World)(B g:Nat)(hB:B<=g)(t:TypeId)(hg:u.heap[g]?=some (.cells #[.slice none 0 0,.slice none 0 0,.slice none 0 0] t (0,0))):Tk u B g (fun _=>.slice none 0 0) (zbK [] [] []):=by
 refine⟨?_,?_,?_,hB,?_,?_⟩
 ·intro j hj
  rw[cell_of_row _ _ _ _ _ _ hg]
  rcases (show j=0\/j=1\/j=2 by omega) with rfl|rfl|rfl <;> rfl
 ·intro j hj
  exact frozen_of_row _ _ _ _ _ hg
 ·intro j hj
  rcases (show j=0\/j=1\/j=2 by omega) with rfl|rfl|rfl <;> exact World.ownsRow_nil _ _ _ _
 ·intro j hj q
  simp[Value.ownBlock] at q
 ·intro i j hi hj hne g q
  simp[Value.ownBlock] at q
theorem zgd(wd:Int)(a:Option Addr)(cap:Nat)(cs:List (Int × Int))(w:World)(h:zaf w a cs)(hm:cs.length<=1048576)(k:Int) :
  Calls (SqG.prog aLt) 19 #[.agg #[.int .i64 wd,.slice a cs.length cap],.int .i64 k] w fun r w'=>∃ a0 c0 a1 c1 a2 n2 c2,r=.returned (.agg #[.slice a0 (zaP wd cs k).1.length c0,.slice a1 (zaP wd cs k).2.length c1,.slice a2 n2 c2]) /\
   w'.ownsRow w.heap.size 54 3 (.slice a0 (zaP wd cs k).1.length c0) (zaP wd cs k).1.length (flat3 (zaP wd cs k).1)/\w'.ownsRow w.heap.size 99 3 (.slice a1 (zaP wd cs k).2.length c1) (zaP wd cs k).2.length (flat3 (zaP wd cs k).2)/\Below w.heap.size w w':=by
 obtain⟨u,hu⟩:∃ u,u=(((w.alloc (.cells #[.int .i64 wd,.slice a cs.length cap] 25)).alloc (.cells #[.slice none 0 0,.slice none 0 0,.slice none 0 0] 51)).alloc (.cells #[.slice none 0 0,.slice none 0 0,.slice none 0 0] 51)):=⟨_,rfl⟩
 have hbU:Below w.heap.size w u:=by rw[hu];exact bel
 have zu:w.heap.size+3<=u.heap.size:=by rw[hu];simp
 have g0:u.cell? ⟨w.heap.size,0,none⟩=some (.int .i64 wd):=by rw[hu];simp[go_sem]
 have g1:u.cell? ⟨w.heap.size,1,none⟩=some (.slice a cs.length cap):=by rw[hu];simp[go_sem]
 have r0:u.cell? ⟨w.heap.size+1,0,none⟩=some (.slice none 0 0):=by rw[hu];simp[go_sem]
 have r1:u.cell? ⟨w.heap.size+1,1,none⟩=some (.slice none 0 0):=by rw[hu];simp[go_sem]
 have r2:u.cell? ⟨w.heap.size+1,2,none⟩=some (.slice none 0 0):=by rw[hu];simp[go_sem]
 have f0:u.frozen? ⟨w.heap.size+1,0,none⟩=false:=by rw[hu];simp[go_sem]
 have f1:u.frozen? ⟨w.heap.size+1,1,none⟩=false:=by rw[hu];simp[go_sem]
 have f2:u.frozen? ⟨w.heap.size+1,2,none⟩=false:=by rw[hu];simp[go_sem]
 have hT0:Tk u w.heap.size (w.heap.size+2) (fun _=>.slice none 0 0) (zbK [] [] []):=zp7 u _ _ qg 51 (by
  rw[hu]
  exact zcS _ _ _ qk)
 have hC0:=h.below hbU
 obtain⟨x,d,b,hr⟩:∃ x d b,zbT wd cs k=(x,d,b):=⟨_,_,_,rfl⟩
 have HR:Hid (zbT wd cs k=(x,d,b)):=hr
 obtain⟨L,hL⟩:∃ L,zaP wd cs k=L:=⟨_,rfl⟩
 rw[hL]
 have HL:Hid (zaP wd cs k=L):=hL
 clear hr hL
 go_enter (zfx func19),ntmps19
 go_wp2_with fail
 rw[<- hu]
 clear hu
 refine(zjk wd a cap cs _ hC0 hm k x d b HR.out).mono ?_
 rintro r w1 ⟨rfl,hb1⟩
 have hbR:Below w1.heap.size w1 (w1.alloc (.cells #[.int .i64 x,.int .i64 d] 67)):=bel
 have hz1:=hb1.size
 have hT1:=(hT0.below hb1).below hbR
 have hC1:=(hC0.below hb1).below hbR
 have hB1:=zai (zai hbU qg hb1) qg hbR
 replace f0:=zal hb1 r0 f0;replace f1:=zal hb1 r1 f1;replace f2:=zal hb1 r2 f2;replace g0:=zad hb1 g0;replace g1:=zad hb1 g1;replace r0:=zad hb1 r0;replace r1:=zad hb1 r1;replace r2:=zad hb1 r2
 replace f0:=zal hbR r0 f0;replace f1:=zal hbR r1 f1;replace f2:=zal hbR r2 f2;replace g0:=zad hbR g0;replace g1:=zad hbR g1;replace r0:=zad hbR r0;replace r1:=zad hbR r1;replace r2:=zad hbR r2
 have y0:(w1.alloc (.cells #[.int .i64 x,.int .i64 d] 67)).cell? ⟨w1.heap.size,0,none⟩=some (.int .i64 x):=qj
 have y1:(w1.alloc (.cells #[.int .i64 x,.int .i64 d] 67)).cell? ⟨w1.heap.size,1,none⟩=some (.int .i64 d):=qj
 clear hT0 hC0 hb1 hbR hbU
 have nrb:w.heap.size+2≠w.heap.size+1:=qg
 cases b
 ·have eL:L=([],[]):=by
   rw[<- HL.out]
   unfold zaP
   rw[if_neg]
   intro q
   have:zbT wd cs k=(x,d,false):=HR.out
   obtain⟨x',d',z⟩:=zpb q
   rw[z] at this
   simp at this
  subst eL
  have t0:=hT1.c 0 qg
  have t1:=hT1.c 1 qg
  have t2:=hT1.c 2 qg
  go_wp2
  refine bodyPost_ret (v:=.agg #[.slice none 0 0,.slice none 0 0,.slice none 0 0]) (by simp[results,results19,go_sem,r0,r1,r2]) rfl ⟨none,0,none,0,⟨none,0,0,rfl⟩,World.ownsRow_nil _ _ _ _,World.ownsRow_nil _ _ _ _,?_⟩
  exact((hB1.setCell (p:=⟨w.heap.size+1,0,none⟩) (by show w.heap.size<=w.heap.size+1;omega) _).setCell (p:=⟨w.heap.size+1,1,none⟩) (by show w.heap.size<=w.heap.size+1;omega) _).setCell (p:=⟨w.heap.size+1,2,none⟩) (by show w.heap.size<=w.heap.size+1;omega) _
 ·obtain⟨⟨hx,hd⟩,hE⟩:=zcQ HR.out
  have hin:inS wd cs k=true:=zrJ HR.out
  have hokG:=zh7 hin
  obtain⟨W,H,S⟩:=zc3 hokG
  have hn:cs.length<=25:=by rw[S.el];exact Nat.le_trans (Nat.mul_le_mul S.hW.2 S.hH.2) qg
  have hpos:1<=cs.length:=qg
  have ha:∀ b off,a=some ⟨b,off,none⟩->b<w.heap.size:=by
   intro b off e2
   rcases h with q0|⟨b',off',e,hbl,_⟩
   ·rw[q0] at hpos;simp at hpos
   ·rw[e] at e2
    simp only[Option.some.injEq,Addr.mk.injEq] at e2
    omega
  have eL:zaE wd cs 707 x d 64=L:=by
   rw[<- HL.out]
   unfold zaP
   rw[if_pos hin,HR.out]
  have hlen:=zhm wd cs 707 x d 64
  rw[eL] at hlen
  obtain⟨how,en,on,tu,ef⟩:∃ how en on tu,zdF (kd cs x) 64=(how,en,on,tu):=⟨_,_,_,_,rfl⟩
  have hkk:=zq8 hokG hx
  obtain⟨vf1,vf2⟩:=zgU (T:=([],[])) (st:=[]) ⟨hx,hd⟩ hkk qg (Nat.le_refl 64) hE ef
  have HV:Hid (zaZ ([]++[(x,d,((64:Nat):Int))],[]++zdr how x en) (pend wd cs ([]++zdr x (zaL (kd cs x) d) tu++zdr x d on))=L):=by
   show _=_
   have q:=vf1
   rw[zhE] at q
   rw[<- eL]
   refine Eq.trans q ?_
   simp[pend,zaZ]
  have HV2:Hid (∀ c∈[]++zdr x (zaL (kd cs x) d) tu++zdr x d on,okB wd cs c):=fun c hc=>vf2 c hc
  have HLEN:Hid (L.1.length<=707 * 64/\L.2.length<=64):=hlen
  have HEF:Hid (zdF (kd cs x) 64=(how,en,on,tu)):=ef
  clear vf1 vf2 eL hlen hE ef
  go_wp2_with fail
  obtain⟨wa,hwa⟩:∃ wa,wa=w1.alloc (.cells #[.int .i64 x,.int .i64 d] 67):=⟨_,rfl⟩
  have hza:w.heap.size+3<=wa.heap.size:=by rw[hwa];simp;omega
  rw[<- hwa] at hT1 hC1 hB1 g0 g1 r0 r1 r2 f0 f1 f2 ⊢
  clear hwa y0 y1
  have fg:Far (fun _=>Value.slice none 0 0) (w.heap.size+2) w.heap.size:=⟨qg,fun j hj=>by simp[Value.ownBlock]⟩
  have fr:Far (fun _=>Value.slice none 0 0) (w.heap.size+2) (w.heap.size+1):=⟨qg,fun j hj=>by simp[Value.ownBlock]⟩
  refine(zgT hT1 a cap hC1 ha x d ⟨hx,hd⟩ hn hkk 64 (Nat.le_refl _) qk HEF.out).mono ?_
  rintro r w2 ⟨rfl,v2,hT2,hf2⟩
  replace f0:=hf2.frozen fr r0 f0
  replace f1:=hf2.frozen fr r1 f1
  replace f2:=hf2.frozen fr r2 f2
  replace g0:=hf2.cell fg g0
  replace g1:=hf2.cell fg g1
  replace r0:=hf2.cell fr r0
  replace r1:=hf2.cell fr r1
  replace r2:=hf2.cell fr r2
  replace fg:=hf2.far qg fg
  replace fr:=hf2.far qg fr
  have hB2:=hB1.trans (hf2.below hT1)
  have hC2:=hC1.belowB ha (hf2.below hT1)
  have hz2:=hf2.size
  clear hf2 hT1 hB1 hC1
  have q1:=(zec x (zaL (kd cs x) d) tu).1
  have q2:=(zec x d on).1
  have hk0:3 * (L.1.length - 1)+([]++zdr x (zaL (kd cs x) d) tu++zdr x d on).length<=3 * L.1.length+2:=by simp only[List.length_append,List.length_nil];omega
  clear q1 q2
  go_wp2_with fail
  go_loopg [] (3 * (L.1.length - 1)+([]++zdr x (zaL (kd cs x) d) tu++zdr x d on).length) (fun gk wr=>∃ v3 A E G,Tk wr w.heap.size (w.heap.size+2) v3 (zbK A E G)/\Fr w2 wr (w.heap.size+2) v2 v3/\zaZ (A,E) (pend wd cs G)=L/\(∀ c∈G,okB wd cs c)/\gk=3 * (L.1.length - A.length)+G.length/\gk<=3 * L.1.length+2)
  case atStart=>exact⟨v2,_,_,_,hT2,Fr.of (Below.refl _ _),HV.out,HV2.out,qk,hk0⟩
  case round =>
   obtain⟨v3,A,E,G,hT3,hf3,eL,hok,hgk,hgm⟩:=hrel
   have HE:Hid (zaZ (A,E) (pend wd cs G)=L):=eL
   obtain⟨p1,p2⟩:=znF eL
   obtain⟨z1,z2⟩:=HLEN.out
   have t2:=hT3.c 2 qg
   obtain⟨a2,c2,ev2,_⟩:=zc0 (es:=G) (show wr.ownsRow w.heap.size 103 3 (v3 2) G.length (flat3 G) from hT3.o 2 qg)
   rw[ev2] at t2
   have b0:=hf3.cell fg g0
   have b1:=hf3.cell fg g1
   clear eL
   rcases List.eq_nil_or_concat G with rfl|⟨l,bm,rfl⟩
   ·have eA:(A,E)=L:=by rw[<- HE.out,zpC]
    subst eA
    obtain⟨a0,c0,ev0,_⟩:=zc0 (es:=A) (show wr.ownsRow w.heap.size 54 3 (v3 0) A.length (flat3 A) from hT3.o 0 qg)
    obtain⟨a1,c1,ev1,_⟩:=zc0 (es:=E) (show wr.ownsRow w.heap.size 99 3 (v3 1) E.length (flat3 E) from hT3.o 1 qg)
    have o0:wr.ownsRow w.heap.size 54 3 (v3 0) A.length (flat3 A):=hT3.o 0 qg
    have o1:wr.ownsRow w.heap.size 99 3 (v3 1) E.length (flat3 E):=hT3.o 1 qg
    have t0:=hT3.c 0 qg
    have t1:=hT3.c 1 qg
    have n0:=(hf3.far qg fr).2 0 qg
    have n1:=(hf3.far qg fr).2 1 qg
    rw[ev0] at t0 o0 n0
    rw[ev1] at t1 o1 n1
    have s0:=hf3.cell fr r0
    have s1:=hf3.cell fr r1
    have s2:=hf3.cell fr r2
    have x0:=hf3.frozen fr r0 f0
    have x1:=hf3.frozen fr r1 f1
    have x2:=hf3.frozen fr r2 f2
    have hB3:=hB2.trans (hf3.below hT2)
    clear hf3 hT3 HE hok ev0 ev1 ev2
    simp only[List.length_nil] at t2
    go_wp2
    refine bodyPost_ret (v:=.agg #[.slice a0 A.length c0,.slice a1 E.length c1,.slice a2 0 c2]) (by simp[results,results19,go_sem,s0,s1,s2]) rfl ⟨a0,c0,a1,c1,⟨a2,0,c2,rfl⟩,?_,?_,?_⟩
    ·exact ownsRow_setCell_other (ownsRow_setCell_other (ownsRow_setCell_other o0 (a:=⟨w.heap.size+1,0,none⟩) n0 _) (a:=⟨w.heap.size+1,1,none⟩) n0 _) (a:=⟨w.heap.size+1,2,none⟩) n0 _
    ·exact ownsRow_setCell_other (ownsRow_setCell_other (ownsRow_setCell_other o1 (a:=⟨w.heap.size+1,0,none⟩) n1 _) (a:=⟨w.heap.size+1,1,none⟩) n1 _) (a:=⟨w.heap.size+1,2,none⟩) n1 _
    ·exact((hB3.setCell (p:=⟨w.heap.size+1,0,none⟩) (by show w.heap.size<=w.heap.size+1;omega) _).setCell (p:=⟨w.heap.size+1,1,none⟩) (by show w.heap.size<=w.heap.size+1;omega) _).setCell (p:=⟨w.heap.size+1,2,none⟩) (by show w.heap.size<=w.heap.size+1;omega) _
   ·simp only[List.concat_eq_append] at hT3 hok hgk t2 HE
    obtain⟨bx,be,bh⟩:=bm
    have hbk:=(hok (bx,be,bh) qk).2.1
    simp only at hbk
    obtain⟨hh,rfl⟩:=Int.eq_ofNat_of_zero_le (show 0<=bh by omega)
    have hC3:=hC2.belowB ha (hf3.below hT2)
    have gl:(l++[(bx,be,(hh:Int))]).length=l.length+1:=qk
    rw[gl] at t2 hgk
    have hl1:A.length<=900000/\E.length<=900000/\l.length<=800000:=qg
    have hpl:(0:Int)<(l.length:Int)+1:=qg
    go_wp2_with fail
    refine(zjf S hT3 a cap hC3 ha hok hl1).mono ?_
    rintro r w4 ⟨rfl,v4,A',E',G',hT4,hf4,st1,st2,st3⟩
    have hf5:=hf3.trans hf4
    have e4:zaZ (A',E') (pend wd cs G')=L:=by rw[st1];exact HE.out
    obtain⟨p3,p4⟩:=znF e4
    have hlt:3 * (L.1.length - A'.length)+G'.length<gk:=by
     rcases st3 with ⟨q1,q2⟩|⟨q1,q2⟩
     ·rw[q1,q2];omega
     ·omega
    clear hT3 hf3 hf4 st1 st3 HE t2 b0 b1 hC3 hok
    go_wp2_with fail
    go_roundg (3 * (L.1.length - A'.length)+G'.length)
    case measure=>exact hlt
    case rel=>exact⟨v4,A',E',G',hT4,hf5,e4,st2,rfl,qg⟩
theorem zo5(a0 a1 a2:Option Addr)(n0 c0 n1 c1 n2 c2:Nat)(w:World):Sem.run (SqG.prog aLt) (Instr.field 51 (.agg #[.slice a0 n0 c0,.slice a1 n1 c1,.slice a2 n2 c2]) 0) w=.ok (.slice a0 n0 c0) w:=qh
theorem zo6(a0 a1 a2:Option Addr)(n0 c0 n1 c1 n2 c2:Nat)(w:World):Sem.run (SqG.prog aLt) (Instr.field 51 (.agg #[.slice a0 n0 c0,.slice a1 n1 c1,.slice a2 n2 c2]) 1) w=.ok (.slice a1 n1 c1) w:=qh
theorem zlh{L:Tr}(hL:zaP wd cs k=L):(∀ u∈L.2,zmr wd cs u)/\(∀ u∈L.2,u.2.2<=64)/\zeo L.2<=64/\L.2.length<=64/\(L.2≠[]->okG wd cs=true):=by
 rcases hs:inS wd cs k with _|_
 ·have hv:L=([],[]):=by rw[<- hL];unfold zaP;rw[if_neg (by simp[hs])]
  subst hv
  exact⟨qk,qk,by simp[zeo],qk,fun q=>absurd rfl q⟩
 ·have hT:=zhG hs
  rw[hL] at hT
  have hpos:∀ u∈L.2,1<=u.2.2:=fun u hu=>(hT.ends u hu).1
  have key:∀ l:List (Int × Int × Int),(∀ u∈l,1<=u.2.2)->(l.length:Int)<=zeo l:=by
   intro l
   induction l with
   | nil=>intro _;simp[zeo]
   | cons t r ih =>
    intro q
    have q1:=q t qk
    have q2:=ih (fun u hu=>q u (by simp[hu]))
    simp only[zeo,List.length_cons]
    omega
  have hsum:=hT.sum
  have hk:=key L.2 hpos
  refine⟨hT.ends,?_,qg,qg,fun _=>zh7 hs⟩
  intro u hu
  obtain⟨l1,l2,e⟩:=List.append_of_mem hu
  have q1:=zcC l1 (u::l2)
  rw[<- e,hsum] at q1
  simp only[zeo] at q1
  have q2:=zep l1 (fun z hz=>hpos z (by rw[e];simp[hz]))
  have q3:=zep l2 (fun z hz=>hpos z (by rw[e];simp[hz]))
  omega
theorem zcv(wd:Int)(a:Option Addr)(cap:Nat)(cs:List (Int × Int))(w:World)(h:zaf w a cs)(hm:cs.length<=1048576)(k:Int) :
  Calls (SqG.prog aLt) 59 #[.agg #[.int .i64 wd,.slice a cs.length cap],.int .i64 k] w fun e w'=>e=.returned (.int .i64 (za0 wd cs k))/\Below w.heap.size w w':=by
 obtain⟨L,hL⟩:∃ L,zaP wd cs k=L:=⟨_,rfl⟩
 obtain⟨hE,hQ,hsum,hlen,hok⟩:=zlh hL
 obtain⟨es,hes⟩:∃ es,L.2=es:=⟨_,rfl⟩
 rw[hes] at hE hQ hsum hlen hok
 have hpos:∀ u∈es,1<=u.2.2:=fun u hu=>(hE u hu).1
 obtain⟨R,hR⟩:∃ R,za0 wd cs k=R:=⟨_,rfl⟩
 rw[hR]
 have ER:Hid (zdy cs es=R):=by show _=_;rw[<- hR];unfold za0;rw[hL,hes]
 have HL:Hid (zaP wd cs k=L):=hL
 have HES:Hid (L.2=es):=hes
 have HB:Hid (∀ i,0<=zdy cs (es.take i)/\zdy cs (es.take i)<=576):=by
  intro i
  have q1:=zoj cs (es.take i) (fun u hu=>zjr (hok (fun z=>by rw[z] at hu;simp at hu)) (hE u (List.mem_of_mem_take hu)))
  have q2:=zkZ hpos i
  omega
 have HE:Hid (∀ u∈es,zmr wd cs u):=hE
 have HQ:Hid (∀ u∈es,u.2.2<=64):=hQ
 have HOK:Hid (es≠[]->okG wd cs=true):=hok
 have hbX:Below w.heap.size w (w.alloc (.cells #[.int .i64 wd,.slice a cs.length cap] 25)):=bel
 have g1:(w.alloc (.cells #[.int .i64 wd,.slice a cs.length cap] 25)).cell? ⟨w.heap.size,1,none⟩=some (.slice a cs.length cap):=qj
 have hC:=h.below hbX
 clear hL hes hR hE hQ hpos hok
 go_enter (zfx func59),ntmps59
 go_wp2_with fail
 refine(zgd wd a cap cs _ hC hm k).mono ?_
 rw[HL.out,HES.out]
 rintro r x1 ⟨a0,c0,a1,c1,a2,n2,c2,rfl,o0,o1,hb1⟩
 have hfld:=zo6 (aLt:=aLt) a0 a1 a2 L.1.length c0 es.length c1 n2 c2
 have hB1:=zai hbX qk hb1
 replace g1:=zad hb1 g1
 have hC1:=hC.below hb1
 obtain⟨aX,cX,eX,hR3⟩:=zc0 o1
 simp only[Value.slice.injEq,true_and] at eX
 obtain⟨rfl,rfl⟩:=eX
 clear hb1 o0 o1 hC hbX
 go_wp2_with fail
 go_loopw [5,13] (fun nn ii wr=>∃ i:Nat,i<=es.length/\ii=.int .i64 i/\nn=.int .i64 (zdy cs (es.take i))/\Below x1.heap.size x1 wr) (fun _ ii _=>es.length - (intOf ii).toNat)
 case atStart=>exact⟨0,Nat.zero_le _,rfl,rfl,Below.refl _ _⟩
 case round =>
  rename World=>wo
  obtain⟨i,hi,rfl,rfl,hb⟩:=hrel
  replace hR3:=hR3.below hb
  replace hC1:=hC1.below hb
  replace g1:=zad hb g1
  obtain⟨s,es0⟩:∃ s,zdy cs (es.take i)=s:=⟨_,rfl⟩
  have hsb:=HB.out i
  rw[es0] at hsb ⊢
  by_cases hlt:i<es.length
  ·rcases hR3 with q|⟨b,off,rfl,hbl,hc⟩
   ·rw[q] at hlt;simp at hlt
   obtain⟨t,et⟩:∃ t,es.getD i (0,0,0)=t:=⟨_,rfl⟩
   have hmem:t∈es:=by rw[<- et];simp[List.getElem?_eq_getElem hlt]
   obtain⟨z0,z1,z2⟩:=hc i hlt
   rw[et] at z0 z1 z2
   obtain⟨hw1,hlm⟩:=zjr (HOK.out (fun z=>by rw[z] at hmem;simp at hmem)) (HE.out t hmem)
   have hw2:=HQ.out t hmem
   have hst:zdy cs (es.take (i+1))=s+(if t.1=2 then t.2.2 * ltC cs t.2.1 else 0):=by
    rw[zeq es i (0,0,0) hlt,zf6,es0,et]
    simp[zdy]
   obtain⟨t0,t1,t2⟩:=t
   simp only at z0 z1 z2 hw1 hw2 hst hlm
   have hbY:Below wo.heap.size wo (wo.alloc (.cells #[.int .i64 t0,.int .i64 t1,.int .i64 t2] 99)):=bel
   have hbE:Below x1.heap.size x1 (wo.alloc (.cells #[.int .i64 t0,.int .i64 t1,.int .i64 t2] 99)):=hb.alloc hb.size _
   clear hmem et hc
   by_cases e0:t0=2
   ·rw[if_pos e0] at hst
    obtain⟨hx,hl1,hl2⟩:=hlm e0
    obtain⟨Y,rfl⟩:=Int.eq_ofNat_of_zero_le hx.1
    have hY:Y<cs.length:=qg
    obtain⟨lt',elt⟩:∃ l,ltC cs (Y:Int)=l:=⟨_,rfl⟩
    rw[elt] at hst hl1 hl2
    rcases hC1 with q|⟨bc,oc,rfl,hbc,hcc⟩
    ·rw[q] at hY;simp at hY
    have zc:=(hcc Y hY).2
    have zc':wo.cell? ⟨bc,oc+Y * 2+1,none⟩=some (.int .i64 lt'):=by
     rw[zc,<- elt];simp[ltC]
    obtain⟨p,ep⟩:∃ p,t2 * lt'=p:=⟨_,rfl⟩
    rw[ep] at hst
    have hp0:0<=p:=by rw[<- ep];exact Int.mul_nonneg qg qg
    have hp1:p<=576:=by
     rw[<- ep]
     exact Int.le_trans (Int.mul_le_mul hw2 hl2 qg qg) qg
    have wp:IntKind.i64.wrap (t2 * lt')=p:=by rw[ep];exact IntWalk.i64_in _ qg
    have ws:IntKind.i64.wrap (s+p)=s+p:=IntWalk.i64_in _ qg
    have HST:Hid (zdy cs (es.take (i+1))=s+p):=hst
    have b0:(t0 == 2)=true:=by simp[e0]
    have hYl:(Y:Int)<(cs.length:Int):=qg
    clear hst e0 es0 zc ep elt hcc hlm
    go_wp2_with fail
    obtain⟨we,hwe⟩:∃ we,we=wo.alloc (.cells #[.int .i64 t0,.int .i64 (Y:Int),.int .i64 t2] 99):=⟨_,rfl⟩
    have y0:we.cell? ⟨wo.heap.size,0,none⟩=some (.int .i64 t0):=by rw[hwe];simp[go_sem]
    have y1:we.cell? ⟨wo.heap.size,1,none⟩=some (.int .i64 (Y:Int)):=by rw[hwe];simp[go_sem]
    have y2:we.cell? ⟨wo.heap.size,2,none⟩=some (.int .i64 t2):=by rw[hwe];simp[go_sem]
    rw[<- hwe] at hbY hbE ⊢
    replace g1:=zad hbY g1;replace zc':=zad hbY zc'
    clear hwe z0 z1 z2
    go_quiet (fail)
    have hbq:Below x1.heap.size x1 (we.drewN nq):=⟨hbE.os,hbE.tape,hbE.output,hbE.size,hbE.block⟩
    go_wp2_with fail
    go_roundw
    case rel=>exact⟨i+1,qg,by go_num,by rw[HST.out],hbq⟩
    case measure=>exact qe
   ·rw[if_neg e0] at hst
    have HST:Hid (zdy cs (es.take (i+1))=s):=by show _=_;rw[hst];omega
    have b0:(t0 == 2)=false:=by simp[e0]
    clear hst e0 es0 hlm
    go_wp2_with fail
    go_roundw
    case rel=>exact⟨i+1,qg,by go_num,by rw[HST.out],hbE⟩
    case measure=>exact qe
  ·have hfin:s=R:=by rw[<- es0,<- ER.out,List.take_of_length_le qg]
   subst hfin
   clear es0
   go_wp2_with fail
   go_ret
   exact⟨rfl,zai hB1 hB1.size hb⟩
def zoL(c:Nat->Bool):Array Value:=#[.bool (c 0),.bool (c 1),.bool (c 2),.bool (c 3),.bool (c 4),.bool (c 5),.bool (c 6),.bool (c 7),.bool (c 8),.bool (c 9),.bool (c 10),.bool (c 11),.bool (c 12),.bool (c 13),.bool (c 14),.bool (c 15),.bool (c 16),.bool (c 17),.bool (c 18),.bool (c 19),.bool (c 20),.bool (c 21),.bool (c 22),.bool (c 23),.bool (c 24)]
theorem zcj(c:Nat->Bool):(zoL c).size=25:=rfl
theorem zex(c:Nat->Bool)(i:Nat)(h:i<25):(zoL c)[i]?=some (.bool (c i)):=by
 rcases (show i=0\/i=1\/i=2\/i=3\/i=4\/i=5\/i=6\/i=7\/i=8\/i=9\/i=10\/i=11\/i=12\/i=13\/i=14\/i=15\/i=16\/i=17\/i=18\/i=19\/i=20\/i=21\/i=22\/i=23\/i=24 by omega) with rfl|rfl|rfl|rfl|rfl|rfl|rfl|rfl|rfl|rfl|rfl|rfl|rfl|rfl|rfl|rfl|rfl|rfl|rfl|rfl|rfl|rfl|rfl|rfl|rfl <;> rfl
theorem zsD(c:Nat->Bool)(i:Nat)(h:i<25)(w:World):Sem.run (SqG.prog aLt) (Instr.index 46 (.agg (zoL c)) (.int .i64 (i:Int))) w=.ok (.bool (c i)) w:=by
 rcases (show i=0\/i=1\/i=2\/i=3\/i=4\/i=5\/i=6\/i=7\/i=8\/i=9\/i=10\/i=11\/i=12\/i=13\/i=14\/i=15\/i=16\/i=17\/i=18\/i=19\/i=20\/i=21\/i=22\/i=23\/i=24 by omega) with rfl|rfl|rfl|rfl|rfl|rfl|rfl|rfl|rfl|rfl|rfl|rfl|rfl|rfl|rfl|rfl|rfl|rfl|rfl|rfl|rfl|rfl|rfl|rfl|rfl <;> kernel_rfl
theorem zoM(c c':Nat->Bool)(X:Nat)(hX:X<25)(h1:c' X=true)(h2:∀ j,j<25->j≠X->c' j=c j):(zoL c).setIfInBounds X (.bool true)=zoL c':=by
 refine Array.ext_getElem? fun i=>?_
 rw[Array.getElem?_setIfInBounds]
 by_cases e:X=i
 ·subst e
  rw[if_pos rfl,if_pos (by rw[zcj];exact hX),zex c' X hX,h1]
 ·rw[if_neg e]
  by_cases hi:i<25
  ·rw[zex c i hi,zex c' i hi,h2 i hi (fun q=>e q.symm)]
  ·rw[Array.getElem?_eq_none (by rw[zcj];omega),Array.getElem?_eq_none (by rw[zcj];omega)]
theorem zmC(c c':Nat->Bool)(h:∀ j,j<25->c' j=c j):zoL c=zoL c':=by
 refine Array.ext_getElem? fun i=>?_
 by_cases hi:i<25
 ·rw[zex c i hi,zex c' i hi,h i hi]
 ·rw[Array.getElem?_eq_none (by rw[zcj];omega),Array.getElem?_eq_none (by rw[zcj];omega)]
theorem zqj:(SqG.prog aLt).underlying 46=some (.array 25 4):=qh
theorem zq7:((SqG.prog aLt).info? 46).map (·.size)=some 25:=qh
def BkB(w:World)(g:Nat)(c:Nat->Bool):Prop:=w.heap[g]?=some (.cells (zoL c) 46 (0,0))
theorem BkB.below{c:Nat->Bool}(h:BkB w g c)(hb:Below w.heap.size w w'):BkB w' g c:=by
 unfold BkB at h ⊢
 rw[hb.block g (gei h).1]
 exact h
theorem BkB.lt{c:Nat->Bool}(h:BkB w g c):g<w.heap.size:=(gei h).1
theorem BkB.cell{c:Nat->Bool}(h:BkB w g c)(i:Nat)(hi:i<25):w.cell? ⟨g,i,none⟩=some (.bool (c i)):=by
 rw[cell_of_row _ _ _ _ _ _ h];exact zex c i hi
theorem BkB.fz{c:Nat->Bool}(h:BkB w g c)(i:Nat):w.frozen? ⟨g,i,none⟩=false:=frozen_of_row _ _ _ _ _ h
theorem BkB.put{c c':Nat->Bool}(h:BkB w g c)(X:Nat)(hX:X<25)(h1:c' X=true)(h2:∀ j,j<25->j≠X->c' j=c j):BkB (w.setCell ⟨g,X,none⟩ (.bool true)) g c':=by
 unfold BkB
 rw[heap_setCell_same w g X _ _ _ h,zoM c c' X hX h1 h2]
def zar(wd:Int)(cs:List (Int × Int))(k:Int):List Int:=zaF cs.length (zaP wd cs k).1
theorem zh2(n:Nat):zaF n []=[]:=by
 unfold zaF
 rw[List.filter_eq_nil_iff.2 (by intro i _;simp[seenAt])]
 rfl
theorem zq1(n:Nat)(vs:List (Int × Int × Int))(hn:n<=25)(h:∀ u∈vs,0<=u.1/\u.1<(n:Int)):zaF 25 vs=zaF n vs:=by
 have key:∀ m,zaF (n+m) vs=zaF n vs:=by
  intro m
  induction m with
  | zero=>rfl
  | succ m ih =>
   rw[<- Nat.add_assoc,zd1,if_neg,ih]
   intro q
   unfold seenAt at q
   simp only[List.any_eq_true,beq_iff_eq] at q
   obtain⟨u,hu,e⟩:=q
   have:=h u hu
   omega
 have:=key (25 - n)
 rw[show n+(25 - n)=25 by omega] at this
 exact this
theorem zeQ{L:Tr}(hL:zaP wd cs k=L):(∀ u∈L.1,0<=u.1/\u.1<(cs.length:Int))/\L.1.length<=45248/\(L.1≠[]->cs.length<=25)/\(∀ u∈L.1,(0<=u.2.1/\u.2.1<=3)/\1<=u.2.2/\u.2.2<=64):=by
 rcases hs:inS wd cs k with _|_
 ·have hv:L=([],[]):=by rw[<- hL];unfold zaP;rw[if_neg (by simp[hs])]
  subst hv
  exact⟨qk,qk,fun q=>absurd rfl q,qk⟩
 ·have hT:=zhG hs
  rw[hL] at hT
  obtain⟨W,H,S⟩:=zc3 (zh7 hs)
  refine⟨fun u hu=>(hT.vis u hu).1.1,?_,fun _=>by rw[S.el];exact Nat.le_trans (Nat.mul_le_mul S.hW.2 S.hH.2) qg,fun u hu=>⟨(hT.vis u hu).1.2,(hT.vis u hu).2.1,(hT.vis u hu).2.2⟩⟩
  rw[<- hL]
  unfold zaP
  rw[if_pos hs]
  exact(zhm wd cs 707 _ _ 64).1
