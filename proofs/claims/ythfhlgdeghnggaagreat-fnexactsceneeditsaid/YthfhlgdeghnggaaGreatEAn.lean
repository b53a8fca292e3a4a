/- Part. -/
import Derived.WalkSmall
import Derived.Deep.RegionHeldLaw
import Derived.Deep.LoopGhost
import Derived.Test.YthfhlgdeghnggaaGreatEAm
set_option maxHeartbeats 4000000
set_option maxRecDepth 20000
set_option linter.unusedVariables false
namespace Go.Proofs.YthfhlgdeghnggaaGreat
variable{e h0 h1 k wd x y z:Int}{b:Int × Int × Int}{A E G l:Le}{cs:Lp}{B en g g6 h k6 on pb tu wt:Nat}{L:Nat->Le}{v v2:Nat->Value}{r:Option Nat}{u:Value}{w w' w6:World}
open _root_.Go.Proofs.Tryz
namespace Sp
variable{aLt:Nat->Func->Func}
open Go.RowKit
theorem ziZ{go go':Int->Int->Nat->Tr}{d:Int}(h6:kd cs x=6->lvT wd cs go x d (wt / 2)=lvT wd cs go' x d (wt / 2))(h0:kd cs x=4\/kd cs x=5->lvT wd cs go x d (wt / 2)=lvT wd cs go' x d (wt / 2)/\lvT wd cs go x (zaS (kd cs x) d) (wt / 2)=lvT wd cs go' x (zaS (kd cs x) d) (wt / 2))(hp:zgb (kd cs x)->lvT wd cs go x (zaS (kd cs x) d) wt=lvT wd cs go' x (zaS (kd cs x) d) wt):zbg wd cs go x d wt=zbg wd cs go' x d wt:=by
 unfold zbg
 by_cases k1:kd cs x=1
 ·rw[if_pos k1,if_pos k1]
 rw[if_neg k1,if_neg k1]
 by_cases k7:kd cs x=7
 ·rw[if_pos k7,if_pos k7]
 rw[if_neg k7,if_neg k7]
 by_cases k6:kd cs x=6
 ·rw[if_pos k6,if_pos k6,h6 k6]
 rw[if_neg k6,if_neg k6]
 by_cases k45:kd cs x=4\/kd cs x=5
 ·rw[if_pos k45,if_pos k45,(h0 k45).1,(h0 k45).2]
 rw[if_neg k45,if_neg k45]
 exact hp ⟨k1,k7,k6,fun q=>k45 (Or.inl q),fun q=>k45 (Or.inr q)⟩
theorem zho{f:Nat}{d:Int}(hE:zax wd cs (f+1) x d wt)(h0:wt≠0) :
  (kd cs x=6->lvE wd cs (zax wd cs f) x d (wt / 2))/\(kd cs x=4\/kd cs x=5->lvE wd cs (zax wd cs f) x d (wt / 2)/\lvE wd cs (zax wd cs f) x (zaS (kd cs x) d) (wt / 2)) /\
   (zgb (kd cs x)->lvE wd cs (zax wd cs f) x (zaS (kd cs x) d) wt):=by
 rcases hE with q|q|⟨q,q1⟩|⟨q,q1,q2⟩|⟨q,q1⟩
 ·exact absurd q h0
 ·refine⟨fun z=>qg,fun z=>qg,fun z=>?_⟩
  rcases q with q|q
  ·exact absurd q z.1
  ·exact absurd q z.2.1
 ·exact⟨fun _=>q1,fun z=>qg,fun z=>absurd q z.2.2.1⟩
 ·refine⟨fun z=>qg,fun _=>⟨q1,q2⟩,fun z=>?_⟩
  rcases q with q|q
  ·exact absurd q z.2.2.2.1
  ·exact absurd q z.2.2.2.2
 ·refine⟨fun z=>absurd z q.2.2.1,fun z=>?_,fun _=>q1⟩
  rcases z with z|z
  ·exact absurd z q.2.2.2.1
  ·exact absurd z q.2.2.2.2
theorem zel{f:Nat}(ih:∀ x d wt,zax wd cs f x d wt->zaI wd cs (f+1) x d wt=zaI wd cs f x d wt)(hE:lvE wd cs (zax wd cs f) x e h) :
  lvT wd cs (zaI wd cs (f+1)) x e h=lvT wd cs (zaI wd cs f) x e h:=by
 unfold lvT
 by_cases h0:h=0
 ·rw[if_pos h0,if_pos h0]
 ·rw[if_neg h0,if_neg h0]
  by_cases c:(zbR wd cs x e).2.2=true
  ·rw[if_pos c,if_pos c]
   rcases hE with q|q|q
   ·exact absurd q h0
   ·rw[c] at q;cases q
   ·exact ih _ _ _ q
  ·rw[if_neg c,if_neg c]
theorem zj8(wd:Int)(cs:Lp):∀ f x d wt,zax wd cs f x d wt->zaI wd cs (f+1) x d wt=zaI wd cs f x d wt:=by
 intro f
 induction f with
 | zero =>
  intro x d wt h
  have q:wt=0:=h
  subst q
  rw[zbZ,zbZ]
 | succ f ih =>
  intro x d wt h
  by_cases h0:wt=0
  ·subst h0;rw[zbZ,zbZ]
  ·obtain⟨s6,s45,sp⟩:=zho h h0
   have e:zbg wd cs (zaI wd cs (f+1)) x d wt=zbg wd cs (zaI wd cs f) x d wt:=ziZ (fun q=>zel ih (s6 q)) (fun q=>⟨zel ih (s45 q).1,zel ih (s45 q).2⟩) (fun q=>zel ih (sp q))
   show (if wt=0 then (([],[]):Tr) else za8 ([(x,d,(wt:Int))],[]) (zbg wd cs (zaI wd cs (f+1)) x d wt))=(if wt=0 then (([],[]):Tr) else za8 ([(x,d,(wt:Int))],[]) (zbg wd cs (zaI wd cs f) x d wt))
   rw[e]
theorem zqt{f:Nat}{d:Int}(h:zax wd cs f x d wt)(h0:wt≠0):zaI wd cs f x d wt=za8 ([(x,d,(wt:Int))],[]) (zbg wd cs (zaI wd cs f) x d wt):=by
 have e:=zj8 wd cs f x d wt h
 rw[<- e]
 show (if wt=0 then (([],[]):Tr) else za8 ([(x,d,(wt:Int))],[]) (zbg wd cs (zaI wd cs f) x d wt))=_
 rw[if_neg h0]
abbrev Bm:=Int × Int × Int
def lvB(wd:Int)(cs:Lp)(b:Bm):Tr:=lvT wd cs (zaI wd cs 707) b.1 b.2.1 b.2.2.toNat
def pend(wd:Int)(cs:Lp):List Bm->Tr
 | []=>([],[])
 | b::r=>za8 (pend wd cs r) (lvB wd cs b)
theorem zen(a:Tr):za8 ([],[]) a=a:=by simp[za8]
theorem zga(wd:Int)(cs:Lp)(l:List Bm)(b:Bm):pend wd cs (l++[b])=za8 (lvB wd cs b) (pend wd cs l):=by
 induction l with
 | nil=>simp[pend,zen,zbX]
 | cons c r ih=>simp only[List.cons_append,pend,ih,zb3]
def bm1(x e:Int)(h:Nat):List Bm:=if h=0 then [] else [(x,e,(h:Int))]
theorem zpa(wd:Int)(cs:Lp)(l:List Bm)(x e:Int)(h:Nat):pend wd cs (l++bm1 x e h)=za8 (lvT wd cs (zaI wd cs 707) x e h) (pend wd cs l):=by
 unfold bm1
 by_cases h0:h=0
 ·rw[if_pos h0]
  unfold lvT
  rw[if_pos h0,zen,List.append_nil]
 ·rw[if_neg h0,zga]
  simp[lvB]
def okB(wd:Int)(cs:Lp)(b:Bm):Prop:=okS cs (b.1,b.2.1)/\(1<=b.2.2/\b.2.2<=64)/\lvE wd cs (zax wd cs 707) b.1 b.2.1 b.2.2.toNat
theorem zsd(hs:okS cs (x,e))(hw:h<=64)(hE:h≠0->lvE wd cs (zax wd cs 707) x e h):∀ b∈bm1 x e h,okB wd cs b:=by
 intro b hb
 unfold bm1 at hb
 by_cases h0:h=0
 ·rw[if_pos h0] at hb;cases hb
 ·rw[if_neg h0] at hb
  simp only[List.mem_singleton] at hb
  subst hb
  exact⟨hs,⟨by simp only;omega,by simp only;omega⟩,by simpa using hE h0⟩
def zdZ(k:Int)(wt:Nat):Int × Nat × Nat × Nat :=
 if k=1 then (1,wt,0,0) else if k=7 then (2,wt,0,0) else if k=6 then (3,wt - wt / 2,wt / 2,0)
 else if k=4\/k=5 then (3,wt - 2 * (wt / 2),wt / 2,wt / 2) else if k=2\/k=3 then (0,0,0,wt) else (0,0,wt,0)
theorem zhv{d:Int}(hd:0<=d/\d<=3):zaS 0 d=d:=by
 rw[zdL 0 d hd.1 hd.2]
 simp
theorem zop{d:Int}(hd:0<=d/\d<=3)(hk:0<=kd cs x/\kd cs x<=7)(go:Int->Int->Nat->Tr)(hf:zdZ (kd cs x) wt=(h0,en,on,tu)) :
  zbg wd cs go x d wt=za8 (zdA h0 x en) (za8 (lvT wd cs go x d on) (lvT wd cs go x (zaS (kd cs x) d) tu)):=by
 have z:∀ e,lvT wd cs go x e 0=([],[]):=fun e=>by unfold lvT;rw[if_pos rfl]
 have zn:∀ k,zdA k x 0=([],[]):=fun k=>by simp[zdA]
 unfold zbg
 unfold zdZ at hf
 by_cases k1:kd cs x=1
 ·rw[if_pos k1] at hf ⊢
  simp only[Prod.mk.injEq] at hf
  obtain⟨rfl,rfl,rfl,rfl⟩:=hf
  rw[z,z,zbX,zbX]
 rw[if_neg k1] at hf ⊢
 by_cases k7:kd cs x=7
 ·rw[if_pos k7] at hf ⊢
  simp only[Prod.mk.injEq] at hf
  obtain⟨rfl,rfl,rfl,rfl⟩:=hf
  rw[z,z,zbX,zbX]
 rw[if_neg k7] at hf ⊢
 by_cases k6:kd cs x=6
 ·rw[if_pos k6] at hf ⊢
  simp only[Prod.mk.injEq] at hf
  obtain⟨rfl,rfl,rfl,rfl⟩:=hf
  rw[z,zbX]
 rw[if_neg k6] at hf ⊢
 by_cases k45:kd cs x=4\/kd cs x=5
 ·rw[if_pos k45] at hf ⊢
  simp only[Prod.mk.injEq] at hf
  obtain⟨rfl,rfl,rfl,rfl⟩:=hf
  rfl
 rw[if_neg k45] at hf ⊢
 by_cases k23:kd cs x=2\/kd cs x=3
 ·rw[if_pos k23] at hf
  simp only[Prod.mk.injEq] at hf
  obtain⟨rfl,rfl,rfl,rfl⟩:=hf
  rw[z,zn,zen,zen]
 ·rw[if_neg k23] at hf
  simp only[Prod.mk.injEq] at hf
  obtain⟨rfl,rfl,rfl,rfl⟩:=hf
  have k0:kd cs x=0:=qg
  rw[k0,zhv hd,z,zn,zen,zbX]
theorem zoq(k:Int)(wt:Nat)(hf:zdZ k wt=(h0,en,on,tu)):en<=wt/\on<=wt/\tu<=wt:=by
 unfold zdZ at hf
 repeat' split at hf
 all_goals (simp only[Prod.mk.injEq] at hf;obtain⟨rfl,rfl,rfl,rfl⟩:=hf;omega)
theorem zkd{f:Nat}{d:Int}(hd:0<=d/\d<=3)(hk:0<=kd cs x/\kd cs x<=7)(hE:zax wd cs (f+1) x d wt)(h0:wt≠0)(hf:zdZ (kd cs x) wt=(h1,en,on,tu)) :
  (on≠0->lvE wd cs (zax wd cs (f+1)) x d on)/\(tu≠0->lvE wd cs (zax wd cs (f+1)) x (zaS (kd cs x) d) tu):=by
 obtain⟨s6,s45,sp⟩:=zho hE h0
 have up:∀ {e:Int} {h:Nat},lvE wd cs (zax wd cs f) x e h->lvE wd cs (zax wd cs (f+1)) x e h:=fun q=>zek (zfK wd cs f) q
 unfold zdZ at hf
 by_cases k1:kd cs x=1
 ·rw[if_pos k1] at hf
  simp only[Prod.mk.injEq] at hf
  obtain⟨rfl,rfl,rfl,rfl⟩:=hf
  exact⟨fun q=>absurd rfl q,fun q=>absurd rfl q⟩
 rw[if_neg k1] at hf
 by_cases k7:kd cs x=7
 ·rw[if_pos k7] at hf
  simp only[Prod.mk.injEq] at hf
  obtain⟨rfl,rfl,rfl,rfl⟩:=hf
  exact⟨fun q=>absurd rfl q,fun q=>absurd rfl q⟩
 rw[if_neg k7] at hf
 by_cases k6:kd cs x=6
 ·rw[if_pos k6] at hf
  simp only[Prod.mk.injEq] at hf
  obtain⟨rfl,rfl,rfl,rfl⟩:=hf
  exact⟨fun _=>up (s6 k6),fun q=>absurd rfl q⟩
 rw[if_neg k6] at hf
 by_cases k45:kd cs x=4\/kd cs x=5
 ·rw[if_pos k45] at hf
  simp only[Prod.mk.injEq] at hf
  obtain⟨rfl,rfl,rfl,rfl⟩:=hf
  exact⟨fun _=>up (s45 k45).1,fun _=>up (s45 k45).2⟩
 rw[if_neg k45] at hf
 have hp:zgb (kd cs x):=⟨k1,k7,k6,fun q=>k45 (Or.inl q),fun q=>k45 (Or.inr q)⟩
 by_cases k23:kd cs x=2\/kd cs x=3
 ·rw[if_pos k23] at hf
  simp only[Prod.mk.injEq] at hf
  obtain⟨rfl,rfl,rfl,rfl⟩:=hf
  exact⟨fun q=>absurd rfl q,fun _=>up (sp hp)⟩
 ·rw[if_neg k23] at hf
  simp only[Prod.mk.injEq] at hf
  obtain⟨rfl,rfl,rfl,rfl⟩:=hf
  have k0:kd cs x=0:=qg
  refine⟨fun _=>?_,fun q=>absurd rfl q⟩
  have:=sp hp
  rw[k0,zhv hd] at this
  exact up this
theorem zhx{d:Int}(hs:okS cs (x,d))(hk:0<=kd cs x/\kd cs x<=7)(h0:wt≠0)(hw:wt<=64)(hE:zax wd cs 707 x d wt)(hf:zdZ (kd cs x) wt=(h1,en,on,tu))(T:Tr)(st:List Bm) :
  za8 (za8 (T.1++[(x,d,(wt:Int))],T.2) (zdA h1 x en)) (pend wd cs (st++bm1 x (zaS (kd cs x) d) tu++bm1 x d on))=za8 T (za8 (zaI wd cs 707 x d wt) (pend wd cs st)) /\
   ∀ b∈bm1 x (zaS (kd cs x) d) tu++bm1 x d on,okB wd cs b:=by
 have e1:((T.1++[(x,d,(wt:Int))],T.2):Tr)=za8 T ([(x,d,(wt:Int))],[]):=by simp[za8]
 obtain⟨l1,l2,l3⟩:=zoq _ _ hf
 obtain⟨q1,q2⟩:=zkd (f:=706) hs.2 hk hE h0 hf
 refine⟨?_,?_⟩
 ·rw[zpa,zpa,zqt hE h0,zop hs.2 hk _ hf,e1]
  simp only[zb3]
 ·intro b hb
  rcases List.mem_append.1 hb with q|q
  ·exact zsd (show okS cs (x,zaS (kd cs x) d) from ⟨hs.1,zd2 hs.2⟩) qg q2 b q
  ·exact zsd hs qg q1 b q
theorem zqQ:((SqG.prog aLt).info? 206).map (fun i=>(i.zero,i.size,i.bytes))=some (some (.agg #[J 0,J 0,J 0]),3,24):=qh
def tyR(j:Nat):TypeId:=if j=0 then 122 else if j=1 then 119 else 206
def upd{α:Type}(f:Nat->α)(j:Nat)(x:α):Nat->α:=fun i=>if i=j then x else f i
theorem upd_same{α:Type}(f:Nat->α)(j:Nat)(x:α):upd f j x j=x:=by simp[upd]
theorem zaP{α:Type}(f:Nat->α)(j i:Nat)(x:α)(h:i≠j):upd f j x i=f i:=by simp[upd,h]
structure Tk(w:World)(B pb:Nat)(v:Nat->Value)(L:Nat->Le):Prop where
 c:∀ j,j<3->w.cell? (O pb j)=some (v j)
 f:∀ j,j<3->w.frozen? (O pb j)=false
 o:∀ j,j<3->w.ownsRow B (tyR j) 3 (v j) (L j).length (flat3 (L j))
 hB:B<=pb
 d:∀ j,j<3->(v j).ownBlock≠some pb
 dd:∀ i j,i<3->j<3->i≠j->∀ g,(v i).ownBlock=some g->(v j).ownBlock≠some g
theorem Tk.lt(h:Tk w B pb v L):pb<w.heap.size:=World.block_lt_of_cell? w _ (h.c 0 qg)
theorem Tk.below(h:Tk w B pb v L)(hb:xE w w'):Tk w' B pb v L :=
 ⟨fun j hj=>zaa hb (h.c j hj),fun j hj=>zak hb (h.c j hj) (h.f j hj),
  fun j hj=>(h.o j hj).kept (row:=none) ⟨hb.os,hb.tape,hb.output,hb.size,fun k hk _=>hb.block k hk⟩ (by by_cases q:(v j).ownBlock=none;exact Or.inl q;exact Or.inr q),h.hB,h.d,h.dd⟩
theorem Tk.like{L':Nat->Le}(h:Tk w B pb v L)(e:∀ j,j<3->L' j=L j):Tk w B pb v L' :=
 ⟨h.c,h.f,fun j hj=>by rw[e j hj];exact h.o j hj,h.hB,h.d,h.dd⟩
def Far(v:Nat->Value)(pb b:Nat):Prop:=b≠pb/\∀ j,j<3->(v j).ownBlock≠some b
theorem Tk.far(h:Tk w B pb v L){b:Nat}(hb:w.heap.size<=b):Far v pb b :=
 ⟨fun q=>by have:=h.lt;omega,fun j hj q=>by have:=((h.o j hj).lt b q).2;omega⟩
theorem Tk.farB(h:Tk w B pb v L){b:Nat}(hb:b<B):Far v pb b :=
 ⟨fun q=>by have:=h.hB;omega,fun j hj q=>by have:=((h.o j hj).lt b q).1;omega⟩
structure Fr(w w':World)(pb:Nat)(v v2:Nat->Value):Prop where
 os:w'.os=w.os
 tape:w'.tape=w.tape
 output:w'.output=w.output
 size:w.heap.size<=w'.heap.size
 block:∀ b,b<w.heap.size->Far v pb b->w'.heap[b]?=w.heap[b]?/\Far v2 pb b
theorem Fr.trans{w1 w2:World}{v1:Nat->Value}(h:Fr w w1 pb v v1)(g:Fr w1 w2 pb v1 v2):Fr w w2 pb v v2 :=
 ⟨g.os.trans h.os,g.tape.trans h.tape,g.output.trans h.output,Nat.le_trans h.size g.size,fun b hb hf=>by
  obtain⟨e1,f1⟩:=h.block b hb hf
  obtain⟨e2,f2⟩:=g.block b (nll hb h.size) f1
  exact⟨e2.trans e1,f2⟩⟩
theorem Fr.of(h:xE w w'):Fr w w' pb v v :=
 ⟨h.os,h.tape,h.output,h.size,fun b hb hf=>⟨h.block b hb,hf⟩⟩
theorem Fr.below(f:Fr w w' pb v v2)(h:Tk w B pb v L):Below B w w' :=
 ⟨f.os,f.tape,f.output,f.size,fun k hk=>(f.block k (by have:=h.lt;have:=h.hB;omega) (h.farB hk)).1⟩
theorem Fr.cell(f:Fr w w' pb v v2){b o:Nat}(hf:Far v pb b)(h:w.cell? (O b o)=some u):w'.cell? (O b o)=some u:=by
 rw[World.cell?_of_block (w:=w) (f.block b (World.block_lt_of_cell? w _ h) hf).1]
 exact h
theorem Fr.frozen(f:Fr w w' pb v v2){b o:Nat}{c:Bool}(hf:Far v pb b)(h:w.cell? (O b o)=some u)(hz:w.frozen? (O b o)=c):w'.frozen? (O b o)=c:=by
 rw[World.frozen?_of_block (w:=w) (f.block b (World.block_lt_of_cell? w _ h) hf).1]
 exact hz
theorem Fr.far(f:Fr w w' pb v v2){b:Nat}(hb:b<w.heap.size)(hf:Far v pb b):Far v2 pb b:=(f.block b hb hf).2
theorem zaf.belowB{a:Od}(h:zaf w a cs)(ha:∀ b off,a=some (O b off)->b<B)(hb:Below B w w'):zaf w' a cs:=by
 rcases h with q|⟨b,off,rfl,h1,hc⟩
 ·exact Or.inl q
 ·have h0:=ha b off rfl
  refine Or.inr ⟨b,off,rfl,nll h1 hb.size,fun i hi=>?_⟩
  rw[hb.cell (p:=(O b (off+i * 2))) h0,hb.cell (p:=(O b (off+i * 2+1))) h0]
  exact hc i hi
theorem Tk.push{o:Obj}(h:Tk w B pb v L)(j:Nat)(hj:j<3)(hO:w6.ownsRow B (tyR j) 3 (.slice (xA g6) ((L j).length+1) k6) ((L j).length+1) (flat3 (L j)++[J x,J y,J z]))(hg:(w.alloc o).grownBy w6 (v j).ownBlock)(h1:(v j).ownBlock=some g6\/g6=w.heap.size+1) :
  (w6.cell? (O pb j)=some (v j)/\w6.frozen? (O pb j)=false)/\Tk (w6.setCell (O pb j) (.slice (xA g6) ((L j).length+1) k6)) B pb (upd v j (.slice (xA g6) ((L j).length+1) k6)) (upd L j (L j++[(x,y,z)])) /\
   Fr w (w6.setCell (O pb j) (.slice (xA g6) ((L j).length+1) k6)) pb v (upd v j (.slice (xA g6) ((L j).length+1) k6)):=by
 have h9:pb<w.heap.size:=h.lt
 have h0:xE w (w.alloc o):=(Below.refl _ _).alloc (Nat.le_refl _) o
 have hp:some pb≠(v j).ownBlock:=fun q=>h.d j hj q.symm
 have hz:=hg.size
 simp at hz
 have h4:g6≠pb:=by
  rcases h1 with q|q
  ·intro q2;subst q2;exact h.d j hj q
  ·omega
 have cell:∀ i u,w.cell? (O pb i)=some u->w6.cell? (O pb i)=some u:=fun i u q=>hg.cell (zaa h0 q) hp
 have froz:∀ i,w.frozen? (O pb i)=false->w6.frozen? (O pb i)=false:=fun i q=>by
  rw[hg.frozen_far (O pb i) qn hp,h0.frozen (p:=(O pb i)) h9];exact q
 have he:Fr w (w6.setCell (O pb j) (.slice (xA g6) ((L j).length+1) k6)) pb v (upd v j (.slice (xA g6) ((L j).length+1) k6)):=by
  refine⟨hg.os.trans h0.os,hg.tape.trans h0.tape,hg.output.trans h0.output,by rw[World.size_setCell];omega,fun b hb hf=>⟨?_,hf.1,?_⟩⟩
  ·rw[Below.heap_setCell w6 (O pb j) _ b hf.1,hg.block b qn (fun q=>hf.2 j hj q.symm)]
   exact h0.block b hb
  ·intro i hi
   by_cases q:i=j
   ·subst q
    rw[upd_same]
    simp only[Value.ownBlock]
    intro z
    simp only[Option.some.injEq] at z
    subst z
    rcases h1 with q2|q2
    ·exact hf.2 i hi q2
    ·omega
   ·rw[zaP _ _ _ _ q];exact hf.2 i hi
 refine⟨⟨cell _ _ (h.c j hj),froz _ (h.f j hj)⟩,?_,he⟩
 have h7:∀ i,i<3->i≠j->w6.ownsRow B (tyR i) 3 (v i) (L i).length (flat3 (L i)):=fun i hi h2=>((h.o i hi).alloc o).kept hg (by
  by_cases q:(v i).ownBlock=none
  ·exact Or.inl q
  ·right;intro q2;obtain⟨g,h5⟩:∃ g,(v i).ownBlock=some g:=Option.ne_none_iff_exists'.1 q
   exact h.dd i j hi hj h2 g h5 (q2 ▸ h5))
 have h8:(L j++[(x,y,z)]).length=(L j).length+1:=qm
 have hk:flat3 (L j++[(x,y,z)])=flat3 (L j)++[J x,J y,J z]:=by rw[zcg];rfl
 refine⟨?_,?_,?_,h.hB,?_,?_⟩
 ·intro i hi
  by_cases q:i=j
  ·subst q;rw[upd_same];exact World.cell?_setCell_same _ _ _ (by rw[cell _ _ (h.c i hi)])
  ·rw[zaP _ _ _ _ q];exact zsk q (cell _ _ (h.c i hi))
 ·intro i hi
  simpa using froz _ (h.f i hi)
 ·intro i hi
  by_cases q:i=j
  ·subst q
   rw[upd_same,upd_same,h8,hk]
   exact ownsRow_setCell_other hO (by simp[Value.ownBlock,h4]) _
  ·rw[zaP _ _ _ _ q,zaP _ _ _ _ q]
   exact ownsRow_setCell_other (h7 i hi q) (a:=(O pb j)) (h.d i hi) _
 ·intro i hi
  by_cases q:i=j
  ·subst q;rw[upd_same];simp[Value.ownBlock,h4]
  ·rw[zaP _ _ _ _ q];exact h.d i hi
 ·have new:∀ i,i<3->i≠j->(v i).ownBlock≠some g6:=by
   intro i hi h2 q2
   rcases h1 with q3|q3
   ·exact h.dd i j hi hj h2 g6 q2 q3
   ·have:=((h.o i hi).lt g6 q2).2;omega
  intro i i2 hi h6 h3 g q
  by_cases q1:i=j
  ·subst q1
   rw[upd_same] at q
   simp only[Value.ownBlock,Option.some.injEq] at q
   subst q
   rw[zaP _ _ _ _ (fun z=>h3 z.symm)]
   exact new i2 h6 (fun z=>h3 z.symm)
  ·rw[zaP _ _ _ _ q1] at q
   by_cases q2:i2=j
   ·subst q2
    rw[upd_same]
    simp only[Value.ownBlock]
    intro q3
    simp only[Option.some.injEq] at q3
    subst q3
    exact new i hi q1 q
   ·rw[zaP _ _ _ _ q2];exact h.dd i i2 hi h6 h3 g q
theorem zor(l:Le):(flat3 l).length=l.length * 3:=by
 induction l with
 | nil=>rfl
 | cons t r ih=>have e:flat3 (t::r)=J t.1::J t.2.1::J t.2.2::flat3 r:=rfl;rw[e];simp only[List.length_cons,ih];omega
theorem Tk.pop(h:Tk w B pb v L)(j:Nat)(hj:j<3)(hl:L j=l++[b]){cap:Nat}(hv:v j=.slice (xA g) (l.length+1) cap) :
  Tk (w.setCell (O pb j) (.slice (xA g) l.length cap)) B pb (upd v j (.slice (xA g) l.length cap)) (upd L j l):=by
 have h2:g≠pb:=by
  intro q;subst q;exact h.d j hj (by rw[hv];rfl)
 have h4:∀ u,(Value.slice (xA g) l.length cap).ownBlock=some u ↔ (v j).ownBlock=some u:=by intro u;rw[hv];simp[Value.ownBlock]
 have h3:=zor l
 have h5:w.ownsRow B (tyR j) 3 (.slice (xA g) l.length cap) l.length (flat3 l):=by
  have q:=h.o j hj
  rw[hl,hv,zcg] at q
  have e:(l++[b]).length=l.length+1:=qm
  rw[e] at q
  exact ownsRow_pop h3 q
 refine⟨?_,?_,?_,h.hB,?_,?_⟩
 ·intro i hi
  by_cases q:i=j
  ·subst q;rw[upd_same];exact World.cell?_setCell_same _ _ _ (by rw[h.c i hi])
  ·rw[zaP _ _ _ _ q];exact zsk q (h.c i hi)
 ·intro i hi
  simpa using h.f i hi
 ·intro i hi
  by_cases q:i=j
  ·subst q
   rw[upd_same,upd_same]
   exact ownsRow_setCell_other h5 (by simp[Value.ownBlock,h2]) _
  ·rw[zaP _ _ _ _ q,zaP _ _ _ _ q]
   exact ownsRow_setCell_other (h.o i hi) (a:=(O pb j)) (h.d i hi) _
 ·intro i hi
  by_cases q:i=j
  ·subst q;rw[upd_same];simp[Value.ownBlock,h2]
  ·rw[zaP _ _ _ _ q];exact h.d i hi
 ·intro i i2 hi h1 h0 u q
  by_cases q1:i=j
  ·subst q1
   rw[upd_same,h4] at q
   rw[zaP _ _ _ _ (fun z=>h0 z.symm)]
   exact h.dd i i2 hi h1 h0 u q
  ·rw[zaP _ _ _ _ q1] at q
   by_cases q2:i2=j
   ·subst q2
    rw[upd_same]
    intro q3
    rw[h4] at q3
    exact h.dd i i2 hi h1 h0 u q q3
   ·rw[zaP _ _ _ _ q2];exact h.dd i i2 hi h1 h0 u q
def zbW(A E G:Le):Nat->Le:=fun j=>if j=0 then A else if j=1 then E else G
theorem zeP(h:w.drew.grownBy w' r):w.grownBy w' r:=⟨h.os,h.tape,h.output,h.size,h.block⟩
theorem Tk.push0{o:Obj}(h:Tk w B pb v (zbW A E G))(hO:w6.ownsRow B 122 3 (.slice (xA g6) (A.length+1) k6) (A.length+1) (flat3 A++[J x,J y,J z]))(hg:(w.alloc o).grownBy w6 (v 0).ownBlock)(h0:(v 0).ownBlock=some g6\/g6=w.heap.size+1) :
  (w6.cell? (O pb 0)=some (v 0)/\w6.frozen? (O pb 0)=false)/\(∃ v2,Tk (w6.setCell (O pb 0) (.slice (xA g6) (A.length+1) k6)) B pb v2 (zbW (A++[(x,y,z)]) E G) /\
   Fr w (w6.setCell (O pb 0) (.slice (xA g6) (A.length+1) k6)) pb v v2):=by
 obtain⟨h1,h2,h3⟩:=h.push 0 qg hO hg h0
 exact⟨h1,_,h2.like (L':=zbW (A++[(x,y,z)]) E G) (fun j hj=>by rcases (show j=0\/j=1\/j=2 by omega) with rfl|rfl|rfl <;> rfl),h3⟩
theorem Tk.push1{o:Obj}(h:Tk w B pb v (zbW A E G))(hO:w6.ownsRow B 119 3 (.slice (xA g6) (E.length+1) k6) (E.length+1) (flat3 E++[J x,J y,J z]))(hg:(w.alloc o).grownBy w6 (v 1).ownBlock)(h0:(v 1).ownBlock=some g6\/g6=w.heap.size+1) :
  (w6.cell? (O pb 1)=some (v 1)/\w6.frozen? (O pb 1)=false)/\(∃ v2,Tk (w6.setCell (O pb 1) (.slice (xA g6) (E.length+1) k6)) B pb v2 (zbW A (E++[(x,y,z)]) G) /\
   Fr w (w6.setCell (O pb 1) (.slice (xA g6) (E.length+1) k6)) pb v v2):=by
 obtain⟨h1,h2,h3⟩:=h.push 1 qg hO hg h0
 exact⟨h1,_,h2.like (L':=zbW A (E++[(x,y,z)]) G) (fun j hj=>by rcases (show j=0\/j=1\/j=2 by omega) with rfl|rfl|rfl <;> rfl),h3⟩
theorem Tk.push2{o:Obj}(h:Tk w B pb v (zbW A E G))(hO:w6.ownsRow B 206 3 (.slice (xA g6) (G.length+1) k6) (G.length+1) (flat3 G++[J x,J y,J z]))(hg:(w.alloc o).grownBy w6 (v 2).ownBlock)(h0:(v 2).ownBlock=some g6\/g6=w.heap.size+1) :
  (w6.cell? (O pb 2)=some (v 2)/\w6.frozen? (O pb 2)=false)/\(∃ v2,Tk (w6.setCell (O pb 2) (.slice (xA g6) (G.length+1) k6)) B pb v2 (zbW A E (G++[(x,y,z)])) /\
   Fr w (w6.setCell (O pb 2) (.slice (xA g6) (G.length+1) k6)) pb v v2):=by
 obtain⟨h1,h2,h3⟩:=h.push 2 qg hO hg h0
 exact⟨h1,_,h2.like (L':=zbW A E (G++[(x,y,z)])) (fun j hj=>by rcases (show j=0\/j=1\/j=2 by omega) with rfl|rfl|rfl <;> rfl),h3⟩
theorem Tk.pop2(h:Tk w B pb v (zbW A E (l++[b]))) :
  ∃ g cap,v 2=.slice (xA g) (l.length+1) cap/\l.length+1<=cap/\cap<=maxLen/\g<w.heap.size/\g≠pb /\
   (w.cell? (O g (l.length * 3))=some (J b.1)/\w.cell? (O g (l.length * 3+1))=some (J b.2.1)/\w.cell? (O g (l.length * 3+2))=some (J b.2.2)) /\
   (∀ w',xE w w'->∃ v2,Tk (w'.setCell (O pb 2) (.slice (xA g) l.length cap)) B pb v2 (zbW A E l)/\Fr w (w'.setCell (O pb 2) (.slice (xA g) l.length cap)) pb v v2):=by
 have o2:w.ownsRow B 206 3 (v 2) (l.length+1) (flat3 (l++[b])):=by
  have q:w.ownsRow B 206 3 (v 2) (l++[b]).length (flat3 (l++[b])):=h.o 2 qg
  have e:(l++[b]).length=l.length+1:=qm
  rw[e] at q
  exact q
 have hc:∃ g cap,v 2=.slice (xA g) (l.length+1) cap/\l.length+1<=cap/\cap<=maxLen/\g<w.heap.size:=by
  rcases o2.2 with ⟨_,h0⟩|⟨g,cap,cur,e,_,hh,h3,h4,_⟩
  ·omega
  ·exact⟨g,cap,e,h3,h4,(gei hh).1⟩
 obtain⟨g,cap,hv,h3,h4,h5⟩:=hc
 refine⟨g,cap,hv,h3,h4,h5,?_,?_,?_⟩
 ·intro q;subst q;exact h.d 2 qg (by rw[hv];rfl)
 ·have q:w.ownsRow B 206 3 (v 2) (l++[b]).length (flat3 (l++[b])):=h.o 2 qg
  obtain⟨a,c,e,hR⟩:=zdn q
  rcases hR with z|⟨b',off,ea,_,h1⟩
  ·simp at z
  ·have z:=h1 l.length qm
   rw[hv,ea] at e
   simp only[Value.slice.injEq,Option.some.injEq,Addr.mk.injEq,and_true] at e
   obtain⟨⟨e1,e2⟩,_⟩:=e
   subst e1
   subst e2
   simp only[Nat.zero_add] at z
   have eg:(l++[b]).getD l.length (0,0,0)=b:=qm
   rw[eg] at z
   exact z
 ·intro w' hb
  refine⟨_,((h.below hb).pop 2 qg (l:=l) (b:=b) rfl hv).like (L':=zbW A E l) (fun j hj=>by rcases (show j=0\/j=1\/j=2 by omega) with rfl|rfl|rfl <;> rfl),?_⟩
  refine⟨hb.os,hb.tape,hb.output,by rw[World.size_setCell];exact hb.size,fun b2 h2 hf=>⟨?_,hf.1,?_⟩⟩
  ·rw[Below.heap_setCell w' (O pb 2) _ b2 hf.1]
   exact hb.block b2 h2
  ·intro i hi
   by_cases q:i=2
   ·subst q
    rw[upd_same]
    have:=hf.2 2 qg
    rw[hv] at this
    exact this
   ·rw[zaP _ _ _ _ q];exact hf.2 i hi
theorem zo9(wt:Int)(w:World) :
  Calls (SqG.prog aLt) 141 #[J wt] w (xB w (.agg #[J 0,J 0,J wt,J 0])):=by
 go_enter (zfx func141),ntmps141
 go_wp2
 refine bodyPost_ret (v:=.agg #[J 0,J 0,J wt,J 0]) (by simp[results,results141,go_sem]) rfl ⟨rfl,?_⟩
 exact bel
theorem zjV(wt:Int)(w:World) :
  Calls (SqG.prog aLt) 143 #[J wt] w (xB w (.agg #[J 0,J 0,J 0,J wt])):=by
 go_enter (zfx func143),ntmps143
 go_wp2
 refine bodyPost_ret (v:=.agg #[J 0,J 0,J 0,J wt]) (by simp[results,results143,go_sem]) rfl ⟨rfl,?_⟩
 exact bel
theorem zmn(wt:Int)(w:World) :
  Calls (SqG.prog aLt) 142 #[J wt] w (xB w (.agg #[J 1,J wt,J 0,J 0])):=by
 go_enter (zfx func142),ntmps142
 go_wp2
 refine bodyPost_ret (v:=.agg #[J 1,J wt,J 0,J 0]) (by simp[results,results142,go_sem]) rfl ⟨rfl,?_⟩
 exact bel
theorem zrq(wt:Int)(w:World) :
  Calls (SqG.prog aLt) 146 #[J wt] w (xB w (.agg #[J 2,J wt,J 0,J 0])):=by
 go_enter (zfx func146),ntmps146
 go_wp2
 refine bodyPost_ret (v:=.agg #[J 2,J wt,J 0,J 0]) (by simp[results,results146,go_sem]) rfl ⟨rfl,?_⟩
 exact bel
theorem zhk(wt hf m:Nat)(hw:wt<=64)(ehf:wt / 2=hf)(em:wt - 2 * hf=m)(w:World) :
  Calls (SqG.prog aLt) 144 #[J (wt:Int)] w (xB w (.agg #[J 3,J (m:Int),J (hf:Int),J (hf:Int)])):=by
 have q1:(wt:Int).tdiv 2=(hf:Int):=by rw[Int.tdiv_eq_ediv_of_nonneg qg];omega
 have q2:(wt:Int) / 2=(hf:Int):=qg
 have q3:(wt:Int) - 2 * (hf:Int)=(m:Int):=qg
 have hh:hf<=64:=qg
 clear ehf em
 go_enter (zfx func144),ntmps144
 go_wp2
 refine bodyPost_ret (v:=.agg #[J 3,J (m:Int),J (hf:Int),J (hf:Int)]) (by simp[results,results144,go_sem]) rfl ⟨rfl,?_⟩
 exact bel
theorem zqx(wt hf m:Nat)(hw:wt<=64)(ehf:wt / 2=hf)(em:wt - hf=m)(w:World) :
  Calls (SqG.prog aLt) 145 #[J (wt:Int)] w (xB w (.agg #[J 3,J (m:Int),J (hf:Int),J 0])):=by
 have q1:(wt:Int).tdiv 2=(hf:Int):=by rw[Int.tdiv_eq_ediv_of_nonneg qg];omega
 have q2:(wt:Int) / 2=(hf:Int):=qg
 have q3:(wt:Int) - (hf:Int)=(m:Int):=qg
 have hh:hf<=64:=qg
 clear ehf em
 go_enter (zfx func145),ntmps145
 go_wp2
 refine bodyPost_ret (v:=.agg #[J 3,J (m:Int),J (hf:Int),J 0]) (by simp[results,results145,go_sem]) rfl ⟨rfl,?_⟩
 exact bel
def zob:Array Value:=#[.func (.func 141) #[] #[],.func (.func 142) #[] #[],.func (.func 143) #[] #[],.func (.func 143) #[] #[],.func (.func 144) #[] #[],.func (.func 144) #[] #[],.func (.func 145) #[] #[],.func (.func 146) #[] #[]]
theorem zoc(w:World) :
  Calls (SqG.prog aLt) 128 #[] w (xB w (.agg zob)):=by
 unfold zob
 go_enter (zfx func128),ntmps128
 go_wp2
 refine bodyPost_ret (v:=.agg #[.func (.func 141) #[] #[],.func (.func 142) #[] #[],.func (.func 143) #[] #[],.func (.func 143) #[] #[],.func (.func 144) #[] #[],.func (.func 144) #[] #[],.func (.func 145) #[] #[],.func (.func 146) #[] #[]]) (by simp[results,results128,go_sem]) rfl ⟨rfl,?_⟩
 exact bel
def zqv(k:Int):Nat:=if k=0 then 141 else if k=1 then 142 else if k=2\/k=3 then 143 else if k=4\/k=5 then 144 else if k=6 then 145 else 146
theorem zsG(k:Int)(h0:0<=k)(h7:k<=7)(w:World):Sem.run (SqG.prog aLt) (Instr.index 199 (.agg zob) (J k)) w=.ok (.func (.func (zqv k)) #[] #[]) w:=by
 rcases (show k=0\/k=1\/k=2\/k=3\/k=4\/k=5\/k=6\/k=7 by omega) with rfl|rfl|rfl|rfl|rfl|rfl|rfl|rfl <;> kernel_rfl
end Sp
namespace Sp
variable{aLt:Nat->Func->Func}
open Go.RowKit
attribute [local go_sem ↓] Go.wp_at_zero Go.wp_at_succ
def zdN(x y:Int)(wt:Nat):Le:=if wt=0 then [] else [(x,y,(wt:Int))]
theorem zer(x y:Int)(wt:Nat):(zdN x y wt).length<=1/\(zdN x y wt).length<=wt:=by
 unfold zdN
 by_cases h:wt=0
 ·simp[h]
 ·simp[h];omega
theorem zlA(h:Tk w B pb v (zbW A E G))(x y:Int)(wt:Nat)(hw:wt<=64)(hl:E.length<=1000000) :
  Calls (SqG.prog aLt) 129 #[.pointer (xA pb),.agg #[J x,J y,J (wt:Int)]] w fun r w'=>r=.returned (.tuple #[])/\(∃ v2,Tk w' B pb v2 (zbW A (E++zdN x y wt) G)/\Fr w w' pb v v2):=by
 obtain⟨i0,hi,iz0,iz1,iz2⟩:=info_parts (zoH (aLt:=aLt))
 have hg:=h.lt
 have hB:=h.hB
 have h3:xE w (w.alloc (.cells #[J x,J y,J (wt:Int)] 119)):=bel
 have h1:=h.below h3
 by_cases h0:wt=0
 ·subst h0
  have hT:E++zdN x y 0=E:=by simp[zdN]
  rw[hT]
  clear hT
  go_enter (zfx func129),ntmps129
  go_wp2
  exact bodyPost_end (v:=.tuple #[]) (by simp[results,results129,go_sem]) rfl ⟨rfl,v,h1,Fr.of h3⟩
 ·have hT:zdN x y wt=[(x,y,(wt:Int))]:=by simp[zdN,h0]
  rw[hT]
  clear hT
  have hp:(0:Int)<(wt:Int):=qg
  obtain⟨w0,h2⟩:∃ w0,w0=w.alloc (.cells #[J x,J y,J (wt:Int)] 119):=⟨_,rfl⟩
  have e0:w0.cell? (O w.heap.size 0)=some (J x):=by rw[h2];simp[go_sem]
  have e1:w0.cell? (O w.heap.size 1)=some (J y):=by rw[h2];simp[go_sem]
  have e2:w0.cell? (O w.heap.size 2)=some (J (wt:Int)):=by rw[h2];simp[go_sem]
  have h5:w0.heap.size=w.heap.size+1:=by rw[h2];simp
  rw[<- h2] at h3 h1
  have cj:=h1.c 1 qg
  have o1:w0.ownsRow B 119 3 (v 1) E.length (flat3 E):=h1.o 1 qg
  have h6:xE w0 (w0.alloc (.cells #[J x,J y,J (wt:Int)] 119)):=bel
  have cj':=zaa h6 cj
  have HS:Hid (w0.heap.size=w.heap.size+1):=h5
  have hj:B<=w0.heap.size:=qg
  clear h5
  go_enter (zfx func129),ntmps129
  go_wp2
  rw[<- h2]
  clear h2
  go_region_law
   ((refine step_append_lies _ (by rfl) _ _ _ (by rfl) B 119 i0 (.agg #[J 0,J 0,J 0]) 3 24 SqG.underlying109 hi iz0 iz1 iz2 rfl qg (v 1) E.length (flat3 E) (by rfl) (by first|exact o1.alloc _|exact(o1.alloc _).drew) (O w0.heap.size 0) 1 1 [J x,J y,J (wt:Int)] (by rfl) rfl (World.news_of_block (cs:=#[J x,J y,J (wt:Int)]) (t:=119) (fr:=(0,0)) (heap_alloc_new w0 _)) qo qg qs qg qn (w0.heap.size+1) qm ?_;intro g6 k6 w6 h7 hg6' h8 hf;have h4:(w0.alloc (.cells #[J x,J y,J (wt:Int)] 119)).grownBy w6 (v 1).ownBlock:=(by first|exact hg6'|exact zeP hg6');obtain⟨r3,v7,h9,he⟩:=h1.push1 h7 h4 h8;have r4:∀ i u,w0.cell? (O w.heap.size i)=some u->w6.cell? (O w.heap.size i)=some u:=(fun i u q=>h4.cell (zaa h6 q) (fun z=>absurd ((h.o 1 qg).lt w.heap.size z.symm).2 (Nat.lt_irrefl _)))))
  all_goals
   obtain⟨r5,r6⟩:=r3
   clear r4 h7 h4 hg6'
   go_wp2
   exact bodyPost_end (v:=.tuple #[]) (by simp[results,results129,go_sem]) rfl ⟨rfl,v7,h9,(Fr.of h3).trans he⟩
theorem zhb(h:Tk w B pb v (zbW A E G))(x y:Int)(wt:Nat)(hw:wt<=64)(hl:G.length<=1000000) :
  Calls (SqG.prog aLt) 130 #[.pointer (xA pb),.agg #[J x,J y,J (wt:Int)]] w fun r w'=>r=.returned (.tuple #[])/\(∃ v2,Tk w' B pb v2 (zbW A E (G++zdN x y wt))/\Fr w w' pb v v2):=by
 obtain⟨i0,hi,iz0,iz1,iz2⟩:=info_parts (zqQ (aLt:=aLt))
 have hg:=h.lt
 have hB:=h.hB
 have h3:xE w (w.alloc (.cells #[J x,J y,J (wt:Int)] 206)):=bel
 have h1:=h.below h3
 by_cases h0:wt=0
 ·subst h0
  have hT:G++zdN x y 0=G:=by simp[zdN]
  rw[hT]
  clear hT
  go_enter (zfx func130),ntmps130
  go_wp2
  exact bodyPost_end (v:=.tuple #[]) (by simp[results,results130,go_sem]) rfl ⟨rfl,v,h1,Fr.of h3⟩
 ·have hT:zdN x y wt=[(x,y,(wt:Int))]:=by simp[zdN,h0]
  rw[hT]
  clear hT
  have hp:(0:Int)<(wt:Int):=qg
  obtain⟨w0,h2⟩:∃ w0,w0=w.alloc (.cells #[J x,J y,J (wt:Int)] 206):=⟨_,rfl⟩
  have e0:w0.cell? (O w.heap.size 0)=some (J x):=by rw[h2];simp[go_sem]
  have e1:w0.cell? (O w.heap.size 1)=some (J y):=by rw[h2];simp[go_sem]
  have e2:w0.cell? (O w.heap.size 2)=some (J (wt:Int)):=by rw[h2];simp[go_sem]
  have h5:w0.heap.size=w.heap.size+1:=by rw[h2];simp
  rw[<- h2] at h3 h1
  have cj:=h1.c 2 qg
  have o1:w0.ownsRow B 206 3 (v 2) G.length (flat3 G):=h1.o 2 qg
  have h6:xE w0 (w0.alloc (.cells #[J x,J y,J (wt:Int)] 206)):=bel
  have cj':=zaa h6 cj
  have HS:Hid (w0.heap.size=w.heap.size+1):=h5
  have hj:B<=w0.heap.size:=qg
  clear h5
  go_enter (zfx func130),ntmps130
  go_wp2
  rw[<- h2]
  clear h2
  go_region_law
   ((refine step_append_lies _ (by rfl) _ _ _ (by rfl) B 206 i0 (.agg #[J 0,J 0,J 0]) 3 24 SqG.underlying114 hi iz0 iz1 iz2 rfl qg (v 2) G.length (flat3 G) (by rfl) (by first|exact o1.alloc _|exact(o1.alloc _).drew) (O w0.heap.size 0) 1 1 [J x,J y,J (wt:Int)] (by rfl) rfl (World.news_of_block (cs:=#[J x,J y,J (wt:Int)]) (t:=206) (fr:=(0,0)) (heap_alloc_new w0 _)) qo qg qs qg qn (w0.heap.size+1) qm ?_;intro g6 k6 w6 h7 hg6' h8 hf;have h4:(w0.alloc (.cells #[J x,J y,J (wt:Int)] 206)).grownBy w6 (v 2).ownBlock:=(by first|exact hg6'|exact zeP hg6');obtain⟨r3,v7,h9,he⟩:=h1.push2 h7 h4 h8;have r4:∀ i u,w0.cell? (O w.heap.size i)=some u->w6.cell? (O w.heap.size i)=some u:=(fun i u q=>h4.cell (zaa h6 q) (fun z=>absurd ((h.o 2 qg).lt w.heap.size z.symm).2 (Nat.lt_irrefl _)))))
  all_goals
   obtain⟨r5,r6⟩:=r3
   clear r4 h7 h4 hg6'
   go_wp2
   exact bodyPost_end (v:=.tuple #[]) (by simp[results,results130,go_sem]) rfl ⟨rfl,v7,h9,(Fr.of h3).trans he⟩
theorem zmv(k:Int)(h0:0<=k)(h7:k<=7)(args:Array Value)(w:World):Sem.run (SqG.prog aLt) (callFunc (zqv k) args) w=.ok (.enter (zqv k) args) w:=by
 rcases (show k=0\/k=1\/k=2\/k=3\/k=4\/k=5\/k=6\/k=7 by omega) with rfl|rfl|rfl|rfl|rfl|rfl|rfl|rfl <;> kernel_rfl
theorem zqw(k:Int)(hk:0<=k/\k<=7)(wt:Nat)(hw:wt<=64)(hf:zdZ k wt=(h0,en,on,tu))(w:World) :
  Calls (SqG.prog aLt) (zqv k) #[J (wt:Int)] w (xB w (.agg #[J h0,J (en:Int),J (on:Int),J (tu:Int)])):=by
 rcases (show k=0\/k=1\/k=2\/k=3\/k=4\/k=5\/k=6\/k=7 by omega) with rfl|rfl|rfl|rfl|rfl|rfl|rfl|rfl
 all_goals (simp[zdZ] at hf;obtain⟨rfl,rfl,rfl,rfl⟩:=hf)
 ·exact zo9 _ w
 ·exact zmn _ w
 ·exact zjV _ w
 ·exact zjV _ w
 ·exact zhk wt _ _ hw rfl rfl w
 ·exact zhk wt _ _ hw rfl rfl w
 ·exact zqx wt _ _ hw rfl rfl w
 ·exact zrq _ w
theorem zhw(h:Tk w B pb v (zbW A E G))(a:Od)(cap:Nat)(hC:zaf w a cs)(ha:∀ b off,a=some (O b off)->b<B)(x d:Int)(hs:okS cs (x,d))(hn:cs.length<=25)(hk:0<=kd cs x/\kd cs x<=7)(wt:Nat)(hw:wt<=64)(hl:A.length<=900000/\E.length<=900000/\G.length<=900000){h2:Int}(hf:zdZ (kd cs x) wt=(h2,en,on,tu)) :
  Calls (SqG.prog aLt) 96 #[.pointer (xA pb),.agg (xG wd a cs.length cap),.agg #[J x,J d,J (wt:Int)]] w fun r w'=>r=.returned (.tuple #[]) /\
   ∃ v2,Tk w' B pb v2 (zbW (A++[(x,d,(wt:Int))]) (E++zdN h2 x en) (G++zdN x (zaS (kd cs x) d) tu++zdN x d on))/\Fr w w' pb v v2:=by
 obtain⟨i0,hi,iz0,iz1,iz2⟩:=info_parts (zi2 (aLt:=aLt))
 have p5:=h.lt
 have hB:=h.hB
 obtain⟨X,rfl⟩:=Int.eq_ofNat_of_zero_le hs.1.1
 have hX:X<cs.length:=by have:=hs.1.2;simp only at this;omega
 obtain⟨k,ek⟩:∃ k,kd cs (X:Int)=k:=⟨_,rfl⟩
 rw[ek] at hk hf ⊢
 obtain⟨tk,etk⟩:∃ t,zaS k d=t:=⟨_,rfl⟩
 rw[etk]
 obtain⟨l1,l2,l3⟩:=zoq _ _ hf
 have hu:=hk.1
 have hy:=hk.2
 have HK:Hid (kd cs (X:Int)=k):=ek
 have HT:Hid (zaS k d=tk):=etk
 have HF:Hid (zdZ k wt=(h2,en,on,tu)):=hf
 have p6:=zsG (aLt:=aLt) k hu hy
 have p7:=zmv (aLt:=aLt) k hu hy
 have p8:(X:Int)<(cs.length:Int):=qg
 clear ek etk hf
 obtain⟨b,off,ea,HC0⟩:∃ b off,a=some (O b off)/\Hid (w.cell? (O b (off+X * 2))=some (J k)):=by
  rcases hC with q|⟨b,off,q,_,hc⟩
  ·rw[q] at hX;simp at hX
  ·refine⟨b,off,q,?_⟩
   show _=_
   rw[(hc X hX).1,<- HK.o]
   simp[kd]
 subst ea
 have hZ:=ha b off rfl
 obtain⟨w0,h6⟩:∃ w0,w0=(w.alloc (.cells (xG wd (some (O b off)) cs.length cap) 33)).alloc (.cells #[J (X:Int),J d,J (wt:Int)] 122):=⟨_,rfl⟩
 have hz:xE w w0:=by rw[h6];exact bel
 have h1:=h.below hz
 have g1:w0.cell? (O w.heap.size 1)=some (.slice (some (O b off)) cs.length cap):=by rw[h6];simp[go_sem]
 have e0:w0.cell? (O (w.heap.size+1) 0)=some (J (X:Int)):=by rw[h6];simp[go_sem]
 have e1:w0.cell? (O (w.heap.size+1) 1)=some (J d):=by rw[h6];simp[go_sem]
 have e2:w0.cell? (O (w.heap.size+1) 2)=some (J (wt:Int)):=by rw[h6];simp[go_sem]
 have kc:w0.cell? (O b (off+X * 2))=some (J k):=zaa hz HC0.o
 have p9:w.heap.size+2<=w0.heap.size:=by rw[h6];simp
 have cj:=h1.c 0 qg
 have o1:w0.ownsRow B 122 3 (v 0) A.length (flat3 A):=h1.o 0 qg
 have hA:xE w0 (w0.alloc (.cells #[J (X:Int),J d,J (wt:Int)] 122)):=bel
 have cj':=zaa hA cj
 have pa:B<=w0.heap.size:=qg
 have fg:Far v pb w.heap.size:=h.far (Nat.le_refl _)
 have fe:Far v pb (w.heap.size+1):=h.far qg
 have fb:Far v pb b:=h.farB hZ
 go_enter (zfx func96),ntmps96
 go_wp2
 rw[<- h6]
 clear h6
 go_cut [] (fun wc=>∃ v7,Tk wc B pb v7 (zbW (A++[((X:Int),d,(wt:Int))]) E G)/\Fr w0 wc pb v v7)
 case first =>
  go_region_law
   ((refine step_append_lies _ (by rfl) _ _ _ (by rfl) B 122 i0 (.agg #[J 0,J 0,J 0]) 3 24 SqG.underlying108 hi iz0 iz1 iz2 rfl qg (v 0) A.length (flat3 A) (by rfl) (by first|exact o1.alloc _|exact(o1.alloc _).drew) (O w0.heap.size 0) 1 1 [J (X:Int),J d,J (wt:Int)] (by rfl) rfl (World.news_of_block (cs:=#[J (X:Int),J d,J (wt:Int)]) (t:=122) (fr:=(0,0)) (heap_alloc_new w0 _)) qo qg qs qg qn (w0.heap.size+1) qm ?_;intro g6 k6 w6 hJ hg6' hN p0;have hD:(w0.alloc (.cells #[J (X:Int),J d,J (wt:Int)] 122)).grownBy w6 (v 0).ownBlock:=(by first|exact hg6'|exact zeP hg6');obtain⟨r3,v7,he,h5⟩:=h1.push0 hJ hD hN;have r4:∀ i u,w0.cell? (O (w.heap.size+1) i)=some u->w6.cell? (O (w.heap.size+1) i)=some u:=(fun i u q=>hD.cell (zaa hA q) (fun z=>absurd ((h.o 0 qg).lt (w.heap.size+1) z.symm).2 qg))))
  all_goals
   obtain⟨r5,r6⟩:=r3
   clear r4 hJ hD hg6'
   go_wp2_with fail
   go_meet
   case rel=>exact⟨v7,he,h5⟩
 case rest =>
  obtain⟨v7,he,h5⟩:=hcut
  rename World=>w7
  replace g1:=h5.cell fg g1
  replace e0:=h5.cell fe e0
  replace e1:=h5.cell fe e1
  replace e2:=h5.cell fe e2
  replace kc:=h5.cell fb kc
  replace fe:=h5.far qg fe
  have hK:=(Fr.of (v:=v) (pb:=pb) hz).trans h5
  have pc:=h5.size
  clear cj cj' o1 hA h1
  go_wp2_with fail
  refine(zoc _).mono ?_
  rintro e w8 ⟨rfl,h8⟩
  have hE:=he.below h8
  have hL:=hK.trans (Fr.of h8)
  have pd:=h8.size
  replace e0:=zaa h8 e0;replace e1:=zaa h8 e1;replace e2:=zaa h8 e2
  clear h8 he hK h5
  go_wp2_with fail
  refine(zqw k ⟨hu,hy⟩ wt hw HF.o _).mono ?_
  rintro e w9 ⟨rfl,h7⟩
  have h9:xE w9 (w9.alloc (.cells #[J h2,J (en:Int),J (on:Int),J (tu:Int)] 202)):=bel
  have hF:=(hE.below h7).below h9
  have hG:=(hL.trans (Fr.of h7)).trans (Fr.of h9)
  have pe:=h7.size
  replace e0:=zaa h7 e0;replace e1:=zaa h7 e1;replace e2:=zaa h7 e2
  replace e0:=zaa h9 e0;replace e1:=zaa h9 e1;replace e2:=zaa h9 e2
  have b0:(w9.alloc (.cells #[J h2,J (en:Int),J (on:Int),J (tu:Int)] 202)).cell? (O w9.heap.size 0)=some (J h2):=ql
  have b1:(w9.alloc (.cells #[J h2,J (en:Int),J (on:Int),J (tu:Int)] 202)).cell? (O w9.heap.size 1)=some (J (en:Int)):=ql
  have b2:(w9.alloc (.cells #[J h2,J (en:Int),J (on:Int),J (tu:Int)] 202)).cell? (O w9.heap.size 2)=some (J (on:Int)):=ql
  have b3:(w9.alloc (.cells #[J h2,J (en:Int),J (on:Int),J (tu:Int)] 202)).cell? (O w9.heap.size 3)=some (J (tu:Int)):=ql
  have fy:Far v7 pb w9.heap.size:=(hE.below h7).far (Nat.le_refl _)
  have sy:w9.heap.size<(w9.alloc (.cells #[J h2,J (en:Int),J (on:Int),J (tu:Int)] 202)).heap.size:=qm
  clear h7 h9 hE hL
  go_wp2_with fail
  obtain⟨wa,hM⟩:∃ wa,wa=w9.alloc (.cells #[J h2,J (en:Int),J (on:Int),J (tu:Int)] 202):=⟨_,rfl⟩
  rw[<- hM] at hF hG e0 e1 e2 b0 b1 b2 b3 sy ⊢
  clear hM
  refine(zlA hF h2 (X:Int) en qg qg).mono ?_
  rintro r wb ⟨rfl,v10,hg,h0⟩
  have hj:=hG.trans h0
  replace e0:=h0.cell fe e0
  replace e1:=h0.cell fe e1
  replace b2:=h0.cell fy b2
  replace b3:=h0.cell fy b3
  have fe2:=h0.far qg fe
  have fy2:=h0.far sy fy
  have p1:=h0.size
  clear h0 hF hG b0 b1 e2 fe fy
  go_wp2
  go_region_held3 (fun w'=>w'.cell? (O (w.heap.size+1) 0)=some (J (X:Int))/\w'.cell? (O (w.heap.size+1) 1)=some (J d)/\w'.cell? (O w9.heap.size 3)=some (J (tu:Int)))
   (first
    | with_reducible exact⟨e0,e1,b3⟩
    | with_reducible exact⟨zaa h3 e0,zaa h3 e1,zaa h3 b3⟩
    | with_reducible exact⟨h4.cell fe2 (zaa h3 e0),h4.cell fe2 (zaa h3 e1),h4.cell fy2 (zaa h3 b3)⟩
    | go_keep)
   (first
    | (go_at_call 131;refine(zfV k d _).mono ?_;rintro r wd' ⟨rfl,hbD'⟩;have h3:xE wb wd':=(by first|exact hbD'|exact zcq hbD');have hp:=hg.below h3;have hq:=hj.trans (Fr.of h3);rw[HT.o])
    | (go_at_call 130;refine(zhb hp (X:Int) tk tu qg qg).mono ?_;rintro r wc ⟨rfl,v12,hP,h4⟩)
    | fail)
  all_goals
   have hQ:=hq.trans h4
   replace e0:=h4.cell fe2 (zaa h3 e0)
   replace e1:=h4.cell fe2 (zaa h3 e1)
   replace b2:=h4.cell fy2 (zaa h3 b2)
   have hT:(G++zdN (X:Int) tk tu).length<=1000000:=by have:=(zer (X:Int) tk tu).1;simp only[List.length_append];omega
   clear h4 hg hj h3 hbD' hp hq b3
   go_wp2_with fail
   refine(zhb hP (X:Int) d on qg hT).mono ?_
   rintro r we ⟨rfl,v13,hU,hV⟩
   have hY:=hQ.trans hV
   go_wp2_with fail
   exact bodyPost_end (v:=.tuple #[]) (by simp[results,results96,go_sem]) rfl ⟨rfl,v13,hU,hY⟩
theorem zsP(h:okG wd cs=true)(hx:0<=x/\x<(cs.length:Int)):0<=kd cs x/\kd cs x<=7:=by
 simp only[okG,Bool.and_eq_true,List.all_eq_true] at h
 obtain⟨X,rfl⟩:=Int.eq_ofNat_of_zero_le hx.1
 have hX:X<cs.length:=qg
 have q:=h.2 (cs[X]) (List.getElem_mem hX)
 have e:kd cs (X:Int)=cs[X].1:=by simp[kd,List.getElem?_eq_getElem hX]
 rw[e]
 unfold okC at q
 split at q
 ·omega
 ·simp at q;omega
theorem zir(A E:Le)(k x:Int)(n:Nat):za8 (A,E) (zdA k x n)=(A,E++zdN k x n):=by
 show (A++[],E++zdN k x n)=_
 rw[List.append_nil]
def zlj(wd:Int)(cs:Lp)(A E l:Le)(b:Bm)(A' E' G':Le):Prop :=
 za8 (A',E') (pend wd cs G')=za8 (A,E) (pend wd cs (l++[b]))/\(∀ c∈G',okB wd cs c)/\((A'=A/\G'=l)\/(A'.length=A.length+1/\G'.length<=l.length+2))
theorem step_end(h0:h≠0)(h1:∀ c∈l++[(x,e,(h:Int))],okB wd cs c)(hr:(zbR wd cs x e).2.2=false) :
  zlj wd cs A E l (x,e,(h:Int)) A (E++zdN 0 (zcR wd cs x e) h) l:=by
 refine⟨?_,fun c hc=>h1 c (by simp[hc]),Or.inl ⟨rfl,rfl⟩⟩
 rw[zga]
 have q:lvB wd cs (x,e,(h:Int))=zdA 0 (zcR wd cs x e) h:=by
  simp only[lvB,lvT,Int.toNat_natCast]
  rw[if_neg h0,if_neg (by simp[hr])]
 rw[q,<- zb3,zir]
theorem znw(h4:okG wd cs=true)(h0:h≠0)(h2:∀ c∈l++[(x,e,(h:Int))],okB wd cs c){x2:Int}(hr:(zbR wd cs x e).2.2=true)(h1:(zbR wd cs x e).1=x2){h3:Int}(hf:zdZ (kd cs x2) h=(h3,en,on,tu)) :
  okS cs (x2,e)/\zlj wd cs A E l (x,e,(h:Int)) (A++[(x2,e,(h:Int))]) (E++zdN h3 x2 en) (l++zdN x2 (zaS (kd cs x2) e) tu++zdN x2 e on):=by
 have hb:=h2 (x,e,(h:Int)) qm
 obtain⟨r1,r2,_⟩:=zbz hr
 rw[h1] at r1
 have hE:zax wd cs 707 x2 e h:=by
  rcases hb.2.2 with q|q|q
  ·simp only[Int.toNat_natCast] at q;exact absurd q h0
  ·simp only at q;rw[hr] at q;cases q
  ·simp only[Int.toNat_natCast] at q;rw[h1] at q;exact q
 have hw:=hb.2.1
 simp only at hw
 obtain⟨f1,f2⟩:=zhx (T:=(A,E)) (st:=l) ⟨r1,r2⟩ (zsP h4 r1) h0 qg hE hf
 refine⟨⟨r1,r2⟩,?_,?_,Or.inr ⟨qm,?_⟩⟩
 ·rw[zga]
  have q:lvB wd cs (x,e,(h:Int))=zaI wd cs 707 x2 e h:=by
   simp only[lvB,lvT,Int.toNat_natCast]
   rw[if_neg h0,if_pos hr,h1]
  rw[q]
  rw[zir] at f1
  exact f1
 ·intro c hc
  rw[List.append_assoc] at hc
  rcases List.mem_append.1 hc with z|z
  ·exact h2 c (by simp[z])
  ·exact f2 c z
 ·have q1:=(zer x2 (zaS (kd cs x2) e) tu).1
  have q2:=(zer x2 e on).1
  simp only[List.length_append]
  omega
theorem zki{W H:Nat}(S:Siz wd cs W H)(hT:Tk w B pb v (zbW A E (l++[(x,e,(h:Int))])))(a:Od)(cap:Nat)(hC:zaf w a cs)(ha:∀ b off,a=some (O b off)->b<B)(hf:∀ c∈l++[(x,e,(h:Int))],okB wd cs c)(hl:A.length<=900000/\E.length<=900000/\l.length<=800000) :
  Calls (SqG.prog aLt) 97 #[.pointer (xA pb),.agg (xG wd a cs.length cap)] w fun r w'=>r=.returned (.tuple #[]) /\
   ∃ v2 A' E' G',Tk w' B pb v2 (zbW A' E' G')/\Fr w w' pb v v2/\zlj wd cs A E l (x,e,(h:Int)) A' E' G':=by
 have hP:=hT.lt
 have hB:=hT.hB
 have hJ:=hf (x,e,(h:Int)) qm
 have hK:=hJ.2.1
 simp only at hK
 have h0:h≠0:=qg
 have hD:h<=64:=qg
 have hn:cs.length<=25:=by rw[S.el];exact Nat.le_trans (Nat.mul_le_mul S.hW.2 S.hH.2) qg
 obtain⟨g,c2,hv,hQ,hc2,hU,hV,⟨k0,k1,k2⟩,he⟩:=hT.pop2
 simp only at k0 k1 k2
 have cj:=hT.c 2 qg
 rw[hv] at cj
 have fj:=hT.f 2 qg
 have h5:xE w (w.alloc (.cells (xG wd a cs.length cap) 33)):=bel
 have hg:xE w ((w.alloc (.cells (xG wd a cs.length cap) 33)).alloc (.cells #[J x,J e,J (h:Int)] 206)):=bel
 obtain⟨v2,h6,hj⟩:=he w (Below.refl _ _)
 have c1:(w.alloc (.cells (xG wd a cs.length cap) 33)).cell? (O pb 2)=some (.slice (xA g) (l.length+1) c2):=zaa h5 cj
 have c2':((w.alloc (.cells (xG wd a cs.length cap) 33)).alloc (.cells #[J x,J e,J (h:Int)] 206)).cell? (O pb 2)=some (.slice (xA g) (l.length+1) c2):=zaa hg cj
 have f2':((w.alloc (.cells (xG wd a cs.length cap) 33)).alloc (.cells #[J x,J e,J (h:Int)] 206)).frozen? (O pb 2)=false:=zak hg cj fj
 have m0:(w.alloc (.cells (xG wd a cs.length cap) 33)).cell? (O g (l.length * 3))=some (J x):=zaa h5 k0
 have m1:(w.alloc (.cells (xG wd a cs.length cap) 33)).cell? (O g (l.length * 3+1))=some (J e):=zaa h5 k1
 have m2:(w.alloc (.cells (xG wd a cs.length cap) 33)).cell? (O g (l.length * 3+2))=some (J (h:Int)):=zaa h5 k2
 obtain⟨ws,h7⟩:∃ ws,ws=w.setCell (O pb 2) (.slice (xA g) l.length c2):=⟨_,rfl⟩
 have zs:ws.heap.size=w.heap.size:=by rw[h7];simp
 obtain⟨u,hu⟩:∃ u,u=(ws.alloc (.cells (xG wd a cs.length cap) 33)).alloc (.cells #[J x,J e,J (h:Int)] 206):=⟨_,rfl⟩
 rw[<- h7] at h6 hj
 have hk:xE ws u:=by rw[hu];exact bel
 have g0:u.cell? (O w.heap.size 0)=some (J wd):=by rw[hu,<- zs];simp[go_sem]
 have g1:u.cell? (O w.heap.size 1)=some (.slice a cs.length cap):=by rw[hu,<- zs];simp[go_sem]
 have e0:u.cell? (O (w.heap.size+1) 0)=some (J x):=by rw[hu,<- zs];simp[go_sem]
 have e1:u.cell? (O (w.heap.size+1) 1)=some (J e):=by rw[hu,<- zs];simp[go_sem]
 have e2:u.cell? (O (w.heap.size+1) 2)=some (J (h:Int)):=by rw[hu,<- zs];simp[go_sem]
 have fgr:Far v2 pb w.heap.size:=h6.far qg
 have fbm:Far v2 pb (w.heap.size+1):=h6.far qg
 have hE:=h6.below hk
 have hp:=hj.trans (Fr.of hk)
 have hq:=hC.belowB ha (hp.below hT)
 have zu:w.heap.size+2<=u.heap.size:=by rw[hu];simp;omega
 have HZ:Hid (ws.heap.size=w.heap.size):=zs
 have HOK:Hid (∀ c∈l++[(x,e,(h:Int))],okB wd cs c):=hf
 clear he hk h6 hj zs
 have hX:(l.length:Int)+1<=(c2:Int):=qg
 have hY:(c2:Int)<=9223372036854775807:=by unfold maxLen at hc2;omega
 have hZ:(l.length:Int)<=800000:=qg
 obtain⟨x2,d2,b2,ev⟩:∃ x2 d2 b2,zbR wd cs x e=(x2,d2,b2):=⟨_,_,_,rfl⟩
 have EV:Hid (zbR wd cs x e=(x2,d2,b2)):=ev
 clear ev hf
 go_enter (zfx func97),ntmps97
 go_wp2_with fail
 rw[<- h7,<- hu]
 clear hu h7 c1 c2' f2' m0 m1 m2 k0 k1 k2 h5 hg cj fj
 refine(zfX wd a cap cs _ hq qg x e).mono ?_
 rintro r w4 ⟨rfl,h2⟩
 rw[EV.o]
 unfold zgO
 have h4:xE w4 (w4.alloc (.cells #[J x2,J d2] 144)):=bel
 have hs:=(hE.below h2).below h4
 have hw:=(hp.trans (Fr.of h2)).trans (Fr.of h4)
 have h8:=(hq.below h2).below h4
 have p0:=h2.size
 replace g0:=zaa h2 g0;replace g1:=zaa h2 g1;replace e0:=zaa h2 e0;replace e1:=zaa h2 e1;replace e2:=zaa h2 e2
 replace g0:=zaa h4 g0;replace g1:=zaa h4 g1;replace e0:=zaa h4 e0;replace e1:=zaa h4 e1;replace e2:=zaa h4 e2
 have y0:(w4.alloc (.cells #[J x2,J d2] 144)).cell? (O w4.heap.size 0)=some (J x2):=ql
 have y1:(w4.alloc (.cells #[J x2,J d2] 144)).cell? (O w4.heap.size 1)=some (J d2):=ql
 clear h2 h4 hE hp hq
 cases b2
 ·have h9:zlj wd cs A E l (x,e,(h:Int)) A (E++zdN 0 (zcR wd cs x e) h) l:=step_end h0 HOK.o (by rw[EV.o])
  obtain⟨o,eo⟩:∃ o,zcR wd cs x e=o:=⟨_,rfl⟩
  rw[eo] at h9
  have HO:Hid (zcR wd cs x e=o):=eo
  clear eo
  go_wp2
  obtain⟨wa,hy⟩:∃ wa,wa=w4.alloc (.cells #[J x2,J d2] 144):=⟨_,rfl⟩
  have p1:w4.heap.size<=wa.heap.size:=by rw[hy];simp
  rw[<- hy] at hs hw h8 g0 g1 e0 e1 e2 ⊢
  clear hy y0 y1
  go_region_held3 (fun w'=>w'.cell? (O w.heap.size 0)=some (J wd)/\w'.cell? (O w.heap.size 1)=some (.slice a cs.length cap)/\w'.cell? (O (w.heap.size+1) 0)=some (J x)/\w'.cell? (O (w.heap.size+1) 1)=some (J e)/\w'.cell? (O (w.heap.size+1) 2)=some (J (h:Int)))
   (first
    | with_reducible exact⟨g0,g1,e0,e1,e2⟩
    | with_reducible exact⟨zaa h1 g0,zaa h1 g1,zaa h1 e0,zaa h1 e1,zaa h1 e2⟩
    | with_reducible exact⟨h3.cell fgr (zaa h1 g0),h3.cell fgr (zaa h1 g1),h3.cell fbm (zaa h1 e0),h3.cell fbm (zaa h1 e1),h3.cell fbm (zaa h1 e2)⟩
    | go_keep)
   (first
    | (go_at_call 133;refine(zmC wd a cap cs _ (by first|exact h8|exact h8.below (Below.refl _ _).drew) qg x e).mono ?_;rintro r w5 ⟨rfl,hbD'⟩;have h1:xE wa w5:=(by first|exact hbD'|exact zcq hbD');have hL:=hs.below h1;have hM:=hw.trans (Fr.of h1);rw[HO.o])
    | (go_at_call 129;refine(zlA hL 0 o h hD qg).mono ?_;rintro r w6 ⟨rfl,v6,hz,h3⟩)
    | fail)
  all_goals
   have hA:=hM.trans h3
   clear h3 h1 hbD'
   go_wp2
   exact bodyPost_ret (v:=.tuple #[]) (by simp[results,results97,go_sem]) rfl ⟨rfl,v6,_,_,_,hz,hA,h9⟩
 ·obtain⟨hF,en,on,tu,ef⟩:∃ hF en on tu,zdZ (kd cs x2) h=(hF,en,on,tu):=⟨_,_,_,_,rfl⟩
  obtain⟨hG,h9⟩:=znw (A:=A) (E:=E) S.ok h0 HOK.o (x2:=x2) (by rw[EV.o]) (by rw[EV.o]) ef
  have ed:d2=e:=by
   have q:(zbR wd cs x e).2.2=true:=by rw[EV.o]
   obtain⟨e2',_⟩:=zlS EV.o
   exact e2'
  subst ed
  have hN:=zsP S.ok hG.1
  go_wp2_with fail
  refine(zhw hs a cap h8 ha x2 d2 hG hn hN h hD qg ef).mono ?_
  rintro r w6 ⟨rfl,v6,hz,h3⟩
  have hA:=hw.trans h3
  clear h3 y0 y1
  go_wp2_with fail
  exact bodyPost_end (v:=.tuple #[]) (by simp[results,results97,go_sem]) rfl ⟨rfl,v6,_,_,_,hz,hA,h9⟩
theorem ztA{d:Int}(h:zbU wd cs k=(x,d,true)):inS wd cs k=true:=by
 unfold zbU at h
 split at h
 ·next z=>exact decide_eq_true z.2
 ·simp at h
theorem zqP(h:inS wd cs k=true):∃ x d,zbU wd cs k=(x,d,true):=by
 have h0:=zi0 h
 have hk:0<=k/\k<zbV wd cs:=by simpa [inS] using h
 obtain⟨W,H,S⟩:=zc3 h0
 rw[S.em] at hk
 obtain⟨K,rfl⟩:=Int.eq_ofNat_of_zero_le hk.1
 exact⟨_,_,zdC S K qg⟩
theorem zrh(wd:Int)(cs:Lp)(A E:Le):za8 (A,E) (pend wd cs [])=(A,E):=by simp[pend,za8]
theorem zpb{L:Tr}(h:za8 (A,E) (pend wd cs G)=L):A.length<=L.1.length/\E.length<=L.2.length:=by
 rw[<- h];simp[za8]
theorem zrL(u:World)(B g:Nat)(hB:B<=g)(t:TypeId)(hg:u.heap[g]?=some (.cells #[.slice none 0 0,.slice none 0 0,.slice none 0 0] t (0,0))):Tk u B g (fun _=>.slice none 0 0) (zbW [] [] []):=by
 refine⟨?_,?_,?_,hB,?_,?_⟩
 ·intro j hj
  rw[cell_of_row _ _ _ _ _ _ hg]
  rcases (show j=0\/j=1\/j=2 by omega) with rfl|rfl|rfl <;> rfl
 ·intro j hj
  exact frozen_of_row _ _ _ _ _ hg
 ·intro j hj
  rcases (show j=0\/j=1\/j=2 by omega) with rfl|rfl|rfl <;> exact World.ownsRow_nil _ _ _ _
 ·intro j hj q
  simp[Value.ownBlock] at q
 ·intro i j hi hj h0 g q
  simp[Value.ownBlock] at q
theorem zgG(wd:Int)(a:Od)(cap:Nat)(cs:Lp)(w:World)(h:zaf w a cs)(hm:cs.length<=1048576)(k:Int) :
  Calls (SqG.prog aLt) 81 #[.agg (xG wd a cs.length cap),J k] w fun r w'=>∃ a0 c0 a1 c1 a2 n2 c2,r=.returned (.agg #[.slice a0 (zaO wd cs k).1.length c0,.slice a1 (zaO wd cs k).2.length c1,.slice a2 n2 c2]) /\
   w'.ownsRow w.heap.size 122 3 (.slice a0 (zaO wd cs k).1.length c0) (zaO wd cs k).1.length (flat3 (zaO wd cs k).1)/\w'.ownsRow w.heap.size 119 3 (.slice a1 (zaO wd cs k).2.length c1) (zaO wd cs k).2.length (flat3 (zaO wd cs k).2)/\xE w w':=by
 obtain⟨u,hu⟩:∃ u,u=(((w.alloc (.cells (xG wd a cs.length cap) 33)).alloc (.cells #[.slice none 0 0,.slice none 0 0,.slice none 0 0] 116)).alloc (.cells #[.slice none 0 0,.slice none 0 0,.slice none 0 0] 116)):=⟨_,rfl⟩
 have hk:xE w u:=by rw[hu];exact bel
 have zu:w.heap.size+3<=u.heap.size:=by rw[hu];simp
 have g0:u.cell? (O w.heap.size 0)=some (J wd):=by rw[hu];simp[go_sem]
 have g1:u.cell? (O w.heap.size 1)=some (.slice a cs.length cap):=by rw[hu];simp[go_sem]
 have r0:u.cell? (O (w.heap.size+1) 0)=some (.slice none 0 0):=by rw[hu];simp[go_sem]
 have r1:u.cell? (O (w.heap.size+1) 1)=some (.slice none 0 0):=by rw[hu];simp[go_sem]
 have r2:u.cell? (O (w.heap.size+1) 2)=some (.slice none 0 0):=by rw[hu];simp[go_sem]
 have f0:u.frozen? (O (w.heap.size+1) 0)=false:=by rw[hu];simp[go_sem]
 have f1:u.frozen? (O (w.heap.size+1) 1)=false:=by rw[hu];simp[go_sem]
 have f2:u.frozen? (O (w.heap.size+1) 2)=false:=by rw[hu];simp[go_sem]
 have hs:Tk u w.heap.size (w.heap.size+2) (fun _=>.slice none 0 0) (zbW [] [] []):=zrL u _ _ qg 116 (by
  rw[hu]
  exact zde _ _ _ qm)
 have hl:=h.below hk
 obtain⟨x,d,b,hr⟩:∃ x d b,zbU wd cs k=(x,d,b):=⟨_,_,_,rfl⟩
 have HR:Hid (zbU wd cs k=(x,d,b)):=hr
 obtain⟨L,hL⟩:∃ L,zaO wd cs k=L:=⟨_,rfl⟩
 rw[hL]
 have HL:Hid (zaO wd cs k=L):=hL
 clear hr hL
 go_enter (zfx func81),ntmps81
 go_wp2_with fail
 rw[<- hu]
 clear hu
 refine(zko wd a cap cs _ hl hm k x d b HR.o).mono ?_
 rintro r w1 ⟨rfl,h2⟩
 have h3:xE w1 (w1.alloc (.cells #[J x,J d] 144)):=bel
 have hU:=h2.size
 have h5:=(hs.below h2).below h3
 have h8:=(hl.below h2).below h3
 have h9:=zae (zae hk qg h2) qg h3
 replace f0:=zak h2 r0 f0;replace f1:=zak h2 r1 f1;replace f2:=zak h2 r2 f2;replace g0:=zaa h2 g0;replace g1:=zaa h2 g1;replace r0:=zaa h2 r0;replace r1:=zaa h2 r1;replace r2:=zaa h2 r2
 replace f0:=zak h3 r0 f0;replace f1:=zak h3 r1 f1;replace f2:=zak h3 r2 f2;replace g0:=zaa h3 g0;replace g1:=zaa h3 g1;replace r0:=zaa h3 r0;replace r1:=zaa h3 r1;replace r2:=zaa h3 r2
 have y0:(w1.alloc (.cells #[J x,J d] 144)).cell? (O w1.heap.size 0)=some (J x):=ql
 have y1:(w1.alloc (.cells #[J x,J d] 144)).cell? (O w1.heap.size 1)=some (J d):=ql
 clear hs hl h2 h3 hk
 have nrb:w.heap.size+2≠w.heap.size+1:=qg
 cases b
 ·have eL:L=([],[]):=by
   rw[<- HL.o]
   unfold zaO
   rw[if_neg]
   intro q
   have:zbU wd cs k=(x,d,false):=HR.o
   obtain⟨x',d',z⟩:=zqP q
   rw[z] at this
   simp at this
  subst eL
  have t0:=h5.c 0 qg
  have t1:=h5.c 1 qg
  have t2:=h5.c 2 qg
  go_wp2
  refine bodyPost_ret (v:=.agg #[.slice none 0 0,.slice none 0 0,.slice none 0 0]) (by simp[results,results81,go_sem,r0,r1,r2]) rfl ⟨none,0,none,0,⟨none,0,0,rfl⟩,World.ownsRow_nil _ _ _ _,World.ownsRow_nil _ _ _ _,?_⟩
  exact((h9.setCell (p:=(O (w.heap.size+1) 0)) (by show w.heap.size<=w.heap.size+1;omega) _).setCell (p:=(O (w.heap.size+1) 1)) (by show w.heap.size<=w.heap.size+1;omega) _).setCell (p:=(O (w.heap.size+1) 2)) (by show w.heap.size<=w.heap.size+1;omega) _
 ·obtain⟨⟨hx,hd⟩,hE⟩:=zdb HR.o
  have hw:inS wd cs k=true:=ztA HR.o
  have hf:=zi0 hw
  obtain⟨W,H,S⟩:=zc3 hf
  have hn:cs.length<=25:=by rw[S.el];exact Nat.le_trans (Nat.mul_le_mul S.hW.2 S.hH.2) qg
  have hg:1<=cs.length:=qg
  have ha:∀ b off,a=some (O b off)->b<w.heap.size:=by
   intro b off e2
   rcases h with q0|⟨b',off',e,hV,_⟩
   ·rw[q0] at hg;simp at hg
   ·rw[e] at e2
    simp only[Option.some.injEq,Addr.mk.injEq] at e2
    omega
  have eL:zaI wd cs 707 x d 64=L:=by
   rw[<- HL.o]
   unfold zaO
   rw[if_pos hw,HR.o]
  have h7:=zh4 wd cs 707 x d 64
  rw[eL] at h7
  obtain⟨he,en,on,tu,ef⟩:∃ he en on tu,zdZ (kd cs x) 64=(he,en,on,tu):=⟨_,_,_,_,rfl⟩
  have hy:=zsP hf hx
  obtain⟨vf1,vf2⟩:=zhx (T:=([],[])) (st:=[]) ⟨hx,hd⟩ hy qg (Nat.le_refl 64) hE ef
  have HV:Hid (za8 ([]++[(x,d,((64:Nat):Int))],[]++zdN he x en) (pend wd cs ([]++zdN x (zaS (kd cs x) d) tu++zdN x d on))=L):=by
   show _=_
   have q:=vf1
   rw[zir] at q
   rw[<- eL]
   refine Eq.trans q ?_
   simp[pend,za8]
  have HV2:Hid (∀ c∈[]++zdN x (zaS (kd cs x) d) tu++zdN x d on,okB wd cs c):=fun c hc=>vf2 c hc
  have HLEN:Hid (L.1.length<=707 * 64/\L.2.length<=64):=h7
  have HEF:Hid (zdZ (kd cs x) 64=(he,en,on,tu)):=ef
  clear vf1 vf2 eL h7 hE ef
  go_wp2_with fail
  obtain⟨wa,hp⟩:∃ wa,wa=w1.alloc (.cells #[J x,J d] 144):=⟨_,rfl⟩
  have hX:w.heap.size+3<=wa.heap.size:=by rw[hp];simp;omega
  rw[<- hp] at h5 h8 h9 g0 g1 r0 r1 r2 f0 f1 f2 ⊢
  clear hp y0 y1
  have fg:Far (fun _=>Value.slice none 0 0) (w.heap.size+2) w.heap.size:=⟨qg,fun j hj=>by simp[Value.ownBlock]⟩
  have fr:Far (fun _=>Value.slice none 0 0) (w.heap.size+2) (w.heap.size+1):=⟨qg,fun j hj=>by simp[Value.ownBlock]⟩
  refine(zhw h5 a cap h8 ha x d ⟨hx,hd⟩ hn hy 64 (Nat.le_refl _) qm HEF.o).mono ?_
  rintro r w2 ⟨rfl,v2,hq,h1⟩
  replace f0:=h1.frozen fr r0 f0
  replace f1:=h1.frozen fr r1 f1
  replace f2:=h1.frozen fr r2 f2
  replace g0:=h1.cell fg g0
  replace g1:=h1.cell fg g1
  replace r0:=h1.cell fr r0
  replace r1:=h1.cell fr r1
  replace r2:=h1.cell fr r2
  replace fg:=h1.far qg fg
  replace fr:=h1.far qg fr
  have hF:=h9.trans (h1.below h5)
  have hG:=h8.belowB ha (h1.below h5)
  have hY:=h1.size
  clear h1 h5 h9 h8
  have q1:=(zer x (zaS (kd cs x) d) tu).1
  have q2:=(zer x d on).1
  have hJ:3 * (L.1.length - 1)+([]++zdN x (zaS (kd cs x) d) tu++zdN x d on).length<=3 * L.1.length+2:=by simp only[List.length_append,List.length_nil];omega
  clear q1 q2
  go_wp2_with fail
  go_loopg [] (3 * (L.1.length - 1)+([]++zdN x (zaS (kd cs x) d) tu++zdN x d on).length) (fun gk wr=>∃ v3 A E G,Tk wr w.heap.size (w.heap.size+2) v3 (zbW A E G)/\Fr w2 wr (w.heap.size+2) v2 v3/\za8 (A,E) (pend wd cs G)=L/\(∀ c∈G,okB wd cs c)/\gk=3 * (L.1.length - A.length)+G.length/\gk<=3 * L.1.length+2)
  case atStart=>exact⟨v2,_,_,_,hq,Fr.of (Below.refl _ _),HV.o,HV2.o,qm,hJ⟩
  case round =>
   obtain⟨v3,A,E,G,h4,h0,eL,h6,hz,hZ⟩:=hrel
   have HE:Hid (za8 (A,E) (pend wd cs G)=L):=eL
   obtain⟨p1,p2⟩:=zpb eL
   obtain⟨z1,z2⟩:=HLEN.o
   have t2:=h4.c 2 qg
   obtain⟨a2,c2,ev2,_⟩:=zdn (es:=G) (show wr.ownsRow w.heap.size 206 3 (v3 2) G.length (flat3 G) from h4.o 2 qg)
   rw[ev2] at t2
   have b0:=h0.cell fg g0
   have b1:=h0.cell fg g1
   clear eL
   rcases List.eq_nil_or_concat G with rfl|⟨l,bm,rfl⟩
   ·have eA:(A,E)=L:=by rw[<- HE.o,zrh]
    subst eA
    obtain⟨a0,c0,ev0,_⟩:=zdn (es:=A) (show wr.ownsRow w.heap.size 122 3 (v3 0) A.length (flat3 A) from h4.o 0 qg)
    obtain⟨a1,c1,ev1,_⟩:=zdn (es:=E) (show wr.ownsRow w.heap.size 119 3 (v3 1) E.length (flat3 E) from h4.o 1 qg)
    have o0:wr.ownsRow w.heap.size 122 3 (v3 0) A.length (flat3 A):=h4.o 0 qg
    have o1:wr.ownsRow w.heap.size 119 3 (v3 1) E.length (flat3 E):=h4.o 1 qg
    have t0:=h4.c 0 qg
    have t1:=h4.c 1 qg
    have n0:=(h0.far qg fr).2 0 qg
    have n1:=(h0.far qg fr).2 1 qg
    rw[ev0] at t0 o0 n0
    rw[ev1] at t1 o1 n1
    have s0:=h0.cell fr r0
    have s1:=h0.cell fr r1
    have s2:=h0.cell fr r2
    have x0:=h0.frozen fr r0 f0
    have x1:=h0.frozen fr r1 f1
    have x2:=h0.frozen fr r2 f2
    have hK:=hF.trans (h0.below hq)
    clear h0 h4 HE h6 ev0 ev1 ev2
    simp only[List.length_nil] at t2
    go_wp2
    refine bodyPost_ret (v:=.agg #[.slice a0 A.length c0,.slice a1 E.length c1,.slice a2 0 c2]) (by simp[results,results81,go_sem,s0,s1,s2]) rfl ⟨a0,c0,a1,c1,⟨a2,0,c2,rfl⟩,?_,?_,?_⟩
    ·exact ownsRow_setCell_other (ownsRow_setCell_other (ownsRow_setCell_other o0 (a:=(O (w.heap.size+1) 0)) n0 _) (a:=(O (w.heap.size+1) 1)) n0 _) (a:=(O (w.heap.size+1) 2)) n0 _
    ·exact ownsRow_setCell_other (ownsRow_setCell_other (ownsRow_setCell_other o1 (a:=(O (w.heap.size+1) 0)) n1 _) (a:=(O (w.heap.size+1) 1)) n1 _) (a:=(O (w.heap.size+1) 2)) n1 _
    ·exact((hK.setCell (p:=(O (w.heap.size+1) 0)) (by show w.heap.size<=w.heap.size+1;omega) _).setCell (p:=(O (w.heap.size+1) 1)) (by show w.heap.size<=w.heap.size+1;omega) _).setCell (p:=(O (w.heap.size+1) 2)) (by show w.heap.size<=w.heap.size+1;omega) _
   ·simp only[List.concat_eq_append] at h4 h6 hz t2 HE
    obtain⟨bx,be,bh⟩:=bm
    have hM:=(h6 (bx,be,bh) qm).2.1
    simp only at hM
    obtain⟨hh,rfl⟩:=Int.eq_ofNat_of_zero_le (show 0<=bh by omega)
    have hA:=hG.belowB ha (h0.below hq)
    have gl:(l++[(bx,be,(hh:Int))]).length=l.length+1:=qm
    rw[gl] at t2 hz
    have hN:A.length<=900000/\E.length<=900000/\l.length<=800000:=qg
    have p0:(0:Int)<(l.length:Int)+1:=qg
    go_wp2_with fail
    refine(zki S h4 a cap hA ha h6 hN).mono ?_
    rintro r w4 ⟨rfl,v4,A',E',G',hP,hD,st1,st2,st3⟩
    have hQ:=h0.trans hD
    have e4:za8 (A',E') (pend wd cs G')=L:=by rw[st1];exact HE.o
    obtain⟨p3,p4⟩:=zpb e4
    have hT:3 * (L.1.length - A'.length)+G'.length<gk:=by
     rcases st3 with ⟨q1,q2⟩|⟨q1,q2⟩
     ·rw[q1,q2];omega
     ·omega
    clear h4 h0 hD st1 st3 HE t2 b0 b1 hA h6
    go_wp2_with fail
    go_roundg (3 * (L.1.length - A'.length)+G'.length)
    case measure=>exact hT
    case rel=>exact⟨v4,A',E',G',hP,hQ,e4,st2,rfl,qg⟩
theorem zqG(a0 a1 a2:Od)(n0 c0 n1 c1 n2 c2:Nat)(w:World):Sem.run (SqG.prog aLt) (Instr.field 116 (.agg #[.slice a0 n0 c0,.slice a1 n1 c1,.slice a2 n2 c2]) 0) w=.ok (.slice a0 n0 c0) w:=qh
theorem zqH(a0 a1 a2:Od)(n0 c0 n1 c1 n2 c2:Nat)(w:World):Sem.run (SqG.prog aLt) (Instr.field 116 (.agg #[.slice a0 n0 c0,.slice a1 n1 c1,.slice a2 n2 c2]) 1) w=.ok (.slice a1 n1 c1) w:=qh
theorem zmx{L:Tr}(hL:zaO wd cs k=L):(∀ u∈L.2,znL wd cs u)/\(∀ u∈L.2,u.2.2<=64)/\zeD L.2<=64/\L.2.length<=64/\(L.2≠[]->okG wd cs=true):=by
 rcases hs:inS wd cs k with _|_
 ·have hv:L=([],[]):=by rw[<- hL];unfold zaO;rw[if_neg (by simp[hs])]
  subst hv
  exact⟨qm,qm,by simp[zeD],qm,fun q=>absurd rfl q⟩
 ·have hT:=zit hs
  rw[hL] at hT
  have h0:∀ u∈L.2,1<=u.2.2:=fun u hu=>(hT.ends u hu).1
  have key:∀ l:Le,(∀ u∈l,1<=u.2.2)->(l.length:Int)<=zeD l:=by
   intro l
   induction l with
   | nil=>intro _;simp[zeD]
   | cons t r ih =>
    intro q
    have q1:=q t qm
    have q2:=ih (fun u hu=>q u (by simp[hu]))
    simp only[zeD,List.length_cons]
    omega
  have h1:=hT.sum
  have hk:=key L.2 h0
  refine⟨hT.ends,?_,qg,qg,fun _=>zi0 hs⟩
  intro u hu
  obtain⟨l1,l2,e⟩:=List.append_of_mem hu
  have q1:=zcW l1 (u::l2)
  rw[<- e,h1] at q1
  simp only[zeD] at q1
  have q2:=zeE l1 (fun z hz=>h0 z (by rw[e];simp[hz]))
  have q3:=zeE l2 (fun z hz=>h0 z (by rw[e];simp[hz]))
  omega
theorem zbT(wd:Int)(a:Od)(cap:Nat)(cs:Lp)(w:World)(h:zaf w a cs)(hm:cs.length<=1048576)(k:Int) :
  Calls (SqG.prog aLt) 66 #[.agg (xG wd a cs.length cap),J k] w (xB w (J (zaU wd cs k))):=by
 obtain⟨L,hL⟩:∃ L,zaO wd cs k=L:=⟨_,rfl⟩
 obtain⟨hE,hQ,hq,hs,h4⟩:=zmx hL
 obtain⟨es,h5⟩:∃ es,L.2=es:=⟨_,rfl⟩
 rw[h5] at hE hQ hq hs h4
 have h8:∀ u∈es,1<=u.2.2:=fun u hu=>(hE u hu).1
 obtain⟨R,hR⟩:∃ R,zaU wd cs k=R:=⟨_,rfl⟩
 rw[hR]
 have ER:Hid (zdR cs es=R):=by show _=_;rw[<- hR];unfold zaU;rw[hL,h5]
 have HL:Hid (zaO wd cs k=L):=hL
 have HES:Hid (L.2=es):=h5
 have HB:Hid (∀ i,0<=zdR cs (es.take i)/\zdR cs (es.take i)<=576):=by
  intro i
  have q1:=zpT cs (es.take i) (fun u hu=>zku (h4 (fun z=>by rw[z] at hu;simp at hu)) (hE u (List.mem_of_mem_take hu)))
  have q2:=zmc h8 i
  omega
 have HE:Hid (∀ u∈es,znL wd cs u):=hE
 have HQ:Hid (∀ u∈es,u.2.2<=64):=hQ
 have HOK:Hid (es≠[]->okG wd cs=true):=h4
 have h9:xE w (w.alloc (.cells (xG wd a cs.length cap) 33)):=bel
 have g1:(w.alloc (.cells (xG wd a cs.length cap) 33)).cell? (O w.heap.size 1)=some (.slice a cs.length cap):=ql
 have hC:=h.below h9
 clear hL h5 hR hE hQ h8 h4
 go_enter (zfx func66),ntmps66
 go_wp2_with fail
 refine(zgG wd a cap cs _ hC hm k).mono ?_
 rw[HL.o,HES.o]
 rintro r x1 ⟨a0,c0,a1,c1,a2,n2,c2,rfl,o0,o1,h6⟩
 have hF:=zqH (aLt:=aLt) a0 a1 a2 L.1.length c0 es.length c1 n2 c2
 have hj:=zae h9 qm h6
 replace g1:=zaa h6 g1
 have he:=hC.below h6
 obtain⟨aX,cX,eX,hf⟩:=zdn o1
 simp only[Value.slice.injEq,true_and] at eX
 obtain⟨rfl,rfl⟩:=eX
 clear h6 o0 o1 hC h9
 go_wp2_with fail
 go_loopw [5,13] (fun nn ii wr=>∃ i:Nat,i<=es.length/\ii=J i/\nn=J (zdR cs (es.take i))/\xE x1 wr) (fun _ ii _=>es.length - (intOf ii).toNat)
 case atStart=>exact⟨0,Nat.zero_le _,rfl,rfl,Below.refl _ _⟩
 case round =>
  rename World=>wo
  obtain⟨i,hi,rfl,rfl,hb⟩:=hrel
  replace hf:=hf.below hb
  replace he:=he.below hb
  replace g1:=zaa hb g1
  obtain⟨s,es0⟩:∃ s,zdR cs (es.take i)=s:=⟨_,rfl⟩
  have hy:=HB.o i
  rw[es0] at hy ⊢
  by_cases hlt:i<es.length
  ·rcases hf with q|⟨b,off,rfl,hG,hc⟩
   ·rw[q] at hlt;simp at hlt
   obtain⟨t,et⟩:∃ t,es.getD i (0,0,0)=t:=⟨_,rfl⟩
   have h1:t∈es:=by rw[<- et];simp[List.getElem?_eq_getElem hlt]
   obtain⟨z0,z1,z2⟩:=hc i hlt
   rw[et] at z0 z1 z2
   obtain⟨hz,h7⟩:=zku (HOK.o (fun z=>by rw[z] at h1;simp at h1)) (HE.o t h1)
   have hk:=HQ.o t h1
   have h0:zdR cs (es.take (i+1))=s+(if t.1=2 then t.2.2 * ltC cs t.2.1 else 0):=by
    rw[zeF es i (0,0,0) hlt,zgw,es0,et]
    simp[zdR]
   obtain⟨t0,t1,t2⟩:=t
   simp only at z0 z1 z2 hz hk h0 h7
   have hg:xE wo (wo.alloc (.cells #[J t0,J t1,J t2] 119)):=bel
   have h2:xE x1 (wo.alloc (.cells #[J t0,J t1,J t2] 119)):=hb.alloc hb.size _
   clear h1 et hc
   by_cases e0:t0=2
   ·rw[if_pos e0] at h0
    obtain⟨hx,hA,hl⟩:=h7 e0
    obtain⟨Y,rfl⟩:=Int.eq_ofNat_of_zero_le hx.1
    have hY:Y<cs.length:=qg
    obtain⟨lt',elt⟩:∃ l,ltC cs (Y:Int)=l:=⟨_,rfl⟩
    rw[elt] at h0 hA hl
    rcases he with q|⟨bc,oc,rfl,hJ,hp⟩
    ·rw[q] at hY;simp at hY
    have zc:=(hp Y hY).2
    have zc':wo.cell? (O bc (oc+Y * 2+1))=some (J lt'):=by
     rw[zc,<- elt];simp[ltC]
    obtain⟨p,ep⟩:∃ p,t2 * lt'=p:=⟨_,rfl⟩
    rw[ep] at h0
    have hK:0<=p:=by rw[<- ep];exact Int.mul_nonneg qg qg
    have hM:p<=576:=by
     rw[<- ep]
     exact Int.le_trans (Int.mul_le_mul hk hl qg qg) qg
    have wp:IntKind.i64.wrap (t2 * lt')=p:=by rw[ep];exact IntWalk.i64_in _ qg
    have ws:IntKind.i64.wrap (s+p)=s+p:=IntWalk.i64_in _ qg
    have HST:Hid (zdR cs (es.take (i+1))=s+p):=h0
    have b0:(t0 == 2)=true:=by simp[e0]
    have hN:(Y:Int)<(cs.length:Int):=qg
    clear h0 e0 es0 zc ep elt hp h7
    go_wp2_with fail
    obtain⟨we,h3⟩:∃ we,we=wo.alloc (.cells #[J t0,J (Y:Int),J t2] 119):=⟨_,rfl⟩
    have y0:we.cell? (O wo.heap.size 0)=some (J t0):=by rw[h3];simp[go_sem]
    have y1:we.cell? (O wo.heap.size 1)=some (J (Y:Int)):=by rw[h3];simp[go_sem]
    have y2:we.cell? (O wo.heap.size 2)=some (J t2):=by rw[h3];simp[go_sem]
    rw[<- h3] at hg h2 ⊢
    replace g1:=zaa hg g1;replace zc':=zaa hg zc'
    clear h3 z0 z1 z2
    go_quiet (fail)
    have hD:xE x1 (we.drewN nq):=⟨h2.os,h2.tape,h2.output,h2.size,h2.block⟩
    go_wp2_with fail
    go_roundw
    case rel=>exact⟨i+1,qg,by go_num,by rw[HST.o],hD⟩
    case measure=>exact qe
   ·rw[if_neg e0] at h0
    have HST:Hid (zdR cs (es.take (i+1))=s):=by show _=_;rw[h0];omega
    have b0:(t0 == 2)=false:=by simp[e0]
    clear h0 e0 es0 h7
    go_wp2_with fail
    go_roundw
    case rel=>exact⟨i+1,qg,by go_num,by rw[HST.o],h2⟩
    case measure=>exact qe
  ·have hw:s=R:=by rw[<- es0,<- ER.o,List.take_of_length_le qg]
   subst hw
   clear es0
   go_wp2_with fail
   go_ret
   exact⟨rfl,zae hj hj.size hb⟩
def zql(c:Nat->Bool):Array Value:=#[.bool (c 0),.bool (c 1),.bool (c 2),.bool (c 3),.bool (c 4),.bool (c 5),.bool (c 6),.bool (c 7),.bool (c 8),.bool (c 9),.bool (c 10),.bool (c 11),.bool (c 12),.bool (c 13),.bool (c 14),.bool (c 15),.bool (c 16),.bool (c 17),.bool (c 18),.bool (c 19),.bool (c 20),.bool (c 21),.bool (c 22),.bool (c 23),.bool (c 24)]
theorem zcD(c:Nat->Bool):(zql c).size=25:=rfl
theorem zeN(c:Nat->Bool)(i:Nat)(h:i<25):(zql c)[i]?=some (.bool (c i)):=by
 rcases (show i=0\/i=1\/i=2\/i=3\/i=4\/i=5\/i=6\/i=7\/i=8\/i=9\/i=10\/i=11\/i=12\/i=13\/i=14\/i=15\/i=16\/i=17\/i=18\/i=19\/i=20\/i=21\/i=22\/i=23\/i=24 by omega) with rfl|rfl|rfl|rfl|rfl|rfl|rfl|rfl|rfl|rfl|rfl|rfl|rfl|rfl|rfl|rfl|rfl|rfl|rfl|rfl|rfl|rfl|rfl|rfl|rfl <;> rfl
theorem zuD(c:Nat->Bool)(i:Nat)(h:i<25)(w:World):Sem.run (SqG.prog aLt) (Instr.index 120 (.agg (zql c)) (J (i:Int))) w=.ok (.bool (c i)) w:=by
 rcases (show i=0\/i=1\/i=2\/i=3\/i=4\/i=5\/i=6\/i=7\/i=8\/i=9\/i=10\/i=11\/i=12\/i=13\/i=14\/i=15\/i=16\/i=17\/i=18\/i=19\/i=20\/i=21\/i=22\/i=23\/i=24 by omega) with rfl|rfl|rfl|rfl|rfl|rfl|rfl|rfl|rfl|rfl|rfl|rfl|rfl|rfl|rfl|rfl|rfl|rfl|rfl|rfl|rfl|rfl|rfl|rfl|rfl <;> kernel_rfl
theorem zqm(c c':Nat->Bool)(X:Nat)(hX:X<25)(h1:c' X=true)(h2:∀ j,j<25->j≠X->c' j=c j):(zql c).setIfInBounds X (.bool true)=zql c':=by
 refine Array.ext_getElem? fun i=>?_
 rw[Array.getElem?_setIfInBounds]
 by_cases e:X=i
 ·subst e
  rw[if_pos rfl,if_pos (by rw[zcD];exact hX),zeN c' X hX,h1]
 ·rw[if_neg e]
  by_cases hi:i<25
  ·rw[zeN c i hi,zeN c' i hi,h2 i hi (fun q=>e q.symm)]
  ·rw[Array.getElem?_eq_none (by rw[zcD];omega),Array.getElem?_eq_none (by rw[zcD];omega)]
theorem znU(c c':Nat->Bool)(h:∀ j,j<25->c' j=c j):zql c=zql c':=by
 refine Array.ext_getElem? fun i=>?_
 by_cases hi:i<25
 ·rw[zeN c i hi,zeN c' i hi,h i hi]
 ·rw[Array.getElem?_eq_none (by rw[zcD];omega),Array.getElem?_eq_none (by rw[zcD];omega)]
theorem zrX:(SqG.prog aLt).underlying 120=some (.array 25 4):=qh
theorem zsO:((SqG.prog aLt).info? 120).map (·.size)=some 25:=qh
def BkB(w:World)(g:Nat)(c:Nat->Bool):Prop:=w.heap[g]?=some (.cells (zql c) 120 (0,0))
theorem BkB.below{c:Nat->Bool}(h:BkB w g c)(hb:xE w w'):BkB w' g c:=by
 unfold BkB at h ⊢
 rw[hb.block g (gei h).1]
 exact h
theorem BkB.lt{c:Nat->Bool}(h:BkB w g c):g<w.heap.size:=(gei h).1
theorem BkB.cell{c:Nat->Bool}(h:BkB w g c)(i:Nat)(hi:i<25):w.cell? (O g i)=some (.bool (c i)):=by
 rw[cell_of_row _ _ _ _ _ _ h];exact zeN c i hi
theorem BkB.fz{c:Nat->Bool}(h:BkB w g c)(i:Nat):w.frozen? (O g i)=false:=frozen_of_row _ _ _ _ _ h
theorem BkB.put{c c':Nat->Bool}(h:BkB w g c)(X:Nat)(hX:X<25)(h1:c' X=true)(h2:∀ j,j<25->j≠X->c' j=c j):BkB (w.setCell (O g X) (.bool true)) g c':=by
 unfold BkB
 rw[heap_setCell_same w g X _ _ _ h,zqm c c' X hX h1 h2]
def zaA(wd:Int)(cs:Lp)(k:Int):List Int:=zaK cs.length (zaO wd cs k).1
theorem ziU(n:Nat):zaK n []=[]:=by
 unfold zaK
 rw[List.filter_eq_nil_iff.2 (by intro i _;simp[seenAt])]
 rfl
theorem zsJ(n:Nat)(vs:Le)(hn:n<=25)(h:∀ u∈vs,0<=u.1/\u.1<(n:Int)):zaK 25 vs=zaK n vs:=by
 have key:∀ m,zaK (n+m) vs=zaK n vs:=by
  intro m
  induction m with
  | zero=>rfl
  | succ m ih =>
   rw[<- Nat.add_assoc,zeh,if_neg,ih]
   intro q
   unfold seenAt at q
   simp only[List.any_eq_true,beq_iff_eq] at q
   obtain⟨u,hu,e⟩:=q
   have:=h u hu
   omega
 have:=key (25 - n)
 rw[show n+(25 - n)=25 by omega] at this
 exact this
theorem zdy{L:Tr}(hL:zaO wd cs k=L):(∀ u∈L.1,0<=u.1/\u.1<(cs.length:Int))/\L.1.length<=45248/\(L.1≠[]->cs.length<=25)/\(∀ u∈L.1,(0<=u.2.1/\u.2.1<=3)/\1<=u.2.2/\u.2.2<=64):=by
 rcases hs:inS wd cs k with _|_
 ·have hv:L=([],[]):=by rw[<- hL];unfold zaO;rw[if_neg (by simp[hs])]
  subst hv
  exact⟨qm,qm,fun q=>absurd rfl q,qm⟩
 ·have hT:=zit hs
  rw[hL] at hT
  obtain⟨W,H,S⟩:=zc3 (zi0 hs)
  refine⟨fun u hu=>(hT.vis u hu).1.1,?_,fun _=>by rw[S.el];exact Nat.le_trans (Nat.mul_le_mul S.hW.2 S.hH.2) qg,fun u hu=>⟨(hT.vis u hu).1.2,(hT.vis u hu).2.1,(hT.vis u hu).2.2⟩⟩
  rw[<- hL]
  unfold zaO
  rw[if_pos hs]
  exact(zh4 wd cs 707 _ _ 64).1
