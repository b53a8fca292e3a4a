/- Part. -/
import Derived.Deep.AppendLies
import Derived.Laws.Rows
import Derived.Test.YthfhlgdeghnggaaGreatTAs
import Derived.Test.YthfhlgdeghnggaaGreatTAv
set_option maxHeartbeats 4000000
set_option linter.unusedVariables false
namespace Go.Proofs.YthfhlgdeghnggaaGreat
variable{wd:Int}{cs:List (Int × Int)}{B H W c f pb:Nat}{o:Obj}{a:Option Addr}{e v:Value}{w w' w6:World}
namespace Sp
variable{aLt:Nat->Func->Func}
open Go.RowKit
theorem zir:((SqG.prog aLt).info? 122).map (fun i=>(i.zero,i.size,i.bytes))=some (some (.agg #[.int .i64 0,.int .i64 0,.int .i64 0]),3,24):=by kernel_rfl
theorem znJ:((SqG.prog aLt).info? 119).map (fun i=>(i.zero,i.size,i.bytes))=some (some (.agg #[.int .i64 0,.int .i64 0,.int .i64 0]),3,24):=by kernel_rfl
def flat3(xs:List (Int × Int × Int)):List Value:=xs.flatMap fun t=>[.int .i64 t.1,.int .i64 t.2.1,.int .i64 t.2.2]
theorem zcb(a b:List (Int × Int × Int)):flat3 (a++b)=flat3 a++flat3 b:=by simp[flat3]
theorem zrc{b i j:Nat}{u:Value}(hne:i≠j)(h:w.cell? ⟨b,i,none⟩=some v):(w.setCell ⟨b,j,none⟩ u).cell? ⟨b,i,none⟩=some v:=by
 have q:(⟨b,j,none⟩:Addr)≠⟨b,i,none⟩:=fun e=>hne (Addr.mk.inj e).2.1.symm
 rw[World.cell?_setCell_other _ _ _ _ q]
 exact h
structure Wk(w:World)(B pb:Nat)(wd:Int)(a:Option Addr)(c:Nat)(cs:List (Int × Int))(v e:Value)(T:Tr):Prop where
 c0:w.cell? ⟨pb,0,none⟩=some (.int .i64 wd)
 c1:w.cell? ⟨pb,1,none⟩=some (.slice a cs.length c)
 c2:w.cell? ⟨pb,2,none⟩=some v
 c3:w.cell? ⟨pb,3,none⟩=some e
 f2:w.frozen? ⟨pb,2,none⟩=false
 f3:w.frozen? ⟨pb,3,none⟩=false
 hC:zak w a cs
 ha:∀ b off,a=some ⟨b,off,none⟩->b<B
 ov:w.ownsRow B 122 3 v T.1.length (flat3 T.1)
 oe:w.ownsRow B 119 3 e T.2.length (flat3 T.2)
 hB:B<=pb
 dv:v.ownBlock≠some pb
 de:e.ownBlock≠some pb
 dd:∀ g,v.ownBlock=some g->e.ownBlock≠some g
theorem Wk.lt{T:Tr}(h:Wk w B pb wd a c cs v e T):pb<w.heap.size:=World.block_lt_of_cell? w _ h.c0
theorem Wk.cells{T:Tr}(h:Wk w B pb wd a c cs v e T)(hb:Below B w w'):zak w' a cs:=by
 have ha:=h.ha
 rcases h.hC with q|⟨b,off,rfl,hbl,hc⟩
 ·exact Or.inl q
 ·have hbB:=ha b off rfl
  refine Or.inr ⟨b,off,rfl,nll hbl hb.size,fun i hi=>?_⟩
  rw[hb.cell (p:=⟨b,off+i * 2,none⟩) hbB,hb.cell (p:=⟨b,off+i * 2+1,none⟩) hbB]
  exact hc i hi
theorem Wk.below{T:Tr}(h:Wk w B pb wd a c cs v e T)(hb:Below w.heap.size w w'):Wk w' B pb wd a c cs v e T :=
 ⟨zab hb h.c0,zab hb h.c1,zab hb h.c2,zab hb h.c3,zam hb h.c2 h.f2,zam hb h.c3 h.f3,h.hC.below hb,h.ha,
  h.ov.kept (row:=none) ⟨hb.os,hb.tape,hb.output,hb.size,fun k hk _=>hb.block k hk⟩ (by by_cases q:v.ownBlock=none;exact Or.inl q;exact Or.inr q),
  h.oe.kept (row:=none) ⟨hb.os,hb.tape,hb.output,hb.size,fun k hk _=>hb.block k hk⟩ (by by_cases q:e.ownBlock=none;exact Or.inl q;exact Or.inr q),h.hB,h.dv,h.de,h.dd⟩
theorem Wk.visit{T:Tr}{g6 k6:Nat}{x y z:Int}(h:Wk w B pb wd a c cs v e T)(hO:w6.ownsRow B 122 3 (.slice (some ⟨g6,0,none⟩) (T.1.length+1) k6) (T.1.length+1) (flat3 T.1++[.int .i64 x,.int .i64 y,.int .i64 z]))(hg:(w.alloc o).grownBy w6 v.ownBlock)(hat:v.ownBlock=some g6\/g6=w.heap.size+1) :
  (w6.cell? ⟨pb,2,none⟩=some v/\w6.frozen? ⟨pb,2,none⟩=false)/\Wk (w6.setCell ⟨pb,2,none⟩ (.slice (some ⟨g6,0,none⟩) (T.1.length+1) k6)) B pb wd a c cs (.slice (some ⟨g6,0,none⟩) (T.1.length+1) k6) e (T.1++[(x,y,z)],T.2)/\Below B w (w6.setCell ⟨pb,2,none⟩ (.slice (some ⟨g6,0,none⟩) (T.1.length+1) k6)):=by
 have hpb:pb<w.heap.size:=World.block_lt_of_cell? w _ h.c0
 have hbA:Below w.heap.size w (w.alloc o):=(Below.refl _ _).alloc (Nat.le_refl _) o
 have hp:some pb≠v.ownBlock:=fun q=>h.dv q.symm
 have hz:=hg.size
 simp at hz
 have hgp:g6≠pb:=by
  rcases hat with q|q
  ·intro q2;subst q2;exact h.dv q
  ·omega
 have cell:∀ j u,w.cell? ⟨pb,j,none⟩=some u->w6.cell? ⟨pb,j,none⟩=some u:=fun j u q=>hg.cell (zab hbA q) hp
 have froz:∀ j,w.frozen? ⟨pb,j,none⟩=false->w6.frozen? ⟨pb,j,none⟩=false:=fun j q=>by
  rw[hg.frozen_far ⟨pb,j,none⟩ (by simp;omega) hp,hbA.frozen (p:=⟨pb,j,none⟩) hpb];exact q
 have hbB:Below B w w6:=by
  refine⟨hg.os.trans hbA.os,hg.tape.trans hbA.tape,hg.output.trans hbA.output,by omega,fun k hk=>?_⟩
  have hB:=h.hB
  rw[hg.block k (by simp;omega) (fun q=>by have:=(h.ov.lt k q.symm).1;omega)]
  exact hbA.block k (by omega)
 refine⟨⟨cell _ _ h.c2,froz _ h.f2⟩,?_,hbB.setCell (p:=⟨pb,2,none⟩) h.hB _⟩
 have hoth:w6.ownsRow B 119 3 e T.2.length (flat3 T.2):=(h.oe.alloc o).kept hg (by
  by_cases q:e.ownBlock=none
  ·exact Or.inl q
  ·right;intro q2;obtain⟨g,hg2⟩:∃ g,e.ownBlock=some g:=Option.ne_none_iff_exists'.1 q
   exact h.dd g (q2 ▸ hg2) hg2)
 have hlen:(T.1++[(x,y,z)]).length=T.1.length+1:=by simp
 have hfl:flat3 (T.1++[(x,y,z)])=flat3 T.1++[.int .i64 x,.int .i64 y,.int .i64 z]:=by rw[zcb];rfl
 have hnew:(w6.setCell ⟨pb,2,none⟩ (.slice (some ⟨g6,0,none⟩) (T.1.length+1) k6)).ownsRow B 122 3 (.slice (some ⟨g6,0,none⟩) (T.1.length+1) k6) (T.1++[(x,y,z)]).length (flat3 (T.1++[(x,y,z)])):=by
  rw[hlen,hfl]
  exact ownsRow_setCell_other hO (by simp[Value.ownBlock,hgp]) _
 have holdr:=ownsRow_setCell_other hoth (a:=⟨pb,2,none⟩) h.de (.slice (some ⟨g6,0,none⟩) (T.1.length+1) k6)
 have hcs:zak w6 a cs:=h.cells hbB
 have hdd:∀ g,(Value.slice (some ⟨g6,0,none⟩) (T.1.length+1) k6).ownBlock=some g->e.ownBlock≠some g:=by
  intro g q
  simp only[Value.ownBlock,Option.some.injEq] at q
  subst q
  intro q2
  rcases hat with q3|q3
  ·exact h.dd g6 q3 q2
  ·have:=(h.oe.lt g6 q2).2;omega
 exact⟨zrc (by decide) (cell _ _ h.c0),zrc (by decide) (cell _ _ h.c1),World.cell?_setCell_same _ _ _ (by rw[cell _ _ h.c2]),zrc (by decide) (cell _ _ h.c3),by simpa using froz _ h.f2,by simpa using froz _ h.f3,
  hcs.set (fun b off q=>by have:=h.ha b off q;have:=h.hB;omega) _,h.ha,hnew,holdr,h.hB,by simp[Value.ownBlock,hgp],h.de,hdd⟩
theorem Wk.ends{T:Tr}{g6 k6:Nat}{x y z:Int}(h:Wk w B pb wd a c cs v e T)(hO:w6.ownsRow B 119 3 (.slice (some ⟨g6,0,none⟩) (T.2.length+1) k6) (T.2.length+1) (flat3 T.2++[.int .i64 x,.int .i64 y,.int .i64 z]))(hg:(w.alloc o).grownBy w6 e.ownBlock)(hat:e.ownBlock=some g6\/g6=w.heap.size+1) :
  (w6.cell? ⟨pb,3,none⟩=some e/\w6.frozen? ⟨pb,3,none⟩=false)/\Wk (w6.setCell ⟨pb,3,none⟩ (.slice (some ⟨g6,0,none⟩) (T.2.length+1) k6)) B pb wd a c cs v (.slice (some ⟨g6,0,none⟩) (T.2.length+1) k6) (T.1,T.2++[(x,y,z)])/\Below B w (w6.setCell ⟨pb,3,none⟩ (.slice (some ⟨g6,0,none⟩) (T.2.length+1) k6)):=by
 have hpb:pb<w.heap.size:=World.block_lt_of_cell? w _ h.c0
 have hbA:Below w.heap.size w (w.alloc o):=(Below.refl _ _).alloc (Nat.le_refl _) o
 have hp:some pb≠e.ownBlock:=fun q=>h.de q.symm
 have hz:=hg.size
 simp at hz
 have hgp:g6≠pb:=by
  rcases hat with q|q
  ·intro q2;subst q2;exact h.de q
  ·omega
 have cell:∀ j u,w.cell? ⟨pb,j,none⟩=some u->w6.cell? ⟨pb,j,none⟩=some u:=fun j u q=>hg.cell (zab hbA q) hp
 have froz:∀ j,w.frozen? ⟨pb,j,none⟩=false->w6.frozen? ⟨pb,j,none⟩=false:=fun j q=>by
  rw[hg.frozen_far ⟨pb,j,none⟩ (by simp;omega) hp,hbA.frozen (p:=⟨pb,j,none⟩) hpb];exact q
 have hbB:Below B w w6:=by
  refine⟨hg.os.trans hbA.os,hg.tape.trans hbA.tape,hg.output.trans hbA.output,by omega,fun k hk=>?_⟩
  have hB:=h.hB
  rw[hg.block k (by simp;omega) (fun q=>by have:=(h.oe.lt k q.symm).1;omega)]
  exact hbA.block k (by omega)
 refine⟨⟨cell _ _ h.c3,froz _ h.f3⟩,?_,hbB.setCell (p:=⟨pb,3,none⟩) h.hB _⟩
 have hoth:w6.ownsRow B 122 3 v T.1.length (flat3 T.1):=(h.ov.alloc o).kept hg (by
  by_cases q:v.ownBlock=none
  ·exact Or.inl q
  ·right;intro q2;obtain⟨g,hg2⟩:∃ g,v.ownBlock=some g:=Option.ne_none_iff_exists'.1 q
   exact h.dd g hg2 (q2 ▸ hg2))
 have hlen:(T.2++[(x,y,z)]).length=T.2.length+1:=by simp
 have hfl:flat3 (T.2++[(x,y,z)])=flat3 T.2++[.int .i64 x,.int .i64 y,.int .i64 z]:=by rw[zcb];rfl
 have hnew:(w6.setCell ⟨pb,3,none⟩ (.slice (some ⟨g6,0,none⟩) (T.2.length+1) k6)).ownsRow B 119 3 (.slice (some ⟨g6,0,none⟩) (T.2.length+1) k6) (T.2++[(x,y,z)]).length (flat3 (T.2++[(x,y,z)])):=by
  rw[hlen,hfl]
  exact ownsRow_setCell_other hO (by simp[Value.ownBlock,hgp]) _
 have holdr:=ownsRow_setCell_other hoth (a:=⟨pb,3,none⟩) h.dv (.slice (some ⟨g6,0,none⟩) (T.2.length+1) k6)
 have hcs:zak w6 a cs:=h.cells hbB
 have hdd:∀ g,(Value.slice (some ⟨g6,0,none⟩) (T.2.length+1) k6).ownBlock=some g->v.ownBlock≠some g:=by
  intro g q
  simp only[Value.ownBlock,Option.some.injEq] at q
  subst q
  intro q2
  rcases hat with q3|q3
  ·exact h.dd g6 q2 q3
  ·have:=(h.ov.lt g6 q2).2;omega
 exact⟨zrc (by decide) (cell _ _ h.c0),zrc (by decide) (cell _ _ h.c1),zrc (by decide) (cell _ _ h.c2),World.cell?_setCell_same _ _ _ (by rw[cell _ _ h.c3]),by simpa using froz _ h.f2,by simpa using froz _ h.f3,
  hcs.set (fun b off q=>by have:=h.ha b off q;have:=h.hB;omega) _,h.ha,holdr,hnew,h.hB,h.dv,by simp[Value.ownBlock,hgp],fun g q q2=>hdd g q2 q⟩
theorem zbP(a:Tr):za2 a ([],[])=a:=by simp[za2]
theorem zbU(a b c:Tr):za2 (za2 a b) c=za2 a (za2 b c):=by simp[za2]
theorem zkR(ih:∀ x d wt,(zaK wd cs f x d wt).1.length<=f * wt/\(zaK wd cs f x d wt).2.length<=wt)(x e:Int)(h:Nat) :
  (lvT wd cs (zaK wd cs f) x e h).1.length<=f * h/\(lvT wd cs (zaK wd cs f) x e h).2.length<=h:=by
 unfold lvT
 by_cases h0:h=0
 ·rw[if_pos h0];simp
 ·rw[if_neg h0]
  split
  ·exact ih _ _ _
  ·simp[zdg,h0];omega
theorem zhE(wd:Int)(cs:List (Int × Int)):∀ f x d wt,(zaK wd cs f x d wt).1.length<=f * wt/\(zaK wd cs f x d wt).2.length<=wt:=by
 intro f
 induction f with
 | zero=>intro x d wt;simp[zaK]
 | succ f ih =>
  intro x d wt
  simp only[zaK]
  by_cases h0:wt=0
  ·rw[if_pos h0];simp
  ·rw[if_neg h0]
   have e1:(f+1) * wt=f * wt+wt:=Nat.succ_mul f wt
   have hh:f * (wt / 2)+f * (wt / 2)<=f * wt:=by rw[<- Nat.mul_add];exact Nat.mul_le_mul_left f (by omega)
   have l1:=zkR ih x d (wt / 2)
   have l2:=zkR ih x (zaQ (kd cs x) d) (wt / 2)
   have l3:=zkR ih x (zaQ (kd cs x) d) wt
   unfold zbd
   repeat' split
   all_goals (simp only[za2,zdg,List.length_append,List.length_cons,List.length_nil,List.nil_append];(repeat' split) <;> (try simp only[List.length_cons,List.length_nil]) <;> omega)
set_option maxRecDepth 20000 in
theorem zfy{T:Tr}(h:Wk w B pb wd a c cs v e T)(kind wh:Int)(wt:Nat)(hw:wt<=64)(hl:T.2.length<=1000000) :
  Calls (SqG.prog aLt) 121 #[.pointer (some ⟨pb,0,none⟩),.int .i64 kind,.int .i64 wh,.int .i64 (wt:Int)] w fun r w'=>r=.returned (.tuple #[])/\(∃ v2 e2,Wk w' B pb wd a c cs v2 e2 (za2 T (zdg kind wh wt)))/\Below B w w':=by
 obtain⟨i0,hi,iz0,iz1,iz2⟩:=info_parts (znJ (aLt:=aLt))
 have hpb:=h.lt
 have hB:=h.hB
 by_cases h0:wt=0
 ·subst h0
  have hT:za2 T (zdg kind wh 0)=T:=by simp[zdg,za2]
  rw[hT]
  clear hT
  go_enter SqG.func121,Tryz.ntmps121
  go_wp2
  exact bodyPost_end (v:=.tuple #[]) (by simp[results,Tryz.results121,go_sem]) rfl ⟨rfl,⟨v,e,h⟩,Below.refl _ _⟩
 ·have hT:za2 T (zdg kind wh wt)=(T.1,T.2++[(kind,wh,(wt:Int))]):=by simp[zdg,za2,h0]
  rw[hT]
  clear hT
  have c3:=h.c3
  have hp:(0:Int)<(wt:Int):=by omega
  have c3':(w.alloc (.cells #[.int .i64 kind,.int .i64 wh,.int .i64 (wt:Int)] 119)).cell? ⟨pb,3,none⟩=some e:=zab ((Below.refl _ _).alloc (Nat.le_refl _) _) c3
  go_enter SqG.func121,Tryz.ntmps121
  go_wp2_with (at_builtin;refine wpList_append_lies _ rfl _ _ _ rfl B 119 i0 (.agg #[.int .i64 0,.int .i64 0,.int .i64 0]) 3 24 SqG.underlying109 hi iz0 iz1 iz2 rfl (by omega) e T.2.length (flat3 T.2) rfl (h.oe.alloc _) ⟨w.heap.size,0,none⟩ 1 1 [.int .i64 kind,.int .i64 wh,.int .i64 (wt:Int)] rfl rfl (World.news_of_block (cs:=#[.int .i64 kind,.int .i64 wh,.int .i64 (wt:Int)]) (t:=119) (fr:=(0,0)) (heap_alloc_new w _)) (by simp[Value.oneCell']) (by omega) (by unfold maxLen;omega) (by omega) (by simp;omega) (w.heap.size+1) (by simp) ?_)
  intro g6 k6 w6 hO6 hg6 hat6 hlt6
  obtain⟨⟨q3,qf⟩,hW7,hb7⟩:=h.ends hO6 hg6 hat6
  clear c3 c3' hO6 hg6 hat6
  go_wp2
  exact bodyPost_end (v:=.tuple #[]) (by simp[results,Tryz.results121,go_sem]) rfl ⟨rfl,⟨v,_,hW7⟩,hb7⟩
def zh6(f W:Nat)(cs:List (Int × Int))(a:Option Addr)(c B pb:Nat):Prop :=
 ∀(w:World) (v e:Value) (T:Tr) (x d:Int) (wt:Nat),Wk w B pb (W:Int) a c cs v e T->okS cs (x,d)->wt<=64->zay (W:Int) cs f x d wt->T.1.length+f * wt<=1000000->T.2.length+wt<=1000000 ->
  Calls (SqG.prog aLt) 93 #[.pointer (some ⟨pb,0,none⟩),.int .i64 x,.int .i64 d,.int .i64 (wt:Int)] w fun r w'=>r=.returned (.tuple #[])/\(∃ v2 e2,Wk w' B pb (W:Int) a c cs v2 e2 (za2 T (zaK (W:Int) cs f x d wt)))/\Below B w w'
set_option maxRecDepth 20000 in
theorem ziA{T:Tr}(S:Siz (W:Int) cs W H)(IH:zh6 (aLt:=aLt) f W cs a c B pb)(h:Wk w B pb (W:Int) a c cs v e T)(x d:Int)(hs:okS cs (x,d))(wt:Nat)(hw0:0<wt)(hw:wt<=64)(hE:lvE (W:Int) cs (zay (W:Int) cs f) x d wt)(hl1:T.1.length+f * wt<=1000000)(hl2:T.2.length+wt<=1000000) :
  Calls (SqG.prog aLt) 124 #[.pointer (some ⟨pb,0,none⟩),.int .i64 x,.int .i64 d,.int .i64 (wt:Int)] w fun r w'=>r=.returned (.tuple #[])/\(∃ v2 e2,Wk w' B pb (W:Int) a c cs v2 e2 (za2 T (lvT (W:Int) cs (zaK (W:Int) cs f) x d wt)))/\Below B w w':=by
 have c0:=h.c0
 have c1:=h.c1
 have hpb:=h.lt
 have hBp:=h.hB
 obtain⟨x2,d2,b2,ev⟩:∃ x2 d2 b2,zbJ (W:Int) cs x d=(x2,d2,b2):=⟨_,_,_,rfl⟩
 obtain⟨W',H',r',c',r2,c2',m,b,R⟩:=zq6 (W:Int) cs x d S.ok hs.1 hs.2
 have EV:Hid (zbJ (W:Int) cs x d=(x2,d2,b2)):=ev
 obtain⟨L,hL⟩:∃ L,lvT (W:Int) cs (zaK (W:Int) cs f) x d wt=L:=⟨_,rfl⟩
 rw[hL]
 have HT:Hid (L=if b2=true then zaK (W:Int) cs f x2 d wt else zdg 0 (zcE (W:Int) cs x d) wt):=by
  show _=_
  rw[<- hL]
  unfold lvT;rw[if_neg (by omega),ev]
 have HR:Hid (Ray (W:Int) cs x d W' H' r' c' r2 c2' m b):=R
 have HN:Hid (b2=true->okS cs (x2,d)/\zay (W:Int) cs f x2 d wt):=by
  intro q
  have q1:(zbJ (W:Int) cs x d).2.2=true:=by rw[ev];exact q
  have q2:=zbt q1
  rw[ev] at q2
  refine⟨⟨q2.1,q2.2.1⟩,?_⟩
  rcases hE with q3|q3|q3
  ·omega
  ·rw[q1] at q3;cases q3
  ·rw[ev] at q3;exact q3
 clear ev R hL
 go_enter SqG.func124,Tryz.ntmps124
 go_wp2_with fail
 refine(zlM HR.out a c _).mono ?_
 rintro r w1 ⟨rfl,hb1⟩
 rw[EV.out]
 unfold zby
 have hbX:Below w1.heap.size w1 (w1.alloc (.cells #[.int .i64 x2,.int .i64 d2] 144)):=bel
 have hW2:=(h.below hb1).below hbX
 have hB2:Below B w (w1.alloc (.cells #[.int .i64 x2,.int .i64 d2] 144)):=zaj (hb1.mono (by omega)) (by have:=hb1.size;omega) hbX
 have hz1:=hb1.size
 have y0:(w1.alloc (.cells #[.int .i64 x2,.int .i64 d2] 144)).cell? ⟨w1.heap.size,0,none⟩=some (.int .i64 x2):=by simp[go_sem]
 clear c0 c1 hb1 hbX
 have c0:=hW2.c0
 have c1:=hW2.c1
 cases b2
 ·obtain⟨o,eo⟩:∃ o,zcE (W:Int) cs x d=o:=⟨_,rfl⟩
  have e1:(cs.length:Int)=(W:Int) * (H:Int):=by rw[S.el];simp
  have HO:Hid (ofN W H x d (2 * (W+H))=o):=by
   show _=_
   rw[<- eo,zfc S x d (by rw[<- e1];exact hs.1) hs.2]
  have HL:Hid (L=zdg 0 o wt):=by
   show _=_
   rw[HT.out,if_neg (by simp),eo]
  clear eo e1
  go_wp2_with fail
  refine(zpT W H a cs.length c _ S.hW S.hH S.el x d).mono ?_
  rintro r w3 ⟨rfl,hb3⟩
  rw[HO.out]
  have hW3:=hW2.below hb3
  have hB3:Below B w w3:=hB2.trans (hb3.mono (by simp;omega))
  clear hb3 c0 c1 y0
  go_wp2_with fail
  refine(zfy hW3 0 o wt hw (by omega)).mono ?_
  rintro r w4 ⟨rfl,hW4,hb4⟩
  have hB4:=hB3.trans hb4
  go_wp2_with fail
  exact bodyPost_end (v:=.tuple #[]) (by simp[results,Tryz.results124,go_sem]) rfl ⟨rfl,by rw[HL.out];exact hW4,hB4⟩
 ·have HL:Hid (L=zaK (W:Int) cs f x2 d wt):=by
   show _=_
   rw[HT.out,if_pos rfl]
  obtain⟨hs2,hE2⟩:=HN.out rfl
  go_wp2_with fail
  refine(IH _ v e T x2 d wt hW2 hs2 hw hE2 hl1 hl2).mono ?_
  rintro r w4 ⟨rfl,hW4,hb4⟩
  have hB4:=hB2.trans hb4
  clear c0 c1 y0
  go_wp2_with fail
  exact bodyPost_ret (v:=.tuple #[]) (by simp[results,Tryz.results124,go_sem]) rfl ⟨rfl,by rw[HL.out];exact hW4,hB4⟩
theorem zhx{T:Tr}(S:Siz (W:Int) cs W H)(IH:zh6 (aLt:=aLt) f W cs a c B pb)(h:Wk w B pb (W:Int) a c cs v e T)(x d:Int)(hs:okS cs (x,d))(wt:Nat)(hw:wt<=64)(hE:lvE (W:Int) cs (zay (W:Int) cs f) x d wt)(hl1:T.1.length+f * wt<=1000000)(hl2:T.2.length+wt<=1000000) :
  Calls (SqG.prog aLt) 122 #[.pointer (some ⟨pb,0,none⟩),.int .i64 x,.int .i64 d,.int .i64 (wt:Int)] w fun r w'=>r=.returned (.tuple #[])/\(∃ v2 e2,Wk w' B pb (W:Int) a c cs v2 e2 (za2 T (lvT (W:Int) cs (zaK (W:Int) cs f) x d wt)))/\Below B w w':=by
 by_cases h0:wt=0
 ·subst h0
  have hT:za2 T (lvT (W:Int) cs (zaK (W:Int) cs f) x d 0)=T:=by unfold lvT;rw[if_pos rfl];exact zbP T
  rw[hT]
  clear hT
  go_enter SqG.func122,Tryz.ntmps122
  go_wp2
  exact bodyPost_end (v:=.tuple #[]) (by simp[results,Tryz.results122,go_sem]) rfl ⟨rfl,⟨v,e,h⟩,Below.refl _ _⟩
 ·have hp:(0:Int)<(wt:Int):=by omega
  go_enter SqG.func122,Tryz.ntmps122
  go_wp2_with fail
  refine(ziA S IH h x d hs wt (by omega) hw hE hl1 hl2).mono ?_
  rintro r w4 ⟨rfl,hW4,hb4⟩
  go_wp2_with fail
  exact bodyPost_end (v:=.tuple #[]) (by simp[results,Tryz.results122,go_sem]) rfl ⟨rfl,hW4,hb4⟩
theorem zbR(wd:Int)(cs:List (Int × Int))(f:Nat)(x d:Int):zaK wd cs f x d 0=([],[]):=by
 cases f with
 | zero=>rfl
 | succ f=>simp[zaK]
theorem zfn(a b:Tr):(za2 a b).1.length=a.1.length+b.1.length/\(za2 a b).2.length=a.2.length+b.2.length:=by simp[za2]
theorem zhl(k x:Int)(wt:Nat):(zdg k x wt).1.length=0/\(zdg k x wt).2.length<=wt/\(zdg k x wt).2.length<=1:=by
 unfold zdg
 by_cases h:wt=0
 ·simp[h]
 ·simp[h];omega
theorem zig{T:Tr}(h:Wk w B pb (W:Int) a c cs v e T)(x d:Int) :
  Calls (SqG.prog aLt) 93 #[.pointer (some ⟨pb,0,none⟩),.int .i64 x,.int .i64 d,.int .i64 ((0:Nat):Int)] w fun r w'=>r=.returned (.tuple #[])/\(∃ v2 e2,Wk w' B pb (W:Int) a c cs v2 e2 (za2 T (zaK (W:Int) cs f x d 0)))/\Below B w w':=by
 rw[zbR,zbP]
 go_enter SqG.func93,Tryz.ntmps93
 go_wp2
 exact bodyPost_ret (v:=.tuple #[]) (by simp[results,Tryz.results93,go_sem]) rfl ⟨rfl,⟨v,e,h⟩,Below.refl _ _⟩
set_option maxRecDepth 20000 in
theorem znb(S:Siz (W:Int) cs W H)(IH:zh6 (aLt:=aLt) f W cs a c B pb):zh6 (aLt:=aLt) (f+1) W cs a c B pb:=by
 intro w v e T x d wt h hs hw hE hl1 hl2
 by_cases h0:wt=0
 ·subst h0
  exact zig h x d
 obtain⟨i0,hi,iz0,iz1,iz2⟩:=info_parts (zir (aLt:=aLt))
 have hpb:=h.lt
 have hBp:=h.hB
 obtain⟨X,rfl⟩:=Int.eq_ofNat_of_zero_le hs.1.1
 have hX:X<cs.length:=by have:=hs.1.2;simp only at this;omega
 have hd:=hs.2
 simp only at hd
 obtain⟨k,hk⟩:∃ k,kd cs (X:Int)=k:=⟨_,rfl⟩
 obtain⟨hf,ehf⟩:∃ hf:Nat,wt / 2=hf:=⟨_,rfl⟩
 obtain⟨m1,em1⟩:∃ m:Nat,wt - hf=m:=⟨_,rfl⟩
 obtain⟨m2,em2⟩:∃ m:Nat,wt - 2 * hf=m:=⟨_,rfl⟩
 obtain⟨tk,etk⟩:∃ t,zaQ k d=t:=⟨_,rfl⟩
 have htk:0<=tk/\tk<=3:=by rw[<- etk];exact zdI hd
 have q1:(wt:Int).tdiv 2=(hf:Int):=by rw[Int.tdiv_eq_ediv_of_nonneg (by omega)];omega
 have q2:(wt:Int) / 2=(hf:Int):=by omega
 have q3:(wt:Int) - (hf:Int)=(m1:Int):=by omega
 have q4:(wt:Int) - 2 * (hf:Int)=(m2:Int):=by omega
 have hhf:hf<=64/\m1<=64/\m2<=1:=by omega
 have hfl:f * hf+f * hf<=f * wt:=by rw[<- Nat.mul_add];exact Nat.mul_le_mul_left f (by omega)
 have hfs:(f+1) * wt=f * wt+wt:=Nat.succ_mul f wt
 obtain⟨L,hL⟩:∃ L,za2 T (zaK (W:Int) cs (f+1) (X:Int) d wt)=L:=⟨_,rfl⟩
 rw[hL]
 have HL0:Hid (L=za2 (T.1++[((X:Int),d,(wt:Int))],T.2) (zbd (W:Int) cs (zaK (W:Int) cs f) (X:Int) d wt)):=by
  show _=_
  rw[<- hL]
  simp only[zaK]
  rw[if_neg h0]
  simp[za2]
 have HE:Hid (zay (W:Int) cs (f+1) (X:Int) d wt):=hE
 have HK:Hid (kd cs (X:Int)=k):=hk
 have HF:Hid (wt / 2=hf):=ehf
 have HM1:Hid (wt - hf=m1):=em1
 have HM2:Hid (wt - 2 * hf=m2):=em2
 have HTK:Hid (zaQ k d=tk):=etk
 have HFL:Hid (f * hf+f * hf<=f * wt):=hfl
 have HFS:Hid ((f+1) * wt=f * wt+wt):=hfs
 have HL1:Hid (T.1.length+(f+1) * wt<=1000000):=hl1
 have hS1:okS cs ((X:Int),d):=hs
 have hS2:okS cs ((X:Int),tk):=⟨hs.1,htk⟩
 have c2:=h.c2
 have c2':(w.alloc (.cells #[.int .i64 (X:Int),.int .i64 d,.int .i64 (wt:Int)] 122)).cell? ⟨pb,2,none⟩=some v:=zab ((Below.refl _ _).alloc (Nat.le_refl _) _) c2
 have hw1:((wt:Int) == 0)=false:=by simp;omega
 have hT1:T.1.length<=1000000:=by omega
 clear hL hE hk ehf em1 em2 etk hfl hfs hl1 hs
 go_enter SqG.func93,Tryz.ntmps93
 go_wp2_with (at_builtin;refine wpList_append_lies _ rfl _ _ _ rfl B 122 i0 (.agg #[.int .i64 0,.int .i64 0,.int .i64 0]) 3 24 SqG.underlying108 hi iz0 iz1 iz2 rfl (by omega) v T.1.length (flat3 T.1) rfl (h.ov.alloc _) ⟨w.heap.size,0,none⟩ 1 1 [.int .i64 (X:Int),.int .i64 d,.int .i64 (wt:Int)] rfl rfl (World.news_of_block (cs:=#[.int .i64 (X:Int),.int .i64 d,.int .i64 (wt:Int)]) (t:=122) (fr:=(0,0)) (heap_alloc_new w _)) (by simp[Value.oneCell']) (by omega) (by unfold maxLen;omega) (by omega) (by simp;omega) (w.heap.size+1) (by simp) ?_)
 intro g6 k6 w6 hO6 hg6 hat6 hlt6
 obtain⟨⟨r2,rf⟩,hW7,hb7⟩:=h.visit hO6 hg6 hat6
 have c1:=hW7.c1
 obtain⟨b,off,ea,hcell⟩:∃ b off,a=some ⟨b,off,none⟩/\(w6.setCell ⟨pb,2,none⟩ (.slice (some ⟨g6,0,none⟩) (T.1.length+1) k6)).cell? ⟨b,off+X * 2,none⟩=some (.int .i64 k):=by
  rcases hW7.hC with q|⟨b,off,q,_,hc⟩
  ·rw[q] at hX;simp at hX
  ·refine⟨b,off,q,?_⟩
   rw[(hc X hX).1,<- HK.out]
   simp[kd]
 subst ea
 clear c2 c2' hO6 hg6 hat6
 have hlt:(X:Int)<(cs.length:Int):=by omega
 by_cases k1:k=1
 ·subst k1
  have HL:Hid (L=za2 (T.1++[((X:Int),d,(wt:Int))],T.2) (zdg 1 (X:Int) wt)):=by
   show _=_
   rw[HL0.out];unfold zbd;rw[HK.out,if_pos rfl]
  go_wp2_with fail
  refine(zfy hW7 1 (X:Int) wt hw (by show T.2.length<=_;omega)).mono ?_
  rintro r w8 ⟨rfl,⟨v_w8,e_w8,hW_w8⟩,hb_w8⟩
  have hB_w8:=hb7.trans hb_w8
  go_wp2_with fail
  exact bodyPost_end (v:=.tuple #[]) (by simp[results,Tryz.results93,go_sem]) rfl ⟨rfl,⟨_,_,by rw[HL.out];exact hW_w8⟩,hB_w8⟩
 by_cases k7:k=7
 ·subst k7
  have HL:Hid (L=za2 (T.1++[((X:Int),d,(wt:Int))],T.2) (zdg 2 (X:Int) wt)):=by
   show _=_
   rw[HL0.out];unfold zbd;rw[HK.out,if_neg (by omega),if_pos rfl]
  go_wp2_with fail
  refine(zfy hW7 2 (X:Int) wt hw (by show T.2.length<=_;omega)).mono ?_
  rintro r w8 ⟨rfl,⟨v_w8,e_w8,hW_w8⟩,hb_w8⟩
  have hB_w8:=hb7.trans hb_w8
  go_wp2_with fail
  exact bodyPost_end (v:=.tuple #[]) (by simp[results,Tryz.results93,go_sem]) rfl ⟨rfl,⟨_,_,by rw[HL.out];exact hW_w8⟩,hB_w8⟩
 by_cases k6':k=6
 ·subst k6'
  have HL:Hid (L=za2 (T.1++[((X:Int),d,(wt:Int))],T.2) (za2 (zdg 3 (X:Int) m1) (lvT (W:Int) cs (zaK (W:Int) cs f) (X:Int) d hf))):=by
   show _=_
   rw[HL0.out];unfold zbd;rw[HK.out,if_neg (by omega),if_neg (by omega),if_pos rfl,HF.out,HM1.out]
  have hE1:lvE (W:Int) cs (zay (W:Int) cs f) (X:Int) d hf:=by
   rcases HE.out with q|q|⟨_,q⟩|⟨q,_⟩|⟨q,_⟩
   ·omega
   ·rw[HK.out] at q;omega
   ·rw[HF.out] at q;exact q
   ·rw[HK.out] at q;omega
   ·rw[HK.out] at q;exact absurd rfl q.2.2.1
  have z1:=zhl 3 (X:Int) m1
  have z2:=zfn (T.1++[((X:Int),d,(wt:Int))],T.2) (zdg 3 (X:Int) m1)
  simp only[List.length_append,List.length_cons,List.length_nil] at z2
  have y1:=HFL.out
  have y2:=HFS.out
  have y3:=HL1.out
  clear y1 y2 y3 z1 z2
  go_wp2_with fail
  refine(zfy hW7 3 (X:Int) m1 hhf.2.1 (by show T.2.length<=_;omega)).mono ?_
  rintro r w8 ⟨rfl,⟨v_w8,e_w8,hW_w8⟩,hb_w8⟩
  have hB_w8:=hb7.trans hb_w8
  have z1:=zhl 3 (X:Int) m1
  have z2:=zfn (T.1++[((X:Int),d,(wt:Int))],T.2) (zdg 3 (X:Int) m1)
  simp only[List.length_append,List.length_cons,List.length_nil] at z2
  have y1:=HFL.out
  have y2:=HFS.out
  have y3:=HL1.out
  go_wp2_with fail
  refine(zhx S IH hW_w8 (X:Int) d hS1 hf hhf.1 hE1 (by omega) (by have:=HM1.out;omega)).mono ?_
  rintro r w9 ⟨rfl,⟨v_w9,e_w9,hW_w9⟩,hb_w9⟩
  have hB_w9:=hB_w8.trans hb_w9
  go_wp2_with fail
  exact bodyPost_end (v:=.tuple #[]) (by simp[results,Tryz.results93,go_sem]) rfl ⟨rfl,⟨_,_,by rw[HL.out,<- zbU];exact hW_w9⟩,hB_w9⟩
 by_cases k45:k=4\/k=5
 ·have HL:Hid (L=za2 (T.1++[((X:Int),d,(wt:Int))],T.2) (za2 (zdg 3 (X:Int) m2) (za2 (lvT (W:Int) cs (zaK (W:Int) cs f) (X:Int) d hf) (lvT (W:Int) cs (zaK (W:Int) cs f) (X:Int) tk hf)))):=by
   show _=_
   rw[HL0.out];unfold zbd;rw[HK.out,if_neg (by omega),if_neg (by omega),if_neg (by omega),if_pos k45,HF.out,HM2.out,HTK.out]
  have hE12:lvE (W:Int) cs (zay (W:Int) cs f) (X:Int) d hf/\lvE (W:Int) cs (zay (W:Int) cs f) (X:Int) tk hf:=by
   rcases HE.out with q|q|⟨q,_⟩|⟨_,q,q2⟩|⟨q,_⟩
   ·omega
   ·rw[HK.out] at q;omega
   ·rw[HK.out] at q;omega
   ·rw[HF.out] at q q2;rw[HK.out,HTK.out] at q2;exact⟨q,q2⟩
   ·rw[HK.out] at q;rcases k45 with z|z;exact absurd z q.2.2.2.1;exact absurd z q.2.2.2.2
  have l1:=zkR (zhE (W:Int) cs f) (X:Int) d hf
  rcases k45 with rfl|rfl
  all_goals
   go_wp2_with fail
   refine(zfy hW7 3 (X:Int) m2 (by omega) (by show T.2.length<=_;omega)).mono ?_
   rintro r w8 ⟨rfl,⟨v_w8,e_w8,hW_w8⟩,hb_w8⟩
   have hB_w8:=hb7.trans hb_w8
   have z1:=zhl 3 (X:Int) m2
   have z2:=zfn (T.1++[((X:Int),d,(wt:Int))],T.2) (zdg 3 (X:Int) m2)
   simp only[List.length_append,List.length_cons,List.length_nil] at z2
   have y1:=HFL.out
   have y2:=HFS.out
   have y3:=HL1.out
   go_wp2_with fail
   refine(zhx S IH hW_w8 (X:Int) d hS1 hf hhf.1 hE12.1 (by omega) (by have:=HM2.out;omega)).mono ?_
   rintro r w9 ⟨rfl,⟨v_w9,e_w9,hW_w9⟩,hb_w9⟩
   have hB_w9:=hB_w8.trans hb_w9
   have z3:=zfn (za2 (T.1++[((X:Int),d,(wt:Int))],T.2) (zdg 3 (X:Int) m2)) (lvT (W:Int) cs (zaK (W:Int) cs f) (X:Int) d hf)
   go_wp2_with fail
   refine(zc6 _ _ _).mono ?_
   rintro r w' ⟨rfl,rfl⟩
   rw[HTK.out]
   go_wp2_with fail
   refine(zhx S IH hW_w9 (X:Int) tk hS2 hf hhf.1 hE12.2 (by omega) (by have:=HM2.out;omega)).mono ?_
   rintro r w10 ⟨rfl,⟨v_w10,e_w10,hW_w10⟩,hb_w10⟩
   have hB_w10:=hB_w9.trans hb_w10
   go_wp2_with fail
   exact bodyPost_end (v:=.tuple #[]) (by simp[results,Tryz.results93,go_sem]) rfl ⟨rfl,⟨_,_,by rw[HL.out,<- zbU,<- zbU];exact hW_w10⟩,hB_w10⟩
 ·have HL:Hid (L=za2 (T.1++[((X:Int),d,(wt:Int))],T.2) (lvT (W:Int) cs (zaK (W:Int) cs f) (X:Int) tk wt)):=by
   show _=_
   rw[HL0.out];unfold zbd;rw[HK.out,if_neg k1,if_neg k7,if_neg k6',if_neg k45,HTK.out]
  have hE1:lvE (W:Int) cs (zay (W:Int) cs f) (X:Int) tk wt:=by
   rcases HE.out with q|q|⟨q,_⟩|⟨q,_⟩|⟨_,q⟩
   ·omega
   ·rw[HK.out] at q;rcases q with z|z;exact absurd z k1;exact absurd z k7
   ·rw[HK.out] at q;exact absurd q k6'
   ·rw[HK.out] at q;exact absurd q k45
   ·rw[HK.out,HTK.out] at q;exact q
  have n1:(k == 1)=false:=by simp[k1]
  have n7:(k == 7)=false:=by simp[k7]
  have n6:(k == 6)=false:=by simp[k6']
  have n4:(k == 4)=false:=by simp;exact fun q=>k45 (Or.inl q)
  have n5:(k == 5)=false:=by simp;exact fun q=>k45 (Or.inr q)
  clear k1 k7 k6' k45
  go_wp2_with fail
  refine(zc6 _ _ _).mono ?_
  rintro r w' ⟨rfl,rfl⟩
  rw[HTK.out]
  have y2:=HFS.out
  have y3:=HL1.out
  go_wp2_with fail
  refine(ziA S IH hW7 (X:Int) tk hS2 wt (by omega) hw hE1 (by simp only[List.length_append,List.length_cons,List.length_nil];omega) (by show T.2.length+wt<=_;omega)).mono ?_
  rintro r w8 ⟨rfl,⟨v_w8,e_w8,hW_w8⟩,hb_w8⟩
  have hB_w8:=hb7.trans hb_w8
  go_wp2_with fail
  exact bodyPost_end (v:=.tuple #[]) (by simp[results,Tryz.results93,go_sem]) rfl ⟨rfl,⟨_,_,by rw[HL.out];exact hW_w8⟩,hB_w8⟩
theorem zpn(S:Siz (W:Int) cs W H):∀ f,zh6 (aLt:=aLt) f W cs a c B pb:=by
 intro f
 induction f with
 | zero =>
  intro w v e T x d wt h hs hw hE _ _
  have q:wt=0:=hE
  subst q
  exact zig h x d
 | succ f ih=>exact znb S ih
def zaU(wd:Int)(cs:List (Int × Int))(k:Int):Tr:=if inS wd cs k=true then zaK wd cs 707 (zb0 wd cs k).1 (zb0 wd cs k).2.1 64 else ([],[])
theorem ziP{g:Nat}{t:TypeId}(hB:B<=g)(hg:w.heap[g]?=some (.cells #[] t (0,0))):w.ownsRow B t 3 (.slice (some ⟨g,0,none⟩) 0 0) 0 [] :=
 ⟨rfl,Or.inr ⟨g,0,#[],rfl,hB,hg,Nat.le_refl _,by unfold maxLen;omega,rfl,rfl⟩⟩
theorem zcX(w:World)(o:Obj)(n:Nat)(hn:w.heap.size=n):(w.alloc o).heap[n]?=some o:=by
 subst hn
 exact heap_alloc_new w o
theorem zqQ(w:World)(wd:Int)(a:Option Addr)(cap:Nat)(cs:List (Int × Int))(h:zak w a cs)(ha:∀ b off,a=some ⟨b,off,none⟩->b<w.heap.size) :
  Wk ((((w.alloc (.cells #[.int .i64 wd,.slice a cs.length cap] 33)).alloc (.cells #[] 122)).alloc (.cells #[] 119)).alloc (.cells #[.int .i64 wd,.slice a cs.length cap,.slice (some ⟨w.heap.size+1,0,none⟩) 0 0,.slice (some ⟨w.heap.size+1+1,0,none⟩) 0 0] 111)) w.heap.size (w.heap.size+1+1+1) wd a cap cs
   (.slice (some ⟨w.heap.size+1,0,none⟩) 0 0) (.slice (some ⟨w.heap.size+1+1,0,none⟩) 0 0) ([],[]):=by
 obtain⟨u1,e1⟩:∃ u,u=w.alloc (.cells #[.int .i64 wd,.slice a cs.length cap] 33):=⟨_,rfl⟩
 obtain⟨u2,e2⟩:∃ u,u=u1.alloc (.cells #[] 122):=⟨_,rfl⟩
 obtain⟨u3,e3⟩:∃ u,u=u2.alloc (.cells #[] 119):=⟨_,rfl⟩
 obtain⟨u4,e4⟩:∃ u,u=u3.alloc (.cells #[.int .i64 wd,.slice a cs.length cap,.slice (some ⟨w.heap.size+1,0,none⟩) 0 0,.slice (some ⟨w.heap.size+1+1,0,none⟩) 0 0] 111):=⟨_,rfl⟩
 have s1:u1.heap.size=w.heap.size+1:=by rw[e1];simp
 have s2:u2.heap.size=w.heap.size+1+1:=by rw[e2];simp[s1]
 have s3:u3.heap.size=w.heap.size+1+1+1:=by rw[e3];simp[s2]
 rw[<- e1,<- e2,<- e3,<- e4]
 have b1:Below w.heap.size w u1:=by rw[e1];exact(Below.refl _ _).alloc (Nat.le_refl _) _
 have b2:Below u1.heap.size u1 u2:=by rw[e2];exact(Below.refl _ _).alloc (Nat.le_refl _) _
 have b3:Below u2.heap.size u2 u3:=by rw[e3];exact(Below.refl _ _).alloc (Nat.le_refl _) _
 have b4:Below u3.heap.size u3 u4:=by rw[e4];exact(Below.refl _ _).alloc (Nat.le_refl _) _
 have bT:Below w.heap.size w u4:=zaj (zaj (zaj b1 (by omega) b2) (by omega) b3) (by omega) b4
 have hv:u4.heap[w.heap.size+1]?=some (.cells #[] 122 (0,0)):=by
  rw[b4.block _ (by omega),b3.block _ (by omega),e2]
  exact zcX u1 _ _ s1
 have he:u4.heap[w.heap.size+1+1]?=some (.cells #[] 119 (0,0)):=by
  rw[b4.block _ (by omega),e3]
  exact zcX u2 _ _ s2
 have hx:u4.heap[w.heap.size+1+1+1]?=some (.cells #[.int .i64 wd,.slice a cs.length cap,.slice (some ⟨w.heap.size+1,0,none⟩) 0 0,.slice (some ⟨w.heap.size+1+1,0,none⟩) 0 0] 111 (0,0)):=by
  rw[e4]
  exact zcX u3 _ _ s3
 exact⟨by rw[cell_of_row _ _ _ _ _ _ hx];rfl,by rw[cell_of_row _ _ _ _ _ _ hx];rfl,by rw[cell_of_row _ _ _ _ _ _ hx];rfl,by rw[cell_of_row _ _ _ _ _ _ hx];rfl,
  frozen_of_row _ _ _ _ _ hx,frozen_of_row _ _ _ _ _ hx,h.below bT,ha,ziP (by omega) hv,ziP (by omega) he,by omega,
  by simp[Value.ownBlock],by simp[Value.ownBlock],by simp[Value.ownBlock]⟩
set_option maxRecDepth 20000 in
theorem znO(S:Siz wd cs W H)(a:Option Addr)(cap:Nat)(w:World)(h:zak w a cs)(k:Int)(hk:inS wd cs k=true) :
  Calls (SqG.prog aLt) 75 #[.agg #[.int .i64 wd,.slice a cs.length cap],.int .i64 k] w fun r w'=>∃ pb v e,r=.returned (.pointer (some ⟨pb,0,none⟩))/\Wk w' w.heap.size pb wd a cap cs v e (zaU wd cs k)/\Below w.heap.size w w':=by
 obtain rfl:=S.ew
 have hW:=S.hW
 have hH:=S.hH
 have hpos:1<=cs.length:=by rw[S.el];exact Nat.mul_pos hW.1 hH.1
 have ha:∀ b off,a=some ⟨b,off,none⟩->b<w.heap.size:=by
  intro b off e2
  rcases h with q0|⟨b',off',e,hbl,_⟩
  ·rw[q0] at hpos;simp at hpos
  ·rw[e] at e2
   simp only[Option.some.injEq,Addr.mk.injEq] at e2
   omega
 obtain⟨L,hL⟩:∃ L,zaU (W:Int) cs k=L:=⟨_,rfl⟩
 rw[hL]
 have hk2:=hk
 simp only[inS,decide_eq_true_eq,S.em] at hk2
 obtain⟨K,rfl⟩:=Int.eq_ofNat_of_zero_le hk2.1
 obtain⟨x,d,hs⟩:∃ x d,zdq (W:Int) (H:Int) (K:Int)=(x,d):=⟨_,_,rfl⟩
 have hr:zb0 (W:Int) cs (K:Int)=(x,d,true):=by rw[zd2 S K (by omega),hs]
 obtain⟨hok,hE⟩:=zcV hr
 have HL:Hid (zaK (W:Int) cs 707 x d 64=L):=by
  show _=_
  rw[<- hL]
  unfold zaU
  rw[if_pos hk,hr]
 have HSR:Hid (zdq (W:Int) (H:Int) (K:Int)=(x,d)):=hs
 have hK19:0<=(K:Int)/\(K:Int)<=19:=by omega
 clear hL hk hk2 hs hr
 go_enter SqG.func75,Tryz.ntmps75
 go_wp2_with fail
 obtain⟨u,hu⟩:∃ u,u=(((w.alloc (.cells #[.int .i64 (W:Int),.slice a cs.length cap] 33)).alloc (.cells #[] 122)).alloc (.cells #[] 119)).alloc (.cells #[.int .i64 (W:Int),.slice a cs.length cap,.slice (some ⟨w.heap.size+1,0,none⟩) 0 0,.slice (some ⟨w.heap.size+1+1,0,none⟩) 0 0] 111):=⟨_,rfl⟩
 have hW0:=zqQ w (W:Int) a cap cs h ha
 have hB0:Below w.heap.size w u:=by rw[hu];exact bel
 rw[<- hu] at hW0 ⊢
 clear hu
 refine(ziz W H a cs.length cap _ hW hH S.el (K:Int) hK19 x d HSR.out).mono ?_
 rintro r w1 ⟨rfl,hb1⟩
 have hbX:Below w1.heap.size w1 (w1.alloc (.cells #[.int .i64 x,.int .i64 d] 144)):=bel
 have hz1:=hb1.size
 have hW2:=(hW0.below hb1).below hbX
 have hB2:=zaj (zaj hB0 hB0.size hb1) (by have:=hB0.size;omega) hbX
 have y0:(w1.alloc (.cells #[.int .i64 x,.int .i64 d] 144)).cell? ⟨w1.heap.size,0,none⟩=some (.int .i64 x):=by simp[go_sem]
 have y1:(w1.alloc (.cells #[.int .i64 x,.int .i64 d] 144)).cell? ⟨w1.heap.size,1,none⟩=some (.int .i64 d):=by simp[go_sem]
 clear hb1 hbX hW0 hB0
 go_wp2_with fail
 refine(zpn S 707 _ _ _ ([],[]) x d 64 hW2 hok (by omega) hE (by simp) (by simp)).mono ?_
 rintro r w3 ⟨rfl,⟨v2,e2,hW3⟩,hb3⟩
 have hT:za2 ([],[]) (zaK (W:Int) cs 707 x d 64)=L:=by rw[HL.out];simp[za2]
 rw[hT] at hW3
 have hB3:=hB2.trans hb3
 clear y0 y1 hT
 go_wp2_with fail
 go_ret
 exact⟨_,v2,e2,rfl,hW3,hB3⟩
