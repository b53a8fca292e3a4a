/- Part. -/
import Derived.Test.YtefakaeblcafmaaGreatNAj
import Derived.Test.YtefakaeblcafmaaGreatNAr
import Derived.Test.YtefakaeblcafmaaGreatNAt
set_option maxHeartbeats 4000000
set_option maxRecDepth 100000
set_option linter.unusedVariables false
namespace Go.Proofs.YtefakaeblcafmaaGreat
variable{wd:Int}{gs xs:List (Int × Int)}{fs:List (List Int)}{l0:List (Nat × Obj)}{B L N P gb n rb:Nat}{p:Nat × Obj}{K Kc:Nat->Prop}{a ga ga':Option Addr}{v:Value}{w w' w1 wr:World}
open Tryz
section
open Go
noncomputable abbrev SqN.prog:Program:=SqG.prog Sq.altN
end
namespace Sp
variable{aLt:Nat->Func->Func}
open Go.RowKit
def zcL(w:World)(a:Option Addr)(xs:List Int):Prop:=xs=[]\/∃ b off,a=some ⟨b,off,none⟩/\b<w.heap.size/\∀ i,i<xs.length->w.cell? ⟨b,off+i,none⟩=some (.int .i64 (xs.getD i 0))
theorem zcL.below{xs:List Int}(h:zcL w a xs)(hb:Below w.heap.size w w'):zcL w' a xs:=by
 rcases h with h|⟨b,off,rfl,hbl,hc⟩
 ·exact Or.inl h
 ·exact Or.inr ⟨b,off,rfl,nll hbl hb.size,fun i hi=>zad hb (hc i hi)⟩
theorem zdI{xs:List Int}(h:zcu w B v xs):∃ a cap,v=.slice a xs.length cap/\zcL w a xs:=by
 obtain⟨h1,h2⟩:=h
 rcases h2 with ⟨rfl,h2⟩|⟨g,cap,cur,rfl,hg,hh,_,_,_,ht⟩
 ·exact⟨none,0,by rw[h2],Or.inl (List.length_eq_zero_iff.1 h2)⟩
 ·refine⟨_,cap,rfl,Or.inr ⟨g,0,rfl,(gei hh).1,fun i hi=>?_⟩⟩
  simp only[Nat.zero_add]
  have e:(za3 xs)[i]?=some (.int .i64 (xs.getD i 0)):=by simp[za3,List.getElem?_eq_getElem hi]
  rw[cell_of_row w g i cur 3 (0,0) hh,<- e,<- ht,List.getElem?_take_of_lt qg]
  simp
theorem zcL.at{w:World}{a:Option Addr}{xs:List Int}(h:zcL w a xs){i:Nat}(hi:i<xs.length):∃ b off,a=some ⟨b,off,none⟩/\b<w.heap.size/\w.cell? ⟨b,off+i,none⟩=some (.int .i64 (xs.getD i 0)):=by
 rcases h with q|⟨b,off,e,hb,hc⟩
 ·rw[q] at hi;simp at hi
 ·exact⟨b,off,e,hb,hc i hi⟩
theorem zbW{e:TypeId}{s:Nat}{xs:List Value}(h:w.ownsRow B e s v n xs)(hb:Below w.heap.size w w'):w'.ownsRow B e s v n xs:=by
 refine⟨h.1,?_⟩
 rcases h.2 with hn|⟨g,cap,cur,hv,hB,hg,rest⟩
 ·exact .inl hn
 ·exact .inr ⟨g,cap,cur,hv,hB,by rw[hb.block g (gei hg).1];exact hg,rest⟩
end Sp
namespace Sp
open Go.RowKit
attribute [local go_sem ↓] Go.wp_at_zero Go.wp_at_succ
abbrev ze6(wd:Int)(cs:List (Int × Int))(M:Nat):Obj:=.cells (Array.ofFn fun k:Fin M=>.int .i64 (za0 wd cs ((k:Nat):Int))) 3
end Sp
section
open Go Go.Conc Go.ConcN Go.RowKit Go.Conc.Lib Go.ConcR.Gen Go.ConcN.Gen
open Go.ConcR (KK wgBlock WgAt stA smA rd wr mk Payload Aside2 DC0)
theorem zd9:zeR=false:=rfl
def rng(R:BR):Nat->Prop:=fun c=>∃ b,R b c
theorem zbM.snd{R:BR}{a c:Addr}(h:zbM R a c):zbM (zeA (rng R)) c c:=⟨⟨rfl,_,h.1⟩,rfl,rfl⟩
theorem zaj.slice_fst{R:BR}{a':Addr}{c:Nat}(h:zaj R (.slice ga n c) (.slice (some a') n c))(hn:0<n):∃ a,ga=some a/\zbM R a a':=by
 cases h with
 | slice _ _ h=>exact⟨_,rfl,h⟩
 | empty _ _=>omega
theorem zeh{R:BR}{m:Nat}(h:zaj R (.slice ga n m) (.slice ga' n m)):zaj (zeA (rng R)) (.slice ga' n m) (.slice ga' n m):=by
 cases h with
 | slice _ _ h=>exact .slice _ _ h.snd
 | nilSlice _ _=>exact .nilSlice _ _
 | empty _ _=>exact .empty _ _
theorem zlJ{R:BR}(h:za9 N R w w'):Closed (rng R) w':=by
 rintro c ⟨b,hb⟩
 obtain⟨o,o',_,e2,ho⟩:=h.blk b c hb
 cases ho with
 | cells hr _ _=>exact .inl ⟨_,_,_,e2,zd9⟩
 | other hj _ =>
  cases hj with
  | map _=>exact .inr ⟨zd9,.inr ⟨_,_,e2⟩⟩
  | hid=>exact .inr ⟨zd9,.inr ⟨_,_,e2⟩⟩
  | number ha=>exact .inr ⟨zd9,.inl ⟨_,_,e2,ha.snd⟩⟩
open Classical in
noncomputable def held(K:Nat->Prop)(w:World):List (Nat × Obj):=(List.range w.heap.size).filterMap fun c=>if K c then (w.heap[c]?).map fun o=>(c,o) else none
theorem zbn :p∈held K w ↔ K p.1/\w.heap[p.1]?=some p.2:=by
 classical
 unfold held
 simp only[List.mem_filterMap,List.mem_range]
 constructor
 ·rintro⟨c,_,h⟩
  split at h
  ·rename_i hk
   obtain⟨o,ho,rfl⟩:=Option.map_eq_some_iff.1 h
   exact⟨hk,ho⟩
  ·cases h
 ·rintro⟨hk,ho⟩
  refine⟨p.1,(gei ho).1,?_⟩
  rw[if_pos hk,ho]
  rfl
theorem zm9(K:Nat->Prop)(w:World):Hp (held K w) w:=fun _ h=>(zbn.1 h).2
theorem zjj(h:Closed K w)(hp:Hp (held K w) w1):Closed K w1:=fun b hb=>by
 rcases h b hb with ⟨c,e,f,hx,hr⟩|⟨ho,⟨a,l,hx,hr⟩|⟨c,n,hx⟩⟩
 ·exact .inl ⟨c,e,f,hp (b,_) (zbn.2 ⟨hb,hx⟩),hr⟩
 ·exact .inr ⟨ho,.inl ⟨a,l,hp (b,_) (zbn.2 ⟨hb,hx⟩),hr⟩⟩
 ·exact .inr ⟨ho,.inr ⟨c,n,hp (b,_) (zbn.2 ⟨hb,hx⟩)⟩⟩
theorem zmK{cs:List (Int × Int)}(h:Sp.zaf w a cs)(hb:∀ b off,a=some ⟨b,off,none⟩->w1.heap[b]?=w.heap[b]?)(τ:Nat->Question->Nat)(d:Nat):Sp.zaf (w1.frz.tp τ d) a cs:=by
 rcases h with h|⟨b,off,rfl,hl,hc⟩
 ·exact .inl h
 ·have e:=hb b off rfl
  have hc1:∀ i,w1.cell? ⟨b,i,none⟩=w.cell? ⟨b,i,none⟩:=fun i=>by simp only[World.cell?,e]
  have hc2:∀ i (x:Int),w.cell? ⟨b,i,none⟩=some (.int .i64 x)->(w1.frz.tp τ d).cell? ⟨b,i,none⟩=some (.int .i64 x):=fun i x h=>by
   have q:=zkp w1 ⟨b,i,none⟩
   rw[hc1,h] at q
   exact q
  refine .inr ⟨b,off,rfl,?_,fun i hi=>⟨hc2 _ _ (hc i hi).1,hc2 _ _ (hc i hi).2⟩⟩
  show b<w1.frz.heap.size
  rw[zd2]
  rw[Array.getElem?_eq_getElem hl] at e
  exact(gei e).1
theorem zle(h:∀ j,j<n->∃ b off c e z x y,ga=some ⟨b,off,none⟩/\w.heap[b]?=some (.cells c e z)/\c[off+j * 2]?=some (.int .i64 x)/\c[off+j * 2+1]?=some (.int .i64 y)) :
  ∃ cs:List (Int × Int),cs.length=n/\Sp.zaf w ga cs:=by
 classical
 have hx:∀ j:Fin n,∃ p:Int × Int,∃ b off c e z,ga=some ⟨b,off,none⟩/\w.heap[b]?=some (.cells c e z)/\c[off+j.val * 2]?=some (.int .i64 p.1)/\c[off+j.val * 2+1]?=some (.int .i64 p.2):=fun j=>by
  obtain⟨b,off,c,e,z,x,y,h1,h2,h3,h4⟩:=h j.val j.isLt
  exact⟨(x,y),b,off,c,e,z,h1,h2,h3,h4⟩
 obtain⟨f,hf⟩:=Classical.axiomOfChoice hx
 refine⟨List.ofFn f,qk,?_⟩
 by_cases hn:n=0
 ·subst hn;exact .inl qk
 ·obtain⟨b,off,c,e,z,h1,h2,_,_⟩:=hf ⟨0,qg⟩
  refine .inr ⟨b,off,h1,(gei h2).1,fun i hi=>?_⟩
  have hi':i<n:=by simpa using hi
  obtain⟨b1,off1,c1,e1,z1,q1,q2,q3,q4⟩:=hf ⟨i,hi'⟩
  rw[h1] at q1
  cases q1
  rw[h2] at q2
  cases q2
  have eg:(List.ofFn f).getD i (0,0)=f ⟨i,hi'⟩:=by simp[List.getD,hi']
  rw[eg]
  exact⟨by simp only[World.cell?,h2];exact q3,by simp only[World.cell?,h2];exact q4⟩
theorem zi6{R:BR}(hw:za9 N R w w'){m:Nat}(hv:zaj R (.slice ga n m) (.slice ga' n m)){cs:List (Int × Int)}(hn:cs.length<=n)(h:Sp.zaf w ga cs):Sp.zaf w' ga' cs:=by
 rcases h with h|⟨b,off,rfl,hl,hc⟩
 ·exact .inl h
 ·cases hv with
  | slice _ _ ha =>
   rename_i ad'
   obtain⟨b',off',sp'⟩:=ad'
   obtain⟨h1,h2,h3⟩:=ha
   simp only at h1 h2 h3
   subst h2 h3
   refine .inr ⟨b',off,rfl,(hw.lt h1).2,fun i hi=>?_⟩
   obtain⟨c1,c2⟩:=hc i hi
   obtain⟨v1,e1,r1⟩:=hw.cell (a:=⟨b,off+i * 2,none⟩) (c:=⟨b',off+i * 2,none⟩) ⟨h1,rfl,rfl⟩ c1
   obtain⟨v2,e2,r2⟩:=hw.cell (a:=⟨b,off+i * 2+1,none⟩) (c:=⟨b',off+i * 2+1,none⟩) ⟨h1,rfl,rfl⟩ c2
   rw[e1,e2]
   exact⟨congrArg some (zcG r1),congrArg some (zcG r2)⟩
  | empty _ _=>exact .inl (List.eq_nil_of_length_eq_zero qg)
instance SqP.twin:zaA SqP.prog Tryz.prog:=Sq.okP.twin3
instance SqP.self:zaA SqP.prog SqP.prog:=Sq.okP.self
instance SqN.twin:zaA SqN.prog Tryz.prog:=Sq.okN.twin3
instance SqN.self:zaA SqN.prog SqN.prog:=Sq.okN.self
theorem SqP.whole:Whole SqP.prog:=Sq.okP.whole Sq.ckP
theorem SqN.whole:Whole SqN.prog:=Sq.okN.whole Sq.ckN
theorem SqP.bodies:Bodies SqP.prog Tryz.prog (fun i=>Sq.X i=true):=Sq.okP.bodies Sq.ckP
theorem SqN.bodies:Bodies SqN.prog Tryz.prog (fun _=>false=true):=Sq.okN.bodies Sq.ckN
def sF(W H:Nat)(i:Nat):Nat:=if i=0 then 0 else if i=1 then W else if i=2 then W+H else W+H+W
def sE(W H:Nat)(i:Nat):Nat:=if i=0 then W else if i=1 then W+H else if i=2 then W+H+W else W+H+W+H
theorem znY(W H:Nat):Rng 4 (sF W H) (sE W H):=by
 intro i i' k h1 h2 h3 h4 h5 h6
 rcases (show i=0\/i=1\/i=2\/i=3 by omega) with rfl|rfl|rfl|rfl <;> rcases (show i'=0\/i'=1\/i'=2\/i'=3 by omega) with rfl|rfl|rfl|rfl <;> first
  | rfl
  | (exfalso;simp[sF,sE] at h3 h4 h5 h6;omega)
  | (exfalso;simp[sF,sE] at h3 h4 h6;omega)
  | (exfalso;simp[sF,sE] at h4 h5 h6;omega)
theorem zgJ{P:Prop}(h:P:=by
  first
   | exact znY W H
   | (refine hhas _ _ _ _ _ _ ?_ ?_ <;> first|omega|(simp[sF];done)|(simp[sF];omega)|fail)
   | omega
   | (simp[sF,sE];done)
   | (simp[sumTo,sF,sE];omega)
   | (intro j hj
      unfold sE
      split <;> try omega
      split <;> try omega
      split <;> omega)
   | (intro k hk
      by_cases h1:k<W
      · exact⟨0,qg,by simp[sF],by simp[sE];omega⟩
      · by_cases h2:k<W+H
        · exact⟨1,qg,by simp[sF];omega,by simp[sE];omega⟩
        · by_cases h3:k<W+H+W
          · exact⟨2,qg,by simp[sF];omega,by simp[sE];omega⟩
          · exact⟨3,qg,by simp[sF];omega,by simp[sE];omega⟩)
   | fail):P:=h
section
variable{Goal:Machine->Trace->Prop}{Shun:Nat->Prop}{c:Frame}{cs:List Frame}
theorem zpH(hG:zba Tryz.prog Goal){W H:Nat}{cap:Nat}(hok:Sp.okG (W:Int) gs=true)(hW:1<=W/\W<=5)(hH:1<=H/\H<=5)(el:gs.length=W * H)(hHd:gs.length / W=H)(hHI:(gs.length:Int) / (W:Int)=(H:Int))(hl0:∀ p∈l0,Kc p.1)(hcl:∀ w,Hp l0 w->Closed Kc w)(hKl:∀ c,Kc c->∃ p∈l0,p.1=c)(hga:zaj (zeA Kc) (.slice ga gs.length cap) (.slice ga gs.length cap))(hC:∀ w,Hp l0 w->∀ τ d,Sp.zaf (w.frz.tp τ d) ga gs)(w:World)(hp0:Hp l0 w)(hKc:∀ c,Kc c->c<w.heap.size/\¬ Shun c)(hfin:∀(u:World) (bo:Nat),zcb (fun e=>e<w.heap.size/\¬ Shun e) w u->w.heap.size<=bo->u.heap[bo]?=some (Sp.ze6 (W:Int) gs (2 * (W+H)))->∀ Shun':Nat->Prop,(∀ e,Shun' e->Shun e\/w.heap.size<=e)->¬ Shun' bo->zaq Tryz.prog Goal Shun' (fun _=>False) (G (c.finish (.slice (some ⟨bo,0,none⟩) (2 * (W+H)) (2 * (W+H)))) cs) u) :
  zaq Tryz.prog Goal Shun (fun _=>False) (G (Frame.enter Tryz.prog 58 #[.agg #[.int .i64 (W:Int),.slice ga gs.length cap],.func (.func 59) #[] #[]] .normal) (c::cs)) w:=by
 haveI:Payload:=⟨0⟩
 obtain⟨W1,W5⟩:=hW
 obtain⟨H1,H5⟩:=hH
 have hn25:gs.length<=25:=by rw[el];exact Nat.le_trans (Nat.mul_le_mul W5 H5) qg
 have hM:Sp.zbU (W:Int) gs=((2 * (W+H):Nat):Int):=by rw[Sp.zcw hok hHI];omega
 have hside:Sp.zbJ (W:Int) (H:Int) (gs.length:Int)=#[.int .i64 ((sF W H 0:Nat):Int),.int .i64 (W:Int),.int .i64 0,.int .i64 1,.int .i64 2,.int .i64 0,.int .i64 ((sF W H 1:Nat):Int),.int .i64 (H:Int),.int .i64 ((W:Int) - 1),.int .i64 (W:Int),.int .i64 3,.int .i64 1,.int .i64 ((sF W H 2:Nat):Int),.int .i64 (W:Int),.int .i64 ((gs.length:Int) - 1),.int .i64 (-1),.int .i64 0,.int .i64 2,.int .i64 ((sF W H 3:Nat):Int),.int .i64 (H:Int),.int .i64 ((gs.length:Int) - 1 - (W:Int)+1),.int .i64 (-(W:Int)),.int .i64 1,.int .i64 3]:=by
  simp[Sp.zbJ,sF]
 have hhas:∀(f m s o i u:Int),0<=f/\f<=100->0<=m/\m<=100->∀(k:Nat) (w:World),Calls SqN.prog 46 #[.agg #[.int .i64 f,.int .i64 m,.int .i64 s,.int .i64 o,.int .i64 i,.int .i64 u],.int .i64 k] w fun e _=>e=.returned (.bool (decide (f<=k/\(k:Int)<f+m))) :=
  fun f m s o i u h1 h2 k w=>(Sp.zez f m s o i u k h1 h2 _ rfl w).mono fun e w' h=>h.1
 refine R2.R1.zdJ (L:=SqN.prog) (X:=fun _=>false=true) (f0:=sF W H) (e0:=sE W H) (Post:=fun k _ v _=>v=.int .i64 (Sp.za0 (W:Int) gs (k:Int))) (RowP:=fun k v bs=>v=.int .i64 (Sp.za0 (W:Int) gs (k:Int))/\bs=[]) (many:=2 * (W+H)) hG SqN.whole SqN.bodies (fun _ h=>by cases h) (zfx func34) (fun h=>by cases h) (zfx func60) (fun h=>by cases h) (zfx func61) (fun h=>by cases h) hl0 hcl hga
  (fun w hp τ d=>((Sp.zav (W:Int) ga cap gs _ (hC w hp τ d) qg).mono fun e w' h=>by rw[h.1,hok]))
  (fun w hp τ d=>((Sp.zcT (W:Int) ga cap gs _ (hC w hp τ d) qg).mono fun e w' h=>by rw[h.1,hM]))
  (fun w hp τ d=>((Sp.zbX W H ga gs.length cap _ ⟨W1,W5⟩ ⟨H1,H5⟩ hn25 hHd).mono fun e w' h=>by rw[h.1,hside]))
  (zfx func46) (fun h=>by cases h) (zfx func59) func59 rfl rfl (fun h=>by cases h) qh ?_ ?_ hKl ?_ ?_ ?_ ?_ ?_ ?_ ?_ ?_ ?_ ?_ ?_ ?_ ?_
  (fun k hk w hp τ d=>((Sp.zcv (W:Int) ga cap gs _ (hC w hp τ d) qg (k:Int)).mono fun e w' h=>⟨_,h.1,rfl⟩)) (fun _ _ _ _ _ _ h=>h) (fun k w0 v v' R wl w1 h hv _=>⟨[],⟨by subst h;exact zcG hv,rfl⟩,(fun _ h=>by cases h),(fun _ h=>by cases h)⟩) (fun k x bs h=>⟨_,0,0,h.1⟩) ?_ qg w hp0 hKc (fun u bo xs bsf hk hlo hb hr _ Sh h1 h2 _=>hfin u bo hk hlo (hb.trans (congrArg (fun x=>some (Obj.cells x 3)) (congrArg Array.ofFn (funext fun k=>(hr k k.2).1.1)))) Sh h1 h2)
 all_goals exact zgJ
end
theorem zks{R:BR}{c:Array Value}(h:∀ i (h:i<c.size),∃ n,c[i]=.int .i64 n):zat R c c:=⟨rfl,fun i h1 _=>by
 obtain⟨n,e⟩:=h i h1
 rw[e]
 exact .int _ _⟩
end
namespace Sp
open Go.RowKit
attribute [local go_sem ↓] Go.wp_at_zero Go.wp_at_succ
theorem zmW{a b:List Int}(hl:a.length=b.length)(h:∀ i,i<a.length->a.getD i 0=b.getD i 0):a=b:=by
 refine List.ext_getElem hl fun i h1 h2=>?_
 have:=h i h1
 simpa [List.getD,List.getElem?_eq_getElem h1,List.getElem?_eq_getElem h2] using this
theorem zkl{a b:List (List Int)}(hl:a.length=b.length)(h:∀ i,i<a.length->a.getD i []=b.getD i []):a=b:=by
 refine List.ext_getElem hl fun i h1 h2=>?_
 have:=h i h1
 simpa [List.getD,List.getElem?_eq_getElem h1,List.getElem?_eq_getElem h2] using this
def zgj(w:World)(a:Option Addr)(fs:List (List Int)):Prop:=fs=[]\/∃ b off,a=some ⟨b,off,none⟩/\b<w.heap.size/\∀ k,k<fs.length->∃ a' c',w.cell? ⟨b,off+k,none⟩=some (.slice a' (fs.getD k []).length c')/\zcL w a' (fs.getD k [])
theorem zgj.below(h:zgj w a fs)(hb:Below w.heap.size w w'):zgj w' a fs:=by
 rcases h with h|⟨b,off,rfl,hbl,hc⟩
 ·exact Or.inl h
 ·refine Or.inr ⟨b,off,rfl,nll hbl hb.size,fun k hk=>?_⟩
  obtain⟨a',c',h1,h2⟩:=hc k hk
  exact⟨a',c',zad hb h1,h2.below hb⟩
theorem zgj.at{w:World}{a:Option Addr}{fs:List (List Int)}(h:zgj w a fs){k:Nat}(hk:k<fs.length):∃ b off a' c',a=some ⟨b,off,none⟩/\w.cell? ⟨b,off+k,none⟩=some (.slice a' (fs.getD k []).length c')/\zcL w a' (fs.getD k []):=by
 rcases h with q|⟨b,off,e,hb,hc⟩
 ·rw[q] at hk;simp at hk
 ·obtain⟨a',c',h1,h2⟩:=hc k hk
  exact⟨b,off,a',c',e,h1,h2⟩
theorem zkS(a a2:Option Addr)(c c2:Nat)(xs ys:List Int)(w:World)(h:zcL w a xs)(h2:zcL w a2 ys)(hm:xs.length<=1099511627776) :
  Calls SqP.prog 23 #[.slice a xs.length c,.slice a2 ys.length c2] w fun e w'=>e=.returned (.bool (decide (xs=ys)))/\Below w.heap.size w w':=by
 by_cases hl:xs.length=ys.length
 ·have bl:((xs.length:Int) != (ys.length:Int))=false:=by simp[hl]
  obtain⟨N,hN⟩:∃ N,xs.length=N:=⟨_,rfl⟩
  have hN2:ys.length=N:=qg
  have HN:Hid (xs.length=N/\ys.length=N):=⟨hN,hN2⟩
  rw[hN,hN2] at bl ⊢
  rw[hN] at hm
  clear hl hN hN2
  go_enter (zfx func23),ntmps23
  go_wp2_with fail
  go_loopw [13,5] (fun ii _ wr=>∃ i:Nat,i<=N/\ii=.int .i64 i/\(∀ j,j<i->xs.getD j 0=ys.getD j 0)/\Below w.heap.size w wr) (fun ii _ _=>N - (intOf ii).toNat)
  case atStart=>exact⟨0,Nat.zero_le _,rfl,fun j h=>qg,Below.refl _ _⟩
  case round =>
   rename World=>wo
   obtain⟨i,hi,rfl,hsame,hb⟩:=hrel
   by_cases hlt:i<N
   ·obtain⟨g,o,rfl,_,x0⟩:=(h.below hb).at (i:=i) qc
    obtain⟨g2,o2,rfl,_,y0⟩:=(h2.below hb).at (i:=i) qc
    have hil:(i:Int)<(N:Int):=qg
    have wk:IntKind.i64.wrap ((i:Int)+1)=(i:Int)+1:=IntWalk.i64_in _ qg
    have HS:Hid (∀ j,j<i->xs.getD j 0=ys.getD j 0):=hsame
    obtain⟨x,ex⟩:∃ x,xs.getD i 0=x:=⟨_,rfl⟩
    obtain⟨y,ey⟩:∃ y,ys.getD i 0=y:=⟨_,rfl⟩
    have HX:Hid (xs.getD i 0=x/\ys.getD i 0=y):=⟨ex,ey⟩
    rw[ex] at x0
    rw[ey] at y0
    clear h h2 hsame ex ey
    by_cases hxy:x=y
    ·have hne:(x != y)=false:=by simp[hxy]
     have HE:Hid (x=y):=hxy
     clear hxy
     go_wp2_with fail
     go_quiet (fail)
     have hbq:Below w.heap.size w (wo.drewN nq):=⟨hb.os,hb.tape,hb.output,hb.size,hb.block⟩
     go_wp2_with fail
     go_roundw
     case rel =>
      refine⟨i+1,qg,by go_num,fun j hj=>?_,hbq⟩
      rcases Nat.lt_succ_iff_lt_or_eq.1 hj with q|rfl
      ·exact HS.out j q
      ·rw[HX.out.1,HX.out.2];exact HE.out
     case measure=>exact qe
    ·have hne:(x != y)=true:=by simp[hxy]
     have HE:Hid (¬ x=y):=hxy
     clear hxy
     go_wp2_with fail
     go_quiet (fail)
     have hbq:Below w.heap.size w (wo.drewN nq):=⟨hb.os,hb.tape,hb.output,hb.size,hb.block⟩
     go_wp2_with fail
     go_ret
     refine⟨?_,hbq⟩
     rw[show decide (xs=ys)=false from decide_eq_false fun e=>HE.out (by rw[<- HX.out.1,<- HX.out.2,e])]
     rfl
   ·have hil:¬ (i:Int)<(N:Int):=qg
    have HS:Hid (∀ j,j<i->xs.getD j 0=ys.getD j 0):=hsame
    clear hsame
    go_wp2_with fail
    go_ret
    refine⟨?_,hb⟩
    rw[show decide (xs=ys)=true from decide_eq_true (zmW (HN.out.1.trans HN.out.2.symm) fun j hj=>HS.out j qc)]
    rfl
 ·have bl:((xs.length:Int) != (ys.length:Int))=true:=ql
  have hd:decide (xs=ys)=false:=decide_eq_false (fun e=>hl (by rw[e]))
  rw[hd]
  clear hd hl
  go_enter (zfx func23),ntmps23
  go_wp2_with fail
  go_ret
  exact⟨rfl,Below.refl _ _⟩
theorem zfD(a a2:Option Addr)(c c2:Nat)(xs ys:List Int)(w:World)(h:zcL w a xs)(h2:zcL w a2 ys)(hm:xs.length<=1099511627776) :
  Calls SqP.prog 18 #[.slice a xs.length c,.slice a2 ys.length c2] w fun e w'=>e=.returned (.bool (decide (xs=ys)))/\Below w.heap.size w w':=by
 by_cases hl:xs.length=ys.length
 ·have bl:((xs.length:Int) != (ys.length:Int))=false:=by simp[hl]
  obtain⟨N,hN⟩:∃ N,xs.length=N:=⟨_,rfl⟩
  have hN2:ys.length=N:=qg
  have HN:Hid (xs.length=N/\ys.length=N):=⟨hN,hN2⟩
  rw[hN,hN2] at bl ⊢
  rw[hN] at hm
  clear hl hN hN2
  go_enter (zfx func18),ntmps18
  go_wp2_with fail
  go_loopw [5] (fun ii  wr=>∃ i:Nat,i<=N/\ii=.int .i64 i/\(∀ j,j<i->xs.getD j 0=ys.getD j 0)/\Below w.heap.size w wr) (fun ii  _=>N - (intOf ii).toNat)
  case atStart=>exact⟨0,Nat.zero_le _,rfl,fun j h=>qg,Below.refl _ _⟩
  case round =>
   rename World=>wo
   obtain⟨i,hi,rfl,hsame,hb⟩:=hrel
   by_cases hlt:i<N
   ·obtain⟨g,o,rfl,_,x0⟩:=(h.below hb).at (i:=i) qc
    obtain⟨g2,o2,rfl,_,y0⟩:=(h2.below hb).at (i:=i) qc
    have hil:(i:Int)<(N:Int):=qg
    have wk:IntKind.i64.wrap ((i:Int)+1)=(i:Int)+1:=IntWalk.i64_in _ qg
    have HS:Hid (∀ j,j<i->xs.getD j 0=ys.getD j 0):=hsame
    obtain⟨x,ex⟩:∃ x,xs.getD i 0=x:=⟨_,rfl⟩
    obtain⟨y,ey⟩:∃ y,ys.getD i 0=y:=⟨_,rfl⟩
    have HX:Hid (xs.getD i 0=x/\ys.getD i 0=y):=⟨ex,ey⟩
    rw[ex] at x0
    rw[ey] at y0
    clear h h2 hsame ex ey
    by_cases hxy:x=y
    ·have hne:(x != y)=false:=by simp[hxy]
     have HE:Hid (x=y):=hxy
     clear hxy
     go_wp2_with fail
     go_quiet (fail)
     have hbq:Below w.heap.size w (wo.drewN nq):=⟨hb.os,hb.tape,hb.output,hb.size,hb.block⟩
     go_wp2_with fail
     go_roundw
     case rel =>
      refine⟨i+1,qg,by go_num,fun j hj=>?_,hbq⟩
      rcases Nat.lt_succ_iff_lt_or_eq.1 hj with q|rfl
      ·exact HS.out j q
      ·rw[HX.out.1,HX.out.2];exact HE.out
     case measure=>exact qe
    ·have hne:(x != y)=true:=by simp[hxy]
     have HE:Hid (¬ x=y):=hxy
     clear hxy
     go_wp2_with fail
     go_quiet (fail)
     have hbq:Below w.heap.size w (wo.drewN nq):=⟨hb.os,hb.tape,hb.output,hb.size,hb.block⟩
     go_wp2_with fail
     go_ret
     refine⟨?_,hbq⟩
     rw[show decide (xs=ys)=false from decide_eq_false fun e=>HE.out (by rw[<- HX.out.1,<- HX.out.2,e])]
     rfl
   ·have hil:¬ (i:Int)<(N:Int):=qg
    have HS:Hid (∀ j,j<i->xs.getD j 0=ys.getD j 0):=hsame
    clear hsame
    go_wp2_with fail
    go_ret
    refine⟨?_,hb⟩
    rw[show decide (xs=ys)=true from decide_eq_true (zmW (HN.out.1.trans HN.out.2.symm) fun j hj=>HS.out j qc)]
    rfl
 ·have bl:((xs.length:Int) != (ys.length:Int))=true:=ql
  have hd:decide (xs=ys)=false:=decide_eq_false (fun e=>hl (by rw[e]))
  rw[hd]
  clear hd hl
  go_enter (zfx func18),ntmps18
  go_wp2_with fail
  go_ret
  exact⟨rfl,Below.refl _ _⟩
theorem zn0(a a2:Option Addr)(c c2:Nat)(xs ys:List (List Int))(w:World)(h:zgj w a xs)(h2:zgj w a2 ys)(hm:xs.length<=1099511627776)(hx:∀ k,k<xs.length->(xs.getD k []).length<=1099511627776) :
  Calls SqP.prog 24 #[.slice a xs.length c,.slice a2 ys.length c2,.func (.func 23) #[] #[]] w fun e w'=>e=.returned (.bool (decide (xs=ys)))/\Below w.heap.size w w':=by
 by_cases hl:xs.length=ys.length
 ·have bl:((xs.length:Int) != (ys.length:Int))=false:=by simp[hl]
  obtain⟨N,hN⟩:∃ N,xs.length=N:=⟨_,rfl⟩
  have hN2:ys.length=N:=qg
  have HN:Hid (xs.length=N/\ys.length=N):=⟨hN,hN2⟩
  have HX0:Hid (∀ k,k<xs.length->(xs.getD k []).length<=1099511627776):=hx
  rw[hN,hN2] at bl ⊢
  rw[hN] at hm
  clear hl hN hN2 hx
  go_enter (zfx func24),ntmps24
  go_wp2_with fail
  go_loopw [17,7,8,9] (fun ii _ _ _ wr=>∃ i:Nat,i<=N/\ii=.int .i64 i/\(∀ j,j<i->xs.getD j []=ys.getD j [])/\Below w.heap.size w wr) (fun ii _ _ _ _=>N - (intOf ii).toNat)
  case atStart=>exact⟨0,Nat.zero_le _,rfl,fun j h=>qg,Below.refl _ _⟩
  case round =>
   rename World=>wo
   obtain⟨i,hi,rfl,hsame,hb⟩:=hrel
   have hzo:=hb.size
   by_cases hlt:i<N
   ·obtain⟨g,o,a3,c3,rfl,x0,hX⟩:=(h.below hb).at (k:=i) qc
    obtain⟨g2,o2,a4,c4,rfl,y0,hY⟩:=(h2.below hb).at (k:=i) qc
    have hxl:=HX0.out i qc
    have hil:(i:Int)<(N:Int):=qg
    have wk:IntKind.i64.wrap ((i:Int)+1)=(i:Int)+1:=IntWalk.i64_in _ qg
    have HS:Hid (∀ j,j<i->xs.getD j []=ys.getD j []):=hsame
    obtain⟨x,ex⟩:∃ x,xs.getD i []=x:=⟨_,rfl⟩
    obtain⟨y,ey⟩:∃ y,ys.getD i []=y:=⟨_,rfl⟩
    have HX:Hid (xs.getD i []=x/\ys.getD i []=y):=⟨ex,ey⟩
    rw[ex] at x0 hX hxl
    rw[ey] at y0 hY
    have hC:=fun w hb=>zkS a3 a4 c3 c4 x y w (hX.below hb) (hY.below hb) hxl
    clear h h2 hsame ex ey hX hY
    by_cases hxy:x=y
    ·rw[decide_eq_true hxy] at hC
     have HE:Hid (x=y):=hxy
     clear hxy
     go_wp2_with fail
     refine(hC _ (Below.refl _ _)).mono ?_
     rintro e w7 ⟨rfl,hb7⟩
     have hb8:=zai hb hzo hb7
     go_wp2_with fail
     go_roundw
     case rel =>
      refine⟨i+1,qg,by go_num,fun j hj=>?_,hb8⟩
      rcases Nat.lt_succ_iff_lt_or_eq.1 hj with q|rfl
      ·exact HS.out j q
      ·rw[HX.out.1,HX.out.2];exact HE.out
     case measure=>exact qe
    ·rw[decide_eq_false hxy] at hC
     have HE:Hid (¬ x=y):=hxy
     clear hxy
     go_wp2_with fail
     refine(hC _ (Below.refl _ _)).mono ?_
     rintro e w7 ⟨rfl,hb7⟩
     have hb8:=zai hb hzo hb7
     go_wp2_with fail
     go_ret
     refine⟨?_,hb8⟩
     rw[show decide (xs=ys)=false from decide_eq_false fun e=>HE.out (by rw[<- HX.out.1,<- HX.out.2,e])]
     rfl
   ·have hil:¬ (i:Int)<(N:Int):=qg
    have HS:Hid (∀ j,j<i->xs.getD j []=ys.getD j []):=hsame
    clear hsame
    go_wp2_with fail
    go_ret
    refine⟨?_,hb⟩
    rw[show decide (xs=ys)=true from decide_eq_true (zkl (HN.out.1.trans HN.out.2.symm) fun j hj=>HS.out j qc)]
    rfl
 ·have bl:((xs.length:Int) != (ys.length:Int))=true:=ql
  have hd:decide (xs=ys)=false:=decide_eq_false (fun e=>hl (by rw[e]))
  rw[hd]
  clear hd hl
  go_enter (zfx func24),ntmps24
  go_wp2_with fail
  go_ret
  exact⟨rfl,Below.refl _ _⟩
structure DB(w wr:World)(rb L gb:Nat)(wd:Int)(a:Option Addr)(c:Nat)(xs:List (Int × Int))(P:Nat):Prop where
 gr:w.grownBy wr (some rb)
 p0:wr.cell? ⟨w.heap.size,0,none⟩=some (.int .i64 0)
 p1:wr.cell? ⟨w.heap.size,1,none⟩=some (.slice none 0 0)
 fp0:wr.frozen? ⟨w.heap.size,0,none⟩=false
 fp1:wr.frozen? ⟨w.heap.size,1,none⟩=false
 g0:wr.cell? ⟨gb,0,none⟩=some (.int .i64 wd)
 g1:wr.cell? ⟨gb,1,none⟩=some (.slice a xs.length c)
 sz:w.heap.size<gb/\gb<wr.heap.size
 rbw:rb<w.heap.size/\L<=w.heap.size
 rd:RdQ wr rb L P
 cells:zaf wr a xs
 unf:UnF wr a xs
 new:∀ b off,a=some ⟨b,off,none⟩->xs≠[]->w.heap.size<b/\b≠gb
theorem DB.more{c:Nat}{P':Nat}(h:DB w wr rb L gb wd a c xs P)(hp:P<=P'):DB w wr rb L gb wd a c xs P' :=
 ⟨h.gr,h.p0,h.p1,h.fp0,h.fp1,h.g0,h.g1,h.sz,h.rbw,h.rd.more hp,h.cells,h.unf,h.new⟩
theorem DB.call{w2:World}{c:Nat}{P':Nat}(h:DB w wr rb L gb wd a c xs P)(hg:wr.grownBy w2 (some rb))(hr:RdQ w2 rb L P'):DB w w2 rb L gb wd a c xs P':=by
 obtain⟨s1,s2⟩:=h.sz
 obtain⟨r1,r2⟩:=h.rbw
 have hz:=hg.size
 have n1:w.heap.size≠rb:=qg
 have n2:gb≠rb:=qg
 refine⟨⟨hg.os.trans h.gr.os,hg.tape.trans h.gr.tape,hg.output.trans h.gr.output,Nat.le_trans h.gr.size hg.size,fun k hk hne=>(hg.block k (by have:=h.gr.size;omega) hne).trans (h.gr.block k hk hne)⟩,
  zaC hg n1 h.p0,zaC hg n1 h.p1,zbx hg n1 h.p0 h.fp0,zbx hg n1 h.p1 h.fp1,zaC hg n2 h.g0,zaC hg n2 h.g1,qg,h.rbw,hr,?_,?_,h.new⟩
 ·by_cases hx:xs=[]
  ·exact Or.inl hx
  ·exact h.cells.grown hg (fun b off e=>by have:=h.new b off e hx;omega)
 ·by_cases hx:xs=[]
  ·intro b off e i hi;rw[hx] at hi;simp at hi
  ·exact h.unf.grown h.cells hg (fun b off e=>by have:=h.new b off e hx;omega)
theorem DB.below{w2:World}{c:Nat}(h:DB w wr rb L gb wd a c xs P)(hb:Below wr.heap.size wr w2):DB w w2 rb L gb wd a c xs P:=by
 obtain⟨s1,s2⟩:=h.sz
 have hz:=hb.size
 have hw:=h.gr.size
 exact⟨zeK h.gr hb,zad hb h.p0,zad hb h.p1,zal hb h.p0 h.fp0,zal hb h.p1 h.fp1,zad hb h.g0,zad hb h.g1,qg,h.rbw,h.rd.below (hb.mono (by have:=h.rbw;omega)),h.cells.below hb,h.unf.below h.cells hb,h.new⟩
theorem DB.put{b off:Nat}{c:Nat}(h:DB w wr rb L gb wd (some ⟨b,off,none⟩) c xs P)(i:Nat)(hi:i<xs.length)(k l:Int) :
  DB w ((wr.setCell ⟨b,off+i * 2,none⟩ (.int .i64 k)).setCell ⟨b,off+i * 2+1,none⟩ (.int .i64 l)) rb L gb wd (some ⟨b,off,none⟩) c (xs.set i (k,l)) P:=by
 have hx:xs≠[]:=by intro q;rw[q] at hi;simp at hi
 obtain⟨n1,n2⟩:=h.new b off rfl hx
 obtain⟨s1,s2⟩:=h.sz
 obtain⟨r1,r2⟩:=h.rbw
 have hlen:(xs.set i (k,l)).length=xs.length:=qk
 have m1:w.heap.size≠b:=qg
 have m2:gb≠b:=fun e=>n2 e.symm
 have hb2:Below L wr ((wr.setCell ⟨b,off+i * 2,none⟩ (.int .i64 k)).setCell ⟨b,off+i * 2+1,none⟩ (.int .i64 l)) :=
  ((Below.refl _ _).setCell (p:=⟨b,off+i * 2,none⟩) (by show L<=b;omega) _).setCell (p:=⟨b,off+i * 2+1,none⟩) (by show L<=b;omega) _
 refine⟨zhL (zhL h.gr (p:=⟨b,off+i * 2,none⟩) (by show w.heap.size<=b;omega) _) (p:=⟨b,off+i * 2+1,none⟩) (by show w.heap.size<=b;omega) _,zev m1 (zev m1 h.p0),zev m1 (zev m1 h.p1),zkQ m1 (zkQ m1 h.fp0),zkQ m1 (zkQ m1 h.fp1),zev m2 (zev m2 h.g0),?_,by simpa using h.sz,h.rbw,h.rd.below hb2,?_,?_,fun b' off' e _=>h.new b' off' e hx⟩
 ·rw[hlen]
  exact zev m2 (zev m2 h.g1)
 ·rcases h.cells with q|⟨b',off',e,hbl,hc⟩
  ·rw[q] at hi;simp at hi
  ·simp only[Option.some.injEq,Addr.mk.injEq,and_true] at e
   obtain⟨rfl,rfl⟩:=e
   refine Or.inr ⟨b,off,rfl,by simpa using hbl,fun j hj=>?_⟩
   rw[hlen] at hj
   by_cases e:j=i
   ·subst e
    have g:(xs.set j (k,l)).getD j (0,0)=(k,l):=by simp[hj]
    rw[g]
    refine⟨?_,?_⟩
    ·exact zkP qg (World.cell?_setCell_same _ _ _ (by rw[(hc j hj).1]))
    ·exact World.cell?_setCell_same _ _ _ (by rw[zkP (show off+j * 2+1≠off+j * 2 by omega) (hc j hj).2])
   ·have g:(xs.set i (k,l)).getD j (0,0)=xs.getD j (0,0):=by simp[Ne.symm e]
    rw[g]
    exact⟨zkP qg (zkP qg (hc j hj).1),zkP qg (zkP qg (hc j hj).2)⟩
 ·intro b' off' e j hj
  rw[hlen] at hj
  exact h.unf.set.set b' off' e j hj
theorem DB.at{w wr:World}{rb L gb:Nat}{wd:Int}{a:Option Addr}{c:Nat}{xs:List (Int × Int)}{P:Nat}(h:DB w wr rb L gb wd a c xs P)(i:Nat)(hi:i<xs.length) :
  ∃ b off,a=some ⟨b,off,none⟩/\(∃ u,wr.cell? ⟨b,off+i * 2,none⟩=some (.int .i64 u))/\(∃ u,wr.cell? ⟨b,off+i * 2+1,none⟩=some (.int .i64 u))/\wr.frozen? ⟨b,off+i * 2,none⟩=false/\wr.frozen? ⟨b,off+i * 2+1,none⟩=false:=by
 rcases h.cells with q|⟨b,off,e,hbl,hc⟩
 ·rw[q] at hi;simp at hi
 ·obtain⟨f1,f2⟩:=h.unf b off e i hi
  exact⟨b,off,e,⟨_,(hc i hi).1⟩,⟨_,(hc i hi).2⟩,f1,f2⟩
def zik(j:Nat):Int:=if j=0 then 2 else if j=1 then 3 else if j=2 then 4 else 5
theorem zni(w:World)(j:Nat)(hj:j<4):(w.alloc (.cells #[.int .i64 2,.int .i64 3,.int .i64 4,.int .i64 5] 3)).cell? ⟨w.heap.size,j,none⟩=some (.int .i64 (zik j)):=by
 rcases j with _|_|_|_|j
 ·simp[go_sem,zik]
 ·simp[go_sem,zik]
 ·simp[go_sem,zik]
 ·simp[go_sem,zik]
 ·omega
theorem zhl(w:World)(rb L P:Nat)(h:RdQ w rb L P)(hp:P<=700000)(hL:L<=w.heap.size) :
  Calls SqP.prog 20 #[.pointer (some ⟨rb,0,none⟩)] w fun e w'=>∃ (wd:Int) (a:Option Addr) (c:Nat) (xs:List (Int × Int)),e=.returned (.agg #[.int .i64 wd,.slice a xs.length c])/\zaf w' a xs/\(∀ b off,a=some ⟨b,off,none⟩->xs≠[]->w.heap.size<=b)/\xs.length<=31/\RdQ w' rb L (P+100)/\w.grownBy w' (some rb):=by
 obtain⟨hrl,hrw⟩:=h.lt
 have hbR:Below w.heap.size w (w.alloc (.cells #[.int .i64 0,.slice none 0 0] 25)):=bel
 have h0:=h.below (hbR.mono hL)
 go_enter (zfx func20),ntmps20
 go_wp2_with fail
 refine(zii _ rb L P h0 qg ql).mono ?_
 rintro e w2 ⟨wd,a2,c2,xs,rfl,hok2,hxl,hr2,hg2⟩
 have hz2:=hg2.size
 simp at hz2
 have nr:w.heap.size≠rb:=qg
 have p0:w2.cell? ⟨w.heap.size,0,none⟩=some (.int .i64 0):=zaC hg2 nr qj
 have p1:w2.cell? ⟨w.heap.size,1,none⟩=some (.slice none 0 0):=zaC hg2 nr qj
 have fp0:w2.frozen? ⟨w.heap.size,0,none⟩=false:=zbx hg2 nr (v:=.int .i64 0) qj qj
 have fp1:w2.frozen? ⟨w.heap.size,1,none⟩=false:=zbx hg2 nr (v:=.slice none 0 0) qj qj
 have hgw:w.grownBy w2 (some rb):=⟨hg2.os.trans hbR.os,hg2.tape.trans hbR.tape,hg2.output.trans hbR.output,qg,fun k hk hne=>(hg2.block k ql hne).trans (hbR.block k hk)⟩
 have hC2:=hok2.cells
 have hU2:=hok2.unf
 have hn2:∀ b off,a2=some ⟨b,off,none⟩->w.heap.size+1<=b:=fun b off e=>by have:=hok2.new b off e;simpa using this
 clear hok2 hg2 h0 hbR
 have hbG:Below w2.heap.size w2 (w2.alloc (.cells #[.int .i64 wd,.slice a2 xs.length c2] 25)):=bel
 have hD:DB w (w2.alloc (.cells #[.int .i64 wd,.slice a2 xs.length c2] 25)) rb L w2.heap.size wd a2 c2 xs (P+70):=by
  refine⟨zeK hgw hbG,zad hbG p0,zad hbG p1,zal hbG p0 fp0,zal hbG p1 fp1,qj,qj,ql,⟨hrw,hL⟩,hr2.below (hbG.mono qg),hC2.below hbG,hU2.below hC2 hbG,fun b off e hx=>⟨by have:=hn2 b off e;omega,?_⟩⟩
  rcases hC2 with q|⟨b',off',e',hbl,_⟩
  ·exact absurd q hx
  ·rw[e] at e'
   simp only[Option.some.injEq,Addr.mk.injEq,and_true] at e'
   omega
 clear hbG hC2 hn2 hU2 hr2 fp0 fp1 p0 p1 hgw
 go_wp2_with fail
 obtain⟨wz,hwz⟩:∃ wz,wz=w2.alloc (.cells #[.int .i64 wd,.slice a2 xs.length c2] 25):=⟨_,rfl⟩
 rw[<- hwz] at hD ⊢
 clear hwz
 refine(zbz 8 _ rb L (P+70) hD.rd qg qg).mono ?_
 rintro e w3 ⟨v3,rfl,hv1,hv2,hr3,hg3⟩
 have hD3:=(hD.call hg3 hr3).more (P':=P+100 - 2 * v3.toNat) qg
 obtain⟨M,rfl⟩:=Int.eq_ofNat_of_zero_le hv1
 simp only[Int.toNat_natCast] at hD3
 obtain⟨gb,egb⟩:∃ gb,w2.heap.size=gb:=⟨_,rfl⟩
 rw[egb] at hD3 ⊢
 clear hD hg3 hr3 hv1 egb
 go_wp2_with fail
 go_loopw [4] (fun nn wr=>∃ (m:Nat) (ys:List (Int × Int)),m<=8/\nn=.int .i64 m/\ys.length=xs.length/\DB w wr rb L gb wd a2 c2 ys (P+100 - 2 * m)) (fun nn _=>(intOf nn).toNat)
 case atStart=>exact⟨M,xs,qg,rfl,rfl,hD3⟩
 case round =>
  rename World=>wo
  obtain⟨m,ys,hm,rfl,hyl,hDo⟩:=hrel
  have g1:=hDo.g1
  rw[hyl] at g1
  by_cases hgo:0<m/\0<xs.length
  ·obtain⟨hm0,hx0⟩:=hgo
   have b0:decide ((0:Int)<(m:Int))=true:=decide_eq_true qg
   have b1:decide ((0:Int)<(xs.length:Int))=true:=decide_eq_true qg
   have i0:(0:Int)<(m:Int):=qg
   have i1:(0:Int)<(xs.length:Int):=qg
   have hbL:Below wo.heap.size wo (wo.alloc (.cells #[.int .i64 2,.int .i64 3,.int .i64 4,.int .i64 5] 3)):=bel
   have hDL:=hDo.below hbL
   have la:=zni wo
   have rbo:wo.heap.size≠rb:=by have:=hDo.gr.size;omega
   go_wp2
   have gqL:(wo.alloc (.cells #[.int .i64 2,.int .i64 3,.int .i64 4,.int .i64 5] 3)).cell? ⟨gb,1,none⟩=some (.slice a2 xs.length c2):=zad hbL g1
   first
   | (go_region_with
    (first
     | (have hguard:=lb5;go_at_call 21;refine(zbz 4 _ rb L (P+100 - 2 * m+1) (by first|exact hD5.rd|exact hD5.rd.below (Below.refl _ _).drew) qg qg).mono ?_;rintro e w6 ⟨u6,rfl,hu3,hu4,hr6,hg6'⟩;have hg6:w5.grownBy w6 (some rb):=(by first|exact hg6'|exact zgo hg6');have hD6:=hD5.call hg6 hr6;obtain⟨V,rfl⟩:=Int.eq_ofNat_of_zero_le hu3;have lk:w6.cell? ⟨wo.heap.size,V,none⟩=some (.int .i64 (zik V)):=zaC hg6 rbo (lb5 V qg);have gq6:w6.cell? ⟨gb,1,none⟩=some (.slice a2 xs.length c2):=hD6.g1.trans (by rw[hyl]);have hvi:(V:Int)<4:=qg;have hui:(U:Int)<(xs.length:Int):=qg;obtain⟨b,off,rfl,⟨k1,c1'⟩,⟨k2,c2'⟩,f1,f2⟩:=hD6.at U qg;have hDF:=(hD6.put U qg (zik V) 0).more (P':=P+100 - 2 * (m - 1)) qg;have hl6:(ys.set U (zik V,0)).length=xs.length:=(by rw[List.length_set];exact hyl))
     | (have hguard:=hD5L;go_at_call 21;refine(zbz 4 _ rb L (P+100 - 2 * m+1) (by first|exact hD5L.rd|exact hD5L.rd.below (Below.refl _ _).drew) qg qg).mono ?_;rintro e w6 ⟨u6,rfl,hu3,hu4,hr6,hg6'⟩;have hg6:(w5.alloc (.cells #[.int .i64 2,.int .i64 3,.int .i64 4,.int .i64 5] 3)).grownBy w6 (some rb):=(by first|exact hg6'|exact zgo hg6');have hD6:=hD5L.call hg6 hr6;obtain⟨V,rfl⟩:=Int.eq_ofNat_of_zero_le hu3;have lk:w6.cell? ⟨w5.heap.size,V,none⟩=some (.int .i64 (zik V)):=zaC hg6 rb5 (zni w5 V qg);have gq6:w6.cell? ⟨gb,1,none⟩=some (.slice a2 xs.length c2):=hD6.g1.trans (by rw[hyl]);have hvi:(V:Int)<4:=qg;have hui:(U:Int)<(xs.length:Int):=qg;obtain⟨b,off,rfl,⟨k1,c1'⟩,⟨k2,c2'⟩,f1,f2⟩:=hD6.at U qg;have hDF:=(hD6.put U qg (zik V) 0).more (P':=P+100 - 2 * (m - 1)) qg;have hl6:(ys.set U (zik V,0)).length=xs.length:=(by rw[List.length_set];exact hyl))
     | (have hguard:=hD5L;go_at_call 21;refine(zbz 4 _ rb L (P+100 - 2 * m+1) (by first|exact hD5.rd|exact hD5.rd.below (Below.refl _ _).drew) qg qg).mono ?_;rintro e w6 ⟨u6,rfl,hu3,hu4,hr6,hg6'⟩;have hg6:w5.grownBy w6 (some rb):=(by first|exact hg6'|exact zgo hg6');have hD6:=hD5.call hg6 hr6;obtain⟨V,rfl⟩:=Int.eq_ofNat_of_zero_le hu3;have hD6L:=hD6.below ((Below.refl _ _).alloc (Nat.le_refl _) (.cells #[.int .i64 2,.int .i64 3,.int .i64 4,.int .i64 5] 3));have lk:(w6.alloc (.cells #[.int .i64 2,.int .i64 3,.int .i64 4,.int .i64 5] 3)).cell? ⟨w6.heap.size,V,none⟩=some (.int .i64 (zik V)):=zni w6 V qg;have gq6:w6.cell? ⟨gb,1,none⟩=some (.slice a2 xs.length c2):=hD6.g1.trans (by rw[hyl]);have gq6L:(w6.alloc (.cells #[.int .i64 2,.int .i64 3,.int .i64 4,.int .i64 5] 3)).cell? ⟨gb,1,none⟩=some (.slice a2 xs.length c2):=hD6L.g1.trans (by rw[hyl]);have hvi:(V:Int)<4:=qg;have hui:(U:Int)<(xs.length:Int):=qg;obtain⟨b,off,rfl,⟨k1,c1'⟩,⟨k2,c2'⟩,f1,f2⟩:=hD6L.at U qg;have hDFL:=(hD6L.put U qg (zik V) 0).more (P':=P+100 - 2 * (m - 1)) qg;have hl6:(ys.set U (zik V,0)).length=xs.length:=(by rw[List.length_set];exact hyl))
     | (go_at_call 21;refine(zbz (xs.length:Int) _ rb L (P+100 - 2 * m) (by first|exact hDo.rd|exact hDo.rd.below (Below.refl _ _).drew) qg qg).mono ?_;rintro e w5 ⟨u5,rfl,hu1,hu2,hr5,hg5'⟩;have hg5:wo.grownBy w5 (some rb):=(by first|exact hg5'|exact zgo hg5');have hD5:=hDo.call hg5 hr5;have hD5L:=hD5.below ((Below.refl _ _).alloc (Nat.le_refl _) (.cells #[.int .i64 2,.int .i64 3,.int .i64 4,.int .i64 5] 3));have gq5:w5.cell? ⟨gb,1,none⟩=some (.slice a2 xs.length c2):=hD5.g1.trans (by rw[hyl]);have gq5L:(w5.alloc (.cells #[.int .i64 2,.int .i64 3,.int .i64 4,.int .i64 5] 3)).cell? ⟨gb,1,none⟩=some (.slice a2 xs.length c2):=hD5L.g1.trans (by rw[hyl]);have rb5:w5.heap.size≠rb:=(by have:=hD5.gr.size;omega);obtain⟨U,rfl⟩:=Int.eq_ofNat_of_zero_le hu1)
     | (go_at_call 21;refine(zbz (xs.length:Int) _ rb L (P+100 - 2 * m) (by first|exact hDL.rd|exact hDL.rd.below (Below.refl _ _).drew) qg qg).mono ?_;rintro e w5 ⟨u5,rfl,hu1,hu2,hr5,hg5'⟩;have hg5:(wo.alloc (.cells #[.int .i64 2,.int .i64 3,.int .i64 4,.int .i64 5] 3)).grownBy w5 (some rb):=(by first|exact hg5'|exact zgo hg5');have hD5:=hDL.call hg5 hr5;have gq5:w5.cell? ⟨gb,1,none⟩=some (.slice a2 xs.length c2):=hD5.g1.trans (by rw[hyl]);have lb5:∀ j,j<4->w5.cell? ⟨wo.heap.size,j,none⟩=some (.int .i64 (zik j)):=(fun j hj=>zaC hg5 rbo (la j hj));obtain⟨U,rfl⟩:=Int.eq_ofNat_of_zero_le hu1)
     | fail))
   | fail
   all_goals
    have hmm:(m:Int) - 1=((m - 1:Nat):Int):=qg
    go_wp2_with fail
    go_roundw
    case rel=>first|exact⟨m - 1,ys.set U (zik V,0),qg,by first|rw[hmm]|(simp;done)|(simp;omega),hl6,by first|exact hDF|exact hDF.below (Below.refl _ _).drew⟩|exact⟨m - 1,ys.set U (zik V,0),qg,by first|rw[hmm]|(simp;done)|(simp;omega),hl6,by first|exact hDFL|exact hDFL.below (Below.refl _ _).drew⟩
    case measure=>exact qe
  ·have g0:=hDo.g0
   have hD9:=hDo.more (P':=P+100) qg
   have hyl31:ys.length<=31:=qg
   obtain⟨p0,p1,fp0,fp1⟩:=And.intro hDo.p0 (And.intro hDo.p1 (And.intro hDo.fp0 hDo.fp1))
   have hfin:zaf ((wo.setCell ⟨w.heap.size,0,none⟩ (.int .i64 wd)).setCell ⟨w.heap.size,1,none⟩ (.slice a2 ys.length c2)) a2 ys:=by
    by_cases hx:ys=[]
    ·exact Or.inl hx
    ·exact(hD9.cells.set (bb:=w.heap.size) (fun b off e=>by have:=hD9.new b off e hx;omega) _).set (bb:=w.heap.size) (fun b off e=>by have:=hD9.new b off e hx;omega) _
   have hrd:RdQ ((wo.setCell ⟨w.heap.size,0,none⟩ (.int .i64 wd)).setCell ⟨w.heap.size,1,none⟩ (.slice a2 ys.length c2)) rb L (P+100):=hD9.rd.below (((Below.refl _ _).setCell (p:=⟨w.heap.size,0,none⟩) (by show L<=w.heap.size;omega) _).setCell (p:=⟨w.heap.size,1,none⟩) (by show L<=w.heap.size;omega) _)
   have hgf:w.grownBy ((wo.setCell ⟨w.heap.size,0,none⟩ (.int .i64 wd)).setCell ⟨w.heap.size,1,none⟩ (.slice a2 ys.length c2)) (some rb):=zhL (zhL hD9.gr (p:=⟨w.heap.size,0,none⟩) (by show w.heap.size<=w.heap.size;omega) _) (p:=⟨w.heap.size,1,none⟩) (by show w.heap.size<=w.heap.size;omega) _
   have hnw:∀ b off,a2=some ⟨b,off,none⟩->ys≠[]->w.heap.size<=b:=fun b off e hx=>by have:=hD9.new b off e hx;omega
   rw[<- hyl] at g1 hgo
   clear hDo hyl hD3
   by_cases hm0:0<m
   all_goals
    first
     | (have hx0:¬ 0<ys.length:=fun q=>hgo ⟨hm0,q⟩
        have b0:decide ((0:Int)<(m:Int))=true:=decide_eq_true qg
        have b1:decide ((0:Int)<(ys.length:Int))=false:=decide_eq_false qg
        have i1:¬ (0:Int)<(ys.length:Int):=by omega)
     | (have b0:decide ((0:Int)<(m:Int))=false:=decide_eq_false qg
        have i1:¬ (0:Int)<(m:Int):=by omega)
    go_wp2
    refine bodyPost_ret (v:=.agg #[.int .i64 wd,.slice a2 ys.length c2]) (by simp[results,results20,go_sem,p0,p1]) rfl ⟨wd,a2,c2,ys,rfl,hfin,hnw,hyl31,hrd,hgf⟩
end Sp
namespace Sp
variable{aLt:Nat->Func->Func}
open Go.RowKit
attribute [local go_sem ↓] Go.wp_at_zero Go.wp_at_succ
theorem zjt(a a2:Option Addr)(c c2:Nat)(es:List Int)(w:World)(h:zcL w a es)(h2:zcL w a2 es)(hm:es.length<=1000000) :
  Calls (SqG.prog aLt) 6 #[.slice a es.length c,.slice a2 es.length c2] w fun e w'=>e=.returned (.bool true)/\Below w.heap.size w w':=by
 have bl:((es.length:Int) != (es.length:Int))=false:=qk
 go_enter (zfx func6),ntmps6
 go_wp2_with fail
 go_loopw [5] (fun ii wr=>∃ i:Nat,i<=es.length/\ii=.int .i64 i/\Below w.heap.size w wr) (fun ii _=>es.length - (intOf ii).toNat)
 case atStart=>exact⟨0,Nat.zero_le _,rfl,Below.refl _ _⟩
 case round =>
  rename World=>wo
  obtain⟨i,hi,rfl,hb⟩:=hrel
  by_cases hlt:i<es.length
  ·rcases h.below hb with q|⟨b,off,ea,_,hc⟩
   ·rw[q] at hlt;simp at hlt
   rcases h2.below hb with q|⟨b2,off2,ea2,_,hc2⟩
   ·rw[q] at hlt;simp at hlt
   subst ea
   subst ea2
   have x0:=hc i hlt
   have y0:=hc2 i hlt
   obtain⟨t,et⟩:∃ t,es.getD i 0=t:=⟨_,rfl⟩
   rw[et] at x0 y0
   have hne:(t != t)=false:=qk
   clear h h2 hc hc2 et
   go_wp2_with fail
   go_quiet (fail)
   have hbq:Below w.heap.size w (wo.drewN nq):=⟨hb.os,hb.tape,hb.output,hb.size,hb.block⟩
   go_wp2_with fail
   go_roundw
   case rel=>exact⟨i+1,qg,by go_num,hbq⟩
   case measure=>exact qe
  ·go_wp2_with fail
   go_ret
   exact⟨rfl,hb⟩
theorem zil(a:Option Addr)(c:Nat)(es:List Int)(n:Int)(w:World)(h:zcL w a es)(hm:es.length<=1000000) :
  Calls (SqG.prog aLt) 10 #[.slice a es.length c,.int .i64 n] w fun e w'=>e=.returned (.bool (decide (n∈es)))/\w'=w:=by
 obtain⟨r,hr⟩:∃ r,decide (n∈es)=r:=⟨_,rfl⟩
 rw[hr]
 have HR:Hid (decide (n∈es)=r):=hr
 clear hr
 go_enter (zfx func10),ntmps10
 go_wp2_with fail
 go_loopw [5] (fun ii wr=>∃ i:Nat,i<=es.length/\ii=.int .i64 i/\wr=w/\¬ n∈es.take i) (fun ii _=>es.length - (intOf ii).toNat)
 case atStart=>exact⟨0,Nat.zero_le _,rfl,rfl,qk⟩
 case round =>
  obtain⟨i,hi,rfl,rfl,hno⟩:=hrel
  by_cases hlt:i<es.length
  ·rcases h with q|⟨b,off,ea,_,hc⟩
   ·rw[q] at hlt;simp at hlt
   subst ea
   have x0:=hc i hlt
   obtain⟨t,et⟩:∃ t,es.getD i 0=t:=⟨_,rfl⟩
   rw[et] at x0
   have htk:=zeq es i 0 hlt
   rw[et] at htk
   by_cases e0:t=n
   ·have hr:r=true:=by
     rw[<- HR.out]
     refine decide_eq_true ?_
     rw[<- e0,<- et]
     simp[List.getElem?_eq_getElem hlt]
    subst hr
    have b0:(t == n)=true:=by simp[e0]
    clear hc et htk hno e0
    go_wp2_with fail
    go_ret
    exact⟨rfl,rfl⟩
   ·have hn2:¬ n∈es.take (i+1):=by
     rw[htk]
     simp only[List.mem_append,List.mem_singleton]
     rintro (q|q)
     ·exact hno q
     ·exact e0 q.symm
    have HN:Hid (¬ n∈es.take (i+1)):=hn2
    have b0:(t == n)=false:=by simp[e0]
    clear hc et htk hno e0 hn2
    go_wp2_with fail
    go_roundw
    case rel=>exact⟨i+1,qg,by go_num,by first|trivial|rfl,HN.out⟩
    case measure=>exact qe
  ·have hr:r=false:=by
    rw[<- HR.out]
    refine decide_eq_false ?_
    rw[List.take_of_length_le qg] at hno
    exact hno
   subst hr
   clear hno
   go_wp2_with fail
   go_ret
   exact⟨rfl,rfl⟩
