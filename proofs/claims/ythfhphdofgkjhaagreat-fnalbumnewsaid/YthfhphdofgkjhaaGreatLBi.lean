/- Part. -/
import Derived.Laws.StructEq
import Derived.Test.YthfhphdofgkjhaaGreatLAk
import Derived.Test.YthfhphdofgkjhaaGreatLAm
import Derived.Test.YthfhphdofgkjhaaGreatLBh
set_option maxHeartbeats 1000000
set_option linter.unusedVariables false
namespace Go.Proofs.YthfhphdofgkjhaaGreat
variable{wd:Int}{gs:List (Int × Int)}{l0:List (Nat × Obj)}{H M N W:Nat}{p:Nat × Obj}{l:Nat->Int}{n:Nat->Nat}{f:Nat->Nat->Int}{ad ad2:Nat->Option Addr}{K Kc:Nat->Prop}{a ga ga':Option Addr}{w w' w1:World}
section
open Go
noncomputable abbrev SqN.prog:Program:=SqG.prog Sq.altN
abbrev SqN.func17:=@SqG.func17 Sq.altN
abbrev SqN.func18:=@SqG.func18 Sq.altN
abbrev SqN.func21:=@SqG.func21 Sq.altN
abbrev SqN.func41:=@SqG.func41 Sq.altN
abbrev SqN.func42:=@SqG.func42 Sq.altN
abbrev SqN.func43:=@SqG.func43 Sq.altN
abbrev SqN.func81:=@SqG.func81 Sq.altN
end
namespace Sp
open Go.RowKit
attribute [local go_sem ↓] Go.wp_at_zero Go.wp_at_succ
abbrev ze1(wd:Int)(cs:List (Int × Int))(M:Nat):Obj:=.cells (Array.ofFn fun k:Fin M=>.int .i64 (zaW wd cs ((k:Nat):Int))) 3
end Sp
section
open Go Go.Conc Go.ConcN Go.RowKit Go.Conc.Lib Go.ConcR.Gen Go.ConcN.Gen
open Go.ConcR (KK wgBlock WgAt stA smA rd wr mk Payload Aside2 DC0)
theorem zeY:zbI=false:=rfl
def rng(R:BR):Nat->Prop:=fun c=>∃ b,R b c
theorem zbG.snd{R:BR}{a c:Addr}(h:zbG R a c):zbG (zdA (rng R)) c c:=⟨⟨rfl,_,h.1⟩,rfl,rfl⟩
theorem zao.slice_fst{R:BR}{a':Addr}{n c:Nat}(h:zao R (.slice ga n c) (.slice (some a') n c))(hn:0<n):∃ a,ga=some a/\zbG R a a':=by
 cases h with
 | slice _ _ h=>exact⟨_,rfl,h⟩
 | empty _ _=>omega
theorem zd3{R:BR}{n m:Nat}(h:zao R (.slice ga n m) (.slice ga' n m)):zao (zdA (rng R)) (.slice ga' n m) (.slice ga' n m):=by
 cases h with
 | slice _ _ h=>exact .slice _ _ h.snd
 | nilSlice _ _=>exact .nilSlice _ _
 | empty _ _=>exact .empty _ _
theorem zlt{R:BR}(h:zbe N R w w'):Closed (rng R) w':=by
 rintro c ⟨b,hb⟩
 obtain⟨o,o',_,e2,ho⟩:=h.blk b c hb
 cases ho with
 | cells hr _ _=>exact .inl ⟨_,_,_,e2,zeY⟩
 | other hj _ =>
  cases hj with
  | map hx _=>rw[zeY] at hx;cases hx
  | number ha=>exact .inr ⟨zeY,_,_,e2,ha.snd⟩
open Classical in
noncomputable def held(K:Nat->Prop)(w:World):List (Nat × Obj):=(List.range w.heap.size).filterMap fun c=>if K c then (w.heap[c]?).map fun o=>(c,o) else none
theorem zbC :p∈held K w ↔ K p.1/\w.heap[p.1]?=some p.2:=by
 classical
 unfold held
 simp only[List.mem_filterMap,List.mem_range]
 constructor
 ·rintro⟨c,_,h⟩
  split at h
  ·rename_i hk
   obtain⟨o,ho,rfl⟩:=Option.map_eq_some_iff.1 h
   exact⟨hk,ho⟩
  ·cases h
 ·rintro⟨hk,ho⟩
  refine⟨p.1,(gei ho).1,?_⟩
  rw[if_pos hk,ho]
  rfl
theorem zmH(K:Nat->Prop)(w:World):Hp (held K w) w:=fun _ h=>(zbC.1 h).2
theorem zjf(h:Closed K w)(hp:Hp (held K w) w1):Closed K w1:=fun b hb=>by
 rcases h b hb with ⟨c,e,f,hx,hr⟩|⟨ho,a,l,hx,hr⟩
 ·exact .inl ⟨c,e,f,hp (b,_) (zbC.2 ⟨hb,hx⟩),hr⟩
 ·exact .inr ⟨ho,a,l,hp (b,_) (zbC.2 ⟨hb,hx⟩),hr⟩
theorem zmi{cs:List (Int × Int)}(h:Sp.zai w a cs)(hb:∀ b off,a=some ⟨b,off,none⟩->w1.heap[b]?=w.heap[b]?)(τ:Nat->Question->Nat)(d:Nat):Sp.zai (w1.frz.tp τ d) a cs:=by
 rcases h with h|⟨b,off,rfl,hl,hc⟩
 ·exact .inl h
 ·have e:=hb b off rfl
  have hc1:∀ i,w1.cell? ⟨b,i,none⟩=w.cell? ⟨b,i,none⟩:=fun i=>by simp only[World.cell?,e]
  have hc2:∀ i (x:Int),w.cell? ⟨b,i,none⟩=some (.int .i64 x)->(w1.frz.tp τ d).cell? ⟨b,i,none⟩=some (.int .i64 x):=fun i x h=>by
   have q:=zkb w1 ⟨b,i,none⟩
   rw[hc1,h] at q
   exact q
  refine .inr ⟨b,off,rfl,?_,fun i hi=>⟨hc2 _ _ (hc i hi).1,hc2 _ _ (hc i hi).2⟩⟩
  show b<w1.frz.heap.size
  rw[zdN]
  rw[Array.getElem?_eq_getElem hl] at e
  exact(gei e).1
theorem zkZ{n:Nat}(h:∀ j,j<n->∃ b off c e z x y,ga=some ⟨b,off,none⟩/\w.heap[b]?=some (.cells c e z)/\c[off+j * 2]?=some (.int .i64 x)/\c[off+j * 2+1]?=some (.int .i64 y)) :
  ∃ cs:List (Int × Int),cs.length=n/\Sp.zai w ga cs:=by
 classical
 have hx:∀ j:Fin n,∃ p:Int × Int,∃ b off c e z,ga=some ⟨b,off,none⟩/\w.heap[b]?=some (.cells c e z)/\c[off+j.val * 2]?=some (.int .i64 p.1)/\c[off+j.val * 2+1]?=some (.int .i64 p.2):=fun j=>by
  obtain⟨b,off,c,e,z,x,y,h1,h2,h3,h4⟩:=h j.val j.isLt
  exact⟨(x,y),b,off,c,e,z,h1,h2,h3,h4⟩
 obtain⟨f,hf⟩:=Classical.axiomOfChoice hx
 refine⟨List.ofFn f,by simp,?_⟩
 by_cases hn:n=0
 ·subst hn;exact .inl (by simp)
 ·obtain⟨b,off,c,e,z,h1,h2,_,_⟩:=hf ⟨0,by omega⟩
  refine .inr ⟨b,off,h1,(gei h2).1,fun i hi=>?_⟩
  have hi':i<n:=by simpa using hi
  obtain⟨b1,off1,c1,e1,z1,q1,q2,q3,q4⟩:=hf ⟨i,hi'⟩
  rw[h1] at q1
  cases q1
  rw[h2] at q2
  cases q2
  have eg:(List.ofFn f).getD i (0,0)=f ⟨i,hi'⟩:=by simp[List.getD,hi']
  rw[eg]
  exact⟨by simp only[World.cell?,h2];exact q3,by simp only[World.cell?,h2];exact q4⟩
theorem zi2{R:BR}(hw:zbe N R w w'){n m:Nat}(hv:zao R (.slice ga n m) (.slice ga' n m)){cs:List (Int × Int)}(hn:cs.length<=n)(h:Sp.zai w ga cs):Sp.zai w' ga' cs:=by
 rcases h with h|⟨b,off,rfl,hl,hc⟩
 ·exact .inl h
 ·cases hv with
  | slice _ _ ha =>
   rename_i ad'
   obtain⟨b',off',sp'⟩:=ad'
   obtain⟨h1,h2,h3⟩:=ha
   simp only at h1 h2 h3
   subst h2 h3
   refine .inr ⟨b',off,rfl,(hw.lt h1).2,fun i hi=>?_⟩
   obtain⟨c1,c2⟩:=hc i hi
   obtain⟨v1,e1,r1⟩:=hw.cell (a:=⟨b,off+i * 2,none⟩) (c:=⟨b',off+i * 2,none⟩) ⟨h1,rfl,rfl⟩ c1
   obtain⟨v2,e2,r2⟩:=hw.cell (a:=⟨b,off+i * 2+1,none⟩) (c:=⟨b',off+i * 2+1,none⟩) ⟨h1,rfl,rfl⟩ c2
   rw[e1,e2]
   exact⟨congrArg some (zcf r1),congrArg some (zcf r2)⟩
  | empty _ _=>exact .inl (List.eq_nil_of_length_eq_zero (by omega))
instance SqP.twin:zaB SqP.prog Tryz.prog:=Sq.okP.twin3
instance SqP.self:zaB SqP.prog SqP.prog:=Sq.okP.self
instance SqN.twin:zaB SqN.prog Tryz.prog:=Sq.okN.twin3
instance SqN.self:zaB SqN.prog SqN.prog:=Sq.okN.self
theorem SqP.whole:Whole SqP.prog:=Sq.okP.whole Sq.ckP
theorem SqN.whole:Whole SqN.prog:=Sq.okN.whole Sq.ckN
theorem SqP.bodies:Bodies SqP.prog Tryz.prog (fun i=>Sq.X i=true):=Sq.okP.bodies Sq.ckP
theorem SqN.bodies:Bodies SqN.prog Tryz.prog (fun _=>false=true):=Sq.okN.bodies Sq.ckN
def sF(W H:Nat)(i:Nat):Nat:=if i=0 then 0 else if i=1 then W else if i=2 then W+H else W+H+W
def sE(W H:Nat)(i:Nat):Nat:=if i=0 then W else if i=1 then W+H else if i=2 then W+H+W else W+H+W+H
theorem ziy(W H:Nat):Rng 4 (sF W H) (sE W H):=by
 intro i i' k h1 h2 h3 h4 h5 h6
 rcases (show i=0\/i=1\/i=2\/i=3 by omega) with rfl|rfl|rfl|rfl <;> rcases (show i'=0\/i'=1\/i'=2\/i'=3 by omega) with rfl|rfl|rfl|rfl <;> first
  | rfl
  | (exfalso;simp[sF,sE] at h3 h4 h5 h6;omega)
  | (exfalso;simp[sF,sE] at h3 h4 h6;omega)
  | (exfalso;simp[sF,sE] at h4 h5 h6;omega)
section
variable{Goal:Machine->Trace->Prop}{Shun:Nat->Prop}{c:Frame}{cs:List Frame}
set_option maxRecDepth 100000 in
theorem zpf(hG:zbb Tryz.prog Goal){cap:Nat}(hok:Sp.okG (W:Int) gs=true)(hW:1<=W/\W<=5)(hH:1<=H/\H<=5)(el:gs.length=W * H)(hHd:gs.length / W=H)(hHI:(gs.length:Int) / (W:Int)=(H:Int))(hl0:∀ p∈l0,Kc p.1)(hcl:∀ w,Hp l0 w->Closed Kc w)(hKl:∀ c,Kc c->∃ p∈l0,p.1=c)(hga:zao (zdA Kc) (.slice ga gs.length cap) (.slice ga gs.length cap))(hC:∀ w,Hp l0 w->∀ τ d,Sp.zai (w.frz.tp τ d) ga gs)(w:World)(hp0:Hp l0 w)(hKc:∀ c,Kc c->c<w.heap.size/\¬ Shun c)(hfin:∀(u:World) (bo:Nat),zb4 (fun e=>e<w.heap.size/\¬ Shun e) w u->w.heap.size<=bo->u.heap[bo]?=some (Sp.ze1 (W:Int) gs (2 * (W+H)))->∀ Shun':Nat->Prop,(∀ e,Shun' e->Shun e\/w.heap.size<=e)->¬ Shun' bo->zar Tryz.prog Goal Shun' (fun _=>False) (G (c.finish (.slice (some ⟨bo,0,none⟩) (2 * (W+H)) (2 * (W+H)))) cs) u) :
  zar Tryz.prog Goal Shun (fun _=>False) (G (Frame.enter Tryz.prog 40 #[.agg #[.int .i64 (W:Int),.slice ga gs.length cap],.func (.func 41) #[] #[]] .normal) (c::cs)) w:=by
 haveI:Payload:=⟨0⟩
 obtain⟨W1,W5⟩:=hW
 obtain⟨H1,H5⟩:=hH
 have hn25:gs.length<=25:=by rw[el];exact Nat.le_trans (Nat.mul_le_mul W5 H5) (by omega)
 have hM:Sp.zcl (W:Int) gs=((2 * (W+H):Nat):Int):=by rw[Sp.zcz hok hHI];omega
 have hside:Sp.zbM (W:Int) (H:Int) (gs.length:Int)=#[.int .i64 ((sF W H 0:Nat):Int),.int .i64 (W:Int),.int .i64 0,.int .i64 1,.int .i64 2,.int .i64 0,.int .i64 ((sF W H 1:Nat):Int),.int .i64 (H:Int),.int .i64 ((W:Int) - 1),.int .i64 (W:Int),.int .i64 3,.int .i64 1,.int .i64 ((sF W H 2:Nat):Int),.int .i64 (W:Int),.int .i64 ((gs.length:Int) - 1),.int .i64 (-1),.int .i64 0,.int .i64 2,.int .i64 ((sF W H 3:Nat):Int),.int .i64 (H:Int),.int .i64 ((gs.length:Int) - 1 - (W:Int)+1),.int .i64 (-(W:Int)),.int .i64 1,.int .i64 3]:=by
  simp[Sp.zbM,sF]
 have hhas:∀(f m s o i u:Int),0<=f/\f<=100->0<=m/\m<=100->∀(k:Nat) (w:World),Calls SqN.prog 81 #[.agg #[.int .i64 f,.int .i64 m,.int .i64 s,.int .i64 o,.int .i64 i,.int .i64 u],.int .i64 k] w fun e _=>e=.returned (.bool (decide (f<=k/\(k:Int)<f+m))) :=
  fun f m s o i u h1 h2 k w=>(Sp.zek f m s o i u k h1 h2 _ rfl w).mono fun e w' h=>h.1
 refine zlu (L:=SqN.prog) (X:=fun _=>false=true) (f0:=sF W H) (e0:=sE W H) (rows:=fun k=>Sp.zaW (W:Int) gs (k:Int)) (many:=2 * (W+H)) hG SqN.whole SqN.bodies (fun _ h=>by cases h) SqN.func17 (fun h=>by cases h) SqN.func42 (fun h=>by cases h) SqN.func43 (fun h=>by cases h) hl0 hcl hga
  (fun w hp τ d=>((Sp.zaw (W:Int) ga cap gs _ (hC w hp τ d) (by omega)).mono fun e w' h=>by rw[h.1,hok]))
  (fun w hp τ d=>((Sp.zcU (W:Int) ga cap gs _ (hC w hp τ d) (by omega)).mono fun e w' h=>by rw[h.1,hM]))
  (fun w hp τ d=>((Sp.zb2 W H ga gs.length cap _ ⟨W1,W5⟩ ⟨H1,H5⟩ hn25 hHd).mono fun e w' h=>by rw[h.1,hside]))
  SqN.func81 (fun h=>by cases h) SqN.func41 Tryz.func41 rfl rfl (fun h=>by cases h) (by kernel_rfl) ?_ ?_ hKl ?_ ?_ ?_ ?_ ?_ ?_ ?_ ?_ ?_ ?_ ?_ ?_ ?_
  (fun k hk w hp τ d=>((Sp.zcy (W:Int) ga cap gs _ (hC w hp τ d) (by omega) (k:Int)).mono fun e w' h=>h.1)) ?_ (by omega) w hp0 hKc hfin
 ·exact ziy W H
 ·simp[sumTo,sF,sE];omega
 ·simp[sF,sE]
 ·omega
 ·exact hhas _ _ _ _ _ _ (by simp[sF]) (by omega)
 ·simp[sF,sE]
 ·omega
 ·exact hhas _ _ _ _ _ _ (by simp[sF];omega) (by omega)
 ·simp[sF,sE]
 ·omega
 ·exact hhas _ _ _ _ _ _ (by simp[sF];omega) (by omega)
 ·simp[sF,sE]
 ·omega
 ·exact hhas _ _ _ _ _ _ (by simp[sF];omega) (by omega)
 ·intro j hj
  unfold sE
  split <;> try omega
  split <;> try omega
  split <;> omega
 ·intro k hk
  by_cases h1:k<W
  ·exact⟨0,by omega,by simp[sF],by simp[sE];omega⟩
  ·by_cases h2:k<W+H
   ·exact⟨1,by omega,by simp[sF];omega,by simp[sE];omega⟩
   ·by_cases h3:k<W+H+W
    ·exact⟨2,by omega,by simp[sF];omega,by simp[sE];omega⟩
    ·exact⟨3,by omega,by simp[sF];omega,by simp[sE];omega⟩
end
theorem zkk{R:BR}{c:Array Value}(h:∀ i (h:i<c.size),∃ n,c[i]=.int .i64 n):zay R c c:=⟨rfl,fun i h1 _=>by
 obtain⟨n,e⟩:=h i h1
 rw[e]
 exact .int _ _⟩
end
namespace Sp
open Go.RowKit
attribute [local go_sem ↓] Go.wp_at_zero Go.wp_at_succ
theorem stU:SqP.prog.underlying 64=some (.struct (SqP.prog.fieldsOf 64)):=by kernel_rfl
theorem stH:SqP.prog.stoodInHeld 64=false:=by kernel_rfl
theorem stG:SqP.prog.eqGuardType SqP.prog.depth 64=false:=by kernel_rfl
theorem zmX(k l k2 l2:Int)(w:World):Sem.run SqP.prog (binOp .neq 64 (.agg #[.int .i64 k,.int .i64 l]) (.agg #[.int .i64 k2,.int .i64 l2])) w=.ok (.bool (!(decide (k=k2/\l=l2)))) w:=by
 rw[run_neq_struct,run_equalIn_agg _ _ _ _ _ stU stH]
 simp[Op.eqFields,go_sem]
 by_cases h1:k=k2 <;> by_cases h2:l=l2 <;> simp[h1,h2]
def eqL(wd wd2:Int)(cs ds:List (Int × Int)):Bool:=decide (wd=wd2/\cs=ds)
theorem zld(wd wd2:Int)(a a2:Option Addr)(cap cap2:Nat)(cs ds:List (Int × Int))(w:World)(h:zai w a cs)(h2:zai w a2 ds)(hm:cs.length<=1048576)(hm2:ds.length<=1048576) :
  Calls SqP.prog 26 #[.agg #[.int .i64 wd,.slice a cs.length cap],.agg #[.int .i64 wd2,.slice a2 ds.length cap2]] w fun e w'=>e=.returned (.bool (eqL wd wd2 cs ds))/\Below w.heap.size w w':=by
 by_cases h1:wd=wd2
 ·subst h1
  by_cases hl:cs.length=ds.length
  ·have hbX:Below w.heap.size w ((w.alloc (.cells #[.int .i64 wd,.slice a cs.length cap] 25)).alloc (.cells #[.int .i64 wd,.slice a2 ds.length cap2] 25)):=bel
   have hln:((cs.length:Int) != (ds.length:Int))=false:=by simp[hl]
   have HL:Hid (cs.length=ds.length):=hl
   clear hl
   go_enter SqP.func26,Tryz.ntmps26
   go_wp2
   go_loopw [5] (fun i wr=>∃ k:Nat,k<=cs.length/\i=.int .i64 k/\cs.take k=ds.take k/\Below w.heap.size w wr/\wr.cell? ⟨w.heap.size,1,none⟩=some (.slice a cs.length cap)/\wr.cell? ⟨w.heap.size+1,1,none⟩=some (.slice a2 ds.length cap2)) (fun i _=>cs.length - (intOf i).toNat)
   case atStart=>exact⟨0,Nat.zero_le _,rfl,by simp,hbX,by simp[go_sem],by simp[go_sem]⟩
   case round =>
    clear hbX
    obtain⟨k,hk,rfl,htk,hb,b1,b2⟩:=hrel
    have HT:Hid (cs.take k=ds.take k):=htk
    clear htk
    by_cases hlt:k<cs.length
    ·have hlt2:k<ds.length:=by have:=HL.out;omega
     rcases h with h|⟨b,off,rfl,hbl,hcell⟩
     ·subst h;simp at hlt
     rcases h2 with h2|⟨b2',off2,rfl,hbl2,hcell2⟩
     ·subst h2;simp at hlt2
     obtain⟨hx,hy⟩:=hcell k hlt
     rw[<- hb.cell (p:=⟨b,_,none⟩) hbl] at hx hy
     obtain⟨hx2,hy2⟩:=hcell2 k hlt2
     rw[<- hb.cell (p:=⟨b2',_,none⟩) hbl2] at hx2 hy2
     clear hcell hcell2
     obtain⟨kx,lx,hkl⟩:∃ kx lx:Int,cs.getD k (0,0)=(kx,lx):=⟨_,_,rfl⟩
     obtain⟨ky,ly,hkl2⟩:∃ ky ly:Int,ds.getD k (0,0)=(ky,ly):=⟨_,_,rfl⟩
     rw[hkl] at hx hy
     rw[hkl2] at hx2 hy2
     have hg:=stG
     have e1:cs[k]=(kx,lx):=by rw[<- hkl];simp[hlt]
     have e2:ds[k]=(ky,ly):=by rw[<- hkl2];simp[hlt2]
     have hz:=hb.size
     by_cases hq:kx=ky/\lx=ly
     ·obtain⟨rfl,rfl⟩:=hq
      have hqq:∀ w:World,Sem.run SqP.prog (binOp .neq 64 (.agg #[.int .i64 kx,.int .i64 lx]) (.agg #[.int .i64 kx,.int .i64 lx])) w=.ok (.bool false) w:=fun w=>by rw[zmX];simp
      have HN:Hid (cs.take (k+1)=ds.take (k+1)):=by
       show _=_
       rw[List.take_succ_eq_append_getElem hlt,List.take_succ_eq_append_getElem hlt2,HT.out,e1,e2]
      clear hkl hkl2 e1 e2
      go_wp2
      go_quiet (fail)
      go_wp2
      go_roundw
      case rel=>exact⟨k+1,by omega,by go_num,HN.out,⟨hb.os,hb.tape,hb.output,hb.size,hb.block⟩,b1,b2⟩
      case measure=>simp[intOf];omega
     ·have hqq:∀ w:World,Sem.run SqP.prog (binOp .neq 64 (.agg #[.int .i64 kx,.int .i64 lx]) (.agg #[.int .i64 ky,.int .i64 ly])) w=.ok (.bool true) w:=fun w=>by rw[zmX];simp[hq]
      have HN:Hid (eqL wd wd cs ds=false):=by
       show _=_
       simp only[eqL,true_and,decide_eq_false_iff_not]
       intro hx'
       subst hx'
       rw[e1] at e2
       simp only[Prod.mk.injEq] at e2
       exact hq e2
      clear hkl hkl2 e1 e2
      go_wp2
      go_quiet (fail)
      go_wp2
      go_ret
      exact⟨by rw[HN.out];rfl,⟨hb.os,hb.tape,hb.output,hb.size,hb.block⟩⟩
    ·have HN:Hid (eqL wd wd cs ds=true):=by
      show _=_
      have:=HT.out
      rw[List.take_of_length_le (by omega),List.take_of_length_le (by have:=HL.out;omega)] at this
      simp[eqL,this]
     go_wp2
     go_ret
     exact⟨by rw[HN.out];rfl,hb⟩
  ·have hln:((cs.length:Int) != (ds.length:Int))=true:=by simp;omega
   go_enter SqP.func26,Tryz.ntmps26
   go_wp2
   go_ret
   exact⟨by rw[show eqL wd wd cs ds=false from by simp[eqL];intro hx;exact hl (by rw[hx])];rfl,bel⟩
 ·go_enter SqP.func26,Tryz.ntmps26
  go_wp2
  go_ret
  exact⟨by rw[show eqL wd wd2 cs ds=false from by simp[eqL,h1]];rfl,bel⟩
theorem zkm(a a2:Option Addr)(c c2 n:Nat)(f:Nat->Int)(w:World)(h:RI w a (n * 1) f)(h2:RI w a2 (n * 1) f)(hm:n<=1048576) :
  Calls SqP.prog 27 #[.slice a n c,.slice a2 n c2] w fun e w'=>e=.returned (.bool true)/\Below w.heap.size w w':=by
 have bl:((n:Int) != (n:Int))=false:=by simp
 go_enter SqP.func27,Tryz.ntmps27
 go_wp2_with fail
 go_loopw [5] (fun ii wr=>∃ i:Nat,i<=n/\ii=.int .i64 i/\Below w.heap.size w wr) (fun ii _=>n - (intOf ii).toNat)
 case atStart=>exact⟨0,Nat.zero_le _,rfl,Below.refl _ _⟩
 case round =>
  rename World=>wo
  obtain⟨i,hi,rfl,hb⟩:=hrel
  by_cases hlt:i<n
  ·obtain⟨g,ea,_,hc⟩:=(h.below hb).at (by omega)
   obtain⟨g2,ea2,_,hc2⟩:=(h2.below hb).at (by omega)
   subst ea
   subst ea2
   have x0:=(hc i (by omega)).1
   have y0:=(hc2 i (by omega)).1
   have hil:(i:Int)<(n:Int):=by omega
   have hne:(f i != f i)=false:=by simp
   clear h h2 hc hc2
   go_wp2_with fail
   go_quiet (fail)
   have hbq:Below w.heap.size w (wo.drewN nq):=⟨hb.os,hb.tape,hb.output,hb.size,hb.block⟩
   go_wp2_with fail
   go_roundw
   case rel=>exact⟨i+1,by omega,by go_num,hbq⟩
   case measure=>simp[intOf];omega
  ·go_wp2_with fail
   go_ret
   exact⟨rfl,hb⟩
theorem zoW(a a2:Option Addr)(c c2 M lo hi lo2 hi2:Nat)(ad ad2:Nat->Option Addr)(n cp cp2:Nat->Nat)(f:Nat->Nat->Int)(w:World)(h:zdE w lo hi a M ad n cp f)(h2:zdE w lo2 hi2 a2 M ad2 n cp2 f)(hm:M<=1048576)(hn:∀ k,k<M->n k<=1000) :
  Calls SqP.prog 28 #[.slice a M c,.slice a2 M c2] w fun e w'=>e=.returned (.bool true)/\Below w.heap.size w w':=by
 have bl:((M:Int) != (M:Int))=false:=by simp
 go_enter SqP.func28,Tryz.ntmps28
 go_wp2_with fail
 go_loopw [5] (fun ii wr=>∃ i:Nat,i<=M/\ii=.int .i64 i/\Below w.heap.size w wr) (fun ii _=>M - (intOf ii).toNat)
 case atStart=>exact⟨0,Nat.zero_le _,rfl,Below.refl _ _⟩
 case round =>
  rename World=>wo
  obtain⟨i,hi,rfl,hb⟩:=hrel
  have hzo:=hb.size
  by_cases hlt:i<M
  ·rcases h.below hb with q|⟨b,rfl,hy⟩
   ·omega
   rcases h2.below hb with q|⟨b2,rfl,hy2⟩
   ·omega
   have x0:=hy.cell i hlt
   have r0:=hy.row i hlt
   have y0:=hy2.cell i hlt
   have r2:=hy2.row i hlt
   have hn0:=hn i hlt
   obtain⟨g,eg⟩:∃ g,ad i=g:=⟨_,rfl⟩
   obtain⟨g2,eg2⟩:∃ g,ad2 i=g:=⟨_,rfl⟩
   obtain⟨m,em⟩:∃ g,n i=g:=⟨_,rfl⟩
   obtain⟨p,ep⟩:∃ g,cp i=g:=⟨_,rfl⟩
   obtain⟨p2,ep2⟩:∃ g,cp2 i=g:=⟨_,rfl⟩
   rw[eg,em] at r0
   rw[eg,em,ep] at x0
   rw[eg2,em] at r2
   rw[eg2,em,ep2] at y0
   rw[em] at hn0
   have hltI:(i:Int)<(M:Int):=by omega
   have wk:IntKind.i64.wrap ((i:Int)+1)=(i:Int)+1:=IntWalk.i64_in _ (by omega)
   clear h h2 hy hy2 eg eg2 em ep ep2 hn
   go_wp2
   go_region_held3 (fun w'=>w'.cell? ⟨b,i,none⟩=some (.slice g m p)/\w'.cell? ⟨b2,i,none⟩=some (.slice g2 m p2))
    (first
     | exact⟨zab hb7 x0,zab hb7 y0⟩
     | exact⟨x0,y0⟩
     | go_keep)
    (first
     | (go_at_call 27;refine(zkm g g2 p p2 m (f i) _ (r0.below (by first|exact Below.refl _ _|exact(Below.refl _ _).drew)) (r2.below (by first|exact Below.refl _ _|exact(Below.refl _ _).drew)) (by omega)).mono ?_;rintro e w7 ⟨rfl,hb7'⟩;have hb7:Below wo.heap.size wo w7:=(by first|exact hb7'|exact zch hb7'))
     | fail)
   all_goals
    have hb8:=zak hb hzo hb7
    go_wp2_with fail
    go_roundw
    case rel=>exact⟨i+1,by omega,by go_num,by first|exact hb8|exact hb8.drew⟩
    case measure=>simp[intOf];omega
  ·have hnl:¬ (i:Int)<(M:Int):=by omega
   go_wp2_with fail
   go_ret
   exact⟨rfl,hb⟩
theorem zsb{b:Nat}{v0 v1 v2 v3:Value}{t:TypeId}(h:w.heap[b]?=some (.cells #[v0,v1,v2,v3] t)):w.cell? ⟨b,0,none⟩=some v0/\w.cell? ⟨b,1,none⟩=some v1/\w.cell? ⟨b,2,none⟩=some v2/\w.cell? ⟨b,3,none⟩=some v3 :=
 ⟨(cell_of_row _ _ 0 _ _ _ h).trans rfl,(cell_of_row _ _ 1 _ _ _ h).trans rfl,(cell_of_row _ _ 2 _ _ _ h).trans rfl,(cell_of_row _ _ 3 _ _ _ h).trans rfl⟩
theorem zsd{cs:List (Int × Int)}{la fa ga2 la2 fa2:Option Addr}{gc lc fc gc2 lc2 fc2 B hi B2 hi2:Nat}{cp cp2:Nat->Nat}(h:Sn w B hi N cs M l n f ga la fa gc ad cp)(h2:Sn w B2 hi2 N cs M l n f ga2 la2 fa2 gc2 ad2 cp2)(hN:cs.length=N)(hm:N<=25)(hM:M<=20)(hn:∀ k,k<M->n k<=1000) :
  Calls SqP.prog 11 #[.agg #[.int .i64 wd,.slice ga N gc,.slice la M lc,.slice fa M fc],.agg #[.int .i64 wd,.slice ga2 N gc2,.slice la2 M lc2,.slice fa2 M fc2]] w fun e w'=>e=.returned (.bool true)/\Below w.heap.size w w':=by
 obtain⟨w2,hw2⟩:∃ w2,w2=(w.alloc (.cells #[.int .i64 wd,.slice ga N gc,.slice la M lc,.slice fa M fc] 30)).alloc (.cells #[.int .i64 wd,.slice ga2 N gc2,.slice la2 M lc2,.slice fa2 M fc2] 30):=⟨_,rfl⟩
 have H2:Hid (zcN w w2 [(w.heap.size+1,.cells #[.int .i64 wd,.slice ga2 N gc2,.slice la2 M lc2,.slice fa2 M fc2] 30),(w.heap.size,.cells #[.int .i64 wd,.slice ga N gc,.slice la M lc,.slice fa M fc] 30)]):=by rw[hw2];exact zjq _ _ w
 have HA:Hid (Sn w2 B hi N cs M l n f ga la fa gc ad cp):=h.below H2.out.below
 have HB:Hid (Sn w2 B2 hi2 N cs M l n f ga2 la2 fa2 gc2 ad2 cp2):=h2.below H2.out.below
 have hG:=zld wd wd ga ga2 gc gc2 cs cs w2 (zhk HA.out.own) (zhk HB.out.own) (by omega) (by omega)
 have eG:eqL wd wd cs cs=true:=by simp[eqL]
 rw[eG,hN] at hG
 clear eG h h2 hN
 go_enter SqP.func11,Tryz.ntmps11
 go_upto_region 1 with fail
 rw[<- hw2]
 clear hw2
 obtain⟨c0,c1,c2,c3⟩:=zsb (H2.out.lies (w.heap.size,.cells #[.int .i64 wd,.slice ga N gc,.slice la M lc,.slice fa M fc] 30) (by simp)).1
 obtain⟨d0,d1,d2,d3⟩:=zsb (H2.out.lies (w.heap.size+1,.cells #[.int .i64 wd,.slice ga2 N gc2,.slice la2 M lc2,.slice fa2 M fc2] 30) (by simp)).1
 go_wp2_with fail
 refine hG.mono ?_
 rintro e w3 ⟨rfl,hb⟩
 have H3:Hid (Below w.heap.size w w3):=zak H2.out.below H2.out.below.size hb
 have HA3:Hid (Sn w3 B hi N cs M l n f ga la fa gc ad cp):=HA.out.below hb
 have HB3:Hid (Sn w3 B2 hi2 N cs M l n f ga2 la2 fa2 gc2 ad2 cp2):=HB.out.below hb
 replace c2:=zab hb c2;replace c3:=zab hb c3;replace d2:=zab hb d2;replace d3:=zab hb d3
 clear hb hG c0 c1 d0 d1 HA HB H2
 go_wp2_with fail
 refine(zkm la la2 lc lc2 M l w3 HA3.out.li HB3.out.li (by omega)).mono ?_
 rintro e w4 ⟨rfl,hb⟩
 have H4:Hid (Below w.heap.size w w4):=zak H3.out H3.out.size hb
 have HA4:Hid (Sn w4 B hi N cs M l n f ga la fa gc ad cp):=HA3.out.below hb
 have HB4:Hid (Sn w4 B2 hi2 N cs M l n f ga2 la2 fa2 gc2 ad2 cp2):=HB3.out.below hb
 replace c3:=zab hb c3;replace d3:=zab hb d3
 clear hb c2 d2 HA3 HB3 H3
 go_wp2_with fail
 refine(zoW fa fa2 fc fc2 M B hi B2 hi2 ad ad2 n cp cp2 f w4 HA4.out.feet HB4.out.feet (by omega) hn).mono ?_
 rintro e w5 ⟨rfl,hb⟩
 go_wp2_with fail
 go_ret
 exact⟨rfl,zak H4.out H4.out.size hb⟩
end Sp
namespace Sp
open Go.RowKit
theorem zjK{cs:List (Int × Int)}(S:Siz wd cs W H):(cs.length<=25/\0<cs.length)/\2 * (W+H)<=20:=by
 have:=S.hW;have:=S.hH
 exact⟨⟨by rw[S.el];exact Nat.le_trans (Nat.mul_le_mul S.hW.2 S.hH.2) (by omega),by rw[S.el];exact Nat.mul_pos (by omega) (by omega)⟩,by omega⟩
theorem zhY{cs:List (Int × Int)}(S:Siz wd cs W H)(hM:2 * (W+H)=M)(hN:cs.length=N)(a:Option Addr)(cap:Nat)(w:World)(h:zai w a cs):Calls SqP.prog 8 #[.agg #[.int .i64 wd,.slice a cs.length cap]] w (zpU w wd N cs M (fun j=>zaW wd cs (j:Int)) (fun j=>(zaH wd cs (j:Int)).length) (fun j i=>(zaH wd cs (j:Int)).getD i 0) true):=by
 obtain⟨⟨h1,h2⟩,h3⟩:=zjK S
 subst hM
 exact(znr wd a cap cs w h h1 h2 S.ok (2 * (W+H)) (by rw[S.em];omega) h3).mono fun e w' ⟨gc,bl,bf,arrL,arrF,xs,q1,q2⟩=>zgZ (zl7 q2.toS q1) hN
theorem znz{cs:List (Int × Int)}(S:Siz wd cs W H)(hM:2 * (W+H)=M)(hN:cs.length=N)(a:Option Addr)(cap:Nat)(w:World)(h:zai w a cs):Calls SqP.prog 15 #[.agg #[.int .i64 wd,.slice a cs.length cap]] w (zpU w wd N cs M (fun j=>zaW wd cs (j:Int)) (fun j=>(zaH wd cs (j:Int)).length) (fun j i=>(zaH wd cs (j:Int)).getD i 0) true):=by
 subst hM
 exact(zeQ S a cap w h).mono fun e w' ⟨gc,c,bl,bf,arrL,arrF,xs,q1,q2⟩=>zgZ (zl7 q2 q1) hN
theorem zoI{cs:List (Int × Int)}(hk:okG wd cs=false)(hm:cs.length<=1048576)(a:Option Addr)(cap:Nat)(w:World)(h:zai w a cs):Calls SqP.prog 8 #[.agg #[.int .i64 wd,.slice a cs.length cap]] w (zpU w 0 0 [] 0 (fun _=>0) (fun _=>0) (fun _ _=>0) false) :=
 (zkC wd a cap cs w h (by omega) hk).mono fun e w' q=>zgZ (zpZ q.1 q.2) rfl
theorem zpn{cs:List (Int × Int)}(hk:okG wd cs=false)(hm:cs.length<=1048576)(a:Option Addr)(cap:Nat)(w:World)(h:zai w a cs):Calls SqP.prog 15 #[.agg #[.int .i64 wd,.slice a cs.length cap]] w (zpU w 0 0 [] 0 (fun _=>0) (fun _=>0) (fun _ _=>0) false) :=
 (zfK wd a cap cs w h hm hk).mono fun e w' q=>zgZ (zpZ q.1 q.2) rfl
end Sp
namespace Sp
open Go.RowKit
attribute [local go_sem ↓] Go.wp_at_zero Go.wp_at_succ
theorem zqQ{cs:List (Int × Int)}{ok:Bool}{r:Ending}(h:zpU w wd N cs M l n f ok r w'):zr8 w wd N M ((List.range M).map l) ((List.range M).map fun k=>(List.range (n k)).map (f k)) ok r w':=by
 obtain⟨ga,la,fa,gc,lc,fc,ad,cp,h1,h2,h3⟩:=h
 exact⟨ga,la,fa,gc,lc,fc,h1,zhm h2.li,zgE h2.feet,h3⟩
