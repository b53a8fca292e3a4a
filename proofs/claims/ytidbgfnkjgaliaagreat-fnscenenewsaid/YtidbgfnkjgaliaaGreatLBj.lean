/- Part. -/
import Derived.Test.YtidbgfnkjgaliaaGreatLAj
import Derived.Test.YtidbgfnkjgaliaaGreatLAm
import Derived.Test.YtidbgfnkjgaliaaGreatLBh
set_option maxHeartbeats 2000000
namespace Go.Proofs.YtidbgfnkjgaliaaGreat
variable{FinP:Frame->World->Prop}{gs:List (Int × Int)}{l0:List (Nat × Obj)}{N n:Nat}{p:Nat × Obj}{K Kc:Nat->Prop}{a ga ga':Option Addr}{w w' w1:World}
section
open Go Go.Conc Go.ConcN Go.RowKit Go.Conc.Lib Go.ConcR.Gen Go.ConcN.Gen
open Go.ConcR (KK wgBlock WgAt stA smA rd wr mk Payload Aside2 DC0)
theorem zeW:zbJ=false:=rfl
def rng(R:BR):Nat->Prop:=fun c=>∃ b,R b c
theorem zbG.snd{R:BR}{a c:Addr}(h:zbG R a c):zbG (zdx (rng R)) c c:=⟨⟨rfl,_,h.1⟩,rfl,rfl⟩
theorem zao.slice_fst{R:BR}{a':Addr}{c:Nat}(h:zao R (.slice ga n c) (.slice (some a') n c))(hn:0<n):∃ a,ga=some a/\zbG R a a':=by
 cases h with
 | slice _ _ h=>exact⟨_,rfl,h⟩
 | empty _ _=>omega
theorem zct{R:BR}{m:Nat}(h:zao R (.slice ga n m) (.slice ga' n m)):zao (zdx (rng R)) (.slice ga' n m) (.slice ga' n m):=by
 cases h with
 | slice _ _ h=>exact .slice _ _ h.snd
 | nilSlice _ _=>exact .nilSlice _ _
 | empty _ _=>exact .empty _ _
theorem zgQ{R:BR}(h:za9 N R w w'):Closed (rng R) w':=by
 rintro c ⟨b,hb⟩
 obtain⟨o,o',_,e2,ho⟩:=h.blk b c hb
 cases ho with
 | cells hr _ _=>exact .inl ⟨_,_,_,e2,zeW⟩
 | other hj _ =>
  cases hj with
  | map hx _=>rw[zeW] at hx;cases hx
  | number ha=>exact .inr ⟨zeW,_,_,e2,ha.snd⟩
open Classical in
noncomputable def held(K:Nat->Prop)(w:World):List (Nat × Obj):=(List.range w.heap.size).filterMap fun c=>if K c then (w.heap[c]?).map fun o=>(c,o) else none
theorem zaZ :p∈held K w ↔ K p.1/\w.heap[p.1]?=some p.2:=by
 classical
 unfold held
 simp only[List.mem_filterMap,List.mem_range]
 constructor
 ·rintro⟨c,_,h⟩
  split at h
  ·rename_i hk
   obtain⟨o,ho,rfl⟩:=Option.map_eq_some_iff.1 h
   exact⟨hk,ho⟩
  ·cases h
 ·rintro⟨hk,ho⟩
  refine⟨p.1,(gei ho).1,?_⟩
  rw[if_pos hk,ho]
  rfl
theorem zhl(K:Nat->Prop)(w:World):Hp (held K w) w:=fun _ h=>(zaZ.1 h).2
theorem zfv(h:Closed K w)(hp:Hp (held K w) w1):Closed K w1:=fun b hb=>by
 rcases h b hb with ⟨c,e,f,hx,hr⟩|⟨ho,a,l,hx,hr⟩
 ·exact .inl ⟨c,e,f,hp (b,_) (zaZ.2 ⟨hb,hx⟩),hr⟩
 ·exact .inr ⟨ho,a,l,hp (b,_) (zaZ.2 ⟨hb,hx⟩),hr⟩
theorem zh0{cs:List (Int × Int)}(h:Sp.zah w a cs)(hb:∀ b off,a=some ⟨b,off,none⟩->w1.heap[b]?=w.heap[b]?)(τ:Nat->Question->Nat)(d:Nat):Sp.zah (w1.frz.tp τ d) a cs:=by
 rcases h with h|⟨b,off,rfl,hl,hc⟩
 ·exact .inl h
 ·have e:=hb b off rfl
  have hc1:∀ i,w1.cell? ⟨b,i,none⟩=w.cell? ⟨b,i,none⟩:=fun i=>by simp only[World.cell?,e]
  have hc2:∀ i (x:Int),w.cell? ⟨b,i,none⟩=some (.int .i64 x)->(w1.frz.tp τ d).cell? ⟨b,i,none⟩=some (.int .i64 x):=fun i x h=>by
   have q:=zkk w1 ⟨b,i,none⟩
   rw[hc1,h] at q
   exact q
  refine .inr ⟨b,off,rfl,?_,fun i hi=>⟨hc2 _ _ (hc i hi).1,hc2 _ _ (hc i hi).2⟩⟩
  show b<w1.frz.heap.size
  rw[zdQ]
  rw[Array.getElem?_eq_getElem hl] at e
  exact(gei e).1
theorem zgB(h:∀ j,j<n->∃ b off c e z x y,ga=some ⟨b,off,none⟩/\w.heap[b]?=some (.cells c e z)/\c[off+j * 2]?=some (.int .i64 x)/\c[off+j * 2+1]?=some (.int .i64 y)) :
  ∃ cs:List (Int × Int),cs.length=n/\Sp.zah w ga cs:=by
 classical
 have hx:∀ j:Fin n,∃ p:Int × Int,∃ b off c e z,ga=some ⟨b,off,none⟩/\w.heap[b]?=some (.cells c e z)/\c[off+j.val * 2]?=some (.int .i64 p.1)/\c[off+j.val * 2+1]?=some (.int .i64 p.2):=fun j=>by
  obtain⟨b,off,c,e,z,x,y,h1,h2,h3,h4⟩:=h j.val j.isLt
  exact⟨(x,y),b,off,c,e,z,h1,h2,h3,h4⟩
 obtain⟨f,hf⟩:=Classical.axiomOfChoice hx
 refine⟨List.ofFn f,by simp,?_⟩
 by_cases hn:n=0
 ·subst hn;exact .inl (by simp)
 ·obtain⟨b,off,c,e,z,h1,h2,_,_⟩:=hf ⟨0,by omega⟩
  refine .inr ⟨b,off,h1,(gei h2).1,fun i hi=>?_⟩
  have hi':i<n:=by simpa using hi
  obtain⟨b1,off1,c1,e1,z1,q1,q2,q3,q4⟩:=hf ⟨i,hi'⟩
  rw[h1] at q1
  cases q1
  rw[h2] at q2
  cases q2
  have eg:(List.ofFn f).getD i (0,0)=f ⟨i,hi'⟩:=by simp[List.getD,hi']
  rw[eg]
  exact⟨by simp only[World.cell?,h2];exact q3,by simp only[World.cell?,h2];exact q4⟩
theorem zfl{R:BR}(hw:za9 N R w w'){m:Nat}(hv:zao R (.slice ga n m) (.slice ga' n m)){cs:List (Int × Int)}(hn:cs.length<=n)(h:Sp.zah w ga cs):Sp.zah w' ga' cs:=by
 rcases h with h|⟨b,off,rfl,hl,hc⟩
 ·exact .inl h
 ·cases hv with
  | slice _ _ ha =>
   rename_i ad'
   obtain⟨b',off',sp'⟩:=ad'
   obtain⟨h1,h2,h3⟩:=ha
   simp only at h1 h2 h3
   subst h2 h3
   refine .inr ⟨b',off,rfl,(hw.lt h1).2,fun i hi=>?_⟩
   obtain⟨c1,c2⟩:=hc i hi
   obtain⟨v1,e1,r1⟩:=hw.cell (a:=⟨b,off+i * 2,none⟩) (c:=⟨b',off+i * 2,none⟩) ⟨h1,rfl,rfl⟩ c1
   obtain⟨v2,e2,r2⟩:=hw.cell (a:=⟨b,off+i * 2+1,none⟩) (c:=⟨b',off+i * 2+1,none⟩) ⟨h1,rfl,rfl⟩ c2
   rw[e1,e2]
   exact⟨congrArg some (zbW r1),congrArg some (zbW r2)⟩
  | empty _ _=>exact .inl (List.eq_nil_of_length_eq_zero (by omega))
instance SqP.twin:zaB SqP.prog Tryz.prog:=Sq.okP.twin3
instance SqP.self:zaB SqP.prog SqP.prog:=Sq.okP.self
instance SqN.twin:zaB SqN.prog Tryz.prog:=Sq.okN.twin3
instance SqN.self:zaB SqN.prog SqN.prog:=Sq.okN.self
theorem SqP.whole:Whole SqP.prog:=Sq.okP.whole Sq.ckP
theorem SqN.whole:Whole SqN.prog:=Sq.okN.whole Sq.ckN
theorem SqP.bodies:Bodies SqP.prog Tryz.prog (fun i=>Sq.X i=true):=Sq.okP.bodies Sq.ckP
theorem SqN.bodies:Bodies SqN.prog Tryz.prog (fun _=>false=true):=Sq.okN.bodies Sq.ckN
def sF(W H:Nat)(i:Nat):Nat:=if i=0 then 0 else if i=1 then W else if i=2 then W+H else W+H+W
def sE(W H:Nat)(i:Nat):Nat:=if i=0 then W else if i=1 then W+H else if i=2 then W+H+W else W+H+W+H
theorem ziQ(W H:Nat):Rng 4 (sF W H) (sE W H):=by
 intro i i' k h1 h2 h3 h4 h5 h6
 rcases (show i=0\/i=1\/i=2\/i=3 by omega) with rfl|rfl|rfl|rfl <;> rcases (show i'=0\/i'=1\/i'=2\/i'=3 by omega) with rfl|rfl|rfl|rfl <;> first
  | rfl
  | (exfalso;simp[sF,sE] at h3 h4 h5 h6;omega)
  | (exfalso;simp[sF,sE] at h3 h4 h6;omega)
  | (exfalso;simp[sF,sE] at h4 h5 h6;omega)
section
variable{Goal:Machine->Trace->Prop}{Shun:Nat->Prop}{c:Frame}{cs:List Frame}
set_option maxRecDepth 100000 in
theorem zkH(hG:za7 Tryz.prog Goal){W H:Nat}{cap:Nat}(hok:Sp.okG (W:Int) gs=true)(hW:1<=W/\W<=5)(hH:1<=H/\H<=5)(el:gs.length=W * H)(hHd:gs.length / W=H)(hHI:(gs.length:Int) / (W:Int)=(H:Int))(hl0:∀ p∈l0,Kc p.1)(hcl:∀ w,Hp l0 w->Closed Kc w)(hKl:∀ c,Kc c->∃ p∈l0,p.1=c)(hga:zao (zdx Kc) (.slice ga gs.length cap) (.slice ga gs.length cap))(hC:∀ w,Hp l0 w->∀ τ d,Sp.zah (w.frz.tp τ d) ga gs)(w:World)(hp0:Hp l0 w)(hKc:∀ c,Kc c->c<w.heap.size/\¬ Shun c)(hfin:∀(u:World) (bo:Nat),zbK (fun e=>e<w.heap.size/\¬ Shun e) w u->w.heap.size<=bo->u.heap[bo]?=some (Sp.zbD (W:Int) gs (2 * (W+H)))->∀ Shun':Nat->Prop,(∀ e,Shun' e->Shun e\/w.heap.size<=e)->¬ Shun' bo->zar Tryz.prog Goal Shun' (fun _=>False) (G (c.finish (.slice (some ⟨bo,0,none⟩) (2 * (W+H)) (2 * (W+H)))) cs) u) :
  zar Tryz.prog Goal Shun (fun _=>False) (G (Frame.enter Tryz.prog 35 #[.agg #[.int .i64 (W:Int),.slice ga gs.length cap],.func (.func 36) #[] #[]] .normal) (c::cs)) w:=by
 haveI:Payload:=⟨0⟩
 obtain⟨W1,W5⟩:=hW
 obtain⟨H1,H5⟩:=hH
 have hn25:gs.length<=25:=by rw[el];exact Nat.le_trans (Nat.mul_le_mul W5 H5) (by omega)
 have hM:Sp.zbL (W:Int) gs=((2 * (W+H):Nat):Int):=by rw[Sp.zbT hok hHI];omega
 have hside:Sp.zbQ (W:Int) (H:Int) (gs.length:Int)=#[.int .i64 ((sF W H 0:Nat):Int),.int .i64 (W:Int),.int .i64 0,.int .i64 1,.int .i64 2,.int .i64 0,.int .i64 ((sF W H 1:Nat):Int),.int .i64 (H:Int),.int .i64 ((W:Int) - 1),.int .i64 (W:Int),.int .i64 3,.int .i64 1,.int .i64 ((sF W H 2:Nat):Int),.int .i64 (W:Int),.int .i64 ((gs.length:Int) - 1),.int .i64 (-1),.int .i64 0,.int .i64 2,.int .i64 ((sF W H 3:Nat):Int),.int .i64 (H:Int),.int .i64 ((gs.length:Int) - 1 - (W:Int)+1),.int .i64 (-(W:Int)),.int .i64 1,.int .i64 3]:=by
  simp[Sp.zbQ,sF]
 have hhas:∀(f m s o i u:Int),0<=f/\f<=100->0<=m/\m<=100->∀(k:Nat) (w:World),Calls SqN.prog 86 #[.agg #[.int .i64 f,.int .i64 m,.int .i64 s,.int .i64 o,.int .i64 i,.int .i64 u],.int .i64 k] w fun e _=>e=.returned (.bool (decide (f<=k/\(k:Int)<f+m))) :=
  fun f m s o i u h1 h2 k w=>(Sp.zel f m s o i u k h1 h2 _ rfl w).mono fun e w' h=>h.1
 refine zlz (L:=SqN.prog) (X:=fun _=>false=true) (f0:=sF W H) (e0:=sE W H) (rows:=fun k=>Sp.zaF (W:Int) gs (k:Int)) (many:=2 * (W+H)) hG SqN.whole SqN.bodies (fun _ h=>by cases h) SqN.func28 (fun h=>by cases h) SqN.func52 (fun h=>by cases h) SqN.func53 (fun h=>by cases h) hl0 hcl hga
  (fun w hp τ d=>((Sp.zau (W:Int) ga cap gs _ (hC w hp τ d) (by omega)).mono fun e w' h=>by rw[h.1,hok]))
  (fun w hp τ d=>((Sp.zcT (W:Int) ga cap gs _ (hC w hp τ d) (by omega)).mono fun e w' h=>by rw[h.1,hM]))
  (fun w hp τ d=>((Sp.zb6 W H ga gs.length cap _ ⟨W1,W5⟩ ⟨H1,H5⟩ hn25 hHd).mono fun e w' h=>by rw[h.1,hside]))
  SqN.func86 (fun h=>by cases h) SqN.func36 Tryz.func36 rfl rfl (fun h=>by cases h) (by kernel_rfl) ?_ ?_ hKl ?_ ?_ ?_ ?_ ?_ ?_ ?_ ?_ ?_ ?_ ?_ ?_ ?_
  (fun k hk w hp τ d=>((Sp.zcx (W:Int) ga cap gs _ (hC w hp τ d) (by omega) (k:Int)).mono fun e w' h=>h.1)) ?_ (by omega) w hp0 hKc hfin
 ·exact ziQ W H
 ·simp[sumTo,sF,sE];omega
 ·simp[sF,sE]
 ·omega
 ·exact hhas _ _ _ _ _ _ (by simp[sF]) (by omega)
 ·simp[sF,sE]
 ·omega
 ·exact hhas _ _ _ _ _ _ (by simp[sF];omega) (by omega)
 ·simp[sF,sE]
 ·omega
 ·exact hhas _ _ _ _ _ _ (by simp[sF];omega) (by omega)
 ·simp[sF,sE]
 ·omega
 ·exact hhas _ _ _ _ _ _ (by simp[sF];omega) (by omega)
 ·intro j hj
  unfold sE
  split <;> try omega
  split <;> try omega
  split <;> omega
 ·intro k hk
  by_cases h1:k<W
  ·exact⟨0,by omega,by simp[sF],by simp[sE];omega⟩
  ·by_cases h2:k<W+H
   ·exact⟨1,by omega,by simp[sF];omega,by simp[sE];omega⟩
   ·by_cases h3:k<W+H+W
    ·exact⟨2,by omega,by simp[sF];omega,by simp[sE];omega⟩
    ·exact⟨3,by omega,by simp[sF];omega,by simp[sE];omega⟩
end
theorem zhq{R:BR}{c:Array Value}(h:∀ i (h:i<c.size),∃ n,c[i]=.int .i64 n):zay R c c:=⟨rfl,fun i h1 _=>by
 obtain⟨n,e⟩:=h i h1
 rw[e]
 exact .int _ _⟩
theorem zrQ(v:Value):#[v]++Array.replicate (22 - #[v].size) undef=#[v,undef,undef,undef,undef,undef,undef,undef,undef,undef,undef,undef,undef,undef,undef,undef,undef,undef,undef,undef,undef,undef]:=by kernel_rfl
set_option maxRecDepth 100000 in
theorem zno{c:Frame}{cs:List Frame}{R:BR}{wl:World}{v v':Value}(hw:za9 N R (wl.tp w.tape w.drawn) w)(hv:zao R v v')(tr:zbN SqP.prog FinP (Frame.enter SqP.prog 13 #[v] .normal) (c::cs) wl) :
  ∃ wd ga ga' m gl,v=.agg #[.int .i64 wd,.slice ga (List.length gl) m]/\v'=.agg #[.int .i64 wd,.slice ga' gl.length m]/\gl.length<4611686018427387904/\Sp.zah wl ga gl/\zao R (.slice ga gl.length m) (.slice ga' gl.length m):=by
 rw[enter_at _ SqP.func13 SqP.body13,SqP.ntmps13,zrQ] at tr
 have tr1:zbN (@Sq.prog Sq.P) FinP ((base 13).at ⟨#[v,undef,undef,undef,undef,undef,undef,undef,undef,undef,undef,undef,undef,undef,undef,undef,undef,undef,undef,undef,undef,undef],[]⟩ [.code (zej zdy)]) (c::cs) wl:=tr
 have hrel:∀ n m ad,v.cells[1]?=some (.slice (some ad) n m)->0<n->∃ o,wl.heap[ad.block]?=some o/\∀ x y,o≠.view x y:=by
  intro n m ad hx hn0
  have key:∀ u u',zao R u u'->u=.slice (some ad) n m->∃ o,wl.heap[ad.block]?=some o/\∀ x y,o≠.view x y:=by
   intro u u' hu e
   subst e
   cases hu with
   | slice _ _ had =>
    obtain⟨o,o',e1,_,ho⟩:=hw.blk _ _ had.1
    refine⟨o,e1,fun x y e=>?_⟩
    subst e
    cases ho with
    | other hj _=>cases hj
   | empty _ _=>omega
  cases hv with
  | agg h1 h2 =>
   rename_i cc cc'
   have hx':cc[1]?=some (.slice (some ad) n m):=hx
   obtain⟨hl,e⟩:=gei hx'
   exact key _ _ (h2 1 hl (by rw[<- h1];exact hl)) e
  | _=>simp[Value.cells] at hx
 obtain⟨wd,ga,n,m,rfl,hn62,hcells⟩:=@zor Sq.P _ _ _ _ _ _ Sq.wholeP hrel tr1
 obtain⟨ga',rfl,hgr⟩:∃ ga',v'=.agg #[.int .i64 wd,.slice ga' n m]/\zao R (.slice ga n m) (.slice ga' n m):=by
  cases hv with
  | agg h1 h2 =>
   rename_i cc'
   have hs:cc'.size=2:=by rw[<- h1];rfl
   have q0:=h2 0 (by simp) (by omega)
   have q1:=h2 1 (by simp) (by omega)
   have e0:=zbW q0
   have e1:∃ ga',cc'[1]'(by omega)=.slice ga' n m:=by
    have q1':zao R (.slice ga n m) (cc'[1]'(by omega)):=q1
    revert q1'
    generalize cc'[1]'(by omega)=z
    intro q1'
    cases q1' with
    | slice _ _ _=>exact⟨_,rfl⟩
    | nilSlice _ _=>exact⟨_,rfl⟩
    | empty _ _=>exact⟨_,rfl⟩
   obtain⟨ga',e1⟩:=e1
   refine⟨ga',congrArg Value.agg (Array.ext (by simp[hs]) fun i hi1 hi2=>?_),by rw[<- e1];exact q1⟩
   have:i=0\/i=1:=by simp at hi2;omega
   rcases this with rfl|rfl
   ·exact e0
   ·exact e1
 obtain⟨gl,hgl,hCl⟩:=zgB hcells
 subst hgl
 exact⟨wd,ga,ga',m,gl,rfl,rfl,hn62,hCl,hgr⟩
set_option maxRecDepth 100000 in
theorem zph(N:Nat):XOk SqP.prog Tryz.prog (fun i=>i=13) N:=by
 intro FinP f a a' c c' cs cs' R wl w Shun gs t q sl hXf har ha hcs hw tr hB h0 hSh hN hShN hNw
 obtain rfl:f=13:=hXf
 have ha1:a.size=1:=by
  have e:zod 13 a.size=(a.size == 1):=rfl
  rw[e] at har
  simpa using har
 obtain⟨v,rfl⟩:∃ v,a=#[v]:=⟨a[0],Array.ext (by simp[ha1]) fun i h1 h2=>by
  have:i=0:=by simp at h2;omega
  subst this
  rfl⟩
 obtain⟨v',rfl⟩:∃ v',a'=#[v']:=⟨a'[0]'(by rw[<- ha.1];exact ha1 ▸ Nat.zero_lt_one),Array.ext (by simp[<- ha.1]) fun i h1 h2=>by
  have:i=0:=by simp at h2;omega
  subst this
  rfl⟩
 have hv:zao R v v':=ha.2 0 (by simp) (by simp)
 have tr0:=tr
 obtain⟨wd,ga,ga',m,gl,rfl,rfl,hn62,hCl,hgr⟩:=zno hw hv tr
 clear tr
 have hCw:Sp.zah w ga' gl:=zfl (w:=wl.tp w.tape w.drawn) hw hgr (Nat.le_refl _) (show Sp.zah (wl.tp w.tape w.drawn) ga gl from hCl)
 refine(show zar Tryz.prog (fun M t=>∃ (n:Nat) (gs':Array Goroutine) (w':World) (sl':Option (Nat × Nat)) (t':Trace) (q':Nat->Nat) (Shun':Nat->Prop) (R':BR) (v v':Value) (wl':World),
   runNT Tryz.prog n M t=(.next (crowd gs' w' sl'),t')/\gs'[0]?=some (G (c'.finish v') cs')/\Bes Tryz.prog Shun' gs' w' t' q'/\zcb SqP.prog (Frame.enter SqP.prog 13 #[.agg #[.int .i64 wd,.slice ga gl.length m]] .normal) (c::cs) wl (c.finish v) cs wl'/\R.le R'/\zao R' v v' /\
   za9 N R' (wl'.tp w'.tape w'.drawn) w'/\(∀ b c,R' b c->¬ Shun' c)/\(∀ b c,R' b c->N<=b->N<=c)/\(∀ c,Shun' c->N<=c)/\Below N w w') Shun (fun _=>False) (G (Frame.enter Tryz.prog 13 #[.agg #[.int .i64 wd,.slice ga' gl.length m]] .normal) (c'::cs')) w from ?_) gs sl t q hB h0 (fun _ h=>h.elim)
 have hG:∀(n:Nat) (M:Machine) (t:Trace) (M':Machine) (t':Trace),runNT Tryz.prog n M t=(.next M',t')->(∃ (n:Nat) (gs':Array Goroutine) (w':World) (sl':Option (Nat × Nat)) (t'':Trace) (q':Nat->Nat) (Shun':Nat->Prop) (R':BR) (v v':Value) (wl':World),
   runNT Tryz.prog n M' t'=(.next (crowd gs' w' sl'),t'')/\gs'[0]?=some (G (c'.finish v') cs')/\Bes Tryz.prog Shun' gs' w' t'' q'/\zcb SqP.prog (Frame.enter SqP.prog 13 #[.agg #[.int .i64 wd,.slice ga gl.length m]] .normal) (c::cs) wl (c.finish v) cs wl'/\R.le R'/\zao R' v v' /\
   za9 N R' (wl'.tp w'.tape w'.drawn) w'/\(∀ b c,R' b c->¬ Shun' c)/\(∀ b c,R' b c->N<=b->N<=c)/\(∀ c,Shun' c->N<=c)/\Below N w w')->(∃ (n:Nat) (gs':Array Goroutine) (w':World) (sl':Option (Nat × Nat)) (t'':Trace) (q':Nat->Nat) (Shun':Nat->Prop) (R':BR) (v v':Value) (wl':World),
   runNT Tryz.prog n M t=(.next (crowd gs' w' sl'),t'')/\gs'[0]?=some (G (c'.finish v') cs')/\Bes Tryz.prog Shun' gs' w' t'' q'/\zcb SqP.prog (Frame.enter SqP.prog 13 #[.agg #[.int .i64 wd,.slice ga gl.length m]] .normal) (c::cs) wl (c.finish v) cs wl'/\R.le R'/\zao R' v v' /\
   za9 N R' (wl'.tp w'.tape w'.drawn) w'/\(∀ b c,R' b c->¬ Shun' c)/\(∀ b c,R' b c->N<=b->N<=c)/\(∀ c,Shun' c->N<=c)/\Below N w w'):=by
  rintro n1 M t M' t' h1 ⟨n2,gs',w',sl',t'',q',Shun',R',v,v',wl',h2,h3⟩
  exact⟨n1+n2,gs',w',sl',t'',q',Shun',R',v,v',wl',by rw[runNT_add,h1];exact h2,h3⟩
 have hKc:∀ e,rng R e->e<w.heap.size/\¬ Shun e:=fun e ⟨b,hb⟩=>⟨(hw.lt hb).2,hSh b e hb⟩
 have hcl:∀ w1,Hp (held (rng R) w) w1->Closed (rng R) w1:=fun w1 hp=>zfv (zgQ hw) hp
 have hC1:∀ w1,Hp (held (rng R) w) w1->∀ τ d,Sp.zah (w1.frz.tp τ d) ga' gl:=fun w1 hp τ d=>by
  rcases Nat.eq_zero_or_pos gl.length with h0|hposC
  ·exact .inl (List.eq_nil_of_length_eq_zero h0)
  exact zh0 hCw (fun b off e=>by
   subst e
   have hb:rng R b:=by
    obtain⟨_,_,had⟩:=zao.slice_fst hgr hposC
    exact⟨_,had.1⟩
   have hlt:=(hKc b hb).1
   have e2:w.heap[b]?=some w.heap[b]:=Array.getElem?_eq_getElem hlt
   rw[e2]
   exact hp (b,w.heap[b]) (zaZ.2 ⟨hb,e2⟩)) τ d
 have hold:∀(wl1 u:World),Below wl.heap.size wl wl1->zbK (fun e=>e<w.heap.size/\¬ Shun e) w u->∀ b e,R b e->∃ o o',wl1.heap[b]?=some o/\u.heap[e]?=some o'/\zmd R (b<N) o o':=fun wl1 u hb1 hk b e hbe=>by
  obtain⟨o,o',e1,e2,ho⟩:=hw.blk b e hbe
  have hl:=hw.lt hbe
  exact⟨o,o',(hb1.block b hl.1).trans e1,(hk.1 e ⟨hl.2,hSh b e hbe⟩).trans e2,ho⟩
 have hbelow:∀ u,zbK (fun e=>e<w.heap.size/\¬ Shun e) w u->Below N w u:=fun u hk=>⟨hk.2.2.1,hk.2.1,hk.2.2.2.1,hk.2.2.2.2,fun e he=>hk.1 e ⟨by omega,fun h=>by have:=hShN e h;omega⟩⟩
 have hlow:N<=wl.heap.size:=hw.low
 rcases hk:Sp.okG wd gl with _|_
 ·skip
  obtain⟨vl,wl1,⟨rfl,hb1⟩,hd⟩:=zgc tr0 (Post:=fun v w'=>v=.slice none 0 0/\Below wl.heap.size wl w') ((Sp.znn wd ga m gl wl hCl hn62 hk).mono fun e w' h=>⟨_,h.1,rfl,h.2⟩)
  refine zfM (Fin:=fun _ v _ Sh=>v=.slice none 0 0/\Sh=Shun) (Out:=fun v _ Sh=>v=.slice none 0 0/\Sh=Shun) hG (fun p h=>(zaZ.1 h).1) (zhl _ w) hKc ?_ (fun _ _ _ _ _ h _ _ _=>h) ?_
  ·intro c0 cs0 w0 hp hK0 _ hfin
   exact znx (L:=SqN.prog) (X:=fun _=>false=true) hG SqN.whole SqN.bodies (fun _ h=>by cases h) SqN.func28 (fun h=>by cases h) (fun p h=>(zaZ.1 h).1) hcl (zct hgr) (fun w hp τ d=>((Sp.zau wd ga' m gl _ (hC1 w hp τ d) (by omega)).mono fun e w' h=>by rw[h.1,hk])) w0 hp hK0 fun u hu=>hfin _ u Shun hu ⟨rfl,rfl⟩
  ·rintro v u Sh hu ⟨rfl,rfl⟩ gs1 sl1 t1 q1 hB1 h01 _
   refine⟨0,gs1,u,sl1,t1,q1,Sh,R,.slice none 0 0,.slice none 0 0,wl1,rfl,h01,hB1,hd,BR.le_refl R,.nilSlice 0 0,⟨hw.one,hold wl1 u hb1 hu,rfl,rfl,?_⟩,hSh,hN,hShN,hbelow u hu⟩
   have:=hb1.size
   show N<=wl1.heap.size
   omega
 ·skip
  obtain⟨W,H,rfl,h1,h2,h3,h4,el,hH,hHI⟩:=Sp.zcW wd gl hk
  have hM:Sp.zbL (W:Int) gl=((2 * (W+H):Nat):Int):=by rw[Sp.zbT hk hHI];omega
  obtain⟨vl,wl1,⟨g,rfl,hg,hgc,hb1⟩,hd⟩:=zgc tr0 (Post:=fun v w'=>∃ g,v=.slice (some ⟨g,0,none⟩) (2 * (W+H)) (2 * (W+H))/\wl.heap.size<=g/\w'.heap[g]?=some (Sp.zbD (W:Int) gl (2 * (W+H)))/\Below wl.heap.size wl w') ((Sp.zgN (W:Int) ga m gl wl hCl hk (2 * (W+H)) hM).mono fun e w' ⟨g,q1,q2⟩=>⟨_,q1,g,rfl,q2⟩)
  refine zfM (Fin:=fun w0 v u Sh=>∃ bo,v=.slice (some ⟨bo,0,none⟩) (2 * (W+H)) (2 * (W+H))/\w0.heap.size<=bo/\u.heap[bo]?=some (Sp.zbD (W:Int) gl (2 * (W+H)))/\(∀ e,Sh e->Shun e\/w0.heap.size<=e)/\¬ Sh bo) (Out:=fun v u Sh=>∃ bo,v=.slice (some ⟨bo,0,none⟩) (2 * (W+H)) (2 * (W+H))/\w.heap.size<=bo/\u.heap[bo]?=some (Sp.zbD (W:Int) gl (2 * (W+H)))/\(∀ e,Sh e->Shun e\/w.heap.size<=e)/\¬ Sh bo) hG (fun p h=>(zaZ.1 h).1) (zhl _ w) hKc ?_ ?_ ?_
  ·intro c0 cs0 w0 hp hK0 _ hfin
   exact zkH hG hk ⟨h1,h2⟩ ⟨h3,h4⟩ el hH hHI (fun p h=>(zaZ.1 h).1) hcl (fun e he=>⟨(e,w.heap[e]'(hKc e he).1),zaZ.2 ⟨he,Array.getElem?_eq_getElem (hKc e he).1⟩,rfl⟩) (zct hgr) hC1 w0 hp hK0 fun u bo hu hbo hc Sh hS hnb=>hfin _ u Sh hu ⟨bo,rfl,hbo,hc,hS,hnb⟩
  ·rintro w0 v u u2 Sh ⟨bo,rfl,q1,q2,q3,q4⟩ hz hkeep hsz
   exact⟨bo,rfl,by omega,(hkeep bo (gei q2).1).trans q2,fun e he=>(q3 e he).imp id fun h=>by omega,q4⟩
  ·rintro v u Sh hu ⟨bo,rfl,q1,q2,q3,q4⟩ gs1 sl1 t1 q' hB1 h01 _
   have hone:(R.more g bo).One:=by
    refine⟨fun b e e' x y=>?_,fun b b' e x y=>?_⟩
    ·rcases x with x|⟨rfl,rfl⟩
     ·rcases y with y|⟨rfl,rfl⟩
      ·exact hw.one.1 _ _ _ x y
      ·have:b<wl.heap.size:=(hw.lt x).1
       omega
     ·rcases y with y|⟨_,rfl⟩
      ·have:b<wl.heap.size:=(hw.lt y).1
       omega
      ·rfl
    ·rcases x with x|⟨rfl,rfl⟩
     ·rcases y with y|⟨rfl,rfl⟩
      ·exact hw.one.2 _ _ _ x y
      ·have:=(hw.lt x).2
       omega
     ·rcases y with y|⟨rfl,_⟩
      ·have:=(hw.lt y).2
       omega
      ·rfl
   have hle:R.le (R.more g bo):=⟨fun _ _ h=>Or.inl h,fun _=>hone⟩
   refine⟨0,gs1,u,sl1,t1,q',Sh,R.more g bo,.slice (some ⟨g,0,none⟩) (2 * (W+H)) (2 * (W+H)),.slice (some ⟨bo,0,none⟩) (2 * (W+H)) (2 * (W+H)),wl1,rfl,h01,hB1,hd,hle,.slice _ _ ⟨.inr ⟨rfl,rfl⟩,rfl,rfl⟩,⟨hone,?_,rfl,rfl,?_⟩,?_,?_,?_,hbelow u hu⟩
   ·intro b e hbe
    rcases hbe with hbe|⟨rfl,rfl⟩
    ·obtain⟨o,o',e1,e2,ho⟩:=hold wl1 u hb1 hu b e hbe
     exact⟨o,o',e1,e2,ho.mono hle⟩
    ·exact⟨_,_,hgc,q2,.cells (zhq fun i h=>⟨Sp.zaF (W:Int) gl ((i:Nat):Int),by simp⟩) (fun h=>by omega) (fun _=>rfl)⟩
   ·have:=hb1.size
    show N<=wl1.heap.size
    omega
   ·intro b e hbe hs
    rcases hbe with hbe|⟨rfl,rfl⟩
    ·rcases q3 e hs with x|x
     ·exact hSh b e hbe x
     ·have:=(hw.lt hbe).2
      omega
    ·exact q4 hs
   ·intro b e hbe hb
    rcases hbe with hbe|⟨rfl,rfl⟩
    ·exact hN b e hbe hb
    ·omega
   ·intro e he
    rcases q3 e he with x|x
    ·exact hShN e x
    ·omega
