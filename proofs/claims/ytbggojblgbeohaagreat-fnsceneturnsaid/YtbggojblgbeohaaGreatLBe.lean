/- Part. -/
import Derived.Conc.CompanyDraw
import Derived.Test.YtbggojblgbeohaaGreatLAi
import Derived.Test.YtbggojblgbeohaaGreatLAl
import Derived.Test.YtbggojblgbeohaaGreatLAv
import Derived.Test.YtbggojblgbeohaaGreatLBa
set_option maxHeartbeats 4000000
set_option linter.unusedVariables false
namespace Go.Proofs.YtbggojblgbeohaaGreat
variable{listed:Array Bool}{f:FuncId}{X:FuncId->Prop}{wd:Int}{gs:List (Int × Int)}{l0:List (Nat × Obj)}{rs:List Nat}{Q:List Nat->Prop}{N cap fuel n:Nat}{p:Nat × Obj}{Kc Lv Sh:Nat->Prop}{ga ga':Option Addr}{Out:Value->World->(Nat->Prop)->Prop}{w w' w1:World}{Post:World->Value->World->Prop}
section
open Go Go.Conc Go.ConcN Go.RowKit Go.Conc.Lib Go.ConcR.Gen Go.ConcN.Gen
open Go.ConcR (KK wgBlock WgAt stA smA rd wr mk Payload Aside2 DC0)
section
variable{Goal:Machine->Trace->Prop}{Shun:Nat->Prop}{c:Frame}{cs:List Frame}
set_option maxRecDepth 100000 in
theorem zoH(hG:zbe Tryz.prog Goal){Fin:World->Value->World->(Nat->Prop)->Prop}(hl0:∀ p∈l0,Kc p.1)(hp0:Hp l0 w)(hKc:∀ c,Kc c->c<w.heap.size/\¬ Shun c)(hrows:∀(c0:Frame) (cs0:List Frame) (w0:World),Hp l0 w0->(∀ e,Kc e->e<w0.heap.size/\¬ Shun e)->w.heap.size<=w0.heap.size->(∀(v:Value) (u:World) (Sh:Nat->Prop),zce (fun e=>e<w0.heap.size/\¬ Shun e) w0 u->Fin w0 v u Sh->zas Tryz.prog Goal Sh (fun _=>False) (G (c0.finish v) cs0) u) ->
   zas Tryz.prog Goal Shun (fun _=>False) (G (Frame.enter Tryz.prog 39 #[.agg #[.int .i64 wd,.slice ga n cap],.func (.func 40) #[] #[]] .normal) (c0::cs0)) w0)(hFin:∀ w0 v u u2 Sh,Fin w0 v u Sh->w.heap.size<=w0.heap.size->(∀ e,e<u.heap.size->u2.heap[e]?=u.heap[e]?)->u.heap.size<=u2.heap.size->Out v u2 Sh)(hfin:∀(v:Value) (u:World) (Sh:Nat->Prop),zce (fun e=>e<w.heap.size/\¬ Shun e) w u->Out v u Sh->zas Tryz.prog Goal Sh (fun _=>False) (G (c.finish v) cs) u) :
  zas Tryz.prog Goal Shun (fun _=>False) (G (Frame.enter Tryz.prog 20 #[.agg #[.int .i64 wd,.slice ga n cap]] .normal) (c::cs)) w:=by
 have hLa:∀(w:World) (o:Obj),(fun _:World=>True) w->(fun _:World=>True) (w.alloc o):=fun _ _ h=>h
 refine zas.way hG (ch:=0) (K:=Kc) (S:=fun _=>False) (l:=l0) (lx:=[]) hp0 (fun p h=>.inl (hl0 p h)) (fun _ h=>by cases h) (fun _ h=>by cases h) (fun _ h=>h.elim) (fun c hc=>⟨(hKc c (hc.elim id fun x=>x.elim)).1,(hKc c (hc.elim id fun x=>x.elim)).2,fun h=>h⟩) ?_
 rw[enter_at _ Tryz.func20 rfl]
 walk_nrmf Tryz.f20
 refine zag.sq ?_
 refine zag.rg ?_
 simp only[List.size_toArray,List.length_cons,List.length_nil,Nat.reduceAdd,Nat.zero_add,List.range,List.range.loop]
 refine zag.new hLa rfl rfl (by decide) (V:=fun c=>.pointer (some ⟨c,0,none⟩)) (obj:=.cells #[.int .i64 wd,.slice ga n cap] 25) (fun w hp=>by go_simp) (fun _ w hp e he=>by simp[go_sem] at he) fun bp hK_bp hS_bp=>?_
 walk_nrm
 refine zag.val rfl rfl (by decide) (v:=.slice none 0 0) (fun w hp=>by go_simp) (fun _ w hp e he=>by simp[go_sem] at he) ?_
 walk_nrm
 refine zag.re ?_
 refine zag.sq ?_
 refine zag.rg ?_
 simp only[List.size_toArray,List.length_cons,List.length_nil,Nat.reduceAdd,Nat.zero_add,List.range,List.range.loop]
 refine zag.val rfl rfl (by decide) (v:=.agg #[.int .i64 wd,.slice ga n cap]) (fun w hp=>?_) (fun hl w hp e he=>?_) ?_
 ·have c0:=hp.cell mcs 0 rfl
  have c1:=hp.cell mcs 1 rfl
  go_simp
 ·have c0:=hp.cell mcs 0 rfl
  have c1:=hp.cell mcs 1 rfl
  simp[go_sem, *] at he
  rcases he with rfl|rfl
  all_goals exact zau hl mcs _
 walk_nrm
 refine zag.enter rfl rfl (by decide) (fun w=>run_call_body rfl Tryz.func39 rfl rfl) (fun w=>events_call_body rfl Tryz.func39 rfl rfl _) ?_
 walk_nrm
 refine zag.stop fun hl1 w1 hp1 _ hlt1=>?_
 intro hsz1 hnew1 hx1 hKS1 _ hkept1 ht1 ho1 hu1
 refine hrows _ _ w1 (fun p h=>hp1 p (mcm h)) (fun e he=>⟨(hKS1 e (.inl he)).1,(hKS1 e (.inl he)).2.1⟩) hsz1 fun v u Sh hk hF=>?_
 simp only[Frame.finish_at]
 walk_nrm
 refine zas.way hG (ch:=0) (K:=fun _=>False) (S:=fun _=>False) (l:=[]) (lx:=[]) (fun _ h=>by cases h) (fun _ h=>by cases h) (fun _ h=>by cases h) (fun _ h=>by cases h) (fun _ h=>h.elim) (fun c hc=>(hc.elim id id).elim) ?_
 refine zag.val rfl rfl (by decide) (v:=v) (fun w hp=>by go_simp) (fun _ w hp e he=>by simp[go_sem] at he) ?_
 walk_nrm
 refine zag.re ?_
 refine zag.ctl rfl (fun _=>stepG_ret') ?_
 refine zag.ctl (g':=G (c.finish v) cs) rfl (fun w=>by rw[stepG_leave rfl rfl Tryz.func20 (results_tmp Tryz.results20 _ _ w) (events_results_tmp Tryz.results20 _ _)];rfl) ?_
 refine zag.stop fun hl3 w3 hp3 _ hlt3=>?_
 intro hsz3 hnew3 hx3 hKS3 _ hkept3 ht3 ho3 hu3
 obtain⟨a1,a2,a3,a4,a5⟩:=hk
 refine hfin v w3 Sh ⟨fun e he=>?_,ht3.trans (a2.trans ht1),ho3.trans (a3.trans ho1),hu3.trans (a4.trans hu1),by omega⟩ (hFin w1 v u w3 Sh hF hsz1 (fun e he=>hkept3 e he fun h=>h) hsz3)
 rw[hkept3 e (by have:=he.1;omega) (fun h=>h),a1 e ⟨by have:=he.1;omega,he.2⟩]
 exact hkept1 e he.1 (fun h=>h)
end
end
section
open Go
noncomputable abbrev SqN.prog:Program:=SqG.prog Sq.altN
abbrev SqN.func18:=@SqG.func18 Sq.altN
abbrev SqN.func19:=@SqG.func19 Sq.altN
abbrev SqN.func22:=@SqG.func22 Sq.altN
abbrev SqN.func29:=@SqG.func29 Sq.altN
abbrev SqN.func40:=@SqG.func40 Sq.altN
abbrev SqN.func41:=@SqG.func41 Sq.altN
abbrev SqN.func71:=@SqG.func71 Sq.altN
end
namespace Sp
open Go.RowKit
attribute [local go_sem ↓] Go.wp_at_zero Go.wp_at_succ
theorem zrS{Q:Exit->Act->World->Prop}{rest:Code}(wd:Int)(a:Option Addr)(cap:Nat)(cs:List (Int × Int))(w:World)(h:zai w a cs)(hm:cs.length<4611686018427387904)(hK:∀(w':World) (u1 u2 u3 u4 u5 u6 u7 u8 u9 u10 u11 u12 u13 u14 u15 u16 u17 u18 u19 u20 u21:Value),Below w.heap.size w w'->Code.wp SqP.prog rest Q ⟨#[.agg #[.int .i64 wd,.slice a cs.length cap],u1,u2,u3,u4,u5,u6,u7,u8,u9,u10,u11,u12,u13,u14,u15,u16,u17,u18,u19,u20,u21],[]⟩ w') :
  Code.wp SqP.prog (zkc rest) Q ⟨#[.agg #[.int .i64 wd,.slice a cs.length cap],undef,undef,undef,undef,undef,undef,undef,undef,undef,undef,undef,undef,undef,undef,undef,undef,undef,undef,undef,undef,undef],[]⟩ w:=by
 unfold zkc ckA ckS ckL
 simp only[opr]
 have b1:decide ((cs.length:Int)<4611686018427387904)=true:=decide_eq_true (by omega)
 have wz:IntKind.i64.wrap (wd * 0)=0:=by rw[Int.mul_zero];exact IntWalk.i64_in _ (by omega)
 have hb0:Below w.heap.size w (w.alloc (.cells #[.int .i64 wd,.slice a cs.length cap] 25)):=bel
 have g0:(w.alloc (.cells #[.int .i64 wd,.slice a cs.length cap] 25)).cell? ⟨w.heap.size,0,none⟩=some (.int .i64 wd):=by simp[go_sem]
 have g1:(w.alloc (.cells #[.int .i64 wd,.slice a cs.length cap] 25)).cell? ⟨w.heap.size,1,none⟩=some (.slice a cs.length cap):=by simp[go_sem]
 have f0:(w.alloc (.cells #[.int .i64 wd,.slice a cs.length cap] 25)).frozen? ⟨w.heap.size,0,none⟩=false:=by simp[go_sem]
 have f1:(w.alloc (.cells #[.int .i64 wd,.slice a cs.length cap] 25)).frozen? ⟨w.heap.size,1,none⟩=false:=by simp[go_sem]
 go_wp2_with fail
 obtain⟨w1,hw1⟩:∃ w1,w1=w.alloc (.cells #[.int .i64 wd,.slice a cs.length cap] 25):=⟨_,rfl⟩
 rw[<- hw1] at hb0 g0 g1 f0 f1 ⊢
 clear hw1 wz
 have hC:=h.below hb0
 go_loopw [9,10,11,12,13,14,15,16,17,18] (fun ii _ _ _ _ _ _ _ _ _ wr=>∃ i:Nat,i<=cs.length/\ii=.int .i64 i/\wr=w1) (fun ii _ _ _ _ _ _ _ _ _ _=>cs.length - (intOf ii).toNat)
 case atStart=>exact⟨0,Nat.zero_le _,rfl,rfl⟩
 case round =>
  rename World=>wo
  obtain⟨i,hi,rfl,ew⟩:=hrel
  subst ew
  by_cases hlt:i<cs.length
  ·rcases hC with q|⟨b,off,rfl,hbl,hc⟩
   ·rw[q] at hlt;simp at hlt
   obtain⟨z0,z1⟩:=hc i hlt
   obtain⟨t,et⟩:∃ t,cs.getD i (0,0)=t:=⟨_,rfl⟩
   rw[et] at z0 z1
   obtain⟨t0,t1⟩:=t
   simp only at z0 z1
   have bl:decide ((i:Int)<(cs.length:Int))=true:=decide_eq_true (by omega)
   have wa:IntKind.i64.wrap (t0 * 0)=0:=by rw[Int.mul_zero];exact IntWalk.i64_in _ (by omega)
   have wb:IntKind.i64.wrap (t1 * 0)=0:=by rw[Int.mul_zero];exact IntWalk.i64_in _ (by omega)
   have wi:IntKind.i64.wrap ((i:Int)+1)=(i:Int)+1:=IntWalk.i64_in _ (by omega)
   clear hc et
   go_wp2_with fail
   go_roundw
   case rel=>exact⟨i+1,by omega,by go_num,by first|rfl|trivial⟩
   case measure=>simp[intOf];omega
  ·have bl:decide ((i:Int)<(cs.length:Int))=false:=decide_eq_false (by omega)
   have hb2:=(hb0.setCell (p:=⟨w.heap.size,0,none⟩) (Nat.le_refl _) (.int .i64 wd)).setCell (p:=⟨w.heap.size,1,none⟩) (Nat.le_refl _) (.slice a cs.length cap)
   go_wp2_with fail
   exact hK _ _ _ _ _ _ _ _ _ _ _ _ _ _ _ _ _ _ _ _ _ _ hb2
abbrev zfA(wd:Int)(cs:List (Int × Int))(M:Nat):Obj:=.cells (Array.ofFn fun k:Fin M=>.int .i64 (zaJ wd cs ((k:Nat):Int))) 3
end Sp
section
open Go Go.Conc Go.ConcN Go.RowKit Go.Conc.Lib Go.ConcR.Gen Go.ConcN.Gen
open Go.ConcR (KK wgBlock WgAt stA smA rd wr mk Payload Aside2 DC0)
theorem zfy:zbQ=false:=rfl
def rng(R:BR):Nat->Prop:=fun c=>∃ b,R b c
theorem zbT.snd{R:BR}{a c:Addr}(h:zbT R a c):zbT (zdJ (rng R)) c c:=⟨⟨rfl,_,h.1⟩,rfl,rfl⟩
theorem zej{R:BR}{m:Nat}(h:zap R (.slice ga n m) (.slice ga' n m)):zap (zdJ (rng R)) (.slice ga' n m) (.slice ga' n m):=by
 cases h with
 | slice _ _ h=>exact .slice _ _ h.snd
 | nilSlice _ _=>exact .nilSlice _ _
theorem zmM{R:BR}(h:zbi N R w w'):Closed (rng R) w':=by
 rintro c ⟨b,hb⟩
 obtain⟨o,o',_,e2,ho⟩:=h.blk b c hb
 cases ho with
 | cells hr _ _=>exact .inl ⟨_,_,_,e2,zfy⟩
 | other hj _ =>
  cases hj with
  | map hx _=>rw[zfy] at hx;cases hx
  | number ha=>exact .inr ⟨zfy,_,_,e2,ha.snd⟩
open Classical in
noncomputable def held(K:Nat->Prop)(w:World):List (Nat × Obj):=(List.range w.heap.size).filterMap fun c=>if K c then (w.heap[c]?).map fun o=>(c,o) else none
theorem zbK{K:Nat->Prop} :p∈held K w ↔ K p.1/\w.heap[p.1]?=some p.2:=by
 classical
 unfold held
 simp only[List.mem_filterMap,List.mem_range]
 constructor
 ·rintro⟨c,_,h⟩
  split at h
  ·rename_i hk
   obtain⟨o,ho,rfl⟩:=Option.map_eq_some_iff.1 h
   exact⟨hk,ho⟩
  ·cases h
 ·rintro⟨hk,ho⟩
  refine⟨p.1,(gei ho).1,?_⟩
  rw[if_pos hk,ho]
  rfl
theorem zn5(K:Nat->Prop)(w:World):Hp (held K w) w:=fun _ h=>(zbK.1 h).2
theorem zko{K:Nat->Prop}(h:Closed K w)(hp:Hp (held K w) w1):Closed K w1:=fun b hb=>by
 rcases h b hb with ⟨c,e,f,hx,hr⟩|⟨ho,a,l,hx,hr⟩
 ·exact .inl ⟨c,e,f,hp (b,_) (zbK.2 ⟨hb,hx⟩),hr⟩
 ·exact .inr ⟨ho,a,l,hp (b,_) (zbK.2 ⟨hb,hx⟩),hr⟩
theorem znE{a:Option Addr}{cs:List (Int × Int)}(h:Sp.zai w a cs)(hb:∀ b off,a=some ⟨b,off,none⟩->w1.heap[b]?=w.heap[b]?)(τ:Nat->Question->Nat)(d:Nat):Sp.zai (w1.frz.tp τ d) a cs:=by
 rcases h with h|⟨b,off,rfl,hl,hc⟩
 ·exact .inl h
 ·have e:=hb b off rfl
  have hc1:∀ i,w1.cell? ⟨b,i,none⟩=w.cell? ⟨b,i,none⟩:=fun i=>by simp only[World.cell?,e]
  have hc2:∀ i (x:Int),w.cell? ⟨b,i,none⟩=some (.int .i64 x)->(w1.frz.tp τ d).cell? ⟨b,i,none⟩=some (.int .i64 x):=fun i x h=>by
   have q:=zln w1 ⟨b,i,none⟩
   rw[hc1,h] at q
   exact q
  refine .inr ⟨b,off,rfl,?_,fun i hi=>⟨hc2 _ _ (hc i hi).1,hc2 _ _ (hc i hi).2⟩⟩
  show b<w1.frz.heap.size
  rw[zd5]
  rw[Array.getElem?_eq_getElem hl] at e
  exact(gei e).1
theorem zmg(h:∀ j,j<n->∃ b off c e z x y,ga=some ⟨b,off,none⟩/\w.heap[b]?=some (.cells c e z)/\c[off+j * 2]?=some (.int .i64 x)/\c[off+j * 2+1]?=some (.int .i64 y)) :
  ∃ cs:List (Int × Int),cs.length=n/\Sp.zai w ga cs:=by
 classical
 have hx:∀ j:Fin n,∃ p:Int × Int,∃ b off c e z,ga=some ⟨b,off,none⟩/\w.heap[b]?=some (.cells c e z)/\c[off+j.val * 2]?=some (.int .i64 p.1)/\c[off+j.val * 2+1]?=some (.int .i64 p.2):=fun j=>by
  obtain⟨b,off,c,e,z,x,y,h1,h2,h3,h4⟩:=h j.val j.isLt
  exact⟨(x,y),b,off,c,e,z,h1,h2,h3,h4⟩
 obtain⟨f,hf⟩:=Classical.axiomOfChoice hx
 refine⟨List.ofFn f,by simp,?_⟩
 by_cases hn:n=0
 ·subst hn;exact .inl (by simp)
 ·obtain⟨b,off,c,e,z,h1,h2,_,_⟩:=hf ⟨0,by omega⟩
  refine .inr ⟨b,off,h1,(gei h2).1,fun i hi=>?_⟩
  have hi':i<n:=by simpa using hi
  obtain⟨b1,off1,c1,e1,z1,q1,q2,q3,q4⟩:=hf ⟨i,hi'⟩
  rw[h1] at q1
  cases q1
  rw[h2] at q2
  cases q2
  have eg:(List.ofFn f).getD i (0,0)=f ⟨i,hi'⟩:=by simp[List.getD,hi']
  rw[eg]
  exact⟨by simp only[World.cell?,h2];exact q3,by simp only[World.cell?,h2];exact q4⟩
theorem zkb{R:BR}(hw:zbi N R w w'){m:Nat}(hv:zap R (.slice ga n m) (.slice ga' n m)){cs:List (Int × Int)}(h:Sp.zai w ga cs):Sp.zai w' ga' cs:=by
 rcases h with h|⟨b,off,rfl,hl,hc⟩
 ·exact .inl h
 ·cases hv with
  | slice _ _ ha =>
   rename_i ad'
   obtain⟨b',off',sp'⟩:=ad'
   obtain⟨h1,h2,h3⟩:=ha
   simp only at h1 h2 h3
   subst h2 h3
   refine .inr ⟨b',off,rfl,(hw.lt h1).2,fun i hi=>?_⟩
   obtain⟨c1,c2⟩:=hc i hi
   obtain⟨v1,e1,r1⟩:=hw.cell (a:=⟨b,off+i * 2,none⟩) (c:=⟨b',off+i * 2,none⟩) ⟨h1,rfl,rfl⟩ c1
   obtain⟨v2,e2,r2⟩:=hw.cell (a:=⟨b,off+i * 2+1,none⟩) (c:=⟨b',off+i * 2+1,none⟩) ⟨h1,rfl,rfl⟩ c2
   rw[e1,e2]
   exact⟨congrArg some (zcq r1),congrArg some (zcq r2)⟩
instance SqP.twin:zaB SqP.prog Tryz.prog:=Sq.okP.twin3
instance SqP.self:zaB SqP.prog SqP.prog:=Sq.okP.self
instance SqN.twin:zaB SqN.prog Tryz.prog:=Sq.okN.twin3
instance SqN.self:zaB SqN.prog SqN.prog:=Sq.okN.self
theorem SqP.whole:Whole SqP.prog:=Sq.okP.whole Sq.ckP
theorem SqN.whole:Whole SqN.prog:=Sq.okN.whole Sq.ckN
theorem SqP.bodies:Bodies SqP.prog Tryz.prog (fun i=>Sq.X i=true):=Sq.okP.bodies Sq.ckP
theorem SqN.bodies:Bodies SqN.prog Tryz.prog (fun _=>false=true):=Sq.okN.bodies Sq.ckN
def sF(W H:Nat)(i:Nat):Nat:=if i=0 then 0 else if i=1 then W else if i=2 then W+H else W+H+W
def sE(W H:Nat)(i:Nat):Nat:=if i=0 then W else if i=1 then W+H else if i=2 then W+H+W else W+H+W+H
theorem zjH(W H:Nat):Rng 4 (sF W H) (sE W H):=by
 intro i i' k h1 h2 h3 h4 h5 h6
 rcases (show i=0\/i=1\/i=2\/i=3 by omega) with rfl|rfl|rfl|rfl <;> rcases (show i'=0\/i'=1\/i'=2\/i'=3 by omega) with rfl|rfl|rfl|rfl <;> first
  | rfl
  | (exfalso;simp[sF,sE] at h3 h4 h5 h6;omega)
  | (exfalso;simp[sF,sE] at h3 h4 h6;omega)
  | (exfalso;simp[sF,sE] at h4 h5 h6;omega)
section
variable{Goal:Machine->Trace->Prop}{Shun:Nat->Prop}{c:Frame}{cs:List Frame}
set_option maxRecDepth 100000 in
theorem zqF(hG:zbe Tryz.prog Goal){W H:Nat}(hok:Sp.okG (W:Int) gs=true)(hW:1<=W/\W<=5)(hH:1<=H/\H<=5)(el:gs.length=W * H)(hHd:gs.length / W=H)(hHI:(gs.length:Int) / (W:Int)=(H:Int))(hl0:∀ p∈l0,Kc p.1)(hcl:∀ w,Hp l0 w->Closed Kc w)(hKl:∀ c,Kc c->∃ p∈l0,p.1=c)(hga:zap (zdJ Kc) (.slice ga gs.length cap) (.slice ga gs.length cap))(hC:∀ w,Hp l0 w->∀ τ d,Sp.zai (w.frz.tp τ d) ga gs)(w:World)(hp0:Hp l0 w)(hKc:∀ c,Kc c->c<w.heap.size/\¬ Shun c)(hfin:∀(u:World) (bo:Nat),zce (fun e=>e<w.heap.size/\¬ Shun e) w u->w.heap.size<=bo->u.heap[bo]?=some (Sp.zfA (W:Int) gs (2 * (W+H)))->∀ Shun':Nat->Prop,(∀ e,Shun' e->Shun e\/w.heap.size<=e)->¬ Shun' bo->zas Tryz.prog Goal Shun' (fun _=>False) (G (c.finish (.slice (some ⟨bo,0,none⟩) (2 * (W+H)) (2 * (W+H)))) cs) u) :
  zas Tryz.prog Goal Shun (fun _=>False) (G (Frame.enter Tryz.prog 39 #[.agg #[.int .i64 (W:Int),.slice ga gs.length cap],.func (.func 40) #[] #[]] .normal) (c::cs)) w:=by
 haveI:Payload:=⟨0⟩
 obtain⟨W1,W5⟩:=hW
 obtain⟨H1,H5⟩:=hH
 have hn25:gs.length<=25:=by rw[el];exact Nat.le_trans (Nat.mul_le_mul W5 H5) (by omega)
 have hM:Sp.za9 (W:Int) gs=((2 * (W+H):Nat):Int):=by rw[Sp.zbB hok hHI];omega
 have hside:Sp.zbV (W:Int) (H:Int) (gs.length:Int)=#[.int .i64 ((sF W H 0:Nat):Int),.int .i64 (W:Int),.int .i64 0,.int .i64 1,.int .i64 2,.int .i64 0,.int .i64 ((sF W H 1:Nat):Int),.int .i64 (H:Int),.int .i64 ((W:Int) - 1),.int .i64 (W:Int),.int .i64 3,.int .i64 1,.int .i64 ((sF W H 2:Nat):Int),.int .i64 (W:Int),.int .i64 ((gs.length:Int) - 1),.int .i64 (-1),.int .i64 0,.int .i64 2,.int .i64 ((sF W H 3:Nat):Int),.int .i64 (H:Int),.int .i64 ((gs.length:Int) - 1 - (W:Int)+1),.int .i64 (-(W:Int)),.int .i64 1,.int .i64 3]:=by
  simp[Sp.zbV,sF]
 have hhas:∀(f m s o i u:Int),0<=f/\f<=100->0<=m/\m<=100->∀(k:Nat) (w:World),Calls SqN.prog 71 #[.agg #[.int .i64 f,.int .i64 m,.int .i64 s,.int .i64 o,.int .i64 i,.int .i64 u],.int .i64 k] w fun e _=>e=.returned (.bool (decide (f<=k/\(k:Int)<f+m))) :=
  fun f m s o i u h1 h2 k w=>(Sp.zeM f m s o i u k h1 h2 _ rfl w).mono fun e w' h=>h.1
 refine zmN (L:=SqN.prog) (X:=fun _=>false=true) (f0:=sF W H) (e0:=sE W H) (rows:=fun k=>Sp.zaJ (W:Int) gs (k:Int)) (many:=2 * (W+H)) hG SqN.whole SqN.bodies (fun _ h=>by cases h) SqN.func18 (fun h=>by cases h) SqN.func29 (fun h=>by cases h) SqN.func41 (fun h=>by cases h) hl0 hcl hga
  (fun w hp τ d=>((Sp.zao (W:Int) ga cap gs _ (hC w hp τ d) (by omega)).mono fun e w' h=>by rw[h.1,hok]))
  (fun w hp τ d=>((Sp.zbs (W:Int) ga cap gs _ (hC w hp τ d) (by omega)).mono fun e w' h=>by rw[h.1,hM]))
  (fun w hp τ d=>((Sp.zca W H ga gs.length cap _ ⟨W1,W5⟩ ⟨H1,H5⟩ hn25 hHd).mono fun e w' h=>by rw[h.1,hside]))
  SqN.func71 (fun h=>by cases h) SqN.func40 Tryz.func40 rfl rfl (fun h=>by cases h) (by kernel_rfl) ?_ ?_ hKl ?_ ?_ ?_ ?_ ?_ ?_ ?_ ?_ ?_ ?_ ?_ ?_ ?_
  (fun k hk w hp τ d=>((Sp.zcF (W:Int) ga cap gs _ (hC w hp τ d) (by omega) (k:Int)).mono fun e w' h=>h.1)) ?_ (by omega) w hp0 hKc hfin
 ·exact zjH W H
 ·simp[sumTo,sF,sE];omega
 ·simp[sF,sE]
 ·omega
 ·exact hhas _ _ _ _ _ _ (by simp[sF]) (by omega)
 ·simp[sF,sE]
 ·omega
 ·exact hhas _ _ _ _ _ _ (by simp[sF];omega) (by omega)
 ·simp[sF,sE]
 ·omega
 ·exact hhas _ _ _ _ _ _ (by simp[sF];omega) (by omega)
 ·simp[sF,sE]
 ·omega
 ·exact hhas _ _ _ _ _ _ (by simp[sF];omega) (by omega)
 ·intro j hj
  unfold sE
  split <;> try omega
  split <;> try omega
  split <;> omega
 ·intro k hk
  by_cases h1:k<W
  ·exact⟨0,by omega,by simp[sF],by simp[sE];omega⟩
  ·by_cases h2:k<W+H
   ·exact⟨1,by omega,by simp[sF];omega,by simp[sE];omega⟩
   ·by_cases h3:k<W+H+W
    ·exact⟨2,by omega,by simp[sF];omega,by simp[sE];omega⟩
    ·exact⟨3,by omega,by simp[sF];omega,by simp[sE];omega⟩
end
theorem zlv{R:BR}{c:Array Value}(h:∀ i (h:i<c.size),∃ n,c[i]=.int .i64 n):zaz R c c:=⟨rfl,fun i h1 _=>by
 obtain⟨n,e⟩:=h i h1
 rw[e]
 exact .int _ _⟩
end
namespace Sp
variable{aLt:Nat->Func->Func}
open Go.RowKit
theorem zqf:((SqG.prog aLt).info? 3).map (fun i=>(i.zero,i.size,i.bytes))=some (some (.int .i64 0),1,8):=by kernel_rfl
theorem zlA(n:Nat)(hn:n<=1048576)(w:World):(Instr.makeSlice 27 (.int .i64 (n:Int)) (.int .i64 (n:Int))).run (SqG.prog aLt) w=.ok (.slice (some ⟨w.heap.size,0,none⟩) n n) (w.alloc (.cells (madeCells #[.int .i64 0] n) 3)):=by
 obtain⟨i0,hi,iz0,iz1,iz2⟩:=info_parts (zqf (aLt:=aLt))
 have:=run_make (P:=(SqG.prog aLt)) w 27 3 i0 (.int .i64 0) SqG.underlying27 hi iz0 .i64 .i64 (n:Int) (n:Int) (by omega) (by omega) (by rw[iz2];omega) (by omega)
 rw[iz1] at this
 simpa [Value.cells] using this
end Sp
section
open Go Go.Conc
def zb5(ops:Array Oper):Nat->Array Bool->(List Nat->Prop)->Prop
 | 0,listed,Q=>Region.ready .any ops listed=[]/\Q []
 | fuel+1,listed,Q=>(Region.ready .any ops listed=[]->Q [])/\∀ i∈Region.ready .any ops listed,zb5 ops fuel (listed.setIfInBounds i true) fun r=>Q (i::r)
theorem ziN{ops:Array Oper}:∀(fuel t:Nat) (listed:Array Bool) (Q:List Nat->Prop),zb5 ops fuel listed Q->Q (Region.linearise.go .any ops fuel t listed []):=by
 intro fuel
 induction fuel with
 | zero=>intro t listed Q h;simpa [Region.linearise.go] using h.2
 | succ fuel ih =>
  intro t listed Q h
  obtain⟨h₀,h₁⟩:=h
  simp only[Region.linearise.go]
  change Q (match (Region.ready .any ops listed)[t % (Region.ready .any ops listed).length]? with
   | some i=>Region.linearise.go .any ops fuel (t / (Region.ready .any ops listed).length) (listed.setIfInBounds i true) [i]
   | none=>[].reverse)
  cases hi:(Region.ready .any ops listed)[t % (Region.ready .any ops listed).length]? with
  | none =>
   have hnil:Region.ready .any ops listed=[]:=by
    cases hr:Region.ready .any ops listed with
    | nil=>rfl
    | cons x xs =>
     rw[hr] at hi
     have hlt:t % (x::xs).length<(x::xs).length:=Nat.mod_lt _ (by simp)
     simp at hi
     simp at hlt
     omega
   simpa using h₀ hnil
  | some i =>
   simp only[]
   rw[linearise_go_acc,List.reverse_singleton,List.singleton_append]
   exact ih _ _ (fun r=>Q (i::r)) (h₁ i (List.mem_of_getElem? hi))
theorem zcY{ops:Array Oper}(hr:Region.ready .any ops listed=rs)(hne:rs≠[])(h:∀ i∈rs,zb5 ops fuel (listed.setIfInBounds i true) fun r=>Q (i::r)):zb5 ops (fuel+1) listed Q:=by
 subst hr
 exact⟨fun e=>absurd e hne,h⟩
theorem zaD{ops:Array Oper}(hr:Region.ready .any ops listed=[])(h:Q []):zb5 ops fuel listed Q:=by
 cases fuel with
 | zero=>exact⟨hr,h⟩
 | succ fuel=>exact⟨fun _=>h,fun i hi=>by rw[hr] at hi;cases hi⟩
section
variable{M:Program}{main:Bool}{Live:World->Prop}{Ex:Event->Prop}{Stop:Nat->(Nat->Prop)->Goroutine->World->Prop}{Snd:Nat->(Nat->Prop)->Value->World->Prop}{ch:Nat}{K:Nat->Prop}{l:List (Nat × Obj)}{σ:Nat}{S:Nat->Prop}{b:Frame}{a:Act}{k:List Item}{cs:List Frame}{ops:Array Oper}{id:Nat}
theorem zag.draw(hm:M.follows .mixedOrders=true)(hLd:∀ w:World,Live w->Live { w with drawn:=w.drawn+1 })(hn:zb5 ops ops.size (Array.replicate ops.size false) fun r=>zag M main Live Ex Stop Snd ch K l σ S (G (b.at a (.inRegion ops r::k)) cs)):zag M main Live Ex Stop Snd ch K l σ S (G (b.at a (.code (.region id ops true)::k)) cs) :=
 fun hl w hp hL hlt=>za3.go rfl fun w₁ hs=>by
  have h1:=ziN ops.size (w₁.tape w₁.drawn (.order b.fn id)) _ _ hn
  have e:Region.schedule (M.follows .mixedOrders) ops (w₁.tape w₁.drawn (.order b.fn id))=Region.linearise.go .any ops ops.size (w₁.tape w₁.drawn (.order b.fn id)) (Array.replicate ops.size false) []:=by
   simp only[Region.schedule,hm,Bool.true_or,if_true]
   rfl
  refine⟨_,{ w₁ with drawn:=w₁.drawn+1 },_,S,stepG_region_draw,⟨Nat.le_refl _,fun _ h=>h,fun _ h=>Or.inl h,fun _ _ _=>rfl,rfl,rfl,rfl,by simp⟩,?_⟩
  rw[e]
  exact(h1 hl w hp hL hlt).rely ⟨hs.size,hs.same,hs.tape,hs.os,hs.out,fun h=>hLd _ (hs.live h)⟩
end
section
variable{M:Program}{main:Bool}{Live:World->Prop}{Ex:Event->Prop}{Stop:Nat->(Nat->Prop)->Goroutine->World->Prop}{Snd:Nat->(Nat->Prop)->Value->World->Prop}{ch:Nat}{K:Nat->Prop}{l:List (Nat × Obj)}{σ:Nat}{S:Nat->Prop}{b c:Frame}{a:Act}{todo:List Item}{cs:List Frame}{fn:Func}{v:Value}
theorem zjP(hn:b.kind=.normal)(hd:a.defers=[])(hf:M.funcs[b.fn]?=some fn)(hr:(results fn a.tmps).run M w=.ok v w) :
  ∃ es,stepG M main (G { b.at a todo with mode:=.returning } (c::cs)) w=.go (G (c.finish v) cs) w es/\∀ e∈es,e∈(results fn a.tmps).events M w #[]:=by
 refine⟨seen M b.fn ((results fn a.tmps).events M w #[]),?_,fun e he=>mem_seen he⟩
 simp[G,stepG,unwind,doReturn,Frame.at,hn,hd,hf,hr,GStep.after]
theorem zag.leave(hn:b.kind=.normal)(hd:a.defers=[])(hf:M.funcs[b.fn]?=some fn)(hr:∀ w,Hp l w->(results fn a.tmps).run M w=.ok v w)(he:(∀ p∈l,K p.1\/S p.1)->∀ w,Hp l w->∀ e∈(results fn a.tmps).events M w #[],EvS K S e)(hN:zag M main Live Ex Stop Snd ch K l σ S (G (c.finish v) cs)):zag M main Live Ex Stop Snd ch K l σ S (G { b.at a todo with mode:=.returning } (c::cs)) :=
 fun hl w hp hL hlt=>za3.go rfl fun w₁ hs=>by
  obtain⟨es,h1,h2⟩:=zjP (main:=main) (todo:=todo) (c:=c) (cs:=cs) hn hd hf (hr w₁ (hp.sees hl hs))
  exact⟨_,w₁,es,S,h1,⟨Nat.le_refl _,fun _ h=>h,fun _ h=>Or.inl h,fun _ _ _=>rfl,rfl,rfl,rfl,fun e hx=>Or.inl (he hl w₁ (hp.sees hl hs) e (h2 e hx))⟩,(hN hl w hp hL hlt).rely hs⟩
end
end
section
open Go Go.Conc Go.ConcN Go.RowKit Go.Conc.Lib Go.ConcR.Gen Go.ConcN.Gen
open Go.ConcR (KK wgBlock WgAt stA smA rd wr mk Payload Aside2 DC0)
noncomputable abbrev zfp:Array Oper:=match Tryz.f6.body with|some (.seq _ (.seq _ (.seq (.region _ o _) _)))=>o|_=>#[]
theorem zdi:(Tryz.prog.info? 30).map (·.size)=some 4:=by kernel_rfl
section
variable{Goal:Machine->Trace->Prop}{c:Frame}{cs:List Frame}
set_option maxRecDepth 100000 in
theorem scD(hG:zbe Tryz.prog Goal){M bs bc bl bf:Nat}{u:World}(hs:u.heap[bs]?=some (.cells #[.int .i64 0,.slice none 0 0,.slice none 0 0,.slice none 0 0] 30))(hsn:¬ Sh bs)(hfin:∀ u2:World,zce (fun e=>e<u.heap.size/\e≠bs) u u2->zas Tryz.prog Goal Sh (fun _=>False) (G (c.finish (.tuple #[.agg #[.int .i64 wd,.slice (some ⟨bc,0,none⟩) n n,.slice (some ⟨bl,0,none⟩) M M,.slice (some ⟨bf,0,none⟩) M M],.bool true])) cs) u2)(y0 y1 y3 y4 y5 y6 y7 y8 y10 y12 y14:Value) :
  zas Tryz.prog Goal Sh (fun _=>False) (G ((base 6).at ⟨#[y0,y1,.pointer (some ⟨bs,0,none⟩),y3,y4,y5,y6,y7,y8,.agg #[.int .i64 wd,.slice (some ⟨bc,0,none⟩) n n],y10,.slice (some ⟨bl,0,none⟩) M M,y12,.slice (some ⟨bf,0,none⟩) M M,y14],[]⟩ [.inRegion zfp [6,7,8],.code .ret]) (c::cs)) u:=by
 have hlt:=(gei hs).1
 refine zas.way hG (ch:=0) (K:=fun _=>False) (S:=fun e=>e=bs) (l:=[(bs,.cells #[.int .i64 0,.slice none 0 0,.slice none 0 0,.slice none 0 0] 30)]) (lx:=[]) (fun p h=>by simp at h;subst h;exact hs) (fun p h=>by simp at h;subst h;exact .inr rfl) (fun _ h=>by cases h) (fun _ h=>by cases h) (fun _ h=>h.elim) (fun e he=>by rcases he with he|rfl;exact he.elim;exact⟨hlt,hsn,fun h=>h⟩) ?_
 simp only[zfp,Tryz.f6]
 refine zag.val rfl rfl (by decide) (v:=.agg #[.int .i64 wd,.slice (some ⟨bc,0,none⟩) n n,.slice (some ⟨bl,0,none⟩) M M,.slice (some ⟨bf,0,none⟩) M M]) (fun w hp=>by go_simp) (fun _ w hp e he=>by simp[go_sem] at he) ?_
 walk_nrm
 refine zag.put (l':=[(bs,.cells #[.int .i64 wd,.slice (some ⟨bc,0,none⟩) n n,.slice (some ⟨bl,0,none⟩) M M,.slice (some ⟨bf,0,none⟩) M M] 30)]) (c:=bs) (obj:=.cells #[.int .i64 wd,.slice (some ⟨bc,0,none⟩) n n,.slice (some ⟨bl,0,none⟩) M M,.slice (some ⟨bf,0,none⟩) M M] 30) rfl rfl (by decide) rfl (fun _ _ _ h=>h) (fun w hp=>⟨_,zeU (ty:=30) (cells:=#[.int .i64 wd,.slice (some ⟨bc,0,none⟩) n n,.slice (some ⟨bl,0,none⟩) M M,.slice (some ⟨bf,0,none⟩) M M]) rfl rfl rfl (hp.at mcs) zdi rfl (by simp[Value.oneCell']),(zat (hp.at mcs)).1,(zat (hp.at mcs)).2⟩) (fun _ w hp e he=>?_) (fun p hp=>?_) ?_
 ·obtain⟨q,rfl⟩:=zhk (ty:=30) (cells:=#[.int .i64 wd,.slice (some ⟨bc,0,none⟩) n n,.slice (some ⟨bl,0,none⟩) M M,.slice (some ⟨bf,0,none⟩) M M]) rfl rfl rfl (hp.at mcs) zdi rfl (by simp[Value.oneCell']) e he
  exact Or.inl ⟨_,_,rfl,Or.inl rfl⟩
 ·rcases List.mem_cons.1 hp with rfl|hp
  ·exact .inl rfl
  ·cases hp
 walk_nrm
 refine zag.val rfl rfl (by decide) (v:=.bool true) (fun w hp=>by go_simp) (fun _ w hp e he=>by simp[go_sem] at he) ?_
 walk_nrm
 refine zag.re ?_
 refine zag.ctl rfl (fun _=>stepG_ret') ?_
 refine zag.leave (v:=.tuple #[.agg #[.int .i64 wd,.slice (some ⟨bc,0,none⟩) n n,.slice (some ⟨bl,0,none⟩) M M,.slice (some ⟨bf,0,none⟩) M M],.bool true]) rfl rfl Tryz.func6 (fun w hp=>?_) (fun hl w hp e he=>?_) ?_
 ·have c0:=hp.cell mcs 0 rfl
  have c1:=hp.cell mcs 1 rfl
  have c2:=hp.cell mcs 2 rfl
  have c3:=hp.cell mcs 3 rfl
  simp[results,Tryz.results6,go_sem,c0,c1,c2,c3]
 ·have c0:=hp.cell mcs 0 rfl
  have c1:=hp.cell mcs 1 rfl
  have c2:=hp.cell mcs 2 rfl
  have c3:=hp.cell mcs 3 rfl
  simp[results,Tryz.results6,go_sem,c0,c1,c2,c3] at he
  rcases he with rfl|rfl|rfl|rfl
  all_goals exact zau hl mcs _
 refine zag.stop fun hl3 w3 hp3 _ hlt3=>?_
 intro hsz3 hnew3 hx3 hKS3 _ hkept3 ht3 ho3 hu3
 exact hfin w3 ⟨fun e he=>hkept3 e he.1 he.2,ht3,ho3,hu3,hsz3⟩
end
end
section
open Go Go.Conc
section
variable{M:Program}{main:Bool}{Live:World->Prop}{Ex:Event->Prop}{Stop:Nat->(Nat->Prop)->Goroutine->World->Prop}{Snd:Nat->(Nat->Prop)->Value->World->Prop}{ch:Nat}{K:Nat->Prop}{l:List (Nat × Obj)}{σ:Nat}{S:Nat->Prop}
theorem zag.callM{L:Program}[T:zaB L M][zaB L L](W:Whole L)(B:Bodies L M X)(hLv:∀ w w':World,(∀ c,Lv c->w'.heap[c]?=w.heap[c]?)->Live w->Live w')(hlv:∀ w c,Live w->Lv c->c<w.heap.size)(hX:zjY L X){fn:Func}(hf:L.funcs[f]?=some fn)(hb:fn.body.isSome=true)(hnX:¬ X f){a:Array Value}(hP:∀ w0 v w τ d,Post w0 v w->Post w0 v (w.tp τ d))(hKc:∀ c,Kc c->K c)(hcl:∀ w,Hp l w->Closed Kc w)(ha:zaz (zdJ Kc) a a)(hC:∀ w,Hp l w->∀ τ d,Calls L f a (w.frz.tp τ d) fun e w'=>∃ v,e=.returned v/\Post w v w'){c:Frame}{cs:List Frame}(hgo:∀ w0 v v' S' R wl w₁,Hp l w0->Hp l w₁->Post w0 v wl->zap R v v'->zbi w0.heap.size R wl w₁->S'=zbJ w0.heap.size R->(∀ c,S' c->w0.heap.size<=c)->(∀ c,K c\/S c->c<w0.heap.size)->Live w₁->(∀ c,K c\/S c\/S' c->c<w₁.heap.size) ->
   za3 M main Live Ex Stop Snd ch K σ (fun c=>S c\/S' c) (G (c.finish v') cs) w₁) :
  zag M main Live Ex Stop Snd ch K l σ S (G (Frame.enter M f a .normal) (c::cs)):=by
 intro hl w hp hL hlt
 refine ziQ (Post:=Post w) (Lv:=Lv) W B hLv hX hf hb hnX (hP w) hKc (hcl w hp) ha hlt (fun c hc=>hlv w c hL hc) (hC w hp) ?_
 rintro v' w₁ S' hs hnew ⟨R,wl,v,hv,hw,hpost,hS'⟩
 refine hgo w v v' S' R wl w₁ hp (hp.sees hl hs) hpost hv hw hS' hnew hlt (hs.live hL) fun c hc=>?_
 rcases hc with hc|hc|hc
 ·exact nll (hlt c (Or.inl hc)) hs.size
 ·exact nll (hlt c (Or.inr hc)) hs.size
 ·rw[hS'] at hc
  obtain⟨x,hx,_⟩:=hc
  exact(hw.lt hx).2
end
theorem zag.callMb{L M:Program}{main:Bool}{Live:World->Prop}{Ex:Event->Prop}{Stop:Nat->(Nat->Prop)->Goroutine->World->Prop}{Snd:Nat->(Nat->Prop)->Value->World->Prop}{ch:Nat}{K:Nat->Prop}{l:List (Nat × Obj)}{σ:Nat}{S:Nat->Prop}[T:zaB L M][zaB L L](W:Whole L)(B:Bodies L M X)(hLv:∀ w w':World,(∀ c,Lv c->w'.heap[c]?=w.heap[c]?)->Live w->Live w')(hlv:∀ w c,Live w->Lv c->c<w.heap.size)(hX:zjY L X){fn:Func}(hf:L.funcs[f]?=some fn)(hb:fn.body.isSome=true)(hnX:¬ X f){a:Array Value}(hP:∀ w0 v w τ d,Post w0 v w->Post w0 v (w.tp τ d))(hKc:∀ c,Kc c->K c)(hcl:∀ w,Hp l w->Closed Kc w)(ha:zaz (zdJ Kc) a a)(hC:∀ w,Hp l w->∀ τ d,Calls L f a (w.frz.tp τ d) fun e w'=>∃ v,e=.returned v/\Post w v w'){Q:Value->List (Nat × Obj)->Prop}(hQ:∀ w0 v v' R wl w₁,Post w0 v wl->zap R v v'->zbi w0.heap.size R wl w₁->∃ bs,Q v' bs/\Hp bs w₁/\∀ p∈bs,zbJ w0.heap.size R p.1){c:Frame}{cs:List Frame}(hn:∀(S':Nat->Prop) (v':Value) (bs:List (Nat × Obj)),Q v' bs->(∀ p∈bs,S' p.1/\¬ K p.1/\¬ S p.1)->(∀ p∈l,K p.1\/S p.1)->zag M main Live Ex Stop Snd ch K (bs++l) σ (fun c=>S c\/S' c) (G (c.finish v') cs)) :
  zag M main Live Ex Stop Snd ch K l σ S (G (Frame.enter M f a .normal) (c::cs)):=by
 intro hl
 refine zag.callM (Lv:=Lv) (Kc:=Kc) W B hLv hlv hX hf hb hnX hP hKc hcl ha hC ?_ hl
 intro w0 v v' S' R wl w₁ _ hp1 hpost hv hw hS' hnew hlt hL hlt1
 obtain⟨bs,hq,hbs,hown⟩:=hQ w0 v v' R wl w₁ hpost hv hw
 have hS2:∀ p∈bs,S' p.1:=fun p h=>by rw[hS'];exact hown p h
 refine hn S' v' bs hq (fun p h=>⟨hS2 p h,fun q=>?_,fun q=>?_⟩) hl (fun p h=>?_) w₁ (fun p h=>?_) hL (fun c hc=>hlt1 c (hc.imp id fun x=>x))
 ·have h1:=hlt p.1 (.inl q);have h2:=hnew p.1 (hS2 p h);omega
 ·have h1:=hlt p.1 (.inr q);have h2:=hnew p.1 (hS2 p h);omega
 ·rcases List.mem_append.1 h with h|h
  ·exact .inr (.inr (hS2 p h))
  ·exact(hl p h).imp id .inl
 ·rcases List.mem_append.1 h with h|h
  ·exact hbs p h
  ·exact hp1 p h
