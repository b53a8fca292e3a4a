/- Part. -/
import Derived.Test.YthfhlgdeghnggaaGreatChecked
import Derived.WalkKit
import Derived.WalkLawsBesides
import Derived.Conc.WgLib
import Derived.Conc.TokenWalk
import Derived.Test.YthfhlgdeghnggaaGreatEAe
set_option maxHeartbeats 4000000
set_option maxRecDepth 100000
namespace Go.Proofs.YthfhlgdeghnggaaGreat
variable{a:Act}{fn:Func}{fr:FuncId}{X:FuncId->Prop}{wd:Int}{l0:List (Nat × Obj)}{rest:List Nat}{cap n σ:Nat}{RowP:Nat->Value->List (Nat × Obj)->Prop}{Post:Nat->World->Value->Wq}{Kc:Np}{ga:Od}{M:Program}{ty:TypeId}{v x:Value}{Out:Value->World->Np->Prop}{w:World}
open Tryz
section
open Go Go.Conc Go.ConcN Go.RowKit Go.Conc.Lib Go.ConcR.Gen Go.ConcN.Gen
theorem zcK{R:BR}{b:Bool}(h:zaj R (.bool b) v):v=.bool b:=by cases h;rfl
theorem zc0{R:BR}{k:IntKind}{n:Int}(h:zaj R (.int k n) v):v=.int k n:=by cases h;rfl
theorem zlU{R:BR}{y:Value}(hx:zaj R x x)(hy:zaj R y y):zay R #[x,y] #[x,y]:=by
 refine⟨rfl,fun i h h'=>?_⟩
 match i,h with
 | 0,_=>exact hx
 | 1,_=>exact hy
theorem zl4{R:BR}(f m s o i u k:Int):zay R #[.agg #[J f,J m,J s,J o,J i,J u],J k] #[.agg #[J f,J m,J s,J o,J i,J u],J k]:=by
 refine zlU (.agg rfl fun j h h'=>?_) (.int _ _)
 match j,h with
 | 0,_=>exact .int _ _
 | 1,_=>exact .int _ _
 | 2,_=>exact .int _ _
 | 3,_=>exact .int _ _
 | 4,_=>exact .int _ _
 | 5,_=>exact .int _ _
theorem zqO{R:BR}(wd:Int)(hx:zaj R x x)(k:Int):zay R #[.agg #[J wd,x],J k] #[.agg #[J wd,x],J k]:=by
 refine zlU (.agg rfl fun j h h'=>?_) (.int _ _)
 match j,h with
 | 0,_=>exact .int _ _
 | 1,_=>exact hx
section
variable{L:Program}{main:Bool}{Live:Wq}{Ex:Event->Prop}{Stop:Nat->Np->Goroutine->Wq}{Snd:Nat->Np->Value->Wq}{ch:Nat}{K:Np}
end
end
section
open Go
abbrev zsp:Go.Conc.Lib.WgLink:={ add:=87,done:=89,wait:=91,relMerge:=102,disable:=103,enable:=104,inBubble:=105,associate:=106,fatal:=107,uOr:=108,uAdd:=109,raceRead:=110,uLoad:=111,uStore:=112,disassociate:=113,semrelease:=114,acquire:=116,isAssociated:=117,uCas:=118,raceWrite:=119,semacquire:=120,orU64:=134,addU64:=135,loadU64:=136,storeU64:=137,casU64:=138,tWgP:=162,tUP:=164,tAssoc:=166,tWg:=134,tAU:=131,tU64:=129,tUint:=170,tU32:=132,tPU32:=171,tPAU:=210,tPU64:=212,tNoCopy:=126,tANoCopy:=127,tAlign64:=128 }
theorem zrY:Go.Conc.Lib.WgLib Tryz.prog zsp :=
 ⟨func87,func89,func91,func102,func103,func104,func105,func106,func107,func108,func109,func110,func111,func112,func113,func114,func116,func117,func118,func119,func120,func134,func135,func136,func137,func138,Tryz.underlying162,Tryz.runUnderlying162,Tryz.sizeOf162,Tryz.isAgg162,Tryz.zeroValue162,Tryz.underlying164,Tryz.runUnderlying164,Tryz.sizeOf164,Tryz.isAgg164,Tryz.zeroValue164,Tryz.underlying166,Tryz.runUnderlying166,Tryz.sizeOf166,Tryz.isAgg166,Tryz.zeroValue166,Tryz.underlying134,Tryz.runUnderlying134,Tryz.sizeOf134,Tryz.isAgg134,Tryz.zeroValue134,Tryz.underlying131,Tryz.runUnderlying131,Tryz.sizeOf131,Tryz.isAgg131,Tryz.zeroValue131,Tryz.underlying129,Tryz.runUnderlying129,Tryz.sizeOf129,Tryz.isAgg129,Tryz.zeroValue129,Tryz.underlying170,Tryz.runUnderlying170,Tryz.sizeOf170,Tryz.isAgg170,Tryz.zeroValue170,Tryz.underlying132,Tryz.runUnderlying132,Tryz.sizeOf132,Tryz.isAgg132,Tryz.zeroValue132,Tryz.underlying171,Tryz.runUnderlying171,Tryz.sizeOf171,Tryz.isAgg171,Tryz.zeroValue171,Tryz.underlying210,Tryz.runUnderlying210,Tryz.sizeOf210,Tryz.isAgg210,Tryz.zeroValue210,Tryz.underlying212,Tryz.runUnderlying212,Tryz.sizeOf212,Tryz.isAgg212,Tryz.zeroValue212,Tryz.underlying0,Tryz.runUnderlying0,Tryz.sizeOf0,Tryz.isAgg0,Tryz.zeroValue0,Tryz.underlying3,Tryz.runUnderlying3,Tryz.sizeOf3,Tryz.isAgg3,Tryz.zeroValue3,Tryz.underlying4,Tryz.runUnderlying4,Tryz.sizeOf4,Tryz.isAgg4,Tryz.zeroValue4,Tryz.underlying9,Tryz.runUnderlying9,Tryz.sizeOf9,Tryz.isAgg9,Tryz.zeroValue9,Tryz.underlying20,Tryz.runUnderlying20,Tryz.sizeOf20,Tryz.isAgg20,Tryz.zeroValue20,Tryz.underlying21,Tryz.runUnderlying21,Tryz.sizeOf21,Tryz.isAgg21,Tryz.zeroValue21,qh,qh⟩
end
section
open Go Go.Conc Go.ConcN Go.RowKit Go.Conc.Lib Go.ConcR.Gen Go.ConcN.Gen
open Go.ConcR (KK wgBlock WgAt stA smA rd wr mk Payload Aside2 DC0)
theorem zal.alloc{Wg ch:Nat}(w:World)(o:Obj)(h:zal ty Wg ch w):zal ty Wg ch (w.alloc o):=by
 obtain⟨⟨st,sm,hw⟩,cap,buf,s,r,tm,hc⟩:=h
 refine⟨⟨st,sm,hw.of_block ?_⟩,cap,buf,s,r,tm,?_⟩
 ·exact(zbv w o).2 _ (gei hw).1
 ·rw[(zbv w o).2 _ (gei hc).1]
  exact hc
def LvW(Wg ch:Nat)(c:Nat):Prop:=c=Wg\/c=ch
theorem zal.keep{Wg ch:Nat}(w w':World)(h:∀ c,LvW Wg ch c->w'.heap[c]?=w.heap[c]?)(hl:zal ty Wg ch w):zal ty Wg ch w':=by
 obtain⟨⟨st,sm,hw⟩,cap,buf,s,r,tm,hc⟩:=hl
 exact⟨⟨st,sm,hw.of_block (h _ (.inl rfl))⟩,cap,buf,s,r,tm,by rw[h _ (.inr rfl)];exact hc⟩
theorem zal.low{Wg ch:Nat}(w:World)(c:Nat)(hl:zal ty Wg ch w)(h:LvW Wg ch c):c<w.heap.size:=by
 obtain⟨⟨st,sm,hw⟩,cap,buf,s,r,tm,hc⟩:=hl
 rcases h with rfl|rfl
 ·exact(gei hw).1
 ·exact(gei hc).1
noncomputable def bot:Frame:={ (default:Frame) with fn:=Tryz.prog.funcs.size,defers:=[],mode:=.panicking [goexitEntry] }
section
variable[Payload]{L:Program}{Snd:Nat->Np->Value->Wq}{Wg ch:Nat}{K S:Np}
end
theorem zi3:(Tryz.prog.info? 136).map (·.size)=some 6:=qh
theorem zal.aside{Wg ch c:Nat}(hc:¬ LvW Wg ch c)(w w':World)(h:∀ d,d≠c->w'.heap[d]?=w.heap[d]?)(hl:zal ty Wg ch w):zal ty Wg ch w' :=
 zal.keep w w' (fun d hd=>h d (by rintro rfl;exact hc hd)) hl
section
variable[Payload]{Snd:Nat->Np->Value->Wq}{Wg ch:Nat}{fst fin:Nat->Nat}{B:Np}{Q:Wq}{l:List (Nat × Obj)}{gV rV:Value}{many:Int}{bg br bc:Nat}{c:Frame}{cs:List Frame}{sV:Value}{i i' y0 y1 y2 y3 y4 y5:Int}{St1:Np->St}{jn:Nat}
end
def zcp(B:Np)(w0 u:World):Prop:=(∀ e,B e->u.heap[e]?=w0.heap[e]?)/\u.tape=w0.tape/\u.os=w0.os/\u.output=w0.output/\w0.heap.size<=u.heap.size
section
variable{Goal:Machine->Trace->Prop}{Shun:Np}{c:Frame}{cs:List Frame}{B:Np}{w0:World}{ch bo many:Nat}{rows:Nat->Int}
end
theorem zcG{R:BR}(wd:Int)(hx:zaj R x x):zay R #[.agg #[J wd,x]] #[.agg #[J wd,x]]:=by
 refine⟨rfl,fun i h h'=>?_⟩
 match i,h with
 | 0,_ =>
  refine .agg rfl fun j h h'=>?_
  match j,h with
  | 0,_=>exact .int _ _
  | 1,_=>exact hx
theorem zkq{R:BR}{c c':Array Value}(hs:c.size=c'.size)(hv:∀ i (h:i<c.size) (h':i<c'.size),zaj R c[i] c'[i])(hc:∀ i (h:i<c.size),∃ n,c[i]=J n):c'=c:=by
 refine Array.ext hs.symm fun i h h'=>?_
 obtain⟨n,e⟩:=hc i h'
 have:=hv i h' h
 rw[e] at this ⊢
 exact zc0 this
theorem znF{R:BR}{x0 x1 x2 x3 x4 x5 x6 x7 x8 x9 x10 x11 x12 x13 x14 x15 x16 x17 x18 x19 x20 x21 x22 x23:Int}(h:zaj R (.agg #[J x0,J x1,J x2,J x3,J x4,J x5,J x6,J x7,J x8,J x9,J x10,J x11,J x12,J x13,J x14,J x15,J x16,J x17,J x18,J x19,J x20,J x21,J x22,J x23]) v):v=.agg #[J x0,J x1,J x2,J x3,J x4,J x5,J x6,J x7,J x8,J x9,J x10,J x11,J x12,J x13,J x14,J x15,J x16,J x17,J x18,J x19,J x20,J x21,J x22,J x23]:=by
 cases h with
 | agg hs hv=>exact congrArg Value.agg (zkq hs hv fun i h=>match i,h with|0,_=>⟨_,rfl⟩|1,_=>⟨_,rfl⟩|2,_=>⟨_,rfl⟩|3,_=>⟨_,rfl⟩|4,_=>⟨_,rfl⟩|5,_=>⟨_,rfl⟩|6,_=>⟨_,rfl⟩|7,_=>⟨_,rfl⟩|8,_=>⟨_,rfl⟩|9,_=>⟨_,rfl⟩|10,_=>⟨_,rfl⟩|11,_=>⟨_,rfl⟩|12,_=>⟨_,rfl⟩|13,_=>⟨_,rfl⟩|14,_=>⟨_,rfl⟩|15,_=>⟨_,rfl⟩|16,_=>⟨_,rfl⟩|17,_=>⟨_,rfl⟩|18,_=>⟨_,rfl⟩|19,_=>⟨_,rfl⟩|20,_=>⟨_,rfl⟩|21,_=>⟨_,rfl⟩|22,_=>⟨_,rfl⟩|23,_=>⟨_,rfl⟩|k+24,h=>absurd h qm)
section
variable[Payload]{L:Program}{Goal:Machine->Trace->Prop}{Shun:Np}{c:Frame}{cs:List Frame}
end
section
variable{Goal:Machine->Trace->Prop}{Shun:Np}{c:Frame}{cs:List Frame}
theorem zpc(hG:zbj Tryz.prog Goal){Fin:World->Value->World->Np->Prop}(h9:∀ p∈l0,Kc p.1)(hf:Hp l0 w)(h5:∀ c,Kc c->c<w.heap.size/\¬ Shun c)(h4:∀(c0:Frame) (cs0:List Frame) (w0:World),Hp l0 w0->(∀ e,Kc e->e<w0.heap.size/\¬ Shun e)->w.heap.size<=w0.heap.size->(∀(v:Value) (u:World) (Sh:Np),zcp (fun e=>e<w0.heap.size/\¬ Shun e) w0 u->Fin w0 v u Sh->zau Tryz.prog Goal Sh (fun _=>False) (G (c0.finish v) cs0) u) ->
   zau Tryz.prog Goal Shun (fun _=>False) (G (Frame.enter Tryz.prog 84 #[.agg (xG wd ga n cap),.func (.func 66) #[] #[]] .normal) (c0::cs0)) w0)(h6:∀ w0 v u u2 Sh,Fin w0 v u Sh->w.heap.size<=w0.heap.size->(∀ e,e<u.heap.size->u2.heap[e]?=u.heap[e]?)->u.heap.size<=u2.heap.size->Out v u2 Sh)(h7:∀(v:Value) (u:World) (Sh:Np),zcp (fun e=>e<w.heap.size/\¬ Shun e) w u->Out v u Sh->zau Tryz.prog Goal Sh (fun _=>False) (G (c.finish v) cs) u) :
  zau Tryz.prog Goal Shun (fun _=>False) (G (Frame.enter Tryz.prog 73 #[.agg (xG wd ga n cap)] .normal) (c::cs)) w:=by
 have hg:∀(w:World) (o:Obj),(fun _:World=>True) w->(fun _:World=>True) (w.alloc o):=fun _ _ h=>h
 refine zau.way hG (ch:=0) (K:=Kc) (S:=fun _=>False) (l:=l0) (lx:=[]) hf (fun p h=>.inl (h9 p h)) (fun _ h=>by cases h) (fun _ h=>by cases h) (fun _ h=>h.elim) (fun c hc=>⟨(h5 c (hc.elim id fun x=>x.elim)).1,(h5 c (hc.elim id fun x=>x.elim)).2,fun h=>h⟩) ?_
 rw[enter_at _ func73 rfl]
 walk_nrmf Tryz.f73
 refine zah.sq ?_
 refine zah.rg ?_
 simp only[rgs,Nat.reduceAdd]
 refine zah.new hg rfl rfl qj (V:=fun c=>.pointer (xA c)) (obj:=.cells (xG wd ga n cap) 33) (fun w hp=>qq) (fun _ w hp e he=>by simp[go_sem] at he) fun bp hK_bp hS_bp=>?_
 walk_nrm
 refine zah.val rfl rfl qj (v:=.slice none 0 0) (fun w hp=>qq) (fun _ w hp e he=>by simp[go_sem] at he) ?_
 walk_nrm
 refine zah.re ?_
 refine zah.sq ?_
 refine zah.rg ?_
 simp only[rgs,Nat.reduceAdd]
 refine zah.val rfl rfl qj (v:=.agg (xG wd ga n cap)) (fun w hp=>?_) (fun hl w hp e he=>?_) ?_
 ·have c0:=hp.cell mcs 0 rfl
  have c1:=hp.cell mcs 1 rfl
  go_simp
 ·have c0:=hp.cell mcs 0 rfl
  have c1:=hp.cell mcs 1 rfl
  simp[go_sem, *] at he
  rcases he with rfl|rfl
  all_goals exact zaM hl mcs _
 walk_nrm
 refine zah.enter rfl rfl qj (fun w=>run_call_body rfl func84 rfl rfl) (fun w=>events_call_body rfl func84 rfl rfl _) ?_
 walk_nrm
 refine zah.stop fun hL w1 hj _ hE=>?_
 intro h2 hA hM h3 _ h1 hq hs hu
 refine h4 _ _ w1 (fun p h=>hj p (mcm h)) (fun e he=>⟨(h3 e (.inl he)).1,(h3 e (.inl he)).2.1⟩) h2 fun v u Sh hk hF=>?_
 simp only[Frame.finish_at]
 walk_nrm
 refine zau.way hG (ch:=0) (K:=fun _=>False) (S:=fun _=>False) (l:=[]) (lx:=[]) (fun _ h=>by cases h) (fun _ h=>by cases h) (fun _ h=>by cases h) (fun _ h=>by cases h) (fun _ h=>h.elim) (fun c hc=>(hc.elim id id).elim) ?_
 refine zah.val rfl rfl qj (v:=v) (fun w hp=>qq) (fun _ w hp e he=>by simp[go_sem] at he) ?_
 walk_nrm
 refine zah.re ?_
 refine zah.ctl rfl (fun _=>stepG_ret') ?_
 refine zah.ctl (g':=G (c.finish v) cs) rfl (fun w=>by rw[stepG_leave rfl rfl func73 (results_tmp results73 _ _ w) (events_results_tmp results73 _ _)];rfl) ?_
 refine zah.stop fun hN w3 hP _ hJ=>?_
 intro h8 hD hQ hK _ h0 hw hy hz
 obtain⟨a1,a2,a3,a4,a5⟩:=hk
 refine h7 v w3 Sh ⟨fun e he=>?_,hw.trans (a2.trans hq),hy.trans (a3.trans hs),hz.trans (a4.trans hu),qg⟩ (h6 w1 v u w3 Sh hF h2 (fun e he=>h0 e he fun h=>h) h8)
 rw[h0 e (by have:=he.1;omega) (fun h=>h),a1 e ⟨by have:=he.1;omega,he.2⟩]
 exact h1 e he.1 (fun h=>h)
end
end
namespace R2
open Go Go.Conc Go.ConcN Go.RowKit Go.Conc.Lib Go.ConcR.Gen Go.ConcN.Gen
open Go.ConcR (KK wgBlock WgAt stA smA rd wr mk Payload Aside2 DC0)
theorem _root_.Go.Proofs.YthfhlgdeghnggaaGreat.zah.callb{L:Program}{main:Bool}{Live:Wq}{Ex:Event->Prop}{Stop:Nat->Np->Goroutine->Wq}{Snd:Nat->Np->Value->Wq}{ch:Nat}{K:Np}{l:List (Nat × Obj)}{S:Np}[T:zaF L M][zaF L L](W:Whole L)(B:Bodies L M X){Lv:Np}(h9:∀ w w':World,(∀ c,Lv c->w'.heap[c]?=w.heap[c]?)->Live w->Live w')(he:∀ w c,Live w->Lv c->c<w.heap.size)(hX:zmk L X){f:FuncId}(hf:L.funcs[f]?=some fn)(hb:fn.body.isSome=true)(hg:¬ X f)(h6:zcJ fn=true){a:Array Value}{Post:World->Value->Wq}(hP:∀ w0 v w τ d,Post w0 v w->Post w0 v (w.tp τ d))(hj:∀ c,Kc c->K c)(hk:∀ w,Hp l w->Closed Kc w)(ha:zay (zcN Kc) a a)(hC:∀ w,Hp l w->∀ τ d,Calls L f a (w.frz.tp τ d) fun e w'=>∃ v,e=.returned v/\Post w v w'){Q:Value->List (Nat × Obj)->Prop}(hQ:∀ w0 v v' R wl w₁,Post w0 v wl->zaj R v v'->zbh w0.heap.size R wl w₁->∃ bs,Q v' bs/\Hp bs w₁/\∀ p∈bs,zbI w0.heap.size R p.1){c:Frame}{cs:List Frame}(hn:∀(S':Np) (v':Value) (bs:List (Nat × Obj)),Q v' bs->(∀ p∈bs,S' p.1/\¬ K p.1/\¬ S p.1)->(∀ p∈l,K p.1\/S p.1)->zah M main Live Ex Stop Snd ch K (bs++l) σ (fun c=>S c\/S' c) (G (c.finish v') cs)) :
  zah M main Live Ex Stop Snd ch K l σ S (G (Frame.enter M f a .normal) (c::cs)):=by
 intro hl
 refine zah.call (Lv:=Lv) (Kc:=Kc) W B h9 he hX hf hb hg h6 hP hj hk ha hC ?_ hl
 intro w0 v v' S' R wl w₁ _ hp h4 hv hw hS' h3 h5 hL h7
 obtain⟨bs,hq,hbs,h8⟩:=hQ w0 v v' R wl w₁ h4 hv hw
 have h0:∀ p∈bs,S' p.1:=fun p h=>by rw[hS'];exact h8 p h
 refine hn S' v' bs hq (fun p h=>⟨h0 p h,fun q=>?_,fun q=>?_⟩) hl (fun p h=>?_) w₁ (fun p h=>?_) hL (fun c hc=>h7 c (hc.imp id fun x=>x))
 ·have h1:=h5 p.1 (.inl q);have h2:=h3 p.1 (h0 p h);omega
 ·have h1:=h5 p.1 (.inr q);have h2:=h3 p.1 (h0 p h);omega
 ·rcases List.mem_append.1 h with h|h
  ·exact .inr (.inr (h0 p h))
  ·exact(hl p h).imp id .inl
 ·rcases List.mem_append.1 h with h|h
  ·exact hbs p h
  ·exact hp p h
theorem _root_.Go.Proofs.YthfhlgdeghnggaaGreat.zah.va{main:Bool}{Live:Wq}{Ex:Event->Prop}{Stop:Nat->Np->Goroutine->Wq}{Snd:Nat->Np->Value->Wq}{ch:Nat}{K:Np}{l:List (Nat × Obj)}{S:Np}{b:Frame}{k:List Item}{cs:List Frame}{ops:Array Oper}{i:Nat}{o:Oper}(hn:zah M main Live Ex Stop Snd ch K l σ S (G (b.at (a.put o.dst v) (.inRegion ops rest::k)) cs))(ho:ops[i]?=some o:=by exact rfl)(hw:Region.wanted o (yielded ops a.tmps)=true:=by exact rfl)(hk:b.kind≠.early:=by decide)(hr:∀ w,Hp l w->(execOp a.eval o).run M w=.ok (.value v) w:=by intro w hp;go_simp)(he:(∀ p∈l,K p.1\/S p.1)->∀ w,Hp l w->∀ e∈(execOp a.eval o).events M w #[],EvS K S e:=by intro _ w hp e he;simp[go_sem] at he) :
  zah M main Live Ex Stop Snd ch K l σ S (G (b.at a (.inRegion ops (i::rest)::k)) cs):=zah.val ho hw hk hr he hn
inductive Ins:(fC fR fS tC tW tF tE tL:Nat)->(bC bR bS:Func)->Value->(Value->Prop)->Prop
 | int:Ins 98 84 99 156 159 71 3 25 Tryz.f98 Tryz.f84 Tryz.f99 (J 0) fun x=>∃ (xa:Int) (_ _:Nat),x=J xa
 | ints:Ins 88 74 90 124 142 99 25 26 Tryz.f88 Tryz.f74 Tryz.f90 (.slice none 0 0) fun x=>∃ xa xn xc,x=.slice xa xn xc
variable{fC fR fS tC tW tF tE tL:Nat}{bC bR bS:Func}{z:Value}{Sh:Value->Prop}
theorem Ins.hC(I:Ins fC fR fS tC tW tF tE tL bC bR bS z Sh):Tryz.prog.funcs[fC]?=some bC:=by
 cases I
 ·exact func98
 ·exact func88
theorem Ins.hR(I:Ins fC fR fS tC tW tF tE tL bC bR bS z Sh):Tryz.prog.funcs[fR]?=some bR:=by
 cases I
 ·exact func84
 ·exact func74
theorem Ins.hS(I:Ins fC fR fS tC tW tF tE tL bC bR bS z Sh):Tryz.prog.funcs[fS]?=some bS:=by
 cases I
 ·exact func99
 ·exact func90
noncomputable abbrev zev(bS:Func):Code:=match bS.body with|some (.seq _ (.seq _ (.block _ (.loop c))))=>c|_=>.skip
section
variable{L:Program}{main:Bool}{Live:Wq}{Ex:Event->Prop}{Stop:Nat->Np->Goroutine->Wq}{Snd:Nat->Np->Value->Wq}{ch:Nat}{K:Np}
theorem zna(I:Ins fC fR fS tC tW tF tE tL bC bR bS z Sh)[T:zaF L Tryz.prog][zaF L L](W:Whole L)(B:Bodies L Tryz.prog X){Lv:Np}(h6:∀ w w':World,(∀ c,Lv c->w'.heap[c]?=w.heap[c]?)->Live w->Live w')(h7:∀ w c,Live w->Lv c->c<w.heap.size)(hX:zmk L X)(hf:L.funcs[115]?=some Tryz.f115)(hg:¬ X 115)(hw:L.funcs[fr]?=some fn)(hj:Tryz.prog.funcs[fr]?=some fn)(h8:fn.body.isSome=true)(hq:(fn.name == "runtime.NumGoroutine")=false)(hz:¬ X fr)(hr2:zcJ fn=true){f m s o i u:Int}{b4 b5:Nat}{l:List (Nat × Obj)}{fin:Nat}(h4:(b4,.cells (xG wd ga n cap) 33)∈l)(h5:(b5,.cells #[J f,J m,J s,J o,J i,J u] 136)∈l)(hA:∀ c,Kc c->K c)(hD:∀ w,Hp l w->Closed Kc w)(hE:zaj (zcN Kc) (.slice ga n cap) (.slice ga n cap))(hP:(fin:Int)=f+m)(hN:fin<=1000)(h1:∀(k:Nat) (w:World),Calls L 115 #[.agg #[J f,J m,J s,J o,J i,J u],J k] w fun e _=>e=.returned (.bool (decide (f<=k/\(k:Int)<f+m))))(hF:∀ k:Nat,f<=k->k<fin->∀ w,Hp l w->∀ τ d,Calls L fr #[.agg (xG wd ga n cap),J k] (w.frz.tp τ d) fun e w'=>∃ v,e=.returned v/\Post k w v w')(hG:∀ k w0 v w τ d,Post k w0 v w->Post k w0 v (w.tp τ d))(hJ:∀ k w0 v v' R wl w₁,Post k w0 v wl->zaj R v v'->zbh w0.heap.size R wl w₁->∃ bs,RowP k v' bs/\Hp bs w₁/\∀ p∈bs,zbI w0.heap.size R p.1)(hK:∀ k x bs,RowP k x bs->Sh x)(hs:∀(k:Nat) (S:Np) (w:World) (x:Value) (bs:List (Nat × Obj)),f<=k->k<fin->RowP k x bs->Hp bs w->(∀ p∈bs,S p.1)->Snd k S (.agg #[J k,x]) w){c:Frame}{cs:List Frame}(hu:∀ S:Np,zah Tryz.prog main Live Ex Stop Snd ch K l fin S (G (c.finish (.tuple #[])) cs)) :
  ∀(r k:Nat),k+r=fin->f<=k->∀(S:Np) (u6 u7 v9 v10 v11 v12 v13 v14 v15 v16 v17 v18 v19 v20 v21 v22:Value),
   zah Tryz.prog main Live Ex Stop Snd ch K l k S (G ((base fS).at ⟨#[.agg (xG wd ga n cap),.agg #[J f,J m,J s,J o,J i,J u],.func (.func fr) #[] #[],.chan (some ch),.pointer (xA b4),.pointer (xA b5),u6,u7,J k,v9,v10,v11,v12,v13,v14,v15,v16,v17,v18,v19,v20,v21,v22],[]⟩ [.code (zev bS),.inLoop (zev bS),.inBlock 0]) (c::cs)):=by
 have hC:=I.hC
 have hR:=I.hR
 have hS:=I.hS
 have I0:=I
 cases I
 all_goals
  intro r
  induction r with
  | zero =>
   intro k hk h9 S u6 u7 v9 v10 v11 v12 v13 v14 v15 v16 v17 v18 v19 v20 v21 v22
   have h0:∀ w,Calls L 115 #[.agg #[J f,J m,J s,J o,J i,J u],J k] w fun e _=>e=.returned (.bool false):=fun w=>by
    have:=h1 k w
    rw[decide_eq_false qg] at this
    exact this
   simp only[zev,Tryz.f99,Tryz.f90]
   refine zah.sq ?_
   refine zah.sq ?_
   refine zah.rg ?_
   simp only[rgs,Nat.reduceAdd]
   refine zah.val rfl rfl qj (v:=.agg #[J f,J m,J s,J o,J i,J u]) (fun w hp=>?_) (fun hl w hp e he=>?_) ?_
   ·have c0:=hp.cell h5 0 rfl
    have c1:=hp.cell h5 1 rfl
    have c2:=hp.cell h5 2 rfl
    have c3:=hp.cell h5 3 rfl
    have c4:=hp.cell h5 4 rfl
    have c5:=hp.cell h5 5 rfl
    go_simp
   ·have c0:=hp.cell h5 0 rfl
    have c1:=hp.cell h5 1 rfl
    have c2:=hp.cell h5 2 rfl
    have c3:=hp.cell h5 3 rfl
    have c4:=hp.cell h5 4 rfl
    have c5:=hp.cell h5 5 rfl
    simp[go_sem, *] at he
    rcases he with rfl|rfl|rfl|rfl|rfl|rfl
    all_goals exact zaM hl h5 _
   walk_nrm
   refine zah.va (v:=J k) ?_
   walk_nrm
   refine zah.enter rfl rfl qj (fun w=>run_call_body rfl func115 rfl rfl) (fun w=>events_call_body rfl func115 rfl rfl _) ?_
   walk_nrm
   refine zah.callv (Kc:=fun _=>False) W B h6 h7 hX hf rfl hg qh (v0:=.bool false) (fun _ _ h=>zcK h) (fun _ h=>h.elim) (fun _ _ _ h=>h.elim) (zl4 _ _ _ _ _ _ _) (fun w _ τ d=>h0 _) fun S1=>?_
   simp only[Frame.finish_at]
   walk_nrm
   refine zah.re ?_
   refine zah.ctl rfl (fun _=>stepG_cond (t:=false) rfl) ?_
   simp only[Bool.false_eq_true,↓reduceIte]
   refine zah.ctl rfl (fun _=>stepG_exit rfl) ?_
   refine zah.ctl rfl (fun _=>stepG_end) ?_
   refine zah.ctl rfl (fun w=>stepG_leave rfl rfl hS (results_none rfl _ _ w) (events_results_none rfl _ _)) ?_
   obtain rfl:k=fin:=qg
   exact hu _
  | succ r ih =>
   intro k hk h9 S u6 u7 v9 v10 v11 v12 v13 v14 v15 v16 v17 v18 v19 v20 v21 v22
   have h0:∀ w,Calls L 115 #[.agg #[J f,J m,J s,J o,J i,J u],J k] w fun e _=>e=.returned (.bool true):=fun w=>by
    have:=h1 k w
    rw[decide_eq_true qg] at this
    exact this
   have hQ:IntKind.i64.wrap ((k:Int)+1)=((k+1:Nat):Int):=by rw[IntKind.wrap_i64];omega
   simp only[zev,Tryz.f99,Tryz.f90]
   refine zah.sq ?_
   refine zah.sq ?_
   refine zah.rg ?_
   simp only[rgs,Nat.reduceAdd]
   refine zah.val rfl rfl qj (v:=.agg #[J f,J m,J s,J o,J i,J u]) (fun w hp=>?_) (fun hl w hp e he=>?_) ?_
   ·have c0:=hp.cell h5 0 rfl
    have c1:=hp.cell h5 1 rfl
    have c2:=hp.cell h5 2 rfl
    have c3:=hp.cell h5 3 rfl
    have c4:=hp.cell h5 4 rfl
    have c5:=hp.cell h5 5 rfl
    go_simp
   ·have c0:=hp.cell h5 0 rfl
    have c1:=hp.cell h5 1 rfl
    have c2:=hp.cell h5 2 rfl
    have c3:=hp.cell h5 3 rfl
    have c4:=hp.cell h5 4 rfl
    have c5:=hp.cell h5 5 rfl
    simp[go_sem, *] at he
    rcases he with rfl|rfl|rfl|rfl|rfl|rfl
    all_goals exact zaM hl h5 _
   walk_nrm
   refine zah.va (v:=J k) ?_
   walk_nrm
   refine zah.enter rfl rfl qj (fun w=>run_call_body rfl func115 rfl rfl) (fun w=>events_call_body rfl func115 rfl rfl _) ?_
   walk_nrm
   refine zah.callv (Kc:=fun _=>False) W B h6 h7 hX hf rfl hg qh (v0:=.bool true) (fun _ _ h=>zcK h) (fun _ h=>h.elim) (fun _ _ _ h=>h.elim) (zl4 _ _ _ _ _ _ _) (fun w _ τ d=>h0 _) fun S1=>?_
   simp only[Frame.finish_at]
   walk_nrm
   refine zah.re ?_
   refine zah.ctl rfl (fun _=>stepG_cond (t:=true) rfl) ?_
   simp only[↓reduceIte]
   refine zah.ctl rfl (fun _=>stepG_skip) ?_
   refine zah.sq ?_
   refine zah.ctl rfl (fun _=>stepG_block) ?_
   refine zah.rg ?_
   simp only[rgs,Nat.reduceAdd]
   refine zah.va (v:=.chan (some ch)) ?_
   walk_nrm
   refine zah.va (v:=J k) ?_
   walk_nrm
   refine zah.va (v:=.func (.func fr) #[] #[]) ?_
   walk_nrm
   refine zah.val rfl rfl qj (v:=.agg (xG wd ga n cap)) (fun w hp=>?_) (fun hl w hp e he=>?_) ?_
   ·have c0:=hp.cell h4 0 rfl
    have c1:=hp.cell h4 1 rfl
    go_simp
   ·have c0:=hp.cell h4 0 rfl
    have c1:=hp.cell h4 1 rfl
    simp[go_sem, *] at he
    rcases he with rfl|rfl
    all_goals exact zaM hl h4 _
   walk_nrm
   refine zah.va (v:=J k) ?_
   walk_nrm
   refine zah.enter rfl rfl qj (fun w=>zpo rfl rfl hj hq h8) (fun w=>ziS rfl rfl hj hq h8 _) ?_
   walk_nrm
   refine zah.callb W B h6 h7 hX hw h8 hz hr2 (hG k) hA hD (zqO _ hE _) (hF k h9 qg) (hJ k) fun S2 x bs h2 h3 hL=>?_
   have hM:=hK k x bs h2
   obtain⟨y,hy⟩:∃ y,y=x:=⟨_,rfl⟩
   have hrow':=h2
   rw[<- hy] at hrow'
   obtain⟨xa,xn,xc,rfl⟩:=hM
   simp only[Frame.finish_at]
   walk_nrm
   refine zah.val rfl rfl qj (v:=.agg #[J k,y]) (fun w hp=>by subst hy;go_simp) (fun _ w hp e he=>by simp[go_sem] at he) ?_
   walk_nrm
   refine zah.send (l':=l) rfl rfl rfl qj (v:=.agg #[J k,y]) (z:=.tuple #[]) (fun w=>qq) (fun w=>ql) (fun c=>((S c\/S1 c)\/S2 c)/\¬ ∃ p∈bs,p.1=c) (fun _ h=>h.1) (fun w hp=>hs k _ w _ bs h9 qg hrow' (fun p h=>hp p (List.mem_append_left _ h)) (fun p h=>⟨.inr (h3 p h).1,fun q=>q.2 ⟨p,h,rfl⟩⟩)) ?_ ?_
   ·exact fun _ p h=>⟨List.mem_append_right _ h,(hL p h).imp id fun q=>⟨.inl q,fun ⟨p',h',e⟩=>(h3 p' h').2.2 (e ▸ q)⟩⟩
   refine zah.re ?_
   refine zah.ctl rfl (fun _=>stepG_inBlock) ?_
   refine zah.rg ?_
   simp only[rgs,Nat.reduceAdd]
   refine zah.va (v:=J k) ?_
   walk_nrm
   refine zah.va (v:=J ((k+1:Nat):Int)) ?_
   walk_nrm
   refine zah.va (v:=J ((k+1:Nat):Int)) ?_
   walk_nrm
   refine zah.re ?_
   refine zah.ctl rfl (fun _=>stepG_inLoop) ?_
   exact ih (k+1) qg qg _ _ _ _ _ _ _ _ _ _ _ _ _ _ _ _ _
end
def zcs(fC:Nat)(Wg bg bs br bc:Nat):Deferred:={ target:=.fn (.func fC) #[.pointer (xA Wg),.pointer (xA bg),.pointer (xA bs),.pointer (xA br),.pointer (xA bc)],args:=#[] }
theorem zmp(I:Ins fC fR fS tC tW tF tE tL bC bR bS z Sh)(Wg bg bs br bc:Nat)(w:World):stepG Tryz.prog false (born Tryz.prog (zcs fC Wg bg bs br bc)) w =
  .go (G ((baseD fC).at ⟨#[.pointer (xA Wg),.pointer (xA bg),.pointer (xA bs),.pointer (xA br),.pointer (xA bc),undef,undef,undef,undef,undef],[]⟩ [.code (bC.body.getD .skip)]) [bot]) w #[]:=by
 have hC:=I.hC
 cases I <;> simp[born,zcs,stepG,unwind,callDeferred,invoke,callFunc,hC,Tryz.f98,Tryz.f88,seen,GStep.after,G,Frame.enter,Frame.at,baseD,bot]
theorem zkI(I:Ins fC fR fS tC tW tF tE tL bC bR bS z Sh)(T:Array Value):QuitsD Tryz.prog 2 0 (G { (baseD fC).at ⟨T,[]⟩ [] with mode:=.returning } [bot]):=by
 have hC:=I.hC
 have hR:=I.hR
 have hS:=I.hS
 have I0:=I
 cases I
 all_goals
  refine QuitsD.ctl (g':=G bot []) rfl (fun w=>?_) ?_
  ·simp[G,stepG,unwind,doReturn,results,Frame.at,baseD,bot,hC,Tryz.f98,Tryz.f88,seen,GStep.after,goexitEntry]
  refine QuitsD.ctl (g':={ G bot [] with status:=.finished }) rfl (fun w=>?_) ⟨rfl,rfl⟩
  simp[G,stepG,unwind,bot,goexitEntry,Frame.catches]
  rfl
section
variable[Payload]{L:Program}{Snd:Nat->Np->Value->Wq}{Wg ch:Nat}{K S:Np}
theorem zmu(I:Ins fC fR fS tC tW tF tE tL bC bR bS z Sh)[T:zaF L Tryz.prog][zaF L L](W:Whole L)(B:Bodies L Tryz.prog X)(hX:zmk L X)(h7:L.funcs[115]?=some Tryz.f115)(h8:¬ X 115)(h9:L.funcs[fr]?=some fn)(hf:Tryz.prog.funcs[fr]?=some fn)(hj:fn.body.isSome=true)(hk:(fn.name == "runtime.NumGoroutine")=false)(hq:¬ X fr)(hr2:zcJ fn=true){fst:Nat}{m s o i u:Int}{bg bs br bc:Nat}{l:List (Nat × Obj)}{fin:Nat}(hg:(bg,.cells (xG wd ga n cap) 33)∈l)(hs:(bs,.cells #[J fst,J m,J s,J o,J i,J u] 136)∈l)(hr:(br,.cells #[.func (.func fr) #[] #[]] tF)∈l)(hc:(bc,.cells #[.chan (some ch)] tC)∈l)(hu:∀ c,Kc c->K c)(hw:∀ w,Hp l w->Closed Kc w)(hy:zaj (zcN Kc) (.slice ga n cap) (.slice ga n cap))(h4:(fin:Int)=fst+m)(hm:0<=m)(h0:fin<=1000)(h5:∀(k:Nat) (w:World),Calls L 115 #[.agg #[J fst,J m,J s,J o,J i,J u],J k] w fun e _=>e=.returned (.bool (decide ((fst:Int)<=k/\(k:Int)<fst+m))))(hz:∀ k:Nat,fst<=k->k<fin->∀ w,Hp l w->∀ τ d,Calls L fr #[.agg (xG wd ga n cap),J k] (w.frz.tp τ d) fun e w'=>∃ v,e=.returned v/\Post k w v w')(hA:∀ k w0 v w τ d,Post k w0 v w->Post k w0 v (w.tp τ d))(hD:∀ k w0 v v' R wl w₁,Post k w0 v wl->zaj R v v'->zbh w0.heap.size R wl w₁->∃ bs,RowP k v' bs/\Hp bs w₁/\∀ p∈bs,zbI w0.heap.size R p.1)(hE:∀ k x bs,RowP k x bs->Sh x)(h6:∀(k:Nat) (S:Np) (w:World) (x:Value) (bs:List (Nat × Obj)),fst<=k->k<fin->RowP k x bs->Hp bs w->(∀ p∈bs,S p.1)->Snd k S (.agg #[J k,x]) w) :
  zah Tryz.prog false (zal 134 Wg ch) (ExE Wg false) (zmg Tryz.prog 134 Wg K fin) Snd ch K l fst S (born Tryz.prog (zcs fC Wg bg bs br bc)):=by
 have hC:=I.hC
 have hR:=I.hR
 have hS:=I.hS
 have I0:=I
 cases I
 all_goals
  have h3:∀(w:World) (o:Obj),zal 134 Wg ch w->zal 134 Wg ch (w.alloc o):=zal.alloc
  refine zah.ctl rfl (fun w=>zmp I0 Wg bg bs br bc w) ?_
  simp only[Tryz.f98,Tryz.f88,Option.getD_some]
  refine zah.sq ?_
  refine zah.rg ?_
  simp only[rgs]
  refine zah.ctl rfl (fun _=>stepG_defer rfl rfl qj rfl) ?_
  walk_nrm
  refine zah.re ?_
  refine zah.rg ?_
  simp only[rgs,Nat.reduceAdd]
  refine zah.val rfl rfl qj (v:=.agg (xG wd ga n cap)) (fun w hp=>?_) (fun hl w hp e he=>?_) ?_
  ·have c0:=hp.cell hg 0 rfl
   have c1:=hp.cell hg 1 rfl
   go_simp
  ·have c0:=hp.cell hg 0 rfl
   have c1:=hp.cell hg 1 rfl
   simp[go_sem, *] at he
   rcases he with rfl|rfl
   all_goals exact zaM hl hg _
  walk_nrm
  refine zah.val rfl rfl qj (v:=.agg #[J fst,J m,J s,J o,J i,J u]) (fun w hp=>?_) (fun hl w hp e he=>?_) ?_
  ·have c0:=hp.cell hs 0 rfl
   have c1:=hp.cell hs 1 rfl
   have c2:=hp.cell hs 2 rfl
   have c3:=hp.cell hs 3 rfl
   have c4:=hp.cell hs 4 rfl
   have c5:=hp.cell hs 5 rfl
   go_simp
  ·have c0:=hp.cell hs 0 rfl
   have c1:=hp.cell hs 1 rfl
   have c2:=hp.cell hs 2 rfl
   have c3:=hp.cell hs 3 rfl
   have c4:=hp.cell hs 4 rfl
   have c5:=hp.cell hs 5 rfl
   simp[go_sem, *] at he
   rcases he with rfl|rfl|rfl|rfl|rfl|rfl
   all_goals exact zaM hl hs _
  walk_nrm
  refine zah.val rfl rfl qj (v:=.func (.func fr) #[] #[]) (fun w hp=>?_) (fun hl w hp e he=>?_) ?_
  ·have c0:=hp.cell hr 0 rfl
   go_simp
  ·have c0:=hp.cell hr 0 rfl
   simp[go_sem, *] at he
   subst he
   exact zaM hl hr _
  walk_nrm
  refine zah.val rfl rfl qj (v:=.chan (some ch)) (fun w hp=>?_) (fun hl w hp e he=>?_) ?_
  ·have c0:=hp.cell hc 0 rfl
   go_simp
  ·have c0:=hp.cell hc 0 rfl
   simp[go_sem, *] at he
   subst he
   exact zaM hl hc _
  walk_nrm
  refine zah.enter rfl rfl qj (fun w=>run_call_body rfl hS rfl rfl) (fun w=>events_call_body rfl hS rfl rfl _) ?_
  rw[enter_at _ hS rfl]
  simp only[Tryz.f99,Tryz.f90]
  walk_nrm
  refine zah.sq ?_
  refine zah.rg ?_
  simp only[rgs,Nat.reduceAdd]
  refine zah.new h3 rfl rfl qj (V:=fun c=>.pointer (xA c)) (obj:=.cells (xG wd ga n cap) 33) (fun w hp=>qq) (fun _ w hp e he=>by simp[go_sem] at he) fun b4 hK_b4 hS_b4=>?_
  walk_nrm
  refine zah.new h3 rfl rfl qj (V:=fun c=>.pointer (xA c)) (obj:=.cells #[J fst,J m,J s,J o,J i,J u] 136) (fun w hp=>qq) (fun _ w hp e he=>by simp[go_sem] at he) fun b5 hK_b5 hS_b5=>?_
  walk_nrm
  refine zah.re ?_
  refine zah.sq ?_
  refine zah.rg ?_
  simp only[rgs,Nat.reduceAdd]
  refine zah.va (v:=.pointer (xA b5)) ?_
  walk_nrm
  refine zah.val rfl rfl qj (v:=J fst) (fun w hp=>?_) (fun hl w hp e he=>?_) ?_
  ·have c0:=hp.cell mcs 0 rfl
   go_simp
  ·have c0:=hp.cell mcs 0 rfl
   simp[go_sem, *] at he
   subst he
   exact zaM hl mcs _
  walk_nrm
  refine zah.va (v:=J fst) ?_
  walk_nrm
  refine zah.re ?_
  refine zah.ctl rfl (fun _=>stepG_block) ?_
  refine zah.ctl rfl (fun _=>stepG_loop) ?_
  refine zna I0 (Lv:=LvW Wg ch) (f:=(fst:Int)) W B zal.keep zal.low hX h7 h8 h9 hf hj hk hq hr2 qm qm hu (fun w hp=>hw w fun p h=>hp p (by simp[h])) hy h4 h0 h5 (fun k h1 h2 w hp=>hz k qg h2 w fun p h=>hp p (by simp[h])) hA hD hE (fun k S w x bs h1 h2=>h6 k S w x bs qg h2) ?_ (fin - fst) fst qg qg _ _ _ _ _ _ _ _ _ _ _ _ _ _ _ _ _
  intro S2
  simp only[Frame.finish_at]
  walk_nrm
  refine zah.re ?_
  refine zah.ctl rfl (fun _=>stepG_end) ?_
  refine zah.ctl rfl (fun _=>stepG_unwind_enter rfl func89 rfl rfl) ?_
  walk_nrmf Tryz.f89
  intro hl w hp hL hF
  exact zqy zrY (C:=bs) (v:=J fst) (hl _ (mcm (mcm hs))) rfl (zkI I0 _) w hL (hp.cell (mcm (mcm hs)) 0 rfl)
end
end R2
namespace R2
open Go Go.Conc Go.ConcN Go.RowKit Go.Conc.Lib Go.ConcR.Gen Go.ConcN.Gen
open Go.ConcR (KK wgBlock WgAt stA smA rd wr mk Payload Aside2 DC0)
variable{fC fR fS tC tW tF tE tL:Nat}{bC bR bS:Func}{z:Value}{Sh:Value->Prop}
noncomputable abbrev zq2(bR:Func):Code:=match bR.body with|some (.seq _ (.seq _ (.seq _ (.seq _ (.seq _ (.seq (.seq _ (.block _ (.loop c))) _))))))=>c|_=>.skip
noncomputable abbrev zdl(bR:Func):Code:=match bR.body with|some (.seq _ (.seq _ (.seq _ (.seq _ (.seq _ (.seq (.seq _ (.block _ (.loop _))) c))))))=>c|_=>.skip
noncomputable abbrev zgU(fR:Nat)(bR:Func)(gV rV sV:Value)(many i:Int)(bg br bc Wg ch:Nat)(c:Frame)(cs:List Frame)(v9 v22 v23 v24 v25 v26:Value):Goroutine:=G ((base fR).at ⟨#[gV,rV,.pointer (xA bg),.pointer (xA br),.slice none 0 0,J many,.pointer (xA bc),.pointer (xA Wg),undef,v9,undef,undef,gV,.bool true,.bool false,gV,J many,J many,.chan (some ch),gV,sV,J i,v22,v23,v24,v25,v26,undef,undef,undef,undef,undef,undef,undef,undef,undef,undef,undef,undef,undef,undef,undef],[]⟩ [.code (zq2 bR),.inLoop (zq2 bR),.inBlock 0,.code (zdl bR)]) (c::cs)
section
variable[Payload]{Snd:Nat->Np->Value->Wq}{Wg ch:Nat}{fst fin:Nat->Nat}{B:Np}{Q:Wq}{l:List (Nat × Obj)}{gV rV:Value}{many:Int}{bg br bc:Nat}{c:Frame}{cs:List Frame}{sV:Value}{i i' y0 y1 y2 y3 y4 y5:Int}{St1:Np->St}{jn:Nat}
theorem zfs(I:Ins fC fR fS tC tW tF tE tL bC bR bS z Sh)(hQ:zlh B Q)(hi:decide (i<4)=true)(hi':IntKind.i64.wrap (i+1)=i')(h9:∀ w,Sem.run Tryz.prog (Instr.index 137 sV (J i)) w=.ok (.agg #[J y0,J y1,J y2,J y3,J y4,J y5]) w)(hf:∀ w es,Sem.events Tryz.prog (Instr.index 137 sV (J i)) w es=es)(h3:∀(K:Np) (bs:Nat) (l':List (Nat × Obj)),(bs,.cells #[J y0,J y1,J y2,J y3,J y4,J y5] 136)∈l'->(∀ p∈l,p∈l')->(∀ p∈l',K p.1)->∀ w,Hp l' w->zal 134 Wg ch w->(∀ c,K c->c<w.heap.size)->∃ rc,Sit Tryz.prog 134 Wg ch Snd K (fun _=>False) (fst jn) (fin jn) ⟨7,0,0⟩ rc (born Tryz.prog (zcs fC Wg bg bs br bc)) w)(h6:∀(K':Np) (v9 v22 v23 v24 v25 v26:Value),(∀ c,B c->K' c)->(∀ c,K' c->¬ LvW Wg ch c)->za7 Tryz.prog true (zal 134 Wg ch) (ExE Wg true) (fun _ S g w=>St1 K' S g w) (fun _ _ _ _=>False) ch K' Q l 0 (fun _=>False) (zgU fR bR gV rV sV many i' bg br bc Wg ch c cs v9 v22 v23 v24 v25 v26)){K S:Np}(h0:∀ c,B c->K c)(h5:∀ c,K c\/S c->¬ LvW Wg ch c)(v9 v22 v23 v24 v25 v26:Value):za7 Tryz.prog true (zal 134 Wg ch) (ExE Wg true) (fun _ S g w=>znM Tryz.prog 134 Wg ch Snd fst fin K jn (fun K S g w=>WX Tryz.prog 134 Wg ch K (St1 K) S g w) S g w) (fun _ _ _ _=>False) ch K Q l 0 S
  (zgU fR bR gV rV sV many i bg br bc Wg ch c cs v9 v22 v23 v24 v25 v26):=by
 have hC:=I.hC
 have hR:=I.hR
 have hS:=I.hS
 obtain⟨FC,h7⟩:∃ x,x=fC:=⟨_,rfl⟩
 have I0:=I
 cases I
 all_goals
  simp only[zgU,zq2,Tryz.f84,Tryz.f74]
  refine za7.sq ?_
  refine za7.rg ?_
  simp only[rgs]
  refine za7.val rfl rfl qj (v:=.bool true) (fun w hp=>by (have h:=hi;go_simp)) (fun _ w hp e he=>by simp[go_sem] at he) ?_
  walk_nrm
  refine za7.re ?_
  refine za7.sq ?_
  refine za7.ctl rfl (fun _=>stepG_cond (t:=true) rfl) ?_
  simp only[↓reduceIte]
  refine za7.ctl rfl (fun _=>stepG_skip) ?_
  refine za7.sq ?_
  refine za7.ctl rfl (fun _=>stepG_block) ?_
  refine za7.sq ?_
  refine za7.rg ?_
  simp only[rgs,Nat.reduceAdd]
  refine za7.val rfl rfl qj (v:=.agg #[J y0,J y1,J y2,J y3,J y4,J y5]) (fun w hp=>by (have h:=h9 w;go_simp)) (fun _ w hp e he=>by simp[go_sem,hf] at he) ?_
  walk_nrm
  refine za7.new hQ h0 zal.low zal.alloc rfl rfl qj (V:=fun c=>.pointer (xA c)) (obj:=.cells #[J 0,J 0,J 0,J 0,J 0,J 0] 136) (fun w hp=>qq) (fun _ w hp e he=>by simp[go_sem] at he) fun b9 hK_b9 hS_b9 h2 hl_b9=>?_
  walk_nrm
  refine za7.put (l':=(b9,.cells #[J y0,J y1,J y2,J y3,J y4,J y5] 136)::l) (c:=b9) (obj:=.cells #[J y0,J y1,J y2,J y3,J y4,J y5] 136) hQ h0 rfl rfl qj (Or.inr rfl) (fun h=>hK_b9 (h0 b9 h)) (zal.aside h2) (fun w hp=>⟨w.setRow b9 #[J y0,J y1,J y2,J y3,J y4,J y5],zif (ty:=136) rfl rfl rfl (hp.at mcs) zi3 rfl qo,(zaH (hp.at mcs)).1,(zaH (hp.at mcs)).2⟩) (fun _ w hp e he=>?_) (fun p hp=>?_) ?_
  ·obtain⟨q,rfl⟩:=zlB (cells:=#[J y0,J y1,J y2,J y3,J y4,J y5]) (ty:=136) rfl rfl rfl (hp.at mcs) zi3 rfl qo e he
   exact Or.inl ⟨_,_,rfl,Or.inl (Or.inr rfl)⟩
  ·rcases List.mem_cons.1 hp with rfl|hp
   ·exact Or.inl rfl
   ·exact Or.inr ⟨mcm hp,hl_b9 p hp⟩
  walk_nrm
  refine za7.re ?_
  refine za7.sq ?_
  refine za7.rg ?_
  simp only[rgs]
  refine za7.enter rfl rfl qj (fun w=>run_call_body rfl func87 rfl rfl) (fun w=>events_call_body rfl func87 rfl rfl _) ?_
  rw[enter_at _ func87 rfl]
  walk_nrmf Tryz.f87
  intro hl w hp hL hq h1
  have h4:∀ d,K d\/S d\/d=b9->¬ LvW Wg ch d:=fun d hd=>by rcases hd with h|h|rfl;exact h5 d (.inl h);exact h5 d (.inr h);exact h2
  refine znP (Fp:=zqe Q _ (fun d=>K d\/S d\/d=b9)) (S:=fun d=>S d\/d=b9) zrY (zhT hQ) (fun h=>?_) (fun d hd=>?_) ?_ w ⟨hq,hp,h1⟩ hL
  ·rcases h with h|⟨p,hp,h⟩
   ·exact h5 _ (.inl (h0 _ h)) (.inl rfl)
   ·exact h4 _ (hl p hp) (.inl h)
  ·rcases hd with h|⟨p,hp,rfl⟩
   ·exact .inl (h0 _ h)
   ·exact hl p hp
  rintro w ⟨hq,hp,h1⟩ hL
  refine(?_:za7 Tryz.prog true (zal 134 Wg ch) (ExE Wg true) (fun _ S g w=>MGo Tryz.prog 134 Wg ch Snd fst fin K jn (fun K S g w=>WX Tryz.prog 134 Wg ch K (St1 K) S g w) S g w) (fun _ _ _ _=>False) ch K Q ((b9,.cells #[J y0,J y1,J y2,J y3,J y4,J y5] 136)::l) 0 (fun d=>S d\/d=b9) _) hl w hp hL hq h1
  walk_nrm
  refine za7.re ?_
  refine za7.rg ?_
  simp only[rgs,Nat.reduceAdd]
  refine za7.val rfl rfl qj (v:=.func (.func FC) #[] #[.pointer (xA Wg),.pointer (xA bg),.pointer (xA b9),.pointer (xA br),.pointer (xA bc)]) (fun w hp=>by subst h7;go_simp) (fun _ w hp e he=>by simp[go_sem] at he) ?_
  subst h7
  walk_nrm
  refine za7.stop hQ h0 fun hl w hp hL hq h1=>?_
  obtain⟨rc,h8⟩:=h3 (fun d=>K d\/S d\/d=b9) b9 ((b9,.cells #[J y0,J y1,J y2,J y3,J y4,J y5] 136)::l) mcs (fun p h=>mcm h) hl w hp hL h1
  refine⟨rfl,_,born Tryz.prog (zcs _ Wg bg b9 br bc),fun d=>K d\/S d\/d=b9,rc,zsL rfl rfl qj rfl rfl,fun _ h=>h,h8,?_⟩
  show WX Tryz.prog 134 Wg ch (fun d=>K d\/S d\/d=b9) (St1 (fun d=>K d\/S d\/d=b9)) (fun _=>False) _ w
  refine(?_:za7 Tryz.prog true (zal 134 Wg ch) (ExE Wg true) (fun _ S1 g w=>St1 (fun d=>K d\/(S d\/d=b9)) S1 g w) (fun _ _ _ _=>False) ch (fun d=>K d\/(S d\/d=b9)) Q l 0 (fun _=>False) _) (fun p h=>.inl (hl p (mcm h))) w (fun p h=>hp p (mcm h)) hL hq (fun d hd=>h1 d (by simpa using hd))
  walk_nrm
  refine za7.re ?_
  refine za7.ctl rfl (fun _=>stepG_inBlock) ?_
  refine za7.rg ?_
  simp only[rgs,Nat.reduceAdd]
  refine za7.val rfl rfl qj (v:=J i') (fun w hp=>by (have h:=hi';go_simp)) (fun _ w hp e he=>by simp[go_sem] at he) ?_
  walk_nrm
  refine za7.val rfl rfl qj (v:=J i') (fun w hp=>qq) (fun _ w hp e he=>by simp[go_sem] at he) ?_
  walk_nrm
  refine za7.re ?_
  refine za7.ctl rfl (fun _=>stepG_inLoop) ?_
  exact h6 _ _ _ _ _ _ _ (fun d hd=>.inl (h0 d hd)) h4
end
noncomputable abbrev zo4(bR:Func):Array Oper:=match zdl bR with|.seq (.region _ o _) _=>o|_=>#[]
noncomputable abbrev zkL(bR:Func):Code:=match zdl bR with|.seq _ c=>c|_=>.skip
section
variable(fR:Nat)(bR:Func)(Wg ch:Nat)(B:Np)(Q:Wq)(l:List (Nat × Obj))(gV rV:Value)(many:Int)(bg br bc:Nat)(c:Frame)(cs:List Frame)(sV:Value)
def zcb:Np->St:=fun K S g w=>∃ v9 v23 v24 v25 v26:Value,znK zsp Wg ch (fun c=>B c\/∃ p∈l,p.1=c) (zqe Q l (fun _=>False)) ((base fR).at ⟨#[gV,rV,.pointer (xA bg),.pointer (xA br),.slice none 0 0,J many,.pointer (xA bc),.pointer (xA Wg),undef,v9,undef,undef,gV,.bool true,.bool false,gV,J many,J many,.chan (some ch),gV,sV,J 4,.bool false,v23,v24,v25,v26,undef,undef,undef,undef,undef,undef,undef,undef,undef,undef,undef,undef,undef,undef,undef],[]⟩ [.inRegion (zo4 bR) [0],.code (zkL bR)]) (c::cs) K S g w
def zr4:Np->St:=fun K S g w=>∃ v9 v23 v24 v25 v26:Value,zsv Tryz.prog (fun c=>B c\/∃ p∈l,p.1=c) (zqe Q l (fun _=>False)) (G ((base fR).at ⟨#[gV,rV,.pointer (xA bg),.pointer (xA br),.slice none 0 0,J many,.pointer (xA bc),.pointer (xA Wg),undef,v9,undef,undef,gV,.bool true,.bool false,gV,J many,J many,.chan (some ch),gV,sV,J 4,.bool false,v23,v24,v25,v26,.tuple #[],undef,undef,undef,undef,undef,undef,undef,undef,undef,undef,undef,undef,undef,undef],[]⟩ [.inRegion (zo4 bR) [],.code (zkL bR)]) (c::cs)) K S g w
end
section
variable{Wg ch:Nat}{B:Np}{Q:Wq}{l:List (Nat × Obj)}{gV rV:Value}{many:Int}{bg br bc:Nat}{c:Frame}{cs:List Frame}{sV:Value}
theorem zgR:∀ K S g w,zcb fR bR Wg ch B Q l gV rV many bg br bc c cs sV K S g w->g.status=.running:=by
 rintro K S g w ⟨v9,v23,v24,v25,v26,h⟩
 exact zhG K S g w h
theorem ziE(I:Ins fC fR fS tC tW tF tE tL bC bR bS z Sh)(hQ:zlh B Q)(hB:¬ (B Wg\/∃ p∈l,p.1=Wg)):∀ K S g w,zcb fR bR Wg ch B Q l gV rV many bg br bc c cs sV K S g w->WX Tryz.prog 134 Wg ch K (MW1 Tryz.prog 134 Wg ch (zr4 fR bR Wg ch B Q l gV rV many bg br bc c cs sV) (zcb fR bR Wg ch B Q l gV rV many bg br bc c cs sV) K) S g w:=by
 cases I
 all_goals
  rintro K S g w ⟨v9,v23,v24,v25,v26,h⟩
  exact zcz (fun _ _ _ x=>zq7 (fun _ _ _ _ x=>⟨_,_,_,_,_,x⟩) (fun _ _ _ _ x=>⟨_,_,_,_,_,x⟩) x) (znI zrY (zhT hQ) hB K S g w h)
theorem zrj(I:Ins fC fR fS tC tW tF tE tL bC bR bS z Sh)(hQ:zlh B Q){K S:Np}(h0:∀ c,B c->K c)(v9 v22 v23 v24 v25 v26:Value):za7 Tryz.prog true (zal 134 Wg ch) (ExE Wg true) (fun _ S g w=>MKd Tryz.prog 134 Wg ch (zcb fR bR Wg ch B Q l gV rV many bg br bc c cs sV) K S g w) (fun _ _ _ _=>False) ch K Q l 0 S
  (zgU fR bR gV rV sV many 4 bg br bc Wg ch c cs v9 v22 v23 v24 v25 v26):=by
 have hC:=I.hC
 have hR:=I.hR
 have hS:=I.hS
 obtain⟨FR,h1⟩:∃ x,x=fR:=⟨_,rfl⟩
 obtain⟨BR,h2⟩:∃ x,x=bR:=⟨_,rfl⟩
 have I0:=I
 cases I
 all_goals
  simp only[zgU,zq2,zdl,Tryz.f84,Tryz.f74]
  refine za7.sq ?_
  refine za7.rg ?_
  simp only[rgs]
  refine za7.val rfl rfl qj (v:=.bool false) (fun w hp=>qq) (fun _ w hp e he=>by simp[go_sem] at he) ?_
  walk_nrm
  refine za7.re ?_
  refine za7.sq ?_
  refine za7.ctl rfl (fun _=>stepG_cond (t:=false) rfl) ?_
  simp only[Bool.false_eq_true,↓reduceIte]
  refine za7.ctl rfl (fun _=>stepG_exit rfl) ?_
  refine za7.sq ?_
  refine za7.rg ?_
  simp only[rgs]
  refine za7.enter rfl rfl qj (fun w=>run_call_body rfl func91 rfl rfl) (fun w=>events_call_body rfl func91 rfl rfl _) ?_
  rw[enter_at _ func91 rfl]
  walk_nrmf Tryz.f91
  intro hl w hp hL hq h3
  have hm:=zlb (K:=K) (S:=S) (b₀:=base FR) (a₀:=⟨#[gV,rV,.pointer (xA bg),.pointer (xA br),.slice none 0 0,J many,.pointer (xA bc),.pointer (xA Wg),undef,v9,undef,undef,gV,.bool true,.bool false,gV,J many,J many,.chan (some ch),gV,sV,J 4,.bool false,v23,v24,v25,v26,undef,undef,undef,undef,undef,undef,undef,undef,undef,undef,undef,undef,undef,undef,undef],[]⟩) (ops₀:=zo4 BR) (i₀:=0) (rest₀:=[]) (k₀:=[.code (zkL BR)]) (cs:=c::cs) zrY (zhT (l:=l) (A:=fun _=>False) hQ) (fun d hd=>by rcases hd with h|⟨p,hp,rfl⟩;exact .inl (h0 _ h);exact hl p hp) w ⟨hq,hp,fun _ h=>h.elim⟩ hL
  subst h1 h2
  exact zcz (fun _ _ _ h=>zq6 (fun _ _ _ _ h=>⟨_,_,_,_,_,h⟩) h) hm
theorem zkY(I:Ins fC fR fS tC tW tF tE tL bC bR bS z Sh)[Payload]{x0 x1 x2 x3 x4 x5 x6 x7 x8 x9 x10 x11 x12 x13 x14 x15 x16 x17 x18 x19 x20 x21 x22 x23:Int}(h4:sV=.agg #[J x0,J x1,J x2,J x3,J x4,J x5,J x6,J x7,J x8,J x9,J x10,J x11,J x12,J x13,J x14,J x15,J x16,J x17,J x18,J x19,J x20,J x21,J x22,J x23]){Snd:Nat->Np->Value->Wq}{f0 e0:Nat->Nat}(hQ:zlh B Q)(h5:∀(K:Np) (bs:Nat) (l':List (Nat × Obj)),(bs,.cells #[J x0,J x1,J x2,J x3,J x4,J x5] 136)∈l'->(∀ p∈l,p∈l')->(∀ p∈l',K p.1)->∀ w,Hp l' w->zal 134 Wg ch w->(∀ c,K c->c<w.heap.size)->∃ rc,Sit Tryz.prog 134 Wg ch Snd K (fun _=>False) (f0 0) (e0 0) ⟨7,0,0⟩ rc (born Tryz.prog (zcs fC Wg bg bs br bc)) w)(h6:∀(K:Np) (bs:Nat) (l':List (Nat × Obj)),(bs,.cells #[J x6,J x7,J x8,J x9,J x10,J x11] 136)∈l'->(∀ p∈l,p∈l')->(∀ p∈l',K p.1)->∀ w,Hp l' w->zal 134 Wg ch w->(∀ c,K c->c<w.heap.size)->∃ rc,Sit Tryz.prog 134 Wg ch Snd K (fun _=>False) (f0 1) (e0 1) ⟨7,0,0⟩ rc (born Tryz.prog (zcs fC Wg bg bs br bc)) w)(h7:∀(K:Np) (bs:Nat) (l':List (Nat × Obj)),(bs,.cells #[J x12,J x13,J x14,J x15,J x16,J x17] 136)∈l'->(∀ p∈l,p∈l')->(∀ p∈l',K p.1)->∀ w,Hp l' w->zal 134 Wg ch w->(∀ c,K c->c<w.heap.size)->∃ rc,Sit Tryz.prog 134 Wg ch Snd K (fun _=>False) (f0 2) (e0 2) ⟨7,0,0⟩ rc (born Tryz.prog (zcs fC Wg bg bs br bc)) w)(h8:∀(K:Np) (bs:Nat) (l':List (Nat × Obj)),(bs,.cells #[J x18,J x19,J x20,J x21,J x22,J x23] 136)∈l'->(∀ p∈l,p∈l')->(∀ p∈l',K p.1)->∀ w,Hp l' w->zal 134 Wg ch w->(∀ c,K c->c<w.heap.size)->∃ rc,Sit Tryz.prog 134 Wg ch Snd K (fun _=>False) (f0 3) (e0 3) ⟨7,0,0⟩ rc (born Tryz.prog (zcs fC Wg bg bs br bc)) w){K S:Np}(h9:∀ c,B c->K c)(he:∀ c,K c\/S c->¬ LvW Wg ch c)(v9 v22 v23 v24 v25 v26:Value)(hl:∀ p∈l,K p.1\/S p.1)(w:World)(hp:Hp l w)(hL:zal 134 Wg ch w)(hq:Q w)(hf:∀ c,K c\/S c->c<w.heap.size)(j0:Nat):(zcc Tryz.prog 134 Wg ch Snd (j0+4) (zbP j0 f0) (zbP j0 e0) (zcb fR bR Wg ch B Q l gV rV many bg br bc c cs sV) 4) K S (zgU fR bR gV rV sV many 0 bg br bc Wg ch c cs v9 v22 v23 v24 v25 v26) w:=by
 have h3:∀(K S:Np) (v9 v22 v23 v24 v25 v26:Value),(∀ c,B c->K c)->(∀ c,K c\/S c->¬ LvW Wg ch c)->za7 Tryz.prog true (zal 134 Wg ch) (ExE Wg true) (fun _ S g w=>znM Tryz.prog 134 Wg ch Snd (zbP j0 f0) (zbP j0 e0) K (j0+3) (zcc Tryz.prog 134 Wg ch Snd (j0+4) (zbP j0 f0) (zbP j0 e0) (zcb fR bR Wg ch B Q l gV rV many bg br bc c cs sV) 0) S g w) (fun _ _ _ _=>False) ch K Q l 0 S (zgU fR bR gV rV sV many 3 bg br bc Wg ch c cs v9 v22 v23 v24 v25 v26) :=
  fun K S v9 v22 v23 v24 v25 v26 hB hK=>zfs I (St1:=(fun K=>MKd Tryz.prog 134 Wg ch (zcb fR bR Wg ch B Q l gV rV many bg br bc c cs sV) K)) (jn:=j0+3) hQ qj qj (fun w=>by rw[h4];exact qh) (fun w es=>by rw[h4];exact qh) (fun K bs l' a1 a2 a3 w a4 a5 a6=>by rw[za6,za6];exact h8 K bs l' a1 a2 a3 w a4 a5 a6) (fun K v9 v22 v23 v24 v25 v26 hB _=>zrj I hQ hB v9 v22 v23 v24 v25 v26) hB hK v9 v22 v23 v24 v25 v26
 have h2:∀(K S:Np) (v9 v22 v23 v24 v25 v26:Value),(∀ c,B c->K c)->(∀ c,K c\/S c->¬ LvW Wg ch c)->za7 Tryz.prog true (zal 134 Wg ch) (ExE Wg true) (fun _ S g w=>znM Tryz.prog 134 Wg ch Snd (zbP j0 f0) (zbP j0 e0) K (j0+2) (zcc Tryz.prog 134 Wg ch Snd (j0+4) (zbP j0 f0) (zbP j0 e0) (zcb fR bR Wg ch B Q l gV rV many bg br bc c cs sV) 1) S g w) (fun _ _ _ _=>False) ch K Q l 0 S (zgU fR bR gV rV sV many 2 bg br bc Wg ch c cs v9 v22 v23 v24 v25 v26) :=
  fun K S v9 v22 v23 v24 v25 v26 hB hK=>zfs I (St1:=(fun K=>znM Tryz.prog 134 Wg ch Snd (zbP j0 f0) (zbP j0 e0) K (j0+3) (zcc Tryz.prog 134 Wg ch Snd (j0+4) (zbP j0 f0) (zbP j0 e0) (zcb fR bR Wg ch B Q l gV rV many bg br bc c cs sV) 0))) (jn:=j0+2) hQ qj qj (fun w=>by rw[h4];exact qh) (fun w es=>by rw[h4];exact qh) (fun K bs l' a1 a2 a3 w a4 a5 a6=>by rw[za6,za6];exact h7 K bs l' a1 a2 a3 w a4 a5 a6) (fun K v9 v22 v23 v24 v25 v26 hB hK=>h3 K (fun _=>False) v9 v22 v23 v24 v25 v26 hB (fun d hd=>hK d (hd.elim id fun x=>x.elim))) hB hK v9 v22 v23 v24 v25 v26
 have h1:∀(K S:Np) (v9 v22 v23 v24 v25 v26:Value),(∀ c,B c->K c)->(∀ c,K c\/S c->¬ LvW Wg ch c)->za7 Tryz.prog true (zal 134 Wg ch) (ExE Wg true) (fun _ S g w=>znM Tryz.prog 134 Wg ch Snd (zbP j0 f0) (zbP j0 e0) K (j0+1) (zcc Tryz.prog 134 Wg ch Snd (j0+4) (zbP j0 f0) (zbP j0 e0) (zcb fR bR Wg ch B Q l gV rV many bg br bc c cs sV) 2) S g w) (fun _ _ _ _=>False) ch K Q l 0 S (zgU fR bR gV rV sV many 1 bg br bc Wg ch c cs v9 v22 v23 v24 v25 v26) :=
  fun K S v9 v22 v23 v24 v25 v26 hB hK=>zfs I (St1:=(fun K=>znM Tryz.prog 134 Wg ch Snd (zbP j0 f0) (zbP j0 e0) K (j0+2) (zcc Tryz.prog 134 Wg ch Snd (j0+4) (zbP j0 f0) (zbP j0 e0) (zcb fR bR Wg ch B Q l gV rV many bg br bc c cs sV) 1))) (jn:=j0+1) hQ qj qj (fun w=>by rw[h4];exact qh) (fun w es=>by rw[h4];exact qh) (fun K bs l' a1 a2 a3 w a4 a5 a6=>by rw[za6,za6];exact h6 K bs l' a1 a2 a3 w a4 a5 a6) (fun K v9 v22 v23 v24 v25 v26 hB hK=>h2 K (fun _=>False) v9 v22 v23 v24 v25 v26 hB (fun d hd=>hK d (hd.elim id fun x=>x.elim))) hB hK v9 v22 v23 v24 v25 v26
 have h0:∀(K S:Np) (v9 v22 v23 v24 v25 v26:Value),(∀ c,B c->K c)->(∀ c,K c\/S c->¬ LvW Wg ch c)->za7 Tryz.prog true (zal 134 Wg ch) (ExE Wg true) (fun _ S g w=>znM Tryz.prog 134 Wg ch Snd (zbP j0 f0) (zbP j0 e0) K (j0+0) (zcc Tryz.prog 134 Wg ch Snd (j0+4) (zbP j0 f0) (zbP j0 e0) (zcb fR bR Wg ch B Q l gV rV many bg br bc c cs sV) 3) S g w) (fun _ _ _ _=>False) ch K Q l 0 S (zgU fR bR gV rV sV many 0 bg br bc Wg ch c cs v9 v22 v23 v24 v25 v26) :=
  fun K S v9 v22 v23 v24 v25 v26 hB hK=>zfs I (St1:=(fun K=>znM Tryz.prog 134 Wg ch Snd (zbP j0 f0) (zbP j0 e0) K (j0+1) (zcc Tryz.prog 134 Wg ch Snd (j0+4) (zbP j0 f0) (zbP j0 e0) (zcb fR bR Wg ch B Q l gV rV many bg br bc c cs sV) 2))) (jn:=j0+0) hQ qj qj (fun w=>by rw[h4];exact qh) (fun w es=>by rw[h4];exact qh) (fun K bs l' a1 a2 a3 w a4 a5 a6=>by rw[za6,za6];exact h5 K bs l' a1 a2 a3 w a4 a5 a6) (fun K v9 v22 v23 v24 v25 v26 hB hK=>h1 K (fun _=>False) v9 v22 v23 v24 v25 v26 hB (fun d hd=>hK d (hd.elim id fun x=>x.elim))) hB hK v9 v22 v23 v24 v25 v26
 exact h0 K S v9 v22 v23 v24 v25 v26 h9 he hl w hp hL hq hf
end
end R2
namespace R2
open Go Go.Conc Go.ConcN Go.RowKit Go.Conc.Lib Go.ConcR.Gen Go.ConcN.Gen
open Go.ConcR (KK wgBlock WgAt stA smA rd wr mk Payload Aside2 DC0)
noncomputable abbrev ztm(bR:Func):Code:=match zdl bR with|.seq _ (.seq _ (.seq _ (.seq (.seq _ (.block _ (.loop c))) _)))=>c|_=>.skip
noncomputable abbrev zkM(bR:Func):Code:=match zdl bR with|.seq _ (.seq _ (.seq _ (.seq (.seq _ (.block _ (.loop _))) c)))=>c|_=>.skip
theorem zdP{P:Prop}(h:P:=by
  intro buf
  induction buf with
  | nil =>
   intro arr cap s r tm u0 u1 u2 u3 u4 u5 u6 u7 u8 u9 u11 u12 u13 u14 u15 u16 u17 u18 u19 u20 u21 u22 u23 u24 u25 u26 u27 u28 u29 u30 u32 u33 u34 u35 u36 u37 u38 u39 u40 u41 u hbuf hsz hcov hc ho hk
   simp only[ztm,zdl,zkM,Tryz.f84,Tryz.f74]
   refine zau.way hG (ch:=0) (K:=fun _=>False) (S:=fun e=>e=bo) (l:=[(bo,.cells arr tE)]) (lx:=[(ch,.chan cap #[] true s r tm)]) (fun p h=>by simp at h;subst h;exact ho) (fun p h=>by simp at h;subst h;exact .inr rfl) (fun p h=>by simp at h;subst h;exact hc) (fun p h e=>by simp at h;subst h;exact hne e.symm) (fun _ h=>h.elim) (fun e he=>?_) ?_
   ·rcases he with he|rfl
    ·exact he.elim
    ·exact⟨(gei ho).1,hSh,fun h=>h⟩
   refine zah.sq ?_
   refine zah.rg ?_
   simp only[rgs,Nat.reduceAdd]
   refine zah.stop fun hl1 w1 hp1 _ hlt1=>?_
   intro hsz1 hnew1 hx1 hKS1 _ hkept1 ht1 ho1 hu1
   refine zau.recvNone hG rfl (hx1.at (c:=ch) mcs) (fun d=>by rw[stepG_comm rfl rfl qj (zdp rfl rfl).1];unfold listed;rw[(zdp rfl rfl).2,seen_none]) fun d=>?_
   rw[zef]
   simp only[commResult]
   walk_nrm
   refine zau.way hG (ch:=0) (K:=fun _=>False) (S:=fun e=>e=bo) (l:=[(bo,.cells arr tE)]) (lx:=[]) (hp1.on d) (fun p h=>by simp at h;subst h;exact .inr rfl) (fun _ h=>by cases h) (fun _ h=>by cases h) (fun _ h=>h.elim) (fun e he=>?_) ?_
   ·rcases he with he|rfl
    ·exact he.elim
    ·exact⟨hlt1 _ (.inr rfl),hSh,fun h=>h⟩
   refine zah.va (v:=.bool false) ?_
   walk_nrm
   refine zah.re ?_
   refine zah.sq ?_
   refine zah.ctl rfl (fun _=>stepG_cond (t:=false) rfl) ?_
   simp only[Bool.false_eq_true,↓reduceIte]
   refine zah.ctl rfl (fun _=>stepG_exit rfl) ?_
   refine zah.sq ?_
   refine zah.rg ?_
   simp only[rgs,Nat.reduceAdd]
   refine zah.va (v:=.slice (xA bo) many many) ?_
   walk_nrm
   refine zah.va (v:=.slice (xA bo) many many) ?_
   walk_nrm
   refine zah.re ?_
   refine zah.ctl rfl (fun _=>stepG_ret') ?_
   refine zah.ctl (g':=G (c.finish (.slice (xA bo) many many)) cs) rfl (fun w=>by rw[stepG_leave rfl rfl hRf (results_tmp hRr _ _ w) (events_results_tmp hRr _ _)];rfl) ?_
   refine zah.stop fun hl3 w3 hp3 _ hlt3=>?_
   intro hsz3 hnew3 hx3 hKS3 _ hkept3 ht3 ho3 hu3
   have hcov2:∀ k:Nat,∃ y,k<many->V k y/\arr[k]?=some y:=fun k=>by
    by_cases h:k<many
    ·rcases hcov k h with ⟨y,h1,h2⟩|⟨y,_,h2⟩
     ·exact⟨y,fun _=>⟨h1,h2⟩⟩
     ·simp at h2
    ·exact⟨undef,fun q=>absurd q h⟩
   obtain⟨xs,hxs⟩:∃ xs:Nat->Value,∀ k,k<many->V k (xs k)/\arr[k]?=some (xs k):=⟨fun k=>(hcov2 k).choose,fun k=>(hcov2 k).choose_spec⟩
   refine hfin w3 xs ?_ (fun k h=>(hxs k h).1) ?_
   ·obtain⟨a1,a2,a3,a4,a5⟩:=hk
    have huo:bo<u.heap.size:=(gei ho).1
    have hat:(w1.at d).heap.size=w1.heap.size:=rfl
    refine⟨fun e he=>?_,by rw[ht3];exact ht1.trans a2,by rw[ho3];exact ho1.trans a3,by rw[hu3];exact hu1.trans a4,qg⟩
    have:=hB0 e he
    rw[hkept3 e qg qg]
    exact(hkept1 e qg qg).trans (a1 e he)
   ·rw[hp3.at mcs]
    refine congrArg (fun x=>some (Obj.cells x tE)) (Array.ext (by simp[hsz]) fun j h1 h2=>?_)
    have:=(hxs j qg).2
    rw[Array.getElem?_eq_getElem h1] at this
    simpa using this
  | cons x buf ih =>
   intro arr cap s r tm u0 u1 u2 u3 u4 u5 u6 u7 u8 u9 u11 u12 u13 u14 u15 u16 u17 u18 u19 u20 u21 u22 u23 u24 u25 u26 u27 u28 u29 u30 u32 u33 u34 u35 u36 u37 u38 u39 u40 u41 u hbuf hsz hcov hc ho hk
   obtain⟨k,y,hkm,hVy,rfl⟩:=hbuf x mcs
   obtain⟨xa,xn,xc,rfl⟩:=hV k y hVy
   simp only[ztm,zdl,Tryz.f84,Tryz.f74]
   refine zau.way hG (ch:=0) (K:=fun _=>False) (S:=fun e=>e=bo) (l:=[(bo,.cells arr tE)]) (lx:=[(ch,.chan cap (.agg #[J k,shp xa xn xc]::buf).toArray true s r tm)]) (fun p h=>by simp at h;subst h;exact ho) (fun p h=>by simp at h;subst h;exact .inr rfl) (fun p h=>by simp at h;subst h;exact hc) (fun p h e=>by simp at h;subst h;exact hne e.symm) (fun _ h=>h.elim) (fun e he=>?_) ?_
   ·rcases he with he|rfl
    ·exact he.elim
    ·exact⟨(gei ho).1,hSh,fun h=>h⟩
   refine zah.sq ?_
   refine zah.rg ?_
   simp only[rgs,Nat.reduceAdd]
   refine zah.stop fun hl1 w1 hp1 _ hlt1=>?_
   intro hsz1 hnew1 hx1 hKS1 _ hkept1 ht1 ho1 hu1
   refine zau.recv hG rfl (hx1.at (c:=ch) mcs) qm (fun d=>by rw[stepG_comm rfl rfl qj (zdp rfl rfl).1];unfold listed;rw[(zdp rfl rfl).2,seen_none]) fun d=>?_
   have e1:((.agg #[J k,shp xa xn xc]:Value)::buf).toArray.getD 0 undef=.agg #[J k,shp xa xn xc]:=qm
   have e2:((.agg #[J k,shp xa xn xc]:Value)::buf).toArray.extract 1 ((.agg #[J k,shp xa xn xc]:Value)::buf).toArray.size=buf.toArray:=qm
   rw[e1,e2]
   have hchl:ch<w1.heap.size:=(gei (hx1.at (c:=ch) mcs)).1
   obtain⟨w2,hw2⟩:∃ w2,w2=(w1.at d).setChan ch cap buf.toArray true s (r+1) tm:=⟨_,rfl⟩
   have hc2:w2.heap[ch]?=some (.chan cap buf.toArray true s (r+1) tm):=by rw[hw2];simp[World.setChan,World.at,hchl]
   have hk2:∀ e,e≠ch->w2.heap[e]?=w1.heap[e]?:=fun e he=>by rw[hw2];exact zbA (w1.at d) cap buf.toArray true s (r+1) tm he
   have hs2:w2.heap.size=w1.heap.size/\w2.tape=w1.tape/\w2.os=w1.os/\w2.output=w1.output:=by rw[hw2];exact⟨by simp[World.setChan,World.at],rfl,rfl,rfl⟩
   rw[<- hw2]
   clear hw2 e1 e2
   have hbo2:w2.heap[bo]?=some (.cells arr tE):=(hk2 bo hne).trans (hp1.at mcs)
   have hbol:bo<w2.heap.size:=(gei hbo2).1
   rw[zef]
   simp only[commResult]
   walk_nrm
   refine zau.way hG (ch:=0) (K:=fun _=>False) (S:=fun e=>e=bo) (l:=[(bo,.cells arr tE)]) (lx:=[(ch,.chan cap buf.toArray true s (r+1) tm)]) (fun p h=>by simp at h;subst h;exact hbo2) (fun p h=>by simp at h;subst h;exact .inr rfl) (fun p h=>by simp at h;subst h;exact hc2) (fun p h e=>by simp at h;subst h;exact hne e.symm) (fun _ h=>h.elim) (fun e he=>?_) ?_
   ·rcases he with he|rfl
    ·exact he.elim
    ·exact⟨hbol,hSh,fun h=>h⟩
   refine zah.va (v:=.bool true) ?_
   walk_nrm
   refine zah.re ?_
   refine zah.sq ?_
   refine zah.ctl rfl (fun _=>stepG_cond (t:=true) rfl) ?_
   simp only[↓reduceIte]
   refine zah.ctl rfl (fun _=>stepG_skip) ?_
   refine zah.ctl rfl (fun _=>stepG_block) ?_
   refine zah.sq ?_
   refine zah.rg ?_
   simp only[rgs,Nat.reduceAdd]
   refine zah.va (v:=.agg #[J k,shp xa xn xc]) ?_
   walk_nrm
   refine zah.new hLa rfl rfl qj (V:=fun c=>.pointer (xA c)) (obj:=.cells #[J 0,zE] tW) (fun w hp=>qq) (fun _ w hp e he=>by simp[go_sem] at he) fun b11 hK_b11 hS_b11=>?_
   walk_nrm
   refine zah.put (l':=[(b11,.cells #[J k,shp xa xn xc] tW),(bo,.cells arr tE)]) (c:=b11) (obj:=.cells #[J k,shp xa xn xc] tW) rfl rfl qj (.inr rfl) (fun _ _ _ h=>h) (fun w hp=>⟨_,zif (ty:=tW) (cells:=#[J k,shp xa xn xc]) rfl rfl rfl (hp.at mcs) zfZ rfl qo,(zaH (hp.at mcs)).1,(zaH (hp.at mcs)).2⟩) (fun _ w hp e he=>?_) (fun p hp=>?_) ?_
   ·obtain⟨q,rfl⟩:=zlB (ty:=tW) (cells:=#[J k,shp xa xn xc]) rfl rfl rfl (hp.at mcs) zfZ rfl qo e he
    exact Or.inl ⟨_,_,rfl,Or.inl (Or.inr rfl)⟩
   ·rcases List.mem_cons.1 hp with rfl|hp
    ·exact .inl rfl
    ·exact .inr ⟨mcm hp,fun e=>by simp at hp;subst hp;exact hS_b11 e.symm⟩
   walk_nrm
   refine zah.re ?_
   refine zah.rg ?_
   simp only[rgs,Nat.reduceAdd]
   refine zah.va (v:=.slice (xA bo) many many) ?_
   walk_nrm
   refine zah.va (v:=.pointer (xA b11)) ?_
   walk_nrm
   refine zah.val rfl rfl qj (v:=J k) (fun w hp=>?_) (fun hl w hp e he=>?_) ?_
   ·have c0:=hp.cell mcs 0 rfl
    go_simp
   ·have c0:=hp.cell mcs 0 rfl
    simp[go_sem, *] at he
    subst he
    exact zaM hl mcs _
   walk_nrm
   refine zah.va (v:=.pointer (some (O b11 1))) ?_
   walk_nrm
   refine zah.val rfl rfl qj (v:=shp xa xn xc) (fun w hp=>?_) (fun hl w hp e he=>?_) ?_
   ·have c0:=hp.cell mcs 1 rfl
    go_simp
   ·have c0:=hp.cell mcs 1 rfl
    simp[go_sem, *] at he
    subst he
    exact zaM hl mcs _
   walk_nrm
   have hk0:(0:Int)<=(k:Int):=qg
   have hk1:(k:Int)<(many:Int):=qg
   refine zah.val rfl rfl qj (v:=.pointer (some (O bo k))) (fun w hp=>qq) (fun _ w hp e he=>by simp[go_sem, *] at he) ?_
   walk_nrm
   have hka:k<arr.size:=qg
   refine zah.put (l':=[(bo,.cells (arr.setIfInBounds k (shp xa xn xc)) tE)]) (c:=bo) (obj:=.cells (arr.setIfInBounds k (shp xa xn xc)) tE) rfl rfl qj (.inl rfl) (fun _ _ _ h=>h) (fun w hp=>⟨_,zlW (ty:=tE) (i:=k) rfl rfl rfl rfl rfl (hp.at (mcm mcs)) zfY hka,(zaH (hp.at (mcm mcs))).1,(zaH (hp.at (mcm mcs))).2⟩) (fun _ w hp e he=>?_) (fun p hp=>.inl (by simpa using hp)) ?_
   ·obtain⟨q,rfl⟩:=zol (ty:=tE) (i:=k) rfl rfl rfl rfl rfl (hp.at (mcm mcs)) zfY hka e he
    exact Or.inl ⟨_,_,rfl,Or.inl (Or.inl rfl)⟩
   walk_nrm
   refine zah.re ?_
   refine zah.ctl rfl (fun _=>stepG_inBlock) ?_
   refine zah.ctl rfl (fun _=>stepG_inLoop) ?_
   refine zah.stop fun hl3 w3 hp3 _ hlt3=>?_
   intro hsz3 hnew3 hx3 hKS3 _ hkept3 ht3 ho3 hu3
   refine ih _ cap s (r+1) tm _ _ _ _ _ _ _ _ _ _ _ _ _ _ _ _ _ _ _ _ _ _ _ _ _ _ _ _ _ _ _ _ _ _ _ _ _ _ _ _ w3 (fun x hx=>hbuf x (mcm hx)) (by simpa using hsz) (fun j hj=>?_) (hx3.at mcs) (hp3.at mcs) ?_
   ·by_cases e:j=k
    ·subst e
     exact .inl ⟨_,hVy,by rw[Array.getElem?_setIfInBounds_self_of_lt hka]⟩
    ·rw[Array.getElem?_setIfInBounds_ne (Ne.symm e)]
     refine(hcov j hj).imp id fun ⟨y2,q1,h⟩=>?_
     rcases List.mem_cons.1 h with h|h
     ·exfalso;apply e;simp at h;omega
     ·exact⟨y2,q1,h⟩
   ·obtain⟨a1,a2,a3,a4,a5⟩:=hk
    have huo:bo<u.heap.size/\ch<u.heap.size:=⟨(gei ho).1,(gei hc).1⟩
    refine⟨fun e he=>?_,by rw[ht3,hs2.2.1,ht1,a2],by rw[ho3,hs2.2.2.1,ho1,a3],by rw[hu3,hs2.2.2.2,hu1,a4],qg⟩
    have:=hB0 e he
    rw[hkept3 e qg qg,hk2 e (fun q=>hch (q ▸ he)),hkept1 e qg qg,a1 e he]):P:=h
namespace R1
abbrev fC:Nat:=98
abbrev fR:Nat:=84
abbrev tC:Nat:=156
abbrev tW:Nat:=159
abbrev tF:Nat:=71
abbrev tE:Nat:=3
abbrev zE:Value:=J 0
noncomputable abbrev bR:Func:=Tryz.f84
abbrev shp(xa:Int)(_ _:Nat):Value:=J xa
theorem zdp{o:Oper}{x:Operand}{ch:Nat}(hop:o.op=.recv 156 x true)(hx:a.eval x=.chan (some ch)):(execOp a.eval o).run Tryz.prog w=.ok (.comm #[rcase ch (.agg #[J 0,J 0])] true (.recv true)) w/\(execOp a.eval o).events Tryz.prog w #[]=#[]:=by
 constructor
 ·unfold execOp
  simp[hop,hx,rcase]
 ·unfold execOp
  simp[hop,hx]
theorem zfZ:(Tryz.prog.info? 159).map (·.size)=some 2:=qh
theorem zfY:(Tryz.prog.info? 3).map (·.size)=some 1:=qh
theorem hRf:Tryz.prog.funcs[84]?=some Tryz.f84:=func84
abbrev hRr:=results84
section
variable{Goal:Machine->Trace->Prop}{Shun:Np}{c:Frame}{cs:List Frame}{B:Np}{w0:World}{ch bo many:Nat}{V:Nat->Value->Prop}
theorem zlq(hG:zbj Tryz.prog Goal)(hB0:∀ e,B e->e<w0.heap.size)(hbo:w0.heap.size<=bo)(hch:¬ B ch)(hV:∀ k y,V k y->∃ xa xn xc,y=shp xa xn xc)(hne:bo≠ch)(hSh:¬ Shun bo)(hLa:∀(w:World) (o:Obj),(fun _:World=>True) w->(fun _:World=>True) (w.alloc o):=fun _ _ h=>h)(hfin:∀(u':World) (xs:Nat->Value),zcp B w0 u'->(∀ k,k<many->V k (xs k))->u'.heap[bo]?=some (.cells (Array.ofFn fun k:Fin many=>xs k) 3)->zau Tryz.prog Goal Shun (fun _=>False) (G (c.finish (.slice (xA bo) many many)) cs) u') :
  ∀(buf:List Value) (arr:Array Value) (cap s r:Nat) (tm:Bool) (u0 u1 u2 u3 u4 u5 u6 u7 u8 u9 u11 u12 u13 u14 u15 u16 u17 u18 u19 u20 u21 u22 u23 u24 u25 u26 u27 u28 u29 u30 u32 u33 u34 u35 u36 u37 u38 u39 u40 u41:Value) (u:World),(∀ x∈buf,∃ (k:Nat) (y:Value),k<many/\V k y/\x=.agg #[J k,y])->arr.size=many->(∀ k:Nat,k<many->(∃ y,V k y/\arr[k]?=some y)\/∃ y,V k y/\(.agg #[J k,y]:Value)∈buf) ->
   u.heap[ch]?=some (.chan cap buf.toArray true s r tm)->u.heap[bo]?=some (.cells arr 3)->zcp B w0 u->zau Tryz.prog Goal Shun (fun _=>False) (G ((base 84).at ⟨#[u0,u1,u2,u3,u4,u5,u6,u7,u8,u9,.slice (xA bo) many many,u11,u12,u13,u14,u15,u16,u17,u18,u19,u20,u21,u22,u23,u24,u25,u26,u27,u28,u29,u30,.chan (some ch),u32,u33,u34,u35,u36,u37,u38,u39,u40,u41],[]⟩ [.code (ztm Tryz.f84),.inLoop (ztm Tryz.f84),.inBlock 2,.code (zkM Tryz.f84)]) (c::cs)) u:=zdP
end
end R1
abbrev fC:Nat:=88
abbrev fR:Nat:=74
abbrev tC:Nat:=124
abbrev tW:Nat:=142
abbrev tF:Nat:=99
abbrev tE:Nat:=25
abbrev zE:Value:=.slice none 0 0
noncomputable abbrev bR:Func:=Tryz.f74
abbrev shp(xa:Od)(xn xc:Nat):Value:=.slice xa xn xc
theorem zdp{o:Oper}{x:Operand}{ch:Nat}(hop:o.op=.recv 124 x true)(hx:a.eval x=.chan (some ch)):(execOp a.eval o).run Tryz.prog w=.ok (.comm #[rcase ch (.agg (xG 0 none 0 0))] true (.recv true)) w/\(execOp a.eval o).events Tryz.prog w #[]=#[]:=by
 constructor
 ·unfold execOp
  simp[hop,hx,rcase]
 ·unfold execOp
  simp[hop,hx]
theorem zfZ:(Tryz.prog.info? 142).map (·.size)=some 2:=qh
theorem zfY:(Tryz.prog.info? 25).map (·.size)=some 1:=qh
theorem hRf:Tryz.prog.funcs[74]?=some Tryz.f74:=func74
abbrev hRr:=results74
section
variable{Goal:Machine->Trace->Prop}{Shun:Np}{c:Frame}{cs:List Frame}{B:Np}{w0:World}{ch bo many:Nat}{V:Nat->Value->Prop}
theorem zlq(hG:zbj Tryz.prog Goal)(hB0:∀ e,B e->e<w0.heap.size)(hbo:w0.heap.size<=bo)(hch:¬ B ch)(hV:∀ k y,V k y->∃ xa xn xc,y=shp xa xn xc)(hne:bo≠ch)(hSh:¬ Shun bo)(hLa:∀(w:World) (o:Obj),(fun _:World=>True) w->(fun _:World=>True) (w.alloc o):=fun _ _ h=>h)(hfin:∀(u':World) (xs:Nat->Value),zcp B w0 u'->(∀ k,k<many->V k (xs k))->u'.heap[bo]?=some (.cells (Array.ofFn fun k:Fin many=>xs k) 25)->zau Tryz.prog Goal Shun (fun _=>False) (G (c.finish (.slice (xA bo) many many)) cs) u') :
  ∀(buf:List Value) (arr:Array Value) (cap s r:Nat) (tm:Bool) (u0 u1 u2 u3 u4 u5 u6 u7 u8 u9 u11 u12 u13 u14 u15 u16 u17 u18 u19 u20 u21 u22 u23 u24 u25 u26 u27 u28 u29 u30 u32 u33 u34 u35 u36 u37 u38 u39 u40 u41:Value) (u:World),(∀ x∈buf,∃ (k:Nat) (y:Value),k<many/\V k y/\x=.agg #[J k,y])->arr.size=many->(∀ k:Nat,k<many->(∃ y,V k y/\arr[k]?=some y)\/∃ y,V k y/\(.agg #[J k,y]:Value)∈buf) ->
   u.heap[ch]?=some (.chan cap buf.toArray true s r tm)->u.heap[bo]?=some (.cells arr 25)->zcp B w0 u->zau Tryz.prog Goal Shun (fun _=>False) (G ((base 74).at ⟨#[u0,u1,u2,u3,u4,u5,u6,u7,u8,u9,.slice (xA bo) many many,u11,u12,u13,u14,u15,u16,u17,u18,u19,u20,u21,u22,u23,u24,u25,u26,u27,u28,u29,u30,.chan (some ch),u32,u33,u34,u35,u36,u37,u38,u39,u40,u41],[]⟩ [.code (ztm Tryz.f74),.inLoop (ztm Tryz.f74),.inBlock 2,.code (zkM Tryz.f74)]) (c::cs)) u:=zdP
