/- Part. -/
import Derived.Test.YthfhlgdeghnggaaGreatChecked
import Derived.WalkKit
import Derived.WalkLawsBesides
import Derived.Conc.WgLib
import Derived.Conc.TokenWalk
import Derived.Test.YthfhlgdeghnggaaGreatMAe
set_option maxHeartbeats 4000000
set_option maxRecDepth 100000
namespace Go.Proofs.YthfhlgdeghnggaaGreat
variable{a:Act}{fn:Func}{fr:FuncId}{X:FuncId->Prop}{wd:Int}{l0:List (Nat × Obj)}{rest:List Nat}{cap n σ:Nat}{Kc Lv:Nat->Prop}{RowP:Nat->Value->List (Nat × Obj)->Prop}{Post:Nat->World->Value->World->Prop}{ga:Option Addr}{M:Program}{ty:TypeId}{v x:Value}{Out:Value->World->(Nat->Prop)->Prop}{w:World}
open Tryz
section
open Go Go.Conc Go.ConcN Go.RowKit Go.Conc.Lib Go.ConcR.Gen Go.ConcN.Gen
theorem zcI{R:BR}{b:Bool}(h:zaj R (.bool b) v):v=.bool b:=by cases h;rfl
theorem zcY{R:BR}{k:IntKind}{n:Int}(h:zaj R (.int k n) v):v=.int k n:=by cases h;rfl
theorem zlV{R:BR}{y:Value}(hx:zaj R x x)(hy:zaj R y y):zaw R #[x,y] #[x,y]:=by
 refine⟨rfl,fun i h h'=>?_⟩
 match i,h with
 | 0,_=>exact hx
 | 1,_=>exact hy
theorem zl3{R:BR}(f m s o i u k:Int):zaw R #[.agg #[J f,J m,J s,J o,J i,J u],J k] #[.agg #[J f,J m,J s,J o,J i,J u],J k]:=by
 refine zlV (.agg rfl fun j h h'=>?_) (.int _ _)
 match j,h with
 | 0,_=>exact .int _ _
 | 1,_=>exact .int _ _
 | 2,_=>exact .int _ _
 | 3,_=>exact .int _ _
 | 4,_=>exact .int _ _
 | 5,_=>exact .int _ _
theorem zqN{R:BR}(wd:Int)(hx:zaj R x x)(k:Int):zaw R #[.agg #[J wd,x],J k] #[.agg #[J wd,x],J k]:=by
 refine zlV (.agg rfl fun j h h'=>?_) (.int _ _)
 match j,h with
 | 0,_=>exact .int _ _
 | 1,_=>exact hx
section
variable{L:Program}{main:Bool}{Live:World->Prop}{Ex:Event->Prop}{Stop:Nat->(Nat->Prop)->Goroutine->World->Prop}{Snd:Nat->(Nat->Prop)->Value->World->Prop}{ch:Nat}{K:Nat->Prop}
end
end
section
open Go
abbrev zsr:Go.Conc.Lib.WgLink:={ add:=87,done:=89,wait:=91,relMerge:=102,disable:=103,enable:=104,inBubble:=105,associate:=106,fatal:=107,uOr:=108,uAdd:=109,raceRead:=110,uLoad:=111,uStore:=112,disassociate:=113,semrelease:=114,acquire:=116,isAssociated:=117,uCas:=118,raceWrite:=119,semacquire:=120,orU64:=134,addU64:=135,loadU64:=136,storeU64:=137,casU64:=138,tWgP:=162,tUP:=164,tAssoc:=166,tWg:=134,tAU:=131,tU64:=129,tUint:=170,tU32:=132,tPU32:=171,tPAU:=210,tPU64:=212,tNoCopy:=126,tANoCopy:=127,tAlign64:=128 }
theorem zr0:Go.Conc.Lib.WgLib Tryz.prog zsr :=
 ⟨func87,func89,func91,func102,func103,func104,func105,func106,func107,func108,func109,func110,func111,func112,func113,func114,func116,func117,func118,func119,func120,func134,func135,func136,func137,func138,Tryz.underlying162,Tryz.runUnderlying162,Tryz.sizeOf162,Tryz.isAgg162,Tryz.zeroValue162,Tryz.underlying164,Tryz.runUnderlying164,Tryz.sizeOf164,Tryz.isAgg164,Tryz.zeroValue164,Tryz.underlying166,Tryz.runUnderlying166,Tryz.sizeOf166,Tryz.isAgg166,Tryz.zeroValue166,Tryz.underlying134,Tryz.runUnderlying134,Tryz.sizeOf134,Tryz.isAgg134,Tryz.zeroValue134,Tryz.underlying131,Tryz.runUnderlying131,Tryz.sizeOf131,Tryz.isAgg131,Tryz.zeroValue131,Tryz.underlying129,Tryz.runUnderlying129,Tryz.sizeOf129,Tryz.isAgg129,Tryz.zeroValue129,Tryz.underlying170,Tryz.runUnderlying170,Tryz.sizeOf170,Tryz.isAgg170,Tryz.zeroValue170,Tryz.underlying132,Tryz.runUnderlying132,Tryz.sizeOf132,Tryz.isAgg132,Tryz.zeroValue132,Tryz.underlying171,Tryz.runUnderlying171,Tryz.sizeOf171,Tryz.isAgg171,Tryz.zeroValue171,Tryz.underlying210,Tryz.runUnderlying210,Tryz.sizeOf210,Tryz.isAgg210,Tryz.zeroValue210,Tryz.underlying212,Tryz.runUnderlying212,Tryz.sizeOf212,Tryz.isAgg212,Tryz.zeroValue212,Tryz.underlying0,Tryz.runUnderlying0,Tryz.sizeOf0,Tryz.isAgg0,Tryz.zeroValue0,Tryz.underlying3,Tryz.runUnderlying3,Tryz.sizeOf3,Tryz.isAgg3,Tryz.zeroValue3,Tryz.underlying4,Tryz.runUnderlying4,Tryz.sizeOf4,Tryz.isAgg4,Tryz.zeroValue4,Tryz.underlying9,Tryz.runUnderlying9,Tryz.sizeOf9,Tryz.isAgg9,Tryz.zeroValue9,Tryz.underlying20,Tryz.runUnderlying20,Tryz.sizeOf20,Tryz.isAgg20,Tryz.zeroValue20,Tryz.underlying21,Tryz.runUnderlying21,Tryz.sizeOf21,Tryz.isAgg21,Tryz.zeroValue21,qh,qh⟩
end
section
open Go Go.Conc Go.ConcN Go.RowKit Go.Conc.Lib Go.ConcR.Gen Go.ConcN.Gen
open Go.ConcR (KK wgBlock WgAt stA smA rd wr mk Payload Aside2 DC0)
theorem zal.alloc{Wg ch:Nat}(w:World)(o:Obj)(h:zal ty Wg ch w):zal ty Wg ch (w.alloc o):=by
 obtain⟨⟨st,sm,hw⟩,cap,buf,s,r,tm,hc⟩:=h
 refine⟨⟨st,sm,hw.of_block ?_⟩,cap,buf,s,r,tm,?_⟩
 ·exact(zbu w o).2 _ (gei hw).1
 ·rw[(zbu w o).2 _ (gei hc).1]
  exact hc
def LvW(Wg ch:Nat)(c:Nat):Prop:=c=Wg\/c=ch
theorem zal.keep{Wg ch:Nat}(w w':World)(h:∀ c,LvW Wg ch c->w'.heap[c]?=w.heap[c]?)(hl:zal ty Wg ch w):zal ty Wg ch w':=by
 obtain⟨⟨st,sm,hw⟩,cap,buf,s,r,tm,hc⟩:=hl
 exact⟨⟨st,sm,hw.of_block (h _ (.inl rfl))⟩,cap,buf,s,r,tm,by rw[h _ (.inr rfl)];exact hc⟩
theorem zal.low{Wg ch:Nat}(w:World)(c:Nat)(hl:zal ty Wg ch w)(h:LvW Wg ch c):c<w.heap.size:=by
 obtain⟨⟨st,sm,hw⟩,cap,buf,s,r,tm,hc⟩:=hl
 rcases h with rfl|rfl
 ·exact(gei hw).1
 ·exact(gei hc).1
noncomputable def bot:Frame:={ (default:Frame) with fn:=Tryz.prog.funcs.size,defers:=[],mode:=.panicking [goexitEntry] }
section
variable[Payload]{L:Program}{Snd:Nat->(Nat->Prop)->Value->World->Prop}{Wg ch:Nat}{K S:Nat->Prop}
end
theorem ziY:(Tryz.prog.info? 136).map (·.size)=some 6:=qh
theorem zal.aside{Wg ch c:Nat}(hc:¬ LvW Wg ch c)(w w':World)(h:∀ d,d≠c->w'.heap[d]?=w.heap[d]?)(hl:zal ty Wg ch w):zal ty Wg ch w' :=
 zal.keep w w' (fun d hd=>h d (by rintro rfl;exact hc hd)) hl
section
variable[Payload]{Snd:Nat->(Nat->Prop)->Value->World->Prop}{Wg ch:Nat}{fst fin:Nat->Nat}{B:Nat->Prop}{Q:World->Prop}{l:List (Nat × Obj)}{gV rV:Value}{many:Int}{bg br bc:Nat}{c:Frame}{cs:List Frame}{sV:Value}{i i' y0 y1 y2 y3 y4 y5:Int}{St1:(Nat->Prop)->St}{jn:Nat}
end
def zco(B:Nat->Prop)(w0 u:World):Prop:=(∀ e,B e->u.heap[e]?=w0.heap[e]?)/\u.tape=w0.tape/\u.os=w0.os/\u.output=w0.output/\w0.heap.size<=u.heap.size
section
variable{Goal:Machine->Trace->Prop}{Shun:Nat->Prop}{c:Frame}{cs:List Frame}{B:Nat->Prop}{w0:World}{ch bo many:Nat}{rows:Nat->Int}
end
theorem zcD{R:BR}(wd:Int)(hx:zaj R x x):zaw R #[.agg #[J wd,x]] #[.agg #[J wd,x]]:=by
 refine⟨rfl,fun i h h'=>?_⟩
 match i,h with
 | 0,_ =>
  refine .agg rfl fun j h h'=>?_
  match j,h with
  | 0,_=>exact .int _ _
  | 1,_=>exact hx
theorem zkm{R:BR}{c c':Array Value}(hs:c.size=c'.size)(hv:∀ i (h:i<c.size) (h':i<c'.size),zaj R c[i] c'[i])(hc:∀ i (h:i<c.size),∃ n,c[i]=J n):c'=c:=by
 refine Array.ext hs.symm fun i h h'=>?_
 obtain⟨n,e⟩:=hc i h'
 have:=hv i h' h
 rw[e] at this ⊢
 exact zcY this
theorem znG{R:BR}{x0 x1 x2 x3 x4 x5 x6 x7 x8 x9 x10 x11 x12 x13 x14 x15 x16 x17 x18 x19 x20 x21 x22 x23:Int}(h:zaj R (.agg #[J x0,J x1,J x2,J x3,J x4,J x5,J x6,J x7,J x8,J x9,J x10,J x11,J x12,J x13,J x14,J x15,J x16,J x17,J x18,J x19,J x20,J x21,J x22,J x23]) v):v=.agg #[J x0,J x1,J x2,J x3,J x4,J x5,J x6,J x7,J x8,J x9,J x10,J x11,J x12,J x13,J x14,J x15,J x16,J x17,J x18,J x19,J x20,J x21,J x22,J x23]:=by
 cases h with
 | agg hs hv=>exact congrArg Value.agg (zkm hs hv fun i h=>match i,h with|0,_=>⟨_,rfl⟩|1,_=>⟨_,rfl⟩|2,_=>⟨_,rfl⟩|3,_=>⟨_,rfl⟩|4,_=>⟨_,rfl⟩|5,_=>⟨_,rfl⟩|6,_=>⟨_,rfl⟩|7,_=>⟨_,rfl⟩|8,_=>⟨_,rfl⟩|9,_=>⟨_,rfl⟩|10,_=>⟨_,rfl⟩|11,_=>⟨_,rfl⟩|12,_=>⟨_,rfl⟩|13,_=>⟨_,rfl⟩|14,_=>⟨_,rfl⟩|15,_=>⟨_,rfl⟩|16,_=>⟨_,rfl⟩|17,_=>⟨_,rfl⟩|18,_=>⟨_,rfl⟩|19,_=>⟨_,rfl⟩|20,_=>⟨_,rfl⟩|21,_=>⟨_,rfl⟩|22,_=>⟨_,rfl⟩|23,_=>⟨_,rfl⟩|k+24,h=>absurd h qm)
section
variable[Payload]{L:Program}{Goal:Machine->Trace->Prop}{Shun:Nat->Prop}{c:Frame}{cs:List Frame}
end
section
variable{Goal:Machine->Trace->Prop}{Shun:Nat->Prop}{c:Frame}{cs:List Frame}
theorem zpd(hG:zbi Tryz.prog Goal){Fin:World->Value->World->(Nat->Prop)->Prop}(h9:∀ p∈l0,Kc p.1)(hf:Hp l0 w)(h5:∀ c,Kc c->c<w.heap.size/\¬ Shun c)(h4:∀(c0:Frame) (cs0:List Frame) (w0:World),Hp l0 w0->(∀ e,Kc e->e<w0.heap.size/\¬ Shun e)->w.heap.size<=w0.heap.size->(∀(v:Value) (u:World) (Sh:Nat->Prop),zco (fun e=>e<w0.heap.size/\¬ Shun e) w0 u->Fin w0 v u Sh->zau Tryz.prog Goal Sh (fun _=>False) (G (c0.finish v) cs0) u) ->
   zau Tryz.prog Goal Shun (fun _=>False) (G (Frame.enter Tryz.prog 84 #[.agg (xG wd ga n cap),.func (.func 66) #[] #[]] .normal) (c0::cs0)) w0)(h6:∀ w0 v u u2 Sh,Fin w0 v u Sh->w.heap.size<=w0.heap.size->(∀ e,e<u.heap.size->u2.heap[e]?=u.heap[e]?)->u.heap.size<=u2.heap.size->Out v u2 Sh)(h7:∀(v:Value) (u:World) (Sh:Nat->Prop),zco (fun e=>e<w.heap.size/\¬ Shun e) w u->Out v u Sh->zau Tryz.prog Goal Sh (fun _=>False) (G (c.finish v) cs) u) :
  zau Tryz.prog Goal Shun (fun _=>False) (G (Frame.enter Tryz.prog 73 #[.agg (xG wd ga n cap)] .normal) (c::cs)) w:=by
 have hg:∀(w:World) (o:Obj),(fun _:World=>True) w->(fun _:World=>True) (w.alloc o):=fun _ _ h=>h
 refine zau.way hG (ch:=0) (K:=Kc) (S:=fun _=>False) (l:=l0) (lx:=[]) hf (fun p h=>.inl (h9 p h)) (fun _ h=>by cases h) (fun _ h=>by cases h) (fun _ h=>h.elim) (fun c hc=>⟨(h5 c (hc.elim id fun x=>x.elim)).1,(h5 c (hc.elim id fun x=>x.elim)).2,fun h=>h⟩) ?_
 rw[enter_at _ func73 rfl]
 walk_nrmf Tryz.f73
 refine zah.sq ?_
 refine zah.rg ?_
 simp only[rgs,Nat.reduceAdd]
 refine zah.new hg rfl rfl qj (V:=fun c=>.pointer (xA c)) (obj:=.cells (xG wd ga n cap) 33) (fun w hp=>qq) (fun _ w hp e he=>by simp[go_sem] at he) fun bp hK_bp hS_bp=>?_
 walk_nrm
 refine zah.val rfl rfl qj (v:=.slice none 0 0) (fun w hp=>qq) (fun _ w hp e he=>by simp[go_sem] at he) ?_
 walk_nrm
 refine zah.re ?_
 refine zah.sq ?_
 refine zah.rg ?_
 simp only[rgs,Nat.reduceAdd]
 refine zah.val rfl rfl qj (v:=.agg (xG wd ga n cap)) (fun w hp=>?_) (fun hl w hp e he=>?_) ?_
 ·have c0:=hp.cell mcs 0 rfl
  have c1:=hp.cell mcs 1 rfl
  go_simp
 ·have c0:=hp.cell mcs 0 rfl
  have c1:=hp.cell mcs 1 rfl
  simp[go_sem, *] at he
  rcases he with rfl|rfl
  all_goals exact zaK hl mcs _
 walk_nrm
 refine zah.enter rfl rfl qj (fun w=>run_call_body rfl func84 rfl rfl) (fun w=>events_call_body rfl func84 rfl rfl _) ?_
 walk_nrm
 refine zah.stop fun hL w1 hj _ hE=>?_
 intro h2 hA hM h3 _ h1 hq hs hu
 refine h4 _ _ w1 (fun p h=>hj p (mcm h)) (fun e he=>⟨(h3 e (.inl he)).1,(h3 e (.inl he)).2.1⟩) h2 fun v u Sh hk hF=>?_
 simp only[Frame.finish_at]
 walk_nrm
 refine zau.way hG (ch:=0) (K:=fun _=>False) (S:=fun _=>False) (l:=[]) (lx:=[]) (fun _ h=>by cases h) (fun _ h=>by cases h) (fun _ h=>by cases h) (fun _ h=>by cases h) (fun _ h=>h.elim) (fun c hc=>(hc.elim id id).elim) ?_
 refine zah.val rfl rfl qj (v:=v) (fun w hp=>qq) (fun _ w hp e he=>by simp[go_sem] at he) ?_
 walk_nrm
 refine zah.re ?_
 refine zah.ctl rfl (fun _=>stepG_ret') ?_
 refine zah.ctl (g':=G (c.finish v) cs) rfl (fun w=>by rw[stepG_leave rfl rfl func73 (results_tmp results73 _ _ w) (events_results_tmp results73 _ _)];rfl) ?_
 refine zah.stop fun hN w3 hP _ hJ=>?_
 intro h8 hD hQ hK _ h0 hw hy hz
 obtain⟨a1,a2,a3,a4,a5⟩:=hk
 refine h7 v w3 Sh ⟨fun e he=>?_,hw.trans (a2.trans hq),hy.trans (a3.trans hs),hz.trans (a4.trans hu),qg⟩ (h6 w1 v u w3 Sh hF h2 (fun e he=>h0 e he fun h=>h) h8)
 rw[h0 e (by have:=he.1;omega) (fun h=>h),a1 e ⟨by have:=he.1;omega,he.2⟩]
 exact h1 e he.1 (fun h=>h)
end
end
namespace R2
open Go Go.Conc Go.ConcN Go.RowKit Go.Conc.Lib Go.ConcR.Gen Go.ConcN.Gen
open Go.ConcR (KK wgBlock WgAt stA smA rd wr mk Payload Aside2 DC0)
theorem _root_.Go.Proofs.YthfhlgdeghnggaaGreat.zah.callb{L:Program}{main:Bool}{Live:World->Prop}{Ex:Event->Prop}{Stop:Nat->(Nat->Prop)->Goroutine->World->Prop}{Snd:Nat->(Nat->Prop)->Value->World->Prop}{ch:Nat}{K:Nat->Prop}{l:List (Nat × Obj)}{S:Nat->Prop}[T:zaD L M][zaD L L](W:Whole L)(B:Bodies L M X)(h9:∀ w w':World,(∀ c,Lv c->w'.heap[c]?=w.heap[c]?)->Live w->Live w')(he:∀ w c,Live w->Lv c->c<w.heap.size)(hX:zmj L X){f:FuncId}(hf:L.funcs[f]?=some fn)(hb:fn.body.isSome=true)(hg:¬ X f)(h6:zcH fn=true){a:Array Value}{Post:World->Value->World->Prop}(hP:∀ w0 v w τ d,Post w0 v w->Post w0 v (w.tp τ d))(hj:∀ c,Kc c->K c)(hk:∀ w,Hp l w->Closed Kc w)(ha:zaw (zcL Kc) a a)(hC:∀ w,Hp l w->∀ τ d,Calls L f a (w.frz.tp τ d) fun e w'=>∃ v,e=.returned v/\Post w v w'){Q:Value->List (Nat × Obj)->Prop}(hQ:∀ w0 v v' R wl w₁,Post w0 v wl->zaj R v v'->zbf w0.heap.size R wl w₁->∃ bs,Q v' bs/\Hp bs w₁/\∀ p∈bs,zbG w0.heap.size R p.1){c:Frame}{cs:List Frame}(hn:∀(S':Nat->Prop) (v':Value) (bs:List (Nat × Obj)),Q v' bs->(∀ p∈bs,S' p.1/\¬ K p.1/\¬ S p.1)->(∀ p∈l,K p.1\/S p.1)->zah M main Live Ex Stop Snd ch K (bs++l) σ (fun c=>S c\/S' c) (G (c.finish v') cs)) :
  zah M main Live Ex Stop Snd ch K l σ S (G (Frame.enter M f a .normal) (c::cs)):=by
 intro hl
 refine zah.call (Lv:=Lv) (Kc:=Kc) W B h9 he hX hf hb hg h6 hP hj hk ha hC ?_ hl
 intro w0 v v' S' R wl w₁ _ hp h4 hv hw hS' h3 h5 hL h7
 obtain⟨bs,hq,hbs,h8⟩:=hQ w0 v v' R wl w₁ h4 hv hw
 have h0:∀ p∈bs,S' p.1:=fun p h=>by rw[hS'];exact h8 p h
 refine hn S' v' bs hq (fun p h=>⟨h0 p h,fun q=>?_,fun q=>?_⟩) hl (fun p h=>?_) w₁ (fun p h=>?_) hL (fun c hc=>h7 c (hc.imp id fun x=>x))
 ·have h1:=h5 p.1 (.inl q);have h2:=h3 p.1 (h0 p h);omega
 ·have h1:=h5 p.1 (.inr q);have h2:=h3 p.1 (h0 p h);omega
 ·rcases List.mem_append.1 h with h|h
  ·exact .inr (.inr (h0 p h))
  ·exact(hl p h).imp id .inl
 ·rcases List.mem_append.1 h with h|h
  ·exact hbs p h
  ·exact hp p h
theorem _root_.Go.Proofs.YthfhlgdeghnggaaGreat.zah.va{main:Bool}{Live:World->Prop}{Ex:Event->Prop}{Stop:Nat->(Nat->Prop)->Goroutine->World->Prop}{Snd:Nat->(Nat->Prop)->Value->World->Prop}{ch:Nat}{K:Nat->Prop}{l:List (Nat × Obj)}{S:Nat->Prop}{b:Frame}{k:List Item}{cs:List Frame}{ops:Array Oper}{i:Nat}{o:Oper}(hn:zah M main Live Ex Stop Snd ch K l σ S (G (b.at (a.put o.dst v) (.inRegion ops rest::k)) cs))(ho:ops[i]?=some o:=by exact rfl)(hw:Region.wanted o (yielded ops a.tmps)=true:=by exact rfl)(hk:b.kind≠.early:=by decide)(hr:∀ w,Hp l w->(execOp a.eval o).run M w=.ok (.value v) w:=by intro w hp;go_simp)(he:(∀ p∈l,K p.1\/S p.1)->∀ w,Hp l w->∀ e∈(execOp a.eval o).events M w #[],EvS K S e:=by intro _ w hp e he;simp[go_sem] at he) :
  zah M main Live Ex Stop Snd ch K l σ S (G (b.at a (.inRegion ops (i::rest)::k)) cs):=zah.val ho hw hk hr he hn
inductive Ins:(fC fR fS tC tW tF tE tL:Nat)->(bC bR bS:Func)->Value->(Value->Prop)->Prop
 | int:Ins 98 84 99 156 159 71 3 25 Tryz.f98 Tryz.f84 Tryz.f99 (J 0) fun x=>∃ (xa:Int) (_ _:Nat),x=J xa
 | ints:Ins 88 74 90 124 142 99 25 26 Tryz.f88 Tryz.f74 Tryz.f90 (.slice none 0 0) fun x=>∃ xa xn xc,x=.slice xa xn xc
variable{fC fR fS tC tW tF tE tL:Nat}{bC bR bS:Func}{z:Value}{Sh:Value->Prop}
theorem Ins.hC(I:Ins fC fR fS tC tW tF tE tL bC bR bS z Sh):Tryz.prog.funcs[fC]?=some bC:=by
 cases I
 ·exact func98
 ·exact func88
theorem Ins.hR(I:Ins fC fR fS tC tW tF tE tL bC bR bS z Sh):Tryz.prog.funcs[fR]?=some bR:=by
 cases I
 ·exact func84
 ·exact func74
theorem Ins.hS(I:Ins fC fR fS tC tW tF tE tL bC bR bS z Sh):Tryz.prog.funcs[fS]?=some bS:=by
 cases I
 ·exact func99
 ·exact func90
noncomputable abbrev zex(bS:Func):Code:=match bS.body with|some (.seq _ (.seq _ (.block _ (.loop c))))=>c|_=>.skip
section
variable{L:Program}{main:Bool}{Live:World->Prop}{Ex:Event->Prop}{Stop:Nat->(Nat->Prop)->Goroutine->World->Prop}{Snd:Nat->(Nat->Prop)->Value->World->Prop}{ch:Nat}{K:Nat->Prop}
theorem zna(I:Ins fC fR fS tC tW tF tE tL bC bR bS z Sh)[T:zaD L Tryz.prog][zaD L L](W:Whole L)(B:Bodies L Tryz.prog X)(h6:∀ w w':World,(∀ c,Lv c->w'.heap[c]?=w.heap[c]?)->Live w->Live w')(h7:∀ w c,Live w->Lv c->c<w.heap.size)(hX:zmj L X)(hf:L.funcs[115]?=some Tryz.f115)(hg:¬ X 115)(hw:L.funcs[fr]?=some fn)(hj:Tryz.prog.funcs[fr]?=some fn)(h8:fn.body.isSome=true)(hq:(fn.name == "runtime.NumGoroutine")=false)(hz:¬ X fr)(hr2:zcH fn=true){f m s o i u:Int}{b4 b5:Nat}{l:List (Nat × Obj)}{fin:Nat}(h4:(b4,.cells (xG wd ga n cap) 33)∈l)(h5:(b5,.cells #[J f,J m,J s,J o,J i,J u] 136)∈l)(hA:∀ c,Kc c->K c)(hD:∀ w,Hp l w->Closed Kc w)(hE:zaj (zcL Kc) (.slice ga n cap) (.slice ga n cap))(hP:(fin:Int)=f+m)(hN:fin<=1000)(h1:∀(k:Nat) (w:World),Calls L 115 #[.agg #[J f,J m,J s,J o,J i,J u],J k] w fun e _=>e=.returned (.bool (decide (f<=k/\(k:Int)<f+m))))(hF:∀ k:Nat,f<=k->k<fin->∀ w,Hp l w->∀ τ d,Calls L fr #[.agg (xG wd ga n cap),J k] (w.frz.tp τ d) fun e w'=>∃ v,e=.returned v/\Post k w v w')(hG:∀ k w0 v w τ d,Post k w0 v w->Post k w0 v (w.tp τ d))(hJ:∀ k w0 v v' R wl w₁,Post k w0 v wl->zaj R v v'->zbf w0.heap.size R wl w₁->∃ bs,RowP k v' bs/\Hp bs w₁/\∀ p∈bs,zbG w0.heap.size R p.1)(hK:∀ k x bs,RowP k x bs->Sh x)(hs:∀(k:Nat) (S:Nat->Prop) (w:World) (x:Value) (bs:List (Nat × Obj)),f<=k->k<fin->RowP k x bs->Hp bs w->(∀ p∈bs,S p.1)->Snd k S (.agg #[J k,x]) w){c:Frame}{cs:List Frame}(hu:∀ S:Nat->Prop,zah Tryz.prog main Live Ex Stop Snd ch K l fin S (G (c.finish (.tuple #[])) cs)) :
  ∀(r k:Nat),k+r=fin->f<=k->∀(S:Nat->Prop) (u6 u7 v9 v10 v11 v12 v13 v14 v15 v16 v17 v18 v19 v20 v21 v22:Value),
   zah Tryz.prog main Live Ex Stop Snd ch K l k S (G ((base fS).at ⟨#[.agg (xG wd ga n cap),.agg #[J f,J m,J s,J o,J i,J u],.func (.func fr) #[] #[],.chan (some ch),.pointer (xA b4),.pointer (xA b5),u6,u7,J k,v9,v10,v11,v12,v13,v14,v15,v16,v17,v18,v19,v20,v21,v22],[]⟩ [.code (zex bS),.inLoop (zex bS),.inBlock 0]) (c::cs)):=by
 have hC:=I.hC
 have hR:=I.hR
 have hS:=I.hS
 have I0:=I
 cases I
 all_goals
  intro r
  induction r with
  | zero =>
   intro k hk h9 S u6 u7 v9 v10 v11 v12 v13 v14 v15 v16 v17 v18 v19 v20 v21 v22
   have h0:∀ w,Calls L 115 #[.agg #[J f,J m,J s,J o,J i,J u],J k] w fun e _=>e=.returned (.bool false):=fun w=>by
    have:=h1 k w
    rw[decide_eq_false qg] at this
    exact this
   simp only[zex,Tryz.f99,Tryz.f90]
   refine zah.sq ?_
   refine zah.sq ?_
   refine zah.rg ?_
   simp only[rgs,Nat.reduceAdd]
   refine zah.val rfl rfl qj (v:=.agg #[J f,J m,J s,J o,J i,J u]) (fun w hp=>?_) (fun hl w hp e he=>?_) ?_
   ·have c0:=hp.cell h5 0 rfl
    have c1:=hp.cell h5 1 rfl
    have c2:=hp.cell h5 2 rfl
    have c3:=hp.cell h5 3 rfl
    have c4:=hp.cell h5 4 rfl
    have c5:=hp.cell h5 5 rfl
    go_simp
   ·have c0:=hp.cell h5 0 rfl
    have c1:=hp.cell h5 1 rfl
    have c2:=hp.cell h5 2 rfl
    have c3:=hp.cell h5 3 rfl
    have c4:=hp.cell h5 4 rfl
    have c5:=hp.cell h5 5 rfl
    simp[go_sem, *] at he
    rcases he with rfl|rfl|rfl|rfl|rfl|rfl
    all_goals exact zaK hl h5 _
   walk_nrm
   refine zah.va (v:=J k) ?_
   walk_nrm
   refine zah.enter rfl rfl qj (fun w=>run_call_body rfl func115 rfl rfl) (fun w=>events_call_body rfl func115 rfl rfl _) ?_
   walk_nrm
   refine zah.callv (Kc:=fun _=>False) W B h6 h7 hX hf rfl hg qh (v0:=.bool false) (fun _ _ h=>zcI h) (fun _ h=>h.elim) (fun _ _ _ h=>h.elim) (zl3 _ _ _ _ _ _ _) (fun w _ τ d=>h0 _) fun S1=>?_
   simp only[Frame.finish_at]
   walk_nrm
   refine zah.re ?_
   refine zah.ctl rfl (fun _=>stepG_cond (t:=false) rfl) ?_
   simp only[Bool.false_eq_true,↓reduceIte]
   refine zah.ctl rfl (fun _=>stepG_exit rfl) ?_
   refine zah.ctl rfl (fun _=>stepG_end) ?_
   refine zah.ctl rfl (fun w=>stepG_leave rfl rfl hS (results_none rfl _ _ w) (events_results_none rfl _ _)) ?_
   obtain rfl:k=fin:=qg
   exact hu _
  | succ r ih =>
   intro k hk h9 S u6 u7 v9 v10 v11 v12 v13 v14 v15 v16 v17 v18 v19 v20 v21 v22
   have h0:∀ w,Calls L 115 #[.agg #[J f,J m,J s,J o,J i,J u],J k] w fun e _=>e=.returned (.bool true):=fun w=>by
    have:=h1 k w
    rw[decide_eq_true qg] at this
    exact this
   have hQ:IntKind.i64.wrap ((k:Int)+1)=((k+1:Nat):Int):=by rw[IntKind.wrap_i64];omega
   simp only[zex,Tryz.f99,Tryz.f90]
   refine zah.sq ?_
   refine zah.sq ?_
   refine zah.rg ?_
   simp only[rgs,Nat.reduceAdd]
   refine zah.val rfl rfl qj (v:=.agg #[J f,J m,J s,J o,J i,J u]) (fun w hp=>?_) (fun hl w hp e he=>?_) ?_
   ·have c0:=hp.cell h5 0 rfl
    have c1:=hp.cell h5 1 rfl
    have c2:=hp.cell h5 2 rfl
    have c3:=hp.cell h5 3 rfl
    have c4:=hp.cell h5 4 rfl
    have c5:=hp.cell h5 5 rfl
    go_simp
   ·have c0:=hp.cell h5 0 rfl
    have c1:=hp.cell h5 1 rfl
    have c2:=hp.cell h5 2 rfl
    have c3:=hp.cell h5 3 rfl
    have c4:=hp.cell h5 4 rfl
    have c5:=hp.cell h5 5 rfl
    simp[go_sem, *] at he
    rcases he with rfl|rfl|rfl|rfl|rfl|rfl
    all_goals exact zaK hl h5 _
   walk_nrm
   refine zah.va (v:=J k) ?_
   walk_nrm
   refine zah.enter rfl rfl qj (fun w=>run_call_body rfl func115 rfl rfl) (fun w=>events_call_body rfl func115 rfl rfl _) ?_
   walk_nrm
   refine zah.callv (Kc:=fun _=>False) W B h6 h7 hX hf rfl hg qh (v0:=.bool true) (fun _ _ h=>zcI h) (fun _ h=>h.elim) (fun _ _ _ h=>h.elim) (zl3 _ _ _ _ _ _ _) (fun w _ τ d=>h0 _) fun S1=>?_
   simp only[Frame.finish_at]
   walk_nrm
   refine zah.re ?_
   refine zah.ctl rfl (fun _=>stepG_cond (t:=true) rfl) ?_
   simp only[↓reduceIte]
   refine zah.ctl rfl (fun _=>stepG_skip) ?_
   refine zah.sq ?_
   refine zah.ctl rfl (fun _=>stepG_block) ?_
   refine zah.rg ?_
   simp only[rgs,Nat.reduceAdd]
   refine zah.va (v:=.chan (some ch)) ?_
   walk_nrm
   refine zah.va (v:=J k) ?_
   walk_nrm
   refine zah.va (v:=.func (.func fr) #[] #[]) ?_
   walk_nrm
   refine zah.val rfl rfl qj (v:=.agg (xG wd ga n cap)) (fun w hp=>?_) (fun hl w hp e he=>?_) ?_
   ·have c0:=hp.cell h4 0 rfl
    have c1:=hp.cell h4 1 rfl
    go_simp
   ·have c0:=hp.cell h4 0 rfl
    have c1:=hp.cell h4 1 rfl
    simp[go_sem, *] at he
    rcases he with rfl|rfl
    all_goals exact zaK hl h4 _
   walk_nrm
   refine zah.va (v:=J k) ?_
   walk_nrm
   refine zah.enter rfl rfl qj (fun w=>zpp rfl rfl hj hq h8) (fun w=>ziN rfl rfl hj hq h8 _) ?_
   walk_nrm
   refine zah.callb W B h6 h7 hX hw h8 hz hr2 (hG k) hA hD (zqN _ hE _) (hF k h9 qg) (hJ k) fun S2 x bs h2 h3 hL=>?_
   have hM:=hK k x bs h2
   obtain⟨y,hy⟩:∃ y,y=x:=⟨_,rfl⟩
   have hrow':=h2
   rw[<- hy] at hrow'
   obtain⟨xa,xn,xc,rfl⟩:=hM
   simp only[Frame.finish_at]
   walk_nrm
   refine zah.val rfl rfl qj (v:=.agg #[J k,y]) (fun w hp=>by subst hy;go_simp) (fun _ w hp e he=>by simp[go_sem] at he) ?_
   walk_nrm
   refine zah.send (l':=l) rfl rfl rfl qj (v:=.agg #[J k,y]) (z:=.tuple #[]) (fun w=>qq) (fun w=>ql) (fun c=>((S c\/S1 c)\/S2 c)/\¬ ∃ p∈bs,p.1=c) (fun _ h=>h.1) (fun w hp=>hs k _ w _ bs h9 qg hrow' (fun p h=>hp p (List.mem_append_left _ h)) (fun p h=>⟨.inr (h3 p h).1,fun q=>q.2 ⟨p,h,rfl⟩⟩)) ?_ ?_
   ·exact fun _ p h=>⟨List.mem_append_right _ h,(hL p h).imp id fun q=>⟨.inl q,fun ⟨p',h',e⟩=>(h3 p' h').2.2 (e ▸ q)⟩⟩
   refine zah.re ?_
   refine zah.ctl rfl (fun _=>stepG_inBlock) ?_
   refine zah.rg ?_
   simp only[rgs,Nat.reduceAdd]
   refine zah.va (v:=J k) ?_
   walk_nrm
   refine zah.va (v:=J ((k+1:Nat):Int)) ?_
   walk_nrm
   refine zah.va (v:=J ((k+1:Nat):Int)) ?_
   walk_nrm
   refine zah.re ?_
   refine zah.ctl rfl (fun _=>stepG_inLoop) ?_
   exact ih (k+1) qg qg _ _ _ _ _ _ _ _ _ _ _ _ _ _ _ _ _
end
def zcq(fC:Nat)(Wg bg bs br bc:Nat):Deferred:={ target:=.fn (.func fC) #[.pointer (xA Wg),.pointer (xA bg),.pointer (xA bs),.pointer (xA br),.pointer (xA bc)],args:=#[] }
theorem zmo(I:Ins fC fR fS tC tW tF tE tL bC bR bS z Sh)(Wg bg bs br bc:Nat)(w:World):stepG Tryz.prog false (born Tryz.prog (zcq fC Wg bg bs br bc)) w =
  .go (G ((baseD fC).at ⟨#[.pointer (xA Wg),.pointer (xA bg),.pointer (xA bs),.pointer (xA br),.pointer (xA bc),undef,undef,undef,undef,undef],[]⟩ [.code (bC.body.getD .skip)]) [bot]) w #[]:=by
 have hC:=I.hC
 cases I <;> simp[born,zcq,stepG,unwind,callDeferred,invoke,callFunc,hC,Tryz.f98,Tryz.f88,seen,GStep.after,G,Frame.enter,Frame.at,baseD,bot]
theorem zkF(I:Ins fC fR fS tC tW tF tE tL bC bR bS z Sh)(T:Array Value):QuitsD Tryz.prog 2 0 (G { (baseD fC).at ⟨T,[]⟩ [] with mode:=.returning } [bot]):=by
 have hC:=I.hC
 have hR:=I.hR
 have hS:=I.hS
 have I0:=I
 cases I
 all_goals
  refine QuitsD.ctl (g':=G bot []) rfl (fun w=>?_) ?_
  ·simp[G,stepG,unwind,doReturn,results,Frame.at,baseD,bot,hC,Tryz.f98,Tryz.f88,seen,GStep.after,goexitEntry]
  refine QuitsD.ctl (g':={ G bot [] with status:=.finished }) rfl (fun w=>?_) ⟨rfl,rfl⟩
  simp[G,stepG,unwind,bot,goexitEntry,Frame.catches]
  rfl
section
variable[Payload]{L:Program}{Snd:Nat->(Nat->Prop)->Value->World->Prop}{Wg ch:Nat}{K S:Nat->Prop}
theorem zmt(I:Ins fC fR fS tC tW tF tE tL bC bR bS z Sh)[T:zaD L Tryz.prog][zaD L L](W:Whole L)(B:Bodies L Tryz.prog X)(hX:zmj L X)(h7:L.funcs[115]?=some Tryz.f115)(h8:¬ X 115)(h9:L.funcs[fr]?=some fn)(hf:Tryz.prog.funcs[fr]?=some fn)(hj:fn.body.isSome=true)(hk:(fn.name == "runtime.NumGoroutine")=false)(hq:¬ X fr)(hr2:zcH fn=true){fst:Nat}{m s o i u:Int}{bg bs br bc:Nat}{l:List (Nat × Obj)}{fin:Nat}(hg:(bg,.cells (xG wd ga n cap) 33)∈l)(hs:(bs,.cells #[J fst,J m,J s,J o,J i,J u] 136)∈l)(hr:(br,.cells #[.func (.func fr) #[] #[]] tF)∈l)(hc:(bc,.cells #[.chan (some ch)] tC)∈l)(hu:∀ c,Kc c->K c)(hw:∀ w,Hp l w->Closed Kc w)(hy:zaj (zcL Kc) (.slice ga n cap) (.slice ga n cap))(h4:(fin:Int)=fst+m)(hm:0<=m)(h0:fin<=1000)(h5:∀(k:Nat) (w:World),Calls L 115 #[.agg #[J fst,J m,J s,J o,J i,J u],J k] w fun e _=>e=.returned (.bool (decide ((fst:Int)<=k/\(k:Int)<fst+m))))(hz:∀ k:Nat,fst<=k->k<fin->∀ w,Hp l w->∀ τ d,Calls L fr #[.agg (xG wd ga n cap),J k] (w.frz.tp τ d) fun e w'=>∃ v,e=.returned v/\Post k w v w')(hA:∀ k w0 v w τ d,Post k w0 v w->Post k w0 v (w.tp τ d))(hD:∀ k w0 v v' R wl w₁,Post k w0 v wl->zaj R v v'->zbf w0.heap.size R wl w₁->∃ bs,RowP k v' bs/\Hp bs w₁/\∀ p∈bs,zbG w0.heap.size R p.1)(hE:∀ k x bs,RowP k x bs->Sh x)(h6:∀(k:Nat) (S:Nat->Prop) (w:World) (x:Value) (bs:List (Nat × Obj)),fst<=k->k<fin->RowP k x bs->Hp bs w->(∀ p∈bs,S p.1)->Snd k S (.agg #[J k,x]) w) :
  zah Tryz.prog false (zal 134 Wg ch) (ExE Wg false) (zmf Tryz.prog 134 Wg K fin) Snd ch K l fst S (born Tryz.prog (zcq fC Wg bg bs br bc)):=by
 have hC:=I.hC
 have hR:=I.hR
 have hS:=I.hS
 have I0:=I
 cases I
 all_goals
  have h3:∀(w:World) (o:Obj),zal 134 Wg ch w->zal 134 Wg ch (w.alloc o):=zal.alloc
  refine zah.ctl rfl (fun w=>zmo I0 Wg bg bs br bc w) ?_
  simp only[Tryz.f98,Tryz.f88,Option.getD_some]
  refine zah.sq ?_
  refine zah.rg ?_
  simp only[rgs]
  refine zah.ctl rfl (fun _=>stepG_defer rfl rfl qj rfl) ?_
  walk_nrm
  refine zah.re ?_
  refine zah.rg ?_
  simp only[rgs,Nat.reduceAdd]
  refine zah.val rfl rfl qj (v:=.agg (xG wd ga n cap)) (fun w hp=>?_) (fun hl w hp e he=>?_) ?_
  ·have c0:=hp.cell hg 0 rfl
   have c1:=hp.cell hg 1 rfl
   go_simp
  ·have c0:=hp.cell hg 0 rfl
   have c1:=hp.cell hg 1 rfl
   simp[go_sem, *] at he
   rcases he with rfl|rfl
   all_goals exact zaK hl hg _
  walk_nrm
  refine zah.val rfl rfl qj (v:=.agg #[J fst,J m,J s,J o,J i,J u]) (fun w hp=>?_) (fun hl w hp e he=>?_) ?_
  ·have c0:=hp.cell hs 0 rfl
   have c1:=hp.cell hs 1 rfl
   have c2:=hp.cell hs 2 rfl
   have c3:=hp.cell hs 3 rfl
   have c4:=hp.cell hs 4 rfl
   have c5:=hp.cell hs 5 rfl
   go_simp
  ·have c0:=hp.cell hs 0 rfl
   have c1:=hp.cell hs 1 rfl
   have c2:=hp.cell hs 2 rfl
   have c3:=hp.cell hs 3 rfl
   have c4:=hp.cell hs 4 rfl
   have c5:=hp.cell hs 5 rfl
   simp[go_sem, *] at he
   rcases he with rfl|rfl|rfl|rfl|rfl|rfl
   all_goals exact zaK hl hs _
  walk_nrm
  refine zah.val rfl rfl qj (v:=.func (.func fr) #[] #[]) (fun w hp=>?_) (fun hl w hp e he=>?_) ?_
  ·have c0:=hp.cell hr 0 rfl
   go_simp
  ·have c0:=hp.cell hr 0 rfl
   simp[go_sem, *] at he
   subst he
   exact zaK hl hr _
  walk_nrm
  refine zah.val rfl rfl qj (v:=.chan (some ch)) (fun w hp=>?_) (fun hl w hp e he=>?_) ?_
  ·have c0:=hp.cell hc 0 rfl
   go_simp
  ·have c0:=hp.cell hc 0 rfl
   simp[go_sem, *] at he
   subst he
   exact zaK hl hc _
  walk_nrm
  refine zah.enter rfl rfl qj (fun w=>run_call_body rfl hS rfl rfl) (fun w=>events_call_body rfl hS rfl rfl _) ?_
  rw[enter_at _ hS rfl]
  simp only[Tryz.f99,Tryz.f90]
  walk_nrm
  refine zah.sq ?_
  refine zah.rg ?_
  simp only[rgs,Nat.reduceAdd]
  refine zah.new h3 rfl rfl qj (V:=fun c=>.pointer (xA c)) (obj:=.cells (xG wd ga n cap) 33) (fun w hp=>qq) (fun _ w hp e he=>by simp[go_sem] at he) fun b4 hK_b4 hS_b4=>?_
  walk_nrm
  refine zah.new h3 rfl rfl qj (V:=fun c=>.pointer (xA c)) (obj:=.cells #[J fst,J m,J s,J o,J i,J u] 136) (fun w hp=>qq) (fun _ w hp e he=>by simp[go_sem] at he) fun b5 hK_b5 hS_b5=>?_
  walk_nrm
  refine zah.re ?_
  refine zah.sq ?_
  refine zah.rg ?_
  simp only[rgs,Nat.reduceAdd]
  refine zah.va (v:=.pointer (xA b5)) ?_
  walk_nrm
  refine zah.val rfl rfl qj (v:=J fst) (fun w hp=>?_) (fun hl w hp e he=>?_) ?_
  ·have c0:=hp.cell mcs 0 rfl
   go_simp
  ·have c0:=hp.cell mcs 0 rfl
   simp[go_sem, *] at he
   subst he
   exact zaK hl mcs _
  walk_nrm
  refine zah.va (v:=J fst) ?_
  walk_nrm
  refine zah.re ?_
  refine zah.ctl rfl (fun _=>stepG_block) ?_
  refine zah.ctl rfl (fun _=>stepG_loop) ?_
  refine zna I0 (Lv:=LvW Wg ch) (f:=(fst:Int)) W B zal.keep zal.low hX h7 h8 h9 hf hj hk hq hr2 qm qm hu (fun w hp=>hw w fun p h=>hp p (by simp[h])) hy h4 h0 h5 (fun k h1 h2 w hp=>hz k qg h2 w fun p h=>hp p (by simp[h])) hA hD hE (fun k S w x bs h1 h2=>h6 k S w x bs qg h2) ?_ (fin - fst) fst qg qg _ _ _ _ _ _ _ _ _ _ _ _ _ _ _ _ _
  intro S2
  simp only[Frame.finish_at]
  walk_nrm
  refine zah.re ?_
  refine zah.ctl rfl (fun _=>stepG_end) ?_
  refine zah.ctl rfl (fun _=>stepG_unwind_enter rfl func89 rfl rfl) ?_
  walk_nrmf Tryz.f89
  intro hl w hp hL hF
  exact zqx zr0 (C:=bs) (v:=J fst) (hl _ (mcm (mcm hs))) rfl (zkF I0 _) w hL (hp.cell (mcm (mcm hs)) 0 rfl)
end
end R2
namespace R2
open Go Go.Conc Go.ConcN Go.RowKit Go.Conc.Lib Go.ConcR.Gen Go.ConcN.Gen
open Go.ConcR (KK wgBlock WgAt stA smA rd wr mk Payload Aside2 DC0)
variable{fC fR fS tC tW tF tE tL:Nat}{bC bR bS:Func}{z:Value}{Sh:Value->Prop}
noncomputable abbrev zq2(bR:Func):Code:=match bR.body with|some (.seq _ (.seq _ (.seq _ (.seq _ (.seq _ (.seq (.seq _ (.block _ (.loop c))) _))))))=>c|_=>.skip
noncomputable abbrev zdk(bR:Func):Code:=match bR.body with|some (.seq _ (.seq _ (.seq _ (.seq _ (.seq _ (.seq (.seq _ (.block _ (.loop _))) c))))))=>c|_=>.skip
noncomputable abbrev zgV(fR:Nat)(bR:Func)(gV rV sV:Value)(many i:Int)(bg br bc Wg ch:Nat)(c:Frame)(cs:List Frame)(v9 v22 v23 v24 v25 v26:Value):Goroutine:=G ((base fR).at ⟨#[gV,rV,.pointer (xA bg),.pointer (xA br),.slice none 0 0,J many,.pointer (xA bc),.pointer (xA Wg),undef,v9,undef,undef,gV,.bool true,.bool false,gV,J many,J many,.chan (some ch),gV,sV,J i,v22,v23,v24,v25,v26,undef,undef,undef,undef,undef,undef,undef,undef,undef,undef,undef,undef,undef,undef,undef],[]⟩ [.code (zq2 bR),.inLoop (zq2 bR),.inBlock 0,.code (zdk bR)]) (c::cs)
section
variable[Payload]{Snd:Nat->(Nat->Prop)->Value->World->Prop}{Wg ch:Nat}{fst fin:Nat->Nat}{B:Nat->Prop}{Q:World->Prop}{l:List (Nat × Obj)}{gV rV:Value}{many:Int}{bg br bc:Nat}{c:Frame}{cs:List Frame}{sV:Value}{i i' y0 y1 y2 y3 y4 y5:Int}{St1:(Nat->Prop)->St}{jn:Nat}
theorem zfu(I:Ins fC fR fS tC tW tF tE tL bC bR bS z Sh)(hQ:zlh B Q)(hi:decide (i<4)=true)(hi':IntKind.i64.wrap (i+1)=i')(h9:∀ w,Sem.run Tryz.prog (Instr.index 137 sV (J i)) w=.ok (.agg #[J y0,J y1,J y2,J y3,J y4,J y5]) w)(hf:∀ w es,Sem.events Tryz.prog (Instr.index 137 sV (J i)) w es=es)(h3:∀(K:Nat->Prop) (bs:Nat) (l':List (Nat × Obj)),(bs,.cells #[J y0,J y1,J y2,J y3,J y4,J y5] 136)∈l'->(∀ p∈l,p∈l')->(∀ p∈l',K p.1)->∀ w,Hp l' w->zal 134 Wg ch w->(∀ c,K c->c<w.heap.size)->∃ rc,Sit Tryz.prog 134 Wg ch Snd K (fun _=>False) (fst jn) (fin jn) ⟨7,0,0⟩ rc (born Tryz.prog (zcq fC Wg bg bs br bc)) w)(h6:∀(K':Nat->Prop) (v9 v22 v23 v24 v25 v26:Value),(∀ c,B c->K' c)->(∀ c,K' c->¬ LvW Wg ch c)->za5 Tryz.prog true (zal 134 Wg ch) (ExE Wg true) (fun _ S g w=>St1 K' S g w) (fun _ _ _ _=>False) ch K' Q l 0 (fun _=>False) (zgV fR bR gV rV sV many i' bg br bc Wg ch c cs v9 v22 v23 v24 v25 v26)){K S:Nat->Prop}(h0:∀ c,B c->K c)(h5:∀ c,K c\/S c->¬ LvW Wg ch c)(v9 v22 v23 v24 v25 v26:Value):za5 Tryz.prog true (zal 134 Wg ch) (ExE Wg true) (fun _ S g w=>znO Tryz.prog 134 Wg ch Snd fst fin K jn (fun K S g w=>WX Tryz.prog 134 Wg ch K (St1 K) S g w) S g w) (fun _ _ _ _=>False) ch K Q l 0 S
  (zgV fR bR gV rV sV many i bg br bc Wg ch c cs v9 v22 v23 v24 v25 v26):=by
 have hC:=I.hC
 have hR:=I.hR
 have hS:=I.hS
 obtain⟨FC,h7⟩:∃ x,x=fC:=⟨_,rfl⟩
 have I0:=I
 cases I
 all_goals
  simp only[zgV,zq2,Tryz.f84,Tryz.f74]
  refine za5.sq ?_
  refine za5.rg ?_
  simp only[rgs]
  refine za5.val rfl rfl qj (v:=.bool true) (fun w hp=>by (have h:=hi;go_simp)) (fun _ w hp e he=>by simp[go_sem] at he) ?_
  walk_nrm
  refine za5.re ?_
  refine za5.sq ?_
  refine za5.ctl rfl (fun _=>stepG_cond (t:=true) rfl) ?_
  simp only[↓reduceIte]
  refine za5.ctl rfl (fun _=>stepG_skip) ?_
  refine za5.sq ?_
  refine za5.ctl rfl (fun _=>stepG_block) ?_
  refine za5.sq ?_
  refine za5.rg ?_
  simp only[rgs,Nat.reduceAdd]
  refine za5.val rfl rfl qj (v:=.agg #[J y0,J y1,J y2,J y3,J y4,J y5]) (fun w hp=>by (have h:=h9 w;go_simp)) (fun _ w hp e he=>by simp[go_sem,hf] at he) ?_
  walk_nrm
  refine za5.new hQ h0 zal.low zal.alloc rfl rfl qj (V:=fun c=>.pointer (xA c)) (obj:=.cells #[J 0,J 0,J 0,J 0,J 0,J 0] 136) (fun w hp=>qq) (fun _ w hp e he=>by simp[go_sem] at he) fun b9 hK_b9 hS_b9 h2 hl_b9=>?_
  walk_nrm
  refine za5.put (l':=(b9,.cells #[J y0,J y1,J y2,J y3,J y4,J y5] 136)::l) (c:=b9) (obj:=.cells #[J y0,J y1,J y2,J y3,J y4,J y5] 136) hQ h0 rfl rfl qj (Or.inr rfl) (fun h=>hK_b9 (h0 b9 h)) (zal.aside h2) (fun w hp=>⟨w.setRow b9 #[J y0,J y1,J y2,J y3,J y4,J y5],zib (ty:=136) rfl rfl rfl (hp.at mcs) ziY rfl qo,(zaF (hp.at mcs)).1,(zaF (hp.at mcs)).2⟩) (fun _ w hp e he=>?_) (fun p hp=>?_) ?_
  ·obtain⟨q,rfl⟩:=zlD (cells:=#[J y0,J y1,J y2,J y3,J y4,J y5]) (ty:=136) rfl rfl rfl (hp.at mcs) ziY rfl qo e he
   exact Or.inl ⟨_,_,rfl,Or.inl (Or.inr rfl)⟩
  ·rcases List.mem_cons.1 hp with rfl|hp
   ·exact Or.inl rfl
   ·exact Or.inr ⟨mcm hp,hl_b9 p hp⟩
  walk_nrm
  refine za5.re ?_
  refine za5.sq ?_
  refine za5.rg ?_
  simp only[rgs]
  refine za5.enter rfl rfl qj (fun w=>run_call_body rfl func87 rfl rfl) (fun w=>events_call_body rfl func87 rfl rfl _) ?_
  rw[enter_at _ func87 rfl]
  walk_nrmf Tryz.f87
  intro hl w hp hL hq h1
  have h4:∀ d,K d\/S d\/d=b9->¬ LvW Wg ch d:=fun d hd=>by rcases hd with h|h|rfl;exact h5 d (.inl h);exact h5 d (.inr h);exact h2
  refine znR (Fp:=zqd Q _ (fun d=>K d\/S d\/d=b9)) (S:=fun d=>S d\/d=b9) zr0 (zhR hQ) (fun h=>?_) (fun d hd=>?_) ?_ w ⟨hq,hp,h1⟩ hL
  ·rcases h with h|⟨p,hp,h⟩
   ·exact h5 _ (.inl (h0 _ h)) (.inl rfl)
   ·exact h4 _ (hl p hp) (.inl h)
  ·rcases hd with h|⟨p,hp,rfl⟩
   ·exact .inl (h0 _ h)
   ·exact hl p hp
  rintro w ⟨hq,hp,h1⟩ hL
  refine(?_:za5 Tryz.prog true (zal 134 Wg ch) (ExE Wg true) (fun _ S g w=>MGo Tryz.prog 134 Wg ch Snd fst fin K jn (fun K S g w=>WX Tryz.prog 134 Wg ch K (St1 K) S g w) S g w) (fun _ _ _ _=>False) ch K Q ((b9,.cells #[J y0,J y1,J y2,J y3,J y4,J y5] 136)::l) 0 (fun d=>S d\/d=b9) _) hl w hp hL hq h1
  walk_nrm
  refine za5.re ?_
  refine za5.rg ?_
  simp only[rgs,Nat.reduceAdd]
  refine za5.val rfl rfl qj (v:=.func (.func FC) #[] #[.pointer (xA Wg),.pointer (xA bg),.pointer (xA b9),.pointer (xA br),.pointer (xA bc)]) (fun w hp=>by subst h7;go_simp) (fun _ w hp e he=>by simp[go_sem] at he) ?_
  subst h7
  walk_nrm
  refine za5.stop hQ h0 fun hl w hp hL hq h1=>?_
  obtain⟨rc,h8⟩:=h3 (fun d=>K d\/S d\/d=b9) b9 ((b9,.cells #[J y0,J y1,J y2,J y3,J y4,J y5] 136)::l) mcs (fun p h=>mcm h) hl w hp hL h1
  refine⟨rfl,_,born Tryz.prog (zcq _ Wg bg b9 br bc),fun d=>K d\/S d\/d=b9,rc,zsM rfl rfl qj rfl rfl,fun _ h=>h,h8,?_⟩
  show WX Tryz.prog 134 Wg ch (fun d=>K d\/S d\/d=b9) (St1 (fun d=>K d\/S d\/d=b9)) (fun _=>False) _ w
  refine(?_:za5 Tryz.prog true (zal 134 Wg ch) (ExE Wg true) (fun _ S1 g w=>St1 (fun d=>K d\/(S d\/d=b9)) S1 g w) (fun _ _ _ _=>False) ch (fun d=>K d\/(S d\/d=b9)) Q l 0 (fun _=>False) _) (fun p h=>.inl (hl p (mcm h))) w (fun p h=>hp p (mcm h)) hL hq (fun d hd=>h1 d (by simpa using hd))
  walk_nrm
  refine za5.re ?_
  refine za5.ctl rfl (fun _=>stepG_inBlock) ?_
  refine za5.rg ?_
  simp only[rgs,Nat.reduceAdd]
  refine za5.val rfl rfl qj (v:=J i') (fun w hp=>by (have h:=hi';go_simp)) (fun _ w hp e he=>by simp[go_sem] at he) ?_
  walk_nrm
  refine za5.val rfl rfl qj (v:=J i') (fun w hp=>qq) (fun _ w hp e he=>by simp[go_sem] at he) ?_
  walk_nrm
  refine za5.re ?_
  refine za5.ctl rfl (fun _=>stepG_inLoop) ?_
  exact h6 _ _ _ _ _ _ _ (fun d hd=>.inl (h0 d hd)) h4
end
noncomputable abbrev zo5(bR:Func):Array Oper:=match zdk bR with|.seq (.region _ o _) _=>o|_=>#[]
noncomputable abbrev zkI(bR:Func):Code:=match zdk bR with|.seq _ c=>c|_=>.skip
section
variable(fR:Nat)(bR:Func)(Wg ch:Nat)(B:Nat->Prop)(Q:World->Prop)(l:List (Nat × Obj))(gV rV:Value)(many:Int)(bg br bc:Nat)(c:Frame)(cs:List Frame)(sV:Value)
def zca:(Nat->Prop)->St:=fun K S g w=>∃ v9 v23 v24 v25 v26:Value,znM zsr Wg ch (fun c=>B c\/∃ p∈l,p.1=c) (zqd Q l (fun _=>False)) ((base fR).at ⟨#[gV,rV,.pointer (xA bg),.pointer (xA br),.slice none 0 0,J many,.pointer (xA bc),.pointer (xA Wg),undef,v9,undef,undef,gV,.bool true,.bool false,gV,J many,J many,.chan (some ch),gV,sV,J 4,.bool false,v23,v24,v25,v26,undef,undef,undef,undef,undef,undef,undef,undef,undef,undef,undef,undef,undef,undef,undef],[]⟩ [.inRegion (zo5 bR) [0],.code (zkI bR)]) (c::cs) K S g w
def zr6:(Nat->Prop)->St:=fun K S g w=>∃ v9 v23 v24 v25 v26:Value,zsx Tryz.prog (fun c=>B c\/∃ p∈l,p.1=c) (zqd Q l (fun _=>False)) (G ((base fR).at ⟨#[gV,rV,.pointer (xA bg),.pointer (xA br),.slice none 0 0,J many,.pointer (xA bc),.pointer (xA Wg),undef,v9,undef,undef,gV,.bool true,.bool false,gV,J many,J many,.chan (some ch),gV,sV,J 4,.bool false,v23,v24,v25,v26,.tuple #[],undef,undef,undef,undef,undef,undef,undef,undef,undef,undef,undef,undef,undef,undef],[]⟩ [.inRegion (zo5 bR) [],.code (zkI bR)]) (c::cs)) K S g w
end
section
variable{Wg ch:Nat}{B:Nat->Prop}{Q:World->Prop}{l:List (Nat × Obj)}{gV rV:Value}{many:Int}{bg br bc:Nat}{c:Frame}{cs:List Frame}{sV:Value}
theorem zgR:∀ K S g w,zca fR bR Wg ch B Q l gV rV many bg br bc c cs sV K S g w->g.status=.running:=by
 rintro K S g w ⟨v9,v23,v24,v25,v26,h⟩
 exact zhD K S g w h
theorem ziz(I:Ins fC fR fS tC tW tF tE tL bC bR bS z Sh)(hQ:zlh B Q)(hB:¬ (B Wg\/∃ p∈l,p.1=Wg)):∀ K S g w,zca fR bR Wg ch B Q l gV rV many bg br bc c cs sV K S g w->WX Tryz.prog 134 Wg ch K (MW1 Tryz.prog 134 Wg ch (zr6 fR bR Wg ch B Q l gV rV many bg br bc c cs sV) (zca fR bR Wg ch B Q l gV rV many bg br bc c cs sV) K) S g w:=by
 cases I
 all_goals
  rintro K S g w ⟨v9,v23,v24,v25,v26,h⟩
  exact zcv (fun _ _ _ x=>zq7 (fun _ _ _ _ x=>⟨_,_,_,_,_,x⟩) (fun _ _ _ _ x=>⟨_,_,_,_,_,x⟩) x) (znJ zr0 (zhR hQ) hB K S g w h)
theorem zrj(I:Ins fC fR fS tC tW tF tE tL bC bR bS z Sh)(hQ:zlh B Q){K S:Nat->Prop}(h0:∀ c,B c->K c)(v9 v22 v23 v24 v25 v26:Value):za5 Tryz.prog true (zal 134 Wg ch) (ExE Wg true) (fun _ S g w=>MKd Tryz.prog 134 Wg ch (zca fR bR Wg ch B Q l gV rV many bg br bc c cs sV) K S g w) (fun _ _ _ _=>False) ch K Q l 0 S
  (zgV fR bR gV rV sV many 4 bg br bc Wg ch c cs v9 v22 v23 v24 v25 v26):=by
 have hC:=I.hC
 have hR:=I.hR
 have hS:=I.hS
 obtain⟨FR,h1⟩:∃ x,x=fR:=⟨_,rfl⟩
 obtain⟨BR,h2⟩:∃ x,x=bR:=⟨_,rfl⟩
 have I0:=I
 cases I
 all_goals
  simp only[zgV,zq2,zdk,Tryz.f84,Tryz.f74]
  refine za5.sq ?_
  refine za5.rg ?_
  simp only[rgs]
  refine za5.val rfl rfl qj (v:=.bool false) (fun w hp=>qq) (fun _ w hp e he=>by simp[go_sem] at he) ?_
  walk_nrm
  refine za5.re ?_
  refine za5.sq ?_
  refine za5.ctl rfl (fun _=>stepG_cond (t:=false) rfl) ?_
  simp only[Bool.false_eq_true,↓reduceIte]
  refine za5.ctl rfl (fun _=>stepG_exit rfl) ?_
  refine za5.sq ?_
  refine za5.rg ?_
  simp only[rgs]
  refine za5.enter rfl rfl qj (fun w=>run_call_body rfl func91 rfl rfl) (fun w=>events_call_body rfl func91 rfl rfl _) ?_
  rw[enter_at _ func91 rfl]
  walk_nrmf Tryz.f91
  intro hl w hp hL hq h3
  have hm:=zlb (K:=K) (S:=S) (b₀:=base FR) (a₀:=⟨#[gV,rV,.pointer (xA bg),.pointer (xA br),.slice none 0 0,J many,.pointer (xA bc),.pointer (xA Wg),undef,v9,undef,undef,gV,.bool true,.bool false,gV,J many,J many,.chan (some ch),gV,sV,J 4,.bool false,v23,v24,v25,v26,undef,undef,undef,undef,undef,undef,undef,undef,undef,undef,undef,undef,undef,undef,undef],[]⟩) (ops₀:=zo5 BR) (i₀:=0) (rest₀:=[]) (k₀:=[.code (zkI BR)]) (cs:=c::cs) zr0 (zhR (l:=l) (A:=fun _=>False) hQ) (fun d hd=>by rcases hd with h|⟨p,hp,rfl⟩;exact .inl (h0 _ h);exact hl p hp) w ⟨hq,hp,fun _ h=>h.elim⟩ hL
  subst h1 h2
  exact zcv (fun _ _ _ h=>zq6 (fun _ _ _ _ h=>⟨_,_,_,_,_,h⟩) h) hm
theorem zkV(I:Ins fC fR fS tC tW tF tE tL bC bR bS z Sh)[Payload]{x0 x1 x2 x3 x4 x5 x6 x7 x8 x9 x10 x11 x12 x13 x14 x15 x16 x17 x18 x19 x20 x21 x22 x23:Int}(h4:sV=.agg #[J x0,J x1,J x2,J x3,J x4,J x5,J x6,J x7,J x8,J x9,J x10,J x11,J x12,J x13,J x14,J x15,J x16,J x17,J x18,J x19,J x20,J x21,J x22,J x23]){Snd:Nat->(Nat->Prop)->Value->World->Prop}{f0 e0:Nat->Nat}(hQ:zlh B Q)(h5:∀(K:Nat->Prop) (bs:Nat) (l':List (Nat × Obj)),(bs,.cells #[J x0,J x1,J x2,J x3,J x4,J x5] 136)∈l'->(∀ p∈l,p∈l')->(∀ p∈l',K p.1)->∀ w,Hp l' w->zal 134 Wg ch w->(∀ c,K c->c<w.heap.size)->∃ rc,Sit Tryz.prog 134 Wg ch Snd K (fun _=>False) (f0 0) (e0 0) ⟨7,0,0⟩ rc (born Tryz.prog (zcq fC Wg bg bs br bc)) w)(h6:∀(K:Nat->Prop) (bs:Nat) (l':List (Nat × Obj)),(bs,.cells #[J x6,J x7,J x8,J x9,J x10,J x11] 136)∈l'->(∀ p∈l,p∈l')->(∀ p∈l',K p.1)->∀ w,Hp l' w->zal 134 Wg ch w->(∀ c,K c->c<w.heap.size)->∃ rc,Sit Tryz.prog 134 Wg ch Snd K (fun _=>False) (f0 1) (e0 1) ⟨7,0,0⟩ rc (born Tryz.prog (zcq fC Wg bg bs br bc)) w)(h7:∀(K:Nat->Prop) (bs:Nat) (l':List (Nat × Obj)),(bs,.cells #[J x12,J x13,J x14,J x15,J x16,J x17] 136)∈l'->(∀ p∈l,p∈l')->(∀ p∈l',K p.1)->∀ w,Hp l' w->zal 134 Wg ch w->(∀ c,K c->c<w.heap.size)->∃ rc,Sit Tryz.prog 134 Wg ch Snd K (fun _=>False) (f0 2) (e0 2) ⟨7,0,0⟩ rc (born Tryz.prog (zcq fC Wg bg bs br bc)) w)(h8:∀(K:Nat->Prop) (bs:Nat) (l':List (Nat × Obj)),(bs,.cells #[J x18,J x19,J x20,J x21,J x22,J x23] 136)∈l'->(∀ p∈l,p∈l')->(∀ p∈l',K p.1)->∀ w,Hp l' w->zal 134 Wg ch w->(∀ c,K c->c<w.heap.size)->∃ rc,Sit Tryz.prog 134 Wg ch Snd K (fun _=>False) (f0 3) (e0 3) ⟨7,0,0⟩ rc (born Tryz.prog (zcq fC Wg bg bs br bc)) w){K S:Nat->Prop}(h9:∀ c,B c->K c)(he:∀ c,K c\/S c->¬ LvW Wg ch c)(v9 v22 v23 v24 v25 v26:Value)(hl:∀ p∈l,K p.1\/S p.1)(w:World)(hp:Hp l w)(hL:zal 134 Wg ch w)(hq:Q w)(hf:∀ c,K c\/S c->c<w.heap.size)(j0:Nat):(zcb Tryz.prog 134 Wg ch Snd (j0+4) (zbN j0 f0) (zbN j0 e0) (zca fR bR Wg ch B Q l gV rV many bg br bc c cs sV) 4) K S (zgV fR bR gV rV sV many 0 bg br bc Wg ch c cs v9 v22 v23 v24 v25 v26) w:=by
 have h3:∀(K S:Nat->Prop) (v9 v22 v23 v24 v25 v26:Value),(∀ c,B c->K c)->(∀ c,K c\/S c->¬ LvW Wg ch c)->za5 Tryz.prog true (zal 134 Wg ch) (ExE Wg true) (fun _ S g w=>znO Tryz.prog 134 Wg ch Snd (zbN j0 f0) (zbN j0 e0) K (j0+3) (zcb Tryz.prog 134 Wg ch Snd (j0+4) (zbN j0 f0) (zbN j0 e0) (zca fR bR Wg ch B Q l gV rV many bg br bc c cs sV) 0) S g w) (fun _ _ _ _=>False) ch K Q l 0 S (zgV fR bR gV rV sV many 3 bg br bc Wg ch c cs v9 v22 v23 v24 v25 v26) :=
  fun K S v9 v22 v23 v24 v25 v26 hB hK=>zfu I (St1:=(fun K=>MKd Tryz.prog 134 Wg ch (zca fR bR Wg ch B Q l gV rV many bg br bc c cs sV) K)) (jn:=j0+3) hQ qj qj (fun w=>by rw[h4];exact qh) (fun w es=>by rw[h4];exact qh) (fun K bs l' a1 a2 a3 w a4 a5 a6=>by rw[za4,za4];exact h8 K bs l' a1 a2 a3 w a4 a5 a6) (fun K v9 v22 v23 v24 v25 v26 hB _=>zrj I hQ hB v9 v22 v23 v24 v25 v26) hB hK v9 v22 v23 v24 v25 v26
 have h2:∀(K S:Nat->Prop) (v9 v22 v23 v24 v25 v26:Value),(∀ c,B c->K c)->(∀ c,K c\/S c->¬ LvW Wg ch c)->za5 Tryz.prog true (zal 134 Wg ch) (ExE Wg true) (fun _ S g w=>znO Tryz.prog 134 Wg ch Snd (zbN j0 f0) (zbN j0 e0) K (j0+2) (zcb Tryz.prog 134 Wg ch Snd (j0+4) (zbN j0 f0) (zbN j0 e0) (zca fR bR Wg ch B Q l gV rV many bg br bc c cs sV) 1) S g w) (fun _ _ _ _=>False) ch K Q l 0 S (zgV fR bR gV rV sV many 2 bg br bc Wg ch c cs v9 v22 v23 v24 v25 v26) :=
  fun K S v9 v22 v23 v24 v25 v26 hB hK=>zfu I (St1:=(fun K=>znO Tryz.prog 134 Wg ch Snd (zbN j0 f0) (zbN j0 e0) K (j0+3) (zcb Tryz.prog 134 Wg ch Snd (j0+4) (zbN j0 f0) (zbN j0 e0) (zca fR bR Wg ch B Q l gV rV many bg br bc c cs sV) 0))) (jn:=j0+2) hQ qj qj (fun w=>by rw[h4];exact qh) (fun w es=>by rw[h4];exact qh) (fun K bs l' a1 a2 a3 w a4 a5 a6=>by rw[za4,za4];exact h7 K bs l' a1 a2 a3 w a4 a5 a6) (fun K v9 v22 v23 v24 v25 v26 hB hK=>h3 K (fun _=>False) v9 v22 v23 v24 v25 v26 hB (fun d hd=>hK d (hd.elim id fun x=>x.elim))) hB hK v9 v22 v23 v24 v25 v26
 have h1:∀(K S:Nat->Prop) (v9 v22 v23 v24 v25 v26:Value),(∀ c,B c->K c)->(∀ c,K c\/S c->¬ LvW Wg ch c)->za5 Tryz.prog true (zal 134 Wg ch) (ExE Wg true) (fun _ S g w=>znO Tryz.prog 134 Wg ch Snd (zbN j0 f0) (zbN j0 e0) K (j0+1) (zcb Tryz.prog 134 Wg ch Snd (j0+4) (zbN j0 f0) (zbN j0 e0) (zca fR bR Wg ch B Q l gV rV many bg br bc c cs sV) 2) S g w) (fun _ _ _ _=>False) ch K Q l 0 S (zgV fR bR gV rV sV many 1 bg br bc Wg ch c cs v9 v22 v23 v24 v25 v26) :=
  fun K S v9 v22 v23 v24 v25 v26 hB hK=>zfu I (St1:=(fun K=>znO Tryz.prog 134 Wg ch Snd (zbN j0 f0) (zbN j0 e0) K (j0+2) (zcb Tryz.prog 134 Wg ch Snd (j0+4) (zbN j0 f0) (zbN j0 e0) (zca fR bR Wg ch B Q l gV rV many bg br bc c cs sV) 1))) (jn:=j0+1) hQ qj qj (fun w=>by rw[h4];exact qh) (fun w es=>by rw[h4];exact qh) (fun K bs l' a1 a2 a3 w a4 a5 a6=>by rw[za4,za4];exact h6 K bs l' a1 a2 a3 w a4 a5 a6) (fun K v9 v22 v23 v24 v25 v26 hB hK=>h2 K (fun _=>False) v9 v22 v23 v24 v25 v26 hB (fun d hd=>hK d (hd.elim id fun x=>x.elim))) hB hK v9 v22 v23 v24 v25 v26
 have h0:∀(K S:Nat->Prop) (v9 v22 v23 v24 v25 v26:Value),(∀ c,B c->K c)->(∀ c,K c\/S c->¬ LvW Wg ch c)->za5 Tryz.prog true (zal 134 Wg ch) (ExE Wg true) (fun _ S g w=>znO Tryz.prog 134 Wg ch Snd (zbN j0 f0) (zbN j0 e0) K (j0+0) (zcb Tryz.prog 134 Wg ch Snd (j0+4) (zbN j0 f0) (zbN j0 e0) (zca fR bR Wg ch B Q l gV rV many bg br bc c cs sV) 3) S g w) (fun _ _ _ _=>False) ch K Q l 0 S (zgV fR bR gV rV sV many 0 bg br bc Wg ch c cs v9 v22 v23 v24 v25 v26) :=
  fun K S v9 v22 v23 v24 v25 v26 hB hK=>zfu I (St1:=(fun K=>znO Tryz.prog 134 Wg ch Snd (zbN j0 f0) (zbN j0 e0) K (j0+1) (zcb Tryz.prog 134 Wg ch Snd (j0+4) (zbN j0 f0) (zbN j0 e0) (zca fR bR Wg ch B Q l gV rV many bg br bc c cs sV) 2))) (jn:=j0+0) hQ qj qj (fun w=>by rw[h4];exact qh) (fun w es=>by rw[h4];exact qh) (fun K bs l' a1 a2 a3 w a4 a5 a6=>by rw[za4,za4];exact h5 K bs l' a1 a2 a3 w a4 a5 a6) (fun K v9 v22 v23 v24 v25 v26 hB hK=>h1 K (fun _=>False) v9 v22 v23 v24 v25 v26 hB (fun d hd=>hK d (hd.elim id fun x=>x.elim))) hB hK v9 v22 v23 v24 v25 v26
 exact h0 K S v9 v22 v23 v24 v25 v26 h9 he hl w hp hL hq hf
end
end R2
namespace R2
open Go Go.Conc Go.ConcN Go.RowKit Go.Conc.Lib Go.ConcR.Gen Go.ConcN.Gen
open Go.ConcR (KK wgBlock WgAt stA smA rd wr mk Payload Aside2 DC0)
noncomputable abbrev zto(bR:Func):Code:=match zdk bR with|.seq _ (.seq _ (.seq _ (.seq (.seq _ (.block _ (.loop c))) _)))=>c|_=>.skip
noncomputable abbrev zkJ(bR:Func):Code:=match zdk bR with|.seq _ (.seq _ (.seq _ (.seq (.seq _ (.block _ (.loop _))) c)))=>c|_=>.skip
theorem zdP{P:Prop}(h:P:=by
  intro buf
  induction buf with
  | nil =>
   intro arr cap s r tm u0 u1 u2 u3 u4 u5 u6 u7 u8 u9 u11 u12 u13 u14 u15 u16 u17 u18 u19 u20 u21 u22 u23 u24 u25 u26 u27 u28 u29 u30 u32 u33 u34 u35 u36 u37 u38 u39 u40 u41 u hbuf hsz hcov hc ho hk
   simp only[zto,zdk,zkJ,Tryz.f84,Tryz.f74]
   refine zau.way hG (ch:=0) (K:=fun _=>False) (S:=fun e=>e=bo) (l:=[(bo,.cells arr tE)]) (lx:=[(ch,.chan cap #[] true s r tm)]) (fun p h=>by simp at h;subst h;exact ho) (fun p h=>by simp at h;subst h;exact .inr rfl) (fun p h=>by simp at h;subst h;exact hc) (fun p h e=>by simp at h;subst h;exact hne e.symm) (fun _ h=>h.elim) (fun e he=>?_) ?_
   ·rcases he with he|rfl
    ·exact he.elim
    ·exact⟨(gei ho).1,hSh,fun h=>h⟩
   refine zah.sq ?_
   refine zah.rg ?_
   simp only[rgs,Nat.reduceAdd]
   refine zah.stop fun hl1 w1 hp1 _ hlt1=>?_
   intro hsz1 hnew1 hx1 hKS1 _ hkept1 ht1 ho1 hu1
   refine zau.recvNone hG rfl (hx1.at (c:=ch) mcs) (fun d=>by rw[stepG_comm rfl rfl qj (zdo rfl rfl).1];unfold listed;rw[(zdo rfl rfl).2,seen_none]) fun d=>?_
   rw[zeh]
   simp only[commResult]
   walk_nrm
   refine zau.way hG (ch:=0) (K:=fun _=>False) (S:=fun e=>e=bo) (l:=[(bo,.cells arr tE)]) (lx:=[]) (hp1.on d) (fun p h=>by simp at h;subst h;exact .inr rfl) (fun _ h=>by cases h) (fun _ h=>by cases h) (fun _ h=>h.elim) (fun e he=>?_) ?_
   ·rcases he with he|rfl
    ·exact he.elim
    ·exact⟨hlt1 _ (.inr rfl),hSh,fun h=>h⟩
   refine zah.va (v:=.bool false) ?_
   walk_nrm
   refine zah.re ?_
   refine zah.sq ?_
   refine zah.ctl rfl (fun _=>stepG_cond (t:=false) rfl) ?_
   simp only[Bool.false_eq_true,↓reduceIte]
   refine zah.ctl rfl (fun _=>stepG_exit rfl) ?_
   refine zah.sq ?_
   refine zah.rg ?_
   simp only[rgs,Nat.reduceAdd]
   refine zah.va (v:=.slice (xA bo) many many) ?_
   walk_nrm
   refine zah.va (v:=.slice (xA bo) many many) ?_
   walk_nrm
   refine zah.re ?_
   refine zah.ctl rfl (fun _=>stepG_ret') ?_
   refine zah.ctl (g':=G (c.finish (.slice (xA bo) many many)) cs) rfl (fun w=>by rw[stepG_leave rfl rfl hRf (results_tmp hRr _ _ w) (events_results_tmp hRr _ _)];rfl) ?_
   refine zah.stop fun hl3 w3 hp3 _ hlt3=>?_
   intro hsz3 hnew3 hx3 hKS3 _ hkept3 ht3 ho3 hu3
   have hcov2:∀ k:Nat,∃ y,k<many->V k y/\arr[k]?=some y:=fun k=>by
    by_cases h:k<many
    ·rcases hcov k h with ⟨y,h1,h2⟩|⟨y,_,h2⟩
     ·exact⟨y,fun _=>⟨h1,h2⟩⟩
     ·simp at h2
    ·exact⟨undef,fun q=>absurd q h⟩
   obtain⟨xs,hxs⟩:∃ xs:Nat->Value,∀ k,k<many->V k (xs k)/\arr[k]?=some (xs k):=⟨fun k=>(hcov2 k).choose,fun k=>(hcov2 k).choose_spec⟩
   refine hfin w3 xs ?_ (fun k h=>(hxs k h).1) ?_
   ·obtain⟨a1,a2,a3,a4,a5⟩:=hk
    have huo:bo<u.heap.size:=(gei ho).1
    have hat:(w1.at d).heap.size=w1.heap.size:=rfl
    refine⟨fun e he=>?_,by rw[ht3];exact ht1.trans a2,by rw[ho3];exact ho1.trans a3,by rw[hu3];exact hu1.trans a4,qg⟩
    have:=hB0 e he
    rw[hkept3 e qg qg]
    exact(hkept1 e qg qg).trans (a1 e he)
   ·rw[hp3.at mcs]
    refine congrArg (fun x=>some (Obj.cells x tE)) (Array.ext (by simp[hsz]) fun j h1 h2=>?_)
    have:=(hxs j qg).2
    rw[Array.getElem?_eq_getElem h1] at this
    simpa using this
  | cons x buf ih =>
   intro arr cap s r tm u0 u1 u2 u3 u4 u5 u6 u7 u8 u9 u11 u12 u13 u14 u15 u16 u17 u18 u19 u20 u21 u22 u23 u24 u25 u26 u27 u28 u29 u30 u32 u33 u34 u35 u36 u37 u38 u39 u40 u41 u hbuf hsz hcov hc ho hk
   obtain⟨k,y,hkm,hVy,rfl⟩:=hbuf x mcs
   obtain⟨xa,xn,xc,rfl⟩:=hV k y hVy
   simp only[zto,zdk,Tryz.f84,Tryz.f74]
   refine zau.way hG (ch:=0) (K:=fun _=>False) (S:=fun e=>e=bo) (l:=[(bo,.cells arr tE)]) (lx:=[(ch,.chan cap (.agg #[J k,shp xa xn xc]::buf).toArray true s r tm)]) (fun p h=>by simp at h;subst h;exact ho) (fun p h=>by simp at h;subst h;exact .inr rfl) (fun p h=>by simp at h;subst h;exact hc) (fun p h e=>by simp at h;subst h;exact hne e.symm) (fun _ h=>h.elim) (fun e he=>?_) ?_
   ·rcases he with he|rfl
    ·exact he.elim
    ·exact⟨(gei ho).1,hSh,fun h=>h⟩
   refine zah.sq ?_
   refine zah.rg ?_
   simp only[rgs,Nat.reduceAdd]
   refine zah.stop fun hl1 w1 hp1 _ hlt1=>?_
   intro hsz1 hnew1 hx1 hKS1 _ hkept1 ht1 ho1 hu1
   refine zau.recv hG rfl (hx1.at (c:=ch) mcs) qm (fun d=>by rw[stepG_comm rfl rfl qj (zdo rfl rfl).1];unfold listed;rw[(zdo rfl rfl).2,seen_none]) fun d=>?_
   have e1:((.agg #[J k,shp xa xn xc]:Value)::buf).toArray.getD 0 undef=.agg #[J k,shp xa xn xc]:=qm
   have e2:((.agg #[J k,shp xa xn xc]:Value)::buf).toArray.extract 1 ((.agg #[J k,shp xa xn xc]:Value)::buf).toArray.size=buf.toArray:=qm
   rw[e1,e2]
   have hchl:ch<w1.heap.size:=(gei (hx1.at (c:=ch) mcs)).1
   obtain⟨w2,hw2⟩:∃ w2,w2=(w1.at d).setChan ch cap buf.toArray true s (r+1) tm:=⟨_,rfl⟩
   have hc2:w2.heap[ch]?=some (.chan cap buf.toArray true s (r+1) tm):=by rw[hw2];simp[World.setChan,World.at,hchl]
   have hk2:∀ e,e≠ch->w2.heap[e]?=w1.heap[e]?:=fun e he=>by rw[hw2];exact zby (w1.at d) cap buf.toArray true s (r+1) tm he
   have hs2:w2.heap.size=w1.heap.size/\w2.tape=w1.tape/\w2.os=w1.os/\w2.output=w1.output:=by rw[hw2];exact⟨by simp[World.setChan,World.at],rfl,rfl,rfl⟩
   rw[<- hw2]
   clear hw2 e1 e2
   have hbo2:w2.heap[bo]?=some (.cells arr tE):=(hk2 bo hne).trans (hp1.at mcs)
   have hbol:bo<w2.heap.size:=(gei hbo2).1
   rw[zeh]
   simp only[commResult]
   walk_nrm
   refine zau.way hG (ch:=0) (K:=fun _=>False) (S:=fun e=>e=bo) (l:=[(bo,.cells arr tE)]) (lx:=[(ch,.chan cap buf.toArray true s (r+1) tm)]) (fun p h=>by simp at h;subst h;exact hbo2) (fun p h=>by simp at h;subst h;exact .inr rfl) (fun p h=>by simp at h;subst h;exact hc2) (fun p h e=>by simp at h;subst h;exact hne e.symm) (fun _ h=>h.elim) (fun e he=>?_) ?_
   ·rcases he with he|rfl
    ·exact he.elim
    ·exact⟨hbol,hSh,fun h=>h⟩
   refine zah.va (v:=.bool true) ?_
   walk_nrm
   refine zah.re ?_
   refine zah.sq ?_
   refine zah.ctl rfl (fun _=>stepG_cond (t:=true) rfl) ?_
   simp only[↓reduceIte]
   refine zah.ctl rfl (fun _=>stepG_skip) ?_
   refine zah.ctl rfl (fun _=>stepG_block) ?_
   refine zah.sq ?_
   refine zah.rg ?_
   simp only[rgs,Nat.reduceAdd]
   refine zah.va (v:=.agg #[J k,shp xa xn xc]) ?_
   walk_nrm
   refine zah.new hLa rfl rfl qj (V:=fun c=>.pointer (xA c)) (obj:=.cells #[J 0,zE] tW) (fun w hp=>qq) (fun _ w hp e he=>by simp[go_sem] at he) fun b11 hK_b11 hS_b11=>?_
   walk_nrm
   refine zah.put (l':=[(b11,.cells #[J k,shp xa xn xc] tW),(bo,.cells arr tE)]) (c:=b11) (obj:=.cells #[J k,shp xa xn xc] tW) rfl rfl qj (.inr rfl) (fun _ _ _ h=>h) (fun w hp=>⟨_,zib (ty:=tW) (cells:=#[J k,shp xa xn xc]) rfl rfl rfl (hp.at mcs) zf3 rfl qo,(zaF (hp.at mcs)).1,(zaF (hp.at mcs)).2⟩) (fun _ w hp e he=>?_) (fun p hp=>?_) ?_
   ·obtain⟨q,rfl⟩:=zlD (ty:=tW) (cells:=#[J k,shp xa xn xc]) rfl rfl rfl (hp.at mcs) zf3 rfl qo e he
    exact Or.inl ⟨_,_,rfl,Or.inl (Or.inr rfl)⟩
   ·rcases List.mem_cons.1 hp with rfl|hp
    ·exact .inl rfl
    ·exact .inr ⟨mcm hp,fun e=>by simp at hp;subst hp;exact hS_b11 e.symm⟩
   walk_nrm
   refine zah.re ?_
   refine zah.rg ?_
   simp only[rgs,Nat.reduceAdd]
   refine zah.va (v:=.slice (xA bo) many many) ?_
   walk_nrm
   refine zah.va (v:=.pointer (xA b11)) ?_
   walk_nrm
   refine zah.val rfl rfl qj (v:=J k) (fun w hp=>?_) (fun hl w hp e he=>?_) ?_
   ·have c0:=hp.cell mcs 0 rfl
    go_simp
   ·have c0:=hp.cell mcs 0 rfl
    simp[go_sem, *] at he
    subst he
    exact zaK hl mcs _
   walk_nrm
   refine zah.va (v:=.pointer (some (O b11 1))) ?_
   walk_nrm
   refine zah.val rfl rfl qj (v:=shp xa xn xc) (fun w hp=>?_) (fun hl w hp e he=>?_) ?_
   ·have c0:=hp.cell mcs 1 rfl
    go_simp
   ·have c0:=hp.cell mcs 1 rfl
    simp[go_sem, *] at he
    subst he
    exact zaK hl mcs _
   walk_nrm
   have hk0:(0:Int)<=(k:Int):=qg
   have hk1:(k:Int)<(many:Int):=qg
   refine zah.val rfl rfl qj (v:=.pointer (some (O bo k))) (fun w hp=>qq) (fun _ w hp e he=>by simp[go_sem, *] at he) ?_
   walk_nrm
   have hka:k<arr.size:=qg
   refine zah.put (l':=[(bo,.cells (arr.setIfInBounds k (shp xa xn xc)) tE)]) (c:=bo) (obj:=.cells (arr.setIfInBounds k (shp xa xn xc)) tE) rfl rfl qj (.inl rfl) (fun _ _ _ h=>h) (fun w hp=>⟨_,zlX (ty:=tE) (i:=k) rfl rfl rfl rfl rfl (hp.at (mcm mcs)) zf2 hka,(zaF (hp.at (mcm mcs))).1,(zaF (hp.at (mcm mcs))).2⟩) (fun _ w hp e he=>?_) (fun p hp=>.inl (by simpa using hp)) ?_
   ·obtain⟨q,rfl⟩:=zon (ty:=tE) (i:=k) rfl rfl rfl rfl rfl (hp.at (mcm mcs)) zf2 hka e he
    exact Or.inl ⟨_,_,rfl,Or.inl (Or.inl rfl)⟩
   walk_nrm
   refine zah.re ?_
   refine zah.ctl rfl (fun _=>stepG_inBlock) ?_
   refine zah.ctl rfl (fun _=>stepG_inLoop) ?_
   refine zah.stop fun hl3 w3 hp3 _ hlt3=>?_
   intro hsz3 hnew3 hx3 hKS3 _ hkept3 ht3 ho3 hu3
   refine ih _ cap s (r+1) tm _ _ _ _ _ _ _ _ _ _ _ _ _ _ _ _ _ _ _ _ _ _ _ _ _ _ _ _ _ _ _ _ _ _ _ _ _ _ _ _ w3 (fun x hx=>hbuf x (mcm hx)) (by simpa using hsz) (fun j hj=>?_) (hx3.at mcs) (hp3.at mcs) ?_
   ·by_cases e:j=k
    ·subst e
     exact .inl ⟨_,hVy,by rw[Array.getElem?_setIfInBounds_self_of_lt hka]⟩
    ·rw[Array.getElem?_setIfInBounds_ne (Ne.symm e)]
     refine(hcov j hj).imp id fun ⟨y2,q1,h⟩=>?_
     rcases List.mem_cons.1 h with h|h
     ·exfalso;apply e;simp at h;omega
     ·exact⟨y2,q1,h⟩
   ·obtain⟨a1,a2,a3,a4,a5⟩:=hk
    have huo:bo<u.heap.size/\ch<u.heap.size:=⟨(gei ho).1,(gei hc).1⟩
    refine⟨fun e he=>?_,by rw[ht3,hs2.2.1,ht1,a2],by rw[ho3,hs2.2.2.1,ho1,a3],by rw[hu3,hs2.2.2.2,hu1,a4],qg⟩
    have:=hB0 e he
    rw[hkept3 e qg qg,hk2 e (fun q=>hch (q ▸ he)),hkept1 e qg qg,a1 e he]):P:=h
namespace R1
abbrev fC:Nat:=98
abbrev fR:Nat:=84
abbrev tC:Nat:=156
abbrev tW:Nat:=159
abbrev tF:Nat:=71
abbrev tE:Nat:=3
abbrev zE:Value:=J 0
noncomputable abbrev bR:Func:=Tryz.f84
abbrev shp(xa:Int)(_ _:Nat):Value:=J xa
theorem zdo{o:Oper}{x:Operand}{ch:Nat}(hop:o.op=.recv 156 x true)(hx:a.eval x=.chan (some ch)):(execOp a.eval o).run Tryz.prog w=.ok (.comm #[rcase ch (.agg #[J 0,J 0])] true (.recv true)) w/\(execOp a.eval o).events Tryz.prog w #[]=#[]:=by
 constructor
 ·unfold execOp
  simp[hop,hx,rcase]
 ·unfold execOp
  simp[hop,hx]
theorem zf3:(Tryz.prog.info? 159).map (·.size)=some 2:=qh
theorem zf2:(Tryz.prog.info? 3).map (·.size)=some 1:=qh
theorem hRf:Tryz.prog.funcs[84]?=some Tryz.f84:=func84
abbrev hRr:=results84
section
variable{Goal:Machine->Trace->Prop}{Shun:Nat->Prop}{c:Frame}{cs:List Frame}{B:Nat->Prop}{w0:World}{ch bo many:Nat}{V:Nat->Value->Prop}
theorem zls(hG:zbi Tryz.prog Goal)(hB0:∀ e,B e->e<w0.heap.size)(hbo:w0.heap.size<=bo)(hch:¬ B ch)(hV:∀ k y,V k y->∃ xa xn xc,y=shp xa xn xc)(hne:bo≠ch)(hSh:¬ Shun bo)(hLa:∀(w:World) (o:Obj),(fun _:World=>True) w->(fun _:World=>True) (w.alloc o):=fun _ _ h=>h)(hfin:∀(u':World) (xs:Nat->Value),zco B w0 u'->(∀ k,k<many->V k (xs k))->u'.heap[bo]?=some (.cells (Array.ofFn fun k:Fin many=>xs k) 3)->zau Tryz.prog Goal Shun (fun _=>False) (G (c.finish (.slice (xA bo) many many)) cs) u') :
  ∀(buf:List Value) (arr:Array Value) (cap s r:Nat) (tm:Bool) (u0 u1 u2 u3 u4 u5 u6 u7 u8 u9 u11 u12 u13 u14 u15 u16 u17 u18 u19 u20 u21 u22 u23 u24 u25 u26 u27 u28 u29 u30 u32 u33 u34 u35 u36 u37 u38 u39 u40 u41:Value) (u:World),(∀ x∈buf,∃ (k:Nat) (y:Value),k<many/\V k y/\x=.agg #[J k,y])->arr.size=many->(∀ k:Nat,k<many->(∃ y,V k y/\arr[k]?=some y)\/∃ y,V k y/\(.agg #[J k,y]:Value)∈buf) ->
   u.heap[ch]?=some (.chan cap buf.toArray true s r tm)->u.heap[bo]?=some (.cells arr 3)->zco B w0 u->zau Tryz.prog Goal Shun (fun _=>False) (G ((base 84).at ⟨#[u0,u1,u2,u3,u4,u5,u6,u7,u8,u9,.slice (xA bo) many many,u11,u12,u13,u14,u15,u16,u17,u18,u19,u20,u21,u22,u23,u24,u25,u26,u27,u28,u29,u30,.chan (some ch),u32,u33,u34,u35,u36,u37,u38,u39,u40,u41],[]⟩ [.code (zto Tryz.f84),.inLoop (zto Tryz.f84),.inBlock 2,.code (zkJ Tryz.f84)]) (c::cs)) u:=zdP
end
end R1
abbrev fC:Nat:=88
abbrev fR:Nat:=74
abbrev tC:Nat:=124
abbrev tW:Nat:=142
abbrev tF:Nat:=99
abbrev tE:Nat:=25
abbrev zE:Value:=.slice none 0 0
noncomputable abbrev bR:Func:=Tryz.f74
abbrev shp(xa:Option Addr)(xn xc:Nat):Value:=.slice xa xn xc
theorem zdo{o:Oper}{x:Operand}{ch:Nat}(hop:o.op=.recv 124 x true)(hx:a.eval x=.chan (some ch)):(execOp a.eval o).run Tryz.prog w=.ok (.comm #[rcase ch (.agg (xG 0 none 0 0))] true (.recv true)) w/\(execOp a.eval o).events Tryz.prog w #[]=#[]:=by
 constructor
 ·unfold execOp
  simp[hop,hx,rcase]
 ·unfold execOp
  simp[hop,hx]
theorem zf3:(Tryz.prog.info? 142).map (·.size)=some 2:=qh
theorem zf2:(Tryz.prog.info? 25).map (·.size)=some 1:=qh
theorem hRf:Tryz.prog.funcs[74]?=some Tryz.f74:=func74
abbrev hRr:=results74
section
variable{Goal:Machine->Trace->Prop}{Shun:Nat->Prop}{c:Frame}{cs:List Frame}{B:Nat->Prop}{w0:World}{ch bo many:Nat}{V:Nat->Value->Prop}
theorem zls(hG:zbi Tryz.prog Goal)(hB0:∀ e,B e->e<w0.heap.size)(hbo:w0.heap.size<=bo)(hch:¬ B ch)(hV:∀ k y,V k y->∃ xa xn xc,y=shp xa xn xc)(hne:bo≠ch)(hSh:¬ Shun bo)(hLa:∀(w:World) (o:Obj),(fun _:World=>True) w->(fun _:World=>True) (w.alloc o):=fun _ _ h=>h)(hfin:∀(u':World) (xs:Nat->Value),zco B w0 u'->(∀ k,k<many->V k (xs k))->u'.heap[bo]?=some (.cells (Array.ofFn fun k:Fin many=>xs k) 25)->zau Tryz.prog Goal Shun (fun _=>False) (G (c.finish (.slice (xA bo) many many)) cs) u') :
  ∀(buf:List Value) (arr:Array Value) (cap s r:Nat) (tm:Bool) (u0 u1 u2 u3 u4 u5 u6 u7 u8 u9 u11 u12 u13 u14 u15 u16 u17 u18 u19 u20 u21 u22 u23 u24 u25 u26 u27 u28 u29 u30 u32 u33 u34 u35 u36 u37 u38 u39 u40 u41:Value) (u:World),(∀ x∈buf,∃ (k:Nat) (y:Value),k<many/\V k y/\x=.agg #[J k,y])->arr.size=many->(∀ k:Nat,k<many->(∃ y,V k y/\arr[k]?=some y)\/∃ y,V k y/\(.agg #[J k,y]:Value)∈buf) ->
   u.heap[ch]?=some (.chan cap buf.toArray true s r tm)->u.heap[bo]?=some (.cells arr 25)->zco B w0 u->zau Tryz.prog Goal Shun (fun _=>False) (G ((base 74).at ⟨#[u0,u1,u2,u3,u4,u5,u6,u7,u8,u9,.slice (xA bo) many many,u11,u12,u13,u14,u15,u16,u17,u18,u19,u20,u21,u22,u23,u24,u25,u26,u27,u28,u29,u30,.chan (some ch),u32,u33,u34,u35,u36,u37,u38,u39,u40,u41],[]⟩ [.code (zto Tryz.f74),.inLoop (zto Tryz.f74),.inBlock 2,.code (zkJ Tryz.f74)]) (c::cs)) u:=zdP
