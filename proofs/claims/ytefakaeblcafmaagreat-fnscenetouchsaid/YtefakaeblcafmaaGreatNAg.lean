/- Part. -/
import Derived.Test.YtefakaeblcafmaaGreatChecked
import Derived.WalkKit
import Derived.WalkLawsBesides
import Derived.Conc.WgLib
import Derived.Conc.TokenWalk
import Derived.Test.YtefakaeblcafmaaGreatNAe
set_option maxHeartbeats 4000000
set_option maxRecDepth 100000
namespace Go.Proofs.YtefakaeblcafmaaGreat
variable{a:Array Value}{fn:Func}{fr:FuncId}{X:FuncId->Prop}{wd:Int}{l0:List (Nat × Obj)}{rest:List Nat}{cap n σ:Nat}{Kc Lv:Nat->Prop}{RowP:Nat->Value->List (Nat × Obj)->Prop}{Post:Nat->World->Value->World->Prop}{ga:Option Addr}{M:Program}{ty:TypeId}{v x:Value}{Out:Value->World->(Nat->Prop)->Prop}
open Tryz
section
open Go Go.Conc Go.ConcN Go.RowKit Go.Conc.Lib Go.ConcR.Gen Go.ConcN.Gen
theorem zcr{R:BR}{b:Bool}(h:zaj R (.bool b) v):v=.bool b:=by cases h;rfl
theorem zcG{R:BR}{k:IntKind}{n:Int}(h:zaj R (.int k n) v):v=.int k n:=by cases h;rfl
theorem zkH{R:BR}{y:Value}(hx:zaj R x x)(hy:zaj R y y):zat R #[x,y] #[x,y]:=by
 refine⟨rfl,fun i h h'=>?_⟩
 match i,h with
 | 0,_=>exact hx
 | 1,_=>exact hy
theorem zkR{R:BR}(f m s o i u k:Int):zat R #[.agg #[.int .i64 f,.int .i64 m,.int .i64 s,.int .i64 o,.int .i64 i,.int .i64 u],.int .i64 k] #[.agg #[.int .i64 f,.int .i64 m,.int .i64 s,.int .i64 o,.int .i64 i,.int .i64 u],.int .i64 k]:=by
 refine zkH (.agg rfl fun j h h'=>?_) (.int _ _)
 match j,h with
 | 0,_=>exact .int _ _
 | 1,_=>exact .int _ _
 | 2,_=>exact .int _ _
 | 3,_=>exact .int _ _
 | 4,_=>exact .int _ _
 | 5,_=>exact .int _ _
theorem zpa{R:BR}(wd:Int)(hx:zaj R x x)(k:Int):zat R #[.agg #[.int .i64 wd,x],.int .i64 k] #[.agg #[.int .i64 wd,x],.int .i64 k]:=by
 refine zkH (.agg rfl fun j h h'=>?_) (.int _ _)
 match j,h with
 | 0,_=>exact .int _ _
 | 1,_=>exact hx
section
variable{L:Program}{main:Bool}{Live:World->Prop}{Ex:Event->Prop}{Stop:Nat->(Nat->Prop)->Goroutine->World->Prop}{Snd:Nat->(Nat->Prop)->Value->World->Prop}{ch:Nat}{K:Nat->Prop}
end
end
section
open Go
abbrev zqK:Go.Conc.Lib.WgLink:={ add:=62,done:=64,wait:=66,relMerge:=88,disable:=89,enable:=90,inBubble:=91,associate:=92,fatal:=93,uOr:=94,uAdd:=95,raceRead:=96,uLoad:=97,uStore:=98,disassociate:=99,semrelease:=100,acquire:=101,isAssociated:=102,uCas:=103,raceWrite:=104,semacquire:=105,orU64:=117,addU64:=118,loadU64:=119,storeU64:=120,casU64:=121,tWgP:=148,tUP:=150,tAssoc:=152,tWg:=119,tAU:=116,tU64:=114,tUint:=156,tU32:=117,tPU32:=157,tPAU:=180,tPU64:=182,tNoCopy:=111,tANoCopy:=112,tAlign64:=113 }
theorem zqk:Go.Conc.Lib.WgLib Tryz.prog zqK :=
 ⟨func62,func64,func66,func88,func89,func90,func91,func92,func93,func94,func95,func96,func97,func98,func99,func100,func101,func102,func103,func104,func105,func117,func118,func119,func120,func121,Tryz.underlying148,Tryz.runUnderlying148,Tryz.sizeOf148,Tryz.isAgg148,Tryz.zeroValue148,Tryz.underlying150,Tryz.runUnderlying150,Tryz.sizeOf150,Tryz.isAgg150,Tryz.zeroValue150,Tryz.underlying152,Tryz.runUnderlying152,Tryz.sizeOf152,Tryz.isAgg152,Tryz.zeroValue152,Tryz.underlying119,Tryz.runUnderlying119,Tryz.sizeOf119,Tryz.isAgg119,Tryz.zeroValue119,Tryz.underlying116,Tryz.runUnderlying116,Tryz.sizeOf116,Tryz.isAgg116,Tryz.zeroValue116,Tryz.underlying114,Tryz.runUnderlying114,Tryz.sizeOf114,Tryz.isAgg114,Tryz.zeroValue114,Tryz.underlying156,Tryz.runUnderlying156,Tryz.sizeOf156,Tryz.isAgg156,Tryz.zeroValue156,Tryz.underlying117,Tryz.runUnderlying117,Tryz.sizeOf117,Tryz.isAgg117,Tryz.zeroValue117,Tryz.underlying157,Tryz.runUnderlying157,Tryz.sizeOf157,Tryz.isAgg157,Tryz.zeroValue157,Tryz.underlying180,Tryz.runUnderlying180,Tryz.sizeOf180,Tryz.isAgg180,Tryz.zeroValue180,Tryz.underlying182,Tryz.runUnderlying182,Tryz.sizeOf182,Tryz.isAgg182,Tryz.zeroValue182,Tryz.underlying0,Tryz.runUnderlying0,Tryz.sizeOf0,Tryz.isAgg0,Tryz.zeroValue0,Tryz.underlying3,Tryz.runUnderlying3,Tryz.sizeOf3,Tryz.isAgg3,Tryz.zeroValue3,Tryz.underlying4,Tryz.runUnderlying4,Tryz.sizeOf4,Tryz.isAgg4,Tryz.zeroValue4,Tryz.underlying9,Tryz.runUnderlying9,Tryz.sizeOf9,Tryz.isAgg9,Tryz.zeroValue9,Tryz.underlying20,Tryz.runUnderlying20,Tryz.sizeOf20,Tryz.isAgg20,Tryz.zeroValue20,Tryz.underlying21,Tryz.runUnderlying21,Tryz.sizeOf21,Tryz.isAgg21,Tryz.zeroValue21,qh,qh⟩
end
section
open Go Go.Conc Go.ConcN Go.RowKit Go.Conc.Lib Go.ConcR.Gen Go.ConcN.Gen
open Go.ConcR (KK wgBlock WgAt stA smA rd wr mk Payload Aside2 DC0)
theorem zak.alloc{Wg ch:Nat}(w:World)(o:Obj)(h:zak ty Wg ch w):zak ty Wg ch (w.alloc o):=by
 obtain⟨⟨st,sm,hw⟩,cap,buf,s,r,tm,hc⟩:=h
 refine⟨⟨st,sm,hw.of_block ?_⟩,cap,buf,s,r,tm,?_⟩
 ·exact(zbo w o).2 _ (gei hw).1
 ·rw[(zbo w o).2 _ (gei hc).1]
  exact hc
def LvW(Wg ch:Nat)(c:Nat):Prop:=c=Wg\/c=ch
theorem zak.keep{Wg ch:Nat}(w w':World)(h:∀ c,LvW Wg ch c->w'.heap[c]?=w.heap[c]?)(hl:zak ty Wg ch w):zak ty Wg ch w':=by
 obtain⟨⟨st,sm,hw⟩,cap,buf,s,r,tm,hc⟩:=hl
 exact⟨⟨st,sm,hw.of_block (h _ (.inl rfl))⟩,cap,buf,s,r,tm,by rw[h _ (.inr rfl)];exact hc⟩
theorem zak.low{Wg ch:Nat}(w:World)(c:Nat)(hl:zak ty Wg ch w)(h:LvW Wg ch c):c<w.heap.size:=by
 obtain⟨⟨st,sm,hw⟩,cap,buf,s,r,tm,hc⟩:=hl
 rcases h with rfl|rfl
 ·exact(gei hw).1
 ·exact(gei hc).1
noncomputable def bot:Frame:={ (default:Frame) with fn:=Tryz.prog.funcs.size,defers:=[],mode:=.panicking [goexitEntry] }
section
variable[Payload]{L:Program}{Snd:Nat->(Nat->Prop)->Value->World->Prop}{Wg ch:Nat}{K S:Nat->Prop}
end
theorem zia:(Tryz.prog.info? 86).map (·.size)=some 6:=qh
theorem zak.aside{Wg ch c:Nat}(hc:¬ LvW Wg ch c)(w w':World)(h:∀ d,d≠c->w'.heap[d]?=w.heap[d]?)(hl:zak ty Wg ch w):zak ty Wg ch w' :=
 zak.keep w w' (fun d hd=>h d (by rintro rfl;exact hc hd)) hl
section
variable[Payload]{Snd:Nat->(Nat->Prop)->Value->World->Prop}{Wg ch:Nat}{fst fin:Nat->Nat}{B:Nat->Prop}{Q:World->Prop}{l:List (Nat × Obj)}{gV rV:Value}{many:Int}{bg br bc:Nat}{c:Frame}{cs:List Frame}{sV:Value}{i i' y0 y1 y2 y3 y4 y5:Int}{St1:(Nat->Prop)->St}{jn:Nat}
end
def zcb(B:Nat->Prop)(w0 u:World):Prop:=(∀ e,B e->u.heap[e]?=w0.heap[e]?)/\u.tape=w0.tape/\u.os=w0.os/\u.output=w0.output/\w0.heap.size<=u.heap.size
section
variable{Goal:Machine->Trace->Prop}{Shun:Nat->Prop}{c:Frame}{cs:List Frame}{B:Nat->Prop}{w0:World}{ch bo many:Nat}{rows:Nat->Int}
end
theorem zcn{R:BR}(wd:Int)(hx:zaj R x x):zat R #[.agg #[.int .i64 wd,x]] #[.agg #[.int .i64 wd,x]]:=by
 refine⟨rfl,fun i h h'=>?_⟩
 match i,h with
 | 0,_ =>
  refine .agg rfl fun j h h'=>?_
  match j,h with
  | 0,_=>exact .int _ _
  | 1,_=>exact hx
theorem zjm{R:BR}{c c':Array Value}(hs:c.size=c'.size)(hv:∀ i (h:i<c.size) (h':i<c'.size),zaj R c[i] c'[i])(hc:∀ i (h:i<c.size),∃ n,c[i]=.int .i64 n):c'=c:=by
 refine Array.ext hs.symm fun i h h'=>?_
 obtain⟨n,e⟩:=hc i h'
 have:=hv i h' h
 rw[e] at this ⊢
 exact zcG this
theorem zmm{R:BR}{x0 x1 x2 x3 x4 x5 x6 x7 x8 x9 x10 x11 x12 x13 x14 x15 x16 x17 x18 x19 x20 x21 x22 x23:Int}(h:zaj R (.agg #[.int .i64 x0,.int .i64 x1,.int .i64 x2,.int .i64 x3,.int .i64 x4,.int .i64 x5,.int .i64 x6,.int .i64 x7,.int .i64 x8,.int .i64 x9,.int .i64 x10,.int .i64 x11,.int .i64 x12,.int .i64 x13,.int .i64 x14,.int .i64 x15,.int .i64 x16,.int .i64 x17,.int .i64 x18,.int .i64 x19,.int .i64 x20,.int .i64 x21,.int .i64 x22,.int .i64 x23]) v):v=.agg #[.int .i64 x0,.int .i64 x1,.int .i64 x2,.int .i64 x3,.int .i64 x4,.int .i64 x5,.int .i64 x6,.int .i64 x7,.int .i64 x8,.int .i64 x9,.int .i64 x10,.int .i64 x11,.int .i64 x12,.int .i64 x13,.int .i64 x14,.int .i64 x15,.int .i64 x16,.int .i64 x17,.int .i64 x18,.int .i64 x19,.int .i64 x20,.int .i64 x21,.int .i64 x22,.int .i64 x23]:=by
 cases h with
 | agg hs hv=>exact congrArg Value.agg (zjm hs hv fun i h=>match i,h with|0,_=>⟨_,rfl⟩|1,_=>⟨_,rfl⟩|2,_=>⟨_,rfl⟩|3,_=>⟨_,rfl⟩|4,_=>⟨_,rfl⟩|5,_=>⟨_,rfl⟩|6,_=>⟨_,rfl⟩|7,_=>⟨_,rfl⟩|8,_=>⟨_,rfl⟩|9,_=>⟨_,rfl⟩|10,_=>⟨_,rfl⟩|11,_=>⟨_,rfl⟩|12,_=>⟨_,rfl⟩|13,_=>⟨_,rfl⟩|14,_=>⟨_,rfl⟩|15,_=>⟨_,rfl⟩|16,_=>⟨_,rfl⟩|17,_=>⟨_,rfl⟩|18,_=>⟨_,rfl⟩|19,_=>⟨_,rfl⟩|20,_=>⟨_,rfl⟩|21,_=>⟨_,rfl⟩|22,_=>⟨_,rfl⟩|23,_=>⟨_,rfl⟩|k+24,h=>absurd h qk)
section
variable[Payload]{L:Program}{Goal:Machine->Trace->Prop}{Shun:Nat->Prop}{c:Frame}{cs:List Frame}
end
section
variable{Goal:Machine->Trace->Prop}{Shun:Nat->Prop}{c:Frame}{cs:List Frame}
theorem znG(hG:zba Tryz.prog Goal){w:World}{Fin:World->Value->World->(Nat->Prop)->Prop}(hl0:∀ p∈l0,Kc p.1)(hp0:Hp l0 w)(hKc:∀ c,Kc c->c<w.heap.size/\¬ Shun c)(hrows:∀(c0:Frame) (cs0:List Frame) (w0:World),Hp l0 w0->(∀ e,Kc e->e<w0.heap.size/\¬ Shun e)->w.heap.size<=w0.heap.size->(∀(v:Value) (u:World) (Sh:Nat->Prop),zcb (fun e=>e<w0.heap.size/\¬ Shun e) w0 u->Fin w0 v u Sh->zaq Tryz.prog Goal Sh (fun _=>False) (G (c0.finish v) cs0) u) ->
   zaq Tryz.prog Goal Shun (fun _=>False) (G (Frame.enter Tryz.prog 58 #[.agg #[.int .i64 wd,.slice ga n cap],.func (.func 59) #[] #[]] .normal) (c0::cs0)) w0)(hFin:∀ w0 v u u2 Sh,Fin w0 v u Sh->w.heap.size<=w0.heap.size->(∀ e,e<u.heap.size->u2.heap[e]?=u.heap[e]?)->u.heap.size<=u2.heap.size->Out v u2 Sh)(hfin:∀(v:Value) (u:World) (Sh:Nat->Prop),zcb (fun e=>e<w.heap.size/\¬ Shun e) w u->Out v u Sh->zaq Tryz.prog Goal Sh (fun _=>False) (G (c.finish v) cs) u) :
  zaq Tryz.prog Goal Shun (fun _=>False) (G (Frame.enter Tryz.prog 36 #[.agg #[.int .i64 wd,.slice ga n cap]] .normal) (c::cs)) w:=by
 have hLa:∀(w:World) (o:Obj),(fun _:World=>True) w->(fun _:World=>True) (w.alloc o):=fun _ _ h=>h
 refine zaq.way hG (ch:=0) (K:=Kc) (S:=fun _=>False) (l:=l0) (lx:=[]) hp0 (fun p h=>.inl (hl0 p h)) (fun _ h=>by cases h) (fun _ h=>by cases h) (fun _ h=>h.elim) (fun c hc=>⟨(hKc c (hc.elim id fun x=>x.elim)).1,(hKc c (hc.elim id fun x=>x.elim)).2,fun h=>h⟩) ?_
 rw[enter_at _ func36 rfl]
 walk_nrmf Tryz.f36
 refine zag.sq ?_
 refine zag.rg ?_
 simp only[rgs,Nat.reduceAdd]
 refine zag.new hLa rfl rfl qi (V:=fun c=>.pointer (some ⟨c,0,none⟩)) (obj:=.cells #[.int .i64 wd,.slice ga n cap] 25) (fun w hp=>qo) (fun _ w hp e he=>by simp[go_sem] at he) fun bp hK_bp hS_bp=>?_
 walk_nrm
 refine zag.val rfl rfl qi (v:=.slice none 0 0) (fun w hp=>qo) (fun _ w hp e he=>by simp[go_sem] at he) ?_
 walk_nrm
 refine zag.re ?_
 refine zag.sq ?_
 refine zag.rg ?_
 simp only[rgs,Nat.reduceAdd]
 refine zag.val rfl rfl qi (v:=.agg #[.int .i64 wd,.slice ga n cap]) (fun w hp=>?_) (fun hl w hp e he=>?_) ?_
 ·have c0:=hp.cell mcs 0 rfl
  have c1:=hp.cell mcs 1 rfl
  go_simp
 ·have c0:=hp.cell mcs 0 rfl
  have c1:=hp.cell mcs 1 rfl
  simp[go_sem, *] at he
  rcases he with rfl|rfl
  all_goals exact zaG hl mcs _
 walk_nrm
 refine zag.enter rfl rfl qi (fun w=>run_call_body rfl func58 rfl rfl) (fun w=>events_call_body rfl func58 rfl rfl _) ?_
 walk_nrm
 refine zag.stop fun hl1 w1 hp1 _ hlt1=>?_
 intro hsz1 hnew1 hx1 hKS1 _ hkept1 ht1 ho1 hu1
 refine hrows _ _ w1 (fun p h=>hp1 p (mcm h)) (fun e he=>⟨(hKS1 e (.inl he)).1,(hKS1 e (.inl he)).2.1⟩) hsz1 fun v u Sh hk hF=>?_
 simp only[Frame.finish_at]
 walk_nrm
 refine zaq.way hG (ch:=0) (K:=fun _=>False) (S:=fun _=>False) (l:=[]) (lx:=[]) (fun _ h=>by cases h) (fun _ h=>by cases h) (fun _ h=>by cases h) (fun _ h=>by cases h) (fun _ h=>h.elim) (fun c hc=>(hc.elim id id).elim) ?_
 refine zag.val rfl rfl qi (v:=v) (fun w hp=>qo) (fun _ w hp e he=>by simp[go_sem] at he) ?_
 walk_nrm
 refine zag.re ?_
 refine zag.ctl rfl (fun _=>stepG_ret') ?_
 refine zag.ctl (g':=G (c.finish v) cs) rfl (fun w=>by rw[stepG_leave rfl rfl func36 (results_tmp results36 _ _ w) (events_results_tmp results36 _ _)];rfl) ?_
 refine zag.stop fun hl3 w3 hp3 _ hlt3=>?_
 intro hsz3 hnew3 hx3 hKS3 _ hkept3 ht3 ho3 hu3
 obtain⟨a1,a2,a3,a4,a5⟩:=hk
 refine hfin v w3 Sh ⟨fun e he=>?_,ht3.trans (a2.trans ht1),ho3.trans (a3.trans ho1),hu3.trans (a4.trans hu1),qg⟩ (hFin w1 v u w3 Sh hF hsz1 (fun e he=>hkept3 e he fun h=>h) hsz3)
 rw[hkept3 e (by have:=he.1;omega) (fun h=>h),a1 e ⟨by have:=he.1;omega,he.2⟩]
 exact hkept1 e he.1 (fun h=>h)
end
end
namespace R2
open Go Go.Conc Go.ConcN Go.RowKit Go.Conc.Lib Go.ConcR.Gen Go.ConcN.Gen
open Go.ConcR (KK wgBlock WgAt stA smA rd wr mk Payload Aside2 DC0)
theorem _root_.Go.Proofs.YtefakaeblcafmaaGreat.zag.callb{L:Program}{main:Bool}{Live:World->Prop}{Ex:Event->Prop}{Stop:Nat->(Nat->Prop)->Goroutine->World->Prop}{Snd:Nat->(Nat->Prop)->Value->World->Prop}{ch:Nat}{K:Nat->Prop}{l:List (Nat × Obj)}{S:Nat->Prop}[T:zaA L M][zaA L L](W:Whole L)(B:Bodies L M X)(hLv:∀ w w':World,(∀ c,Lv c->w'.heap[c]?=w.heap[c]?)->Live w->Live w')(hlv:∀ w c,Live w->Lv c->c<w.heap.size)(hX:zk7 L X){f:FuncId}(hf:L.funcs[f]?=some fn)(hb:fn.body.isSome=true)(hnX:¬ X f)(hres:zcp fn=true){Post:World->Value->World->Prop}(hP:∀ w0 v w τ d,Post w0 v w->Post w0 v (w.tp τ d))(hKc:∀ c,Kc c->K c)(hcl:∀ w,Hp l w->Closed Kc w)(ha:zat (zeA Kc) a a)(hC:∀ w,Hp l w->∀ τ d,Calls L f a (w.frz.tp τ d) fun e w'=>∃ v,e=.returned v/\Post w v w'){Q:Value->List (Nat × Obj)->Prop}(hQ:∀ w0 v v' R wl w₁,Post w0 v wl->zaj R v v'->za9 w0.heap.size R wl w₁->∃ bs,Q v' bs/\Hp bs w₁/\∀ p∈bs,zby w0.heap.size R p.1){c:Frame}{cs:List Frame}(hn:∀(S':Nat->Prop) (v':Value) (bs:List (Nat × Obj)),Q v' bs->(∀ p∈bs,S' p.1/\¬ K p.1/\¬ S p.1)->(∀ p∈l,K p.1\/S p.1)->zag M main Live Ex Stop Snd ch K (bs++l) σ (fun c=>S c\/S' c) (G (c.finish v') cs)) :
  zag M main Live Ex Stop Snd ch K l σ S (G (Frame.enter M f a .normal) (c::cs)):=by
 intro hl
 refine zag.call (Lv:=Lv) (Kc:=Kc) W B hLv hlv hX hf hb hnX hres hP hKc hcl ha hC ?_ hl
 intro w0 v v' S' R wl w₁ _ hp1 hpost hv hw hS' hnew hlt hL hlt1
 obtain⟨bs,hq,hbs,hown⟩:=hQ w0 v v' R wl w₁ hpost hv hw
 have hS2:∀ p∈bs,S' p.1:=fun p h=>by rw[hS'];exact hown p h
 refine hn S' v' bs hq (fun p h=>⟨hS2 p h,fun q=>?_,fun q=>?_⟩) hl (fun p h=>?_) w₁ (fun p h=>?_) hL (fun c hc=>hlt1 c (hc.imp id fun x=>x))
 ·have h1:=hlt p.1 (.inl q);have h2:=hnew p.1 (hS2 p h);omega
 ·have h1:=hlt p.1 (.inr q);have h2:=hnew p.1 (hS2 p h);omega
 ·rcases List.mem_append.1 h with h|h
  ·exact .inr (.inr (hS2 p h))
  ·exact(hl p h).imp id .inl
 ·rcases List.mem_append.1 h with h|h
  ·exact hbs p h
  ·exact hp1 p h
theorem _root_.Go.Proofs.YtefakaeblcafmaaGreat.zag.va{main:Bool}{Live:World->Prop}{Ex:Event->Prop}{Stop:Nat->(Nat->Prop)->Goroutine->World->Prop}{Snd:Nat->(Nat->Prop)->Value->World->Prop}{ch:Nat}{K:Nat->Prop}{l:List (Nat × Obj)}{S:Nat->Prop}{b:Frame}{a:Act}{k:List Item}{cs:List Frame}{ops:Array Oper}{i:Nat}{o:Oper}(hn:zag M main Live Ex Stop Snd ch K l σ S (G (b.at (a.put o.dst v) (.inRegion ops rest::k)) cs))(ho:ops[i]?=some o:=by exact rfl)(hw:Region.wanted o (yielded ops a.tmps)=true:=by exact rfl)(hk:b.kind≠.early:=by decide)(hr:∀ w,Hp l w->(execOp a.eval o).run M w=.ok (.value v) w:=by intro w hp;go_simp)(he:(∀ p∈l,K p.1\/S p.1)->∀ w,Hp l w->∀ e∈(execOp a.eval o).events M w #[],EvS K S e:=by intro _ w hp e he;simp[go_sem] at he) :
  zag M main Live Ex Stop Snd ch K l σ S (G (b.at a (.inRegion ops (i::rest)::k)) cs):=zag.val ho hw hk hr he hn
inductive Ins:(fC fR fS tC tW tF tE tL:Nat)->(bC bR bS:Func)->Value->(Value->Prop)->Prop
 | int:Ins 85 58 86 144 147 108 3 26 Tryz.f85 Tryz.f58 Tryz.f86 (.int .i64 0) fun x=>∃ (xa:Int) (_ _:Nat),x=.int .i64 xa
 | ints:Ins 63 37 65 109 125 35 26 27 Tryz.f63 Tryz.f37 Tryz.f65 (.slice none 0 0) fun x=>∃ xa xn xc,x=.slice xa xn xc
variable{fC fR fS tC tW tF tE tL:Nat}{bC bR bS:Func}{z:Value}{Sh:Value->Prop}
theorem Ins.hC(I:Ins fC fR fS tC tW tF tE tL bC bR bS z Sh):Tryz.prog.funcs[fC]?=some bC:=by
 cases I
 ·exact func85
 ·exact func63
theorem Ins.hR(I:Ins fC fR fS tC tW tF tE tL bC bR bS z Sh):Tryz.prog.funcs[fR]?=some bR:=by
 cases I
 ·exact func58
 ·exact func37
theorem Ins.hS(I:Ins fC fR fS tC tW tF tE tL bC bR bS z Sh):Tryz.prog.funcs[fS]?=some bS:=by
 cases I
 ·exact func86
 ·exact func65
noncomputable abbrev zeg(bS:Func):Code:=match bS.body with|some (.seq _ (.seq _ (.block _ (.loop c))))=>c|_=>.skip
section
variable{L:Program}{main:Bool}{Live:World->Prop}{Ex:Event->Prop}{Stop:Nat->(Nat->Prop)->Goroutine->World->Prop}{Snd:Nat->(Nat->Prop)->Value->World->Prop}{ch:Nat}{K:Nat->Prop}
theorem zlQ(I:Ins fC fR fS tC tW tF tE tL bC bR bS z Sh)[T:zaA L Tryz.prog][zaA L L](W:Whole L)(B:Bodies L Tryz.prog X)(hLv:∀ w w':World,(∀ c,Lv c->w'.heap[c]?=w.heap[c]?)->Live w->Live w')(hlv:∀ w c,Live w->Lv c->c<w.heap.size)(hX:zk7 L X)(hf1:L.funcs[46]?=some Tryz.f46)(hx1:¬ X 46)(hf2:L.funcs[fr]?=some fn)(hm2:Tryz.prog.funcs[fr]?=some fn)(hb2:fn.body.isSome=true)(hn2:(fn.name == "runtime.NumGoroutine")=false)(hx2:¬ X fr)(hr2:zcp fn=true){f m s o i u:Int}{b4 b5:Nat}{l:List (Nat × Obj)}{fin:Nat}(h4:(b4,.cells #[.int .i64 wd,.slice ga n cap] 25)∈l)(h5:(b5,.cells #[.int .i64 f,.int .i64 m,.int .i64 s,.int .i64 o,.int .i64 i,.int .i64 u] 86)∈l)(hKc:∀ c,Kc c->K c)(hcl:∀ w,Hp l w->Closed Kc w)(hga:zaj (zeA Kc) (.slice ga n cap) (.slice ga n cap))(hfin:(fin:Int)=f+m)(hfin2:fin<=1000)(hhas:∀(k:Nat) (w:World),Calls L 46 #[.agg #[.int .i64 f,.int .i64 m,.int .i64 s,.int .i64 o,.int .i64 i,.int .i64 u],.int .i64 k] w fun e _=>e=.returned (.bool (decide (f<=k/\(k:Int)<f+m))))(hrk:∀ k:Nat,f<=k->k<fin->∀ w,Hp l w->∀ τ d,Calls L fr #[.agg #[.int .i64 wd,.slice ga n cap],.int .i64 k] (w.frz.tp τ d) fun e w'=>∃ v,e=.returned v/\Post k w v w')(hPt:∀ k w0 v w τ d,Post k w0 v w->Post k w0 v (w.tp τ d))(hPr:∀ k w0 v v' R wl w₁,Post k w0 v wl->zaj R v v'->za9 w0.heap.size R wl w₁->∃ bs,RowP k v' bs/\Hp bs w₁/\∀ p∈bs,zby w0.heap.size R p.1)(hRs:∀ k x bs,RowP k x bs->Sh x)(hsnd:∀(k:Nat) (S:Nat->Prop) (w:World) (x:Value) (bs:List (Nat × Obj)),f<=k->k<fin->RowP k x bs->Hp bs w->(∀ p∈bs,S p.1)->Snd k S (.agg #[.int .i64 k,x]) w){c:Frame}{cs:List Frame}(hend:∀ S:Nat->Prop,zag Tryz.prog main Live Ex Stop Snd ch K l fin S (G (c.finish (.tuple #[])) cs)) :
  ∀(r k:Nat),k+r=fin->f<=k->∀(S:Nat->Prop) (u6 u7 v9 v10 v11 v12 v13 v14 v15 v16 v17 v18 v19 v20 v21 v22:Value),
   zag Tryz.prog main Live Ex Stop Snd ch K l k S (G ((base fS).at ⟨#[.agg #[.int .i64 wd,.slice ga n cap],.agg #[.int .i64 f,.int .i64 m,.int .i64 s,.int .i64 o,.int .i64 i,.int .i64 u],.func (.func fr) #[] #[],.chan (some ch),.pointer (some ⟨b4,0,none⟩),.pointer (some ⟨b5,0,none⟩),u6,u7,.int .i64 k,v9,v10,v11,v12,v13,v14,v15,v16,v17,v18,v19,v20,v21,v22],[]⟩ [.code (zeg bS),.inLoop (zeg bS),.inBlock 0]) (c::cs)):=by
 have hC:=I.hC
 have hR:=I.hR
 have hS:=I.hS
 have I0:=I
 cases I
 all_goals
  intro r
  induction r with
  | zero =>
   intro k hk hfk S u6 u7 v9 v10 v11 v12 v13 v14 v15 v16 v17 v18 v19 v20 v21 v22
   have hk_has:∀ w,Calls L 46 #[.agg #[.int .i64 f,.int .i64 m,.int .i64 s,.int .i64 o,.int .i64 i,.int .i64 u],.int .i64 k] w fun e _=>e=.returned (.bool false):=fun w=>by
    have:=hhas k w
    rw[decide_eq_false qg] at this
    exact this
   simp only[zeg,Tryz.f86,Tryz.f65]
   refine zag.sq ?_
   refine zag.sq ?_
   refine zag.rg ?_
   simp only[rgs,Nat.reduceAdd]
   refine zag.val rfl rfl qi (v:=.agg #[.int .i64 f,.int .i64 m,.int .i64 s,.int .i64 o,.int .i64 i,.int .i64 u]) (fun w hp=>?_) (fun hl w hp e he=>?_) ?_
   ·have c0:=hp.cell h5 0 rfl
    have c1:=hp.cell h5 1 rfl
    have c2:=hp.cell h5 2 rfl
    have c3:=hp.cell h5 3 rfl
    have c4:=hp.cell h5 4 rfl
    have c5:=hp.cell h5 5 rfl
    go_simp
   ·have c0:=hp.cell h5 0 rfl
    have c1:=hp.cell h5 1 rfl
    have c2:=hp.cell h5 2 rfl
    have c3:=hp.cell h5 3 rfl
    have c4:=hp.cell h5 4 rfl
    have c5:=hp.cell h5 5 rfl
    simp[go_sem, *] at he
    rcases he with rfl|rfl|rfl|rfl|rfl|rfl
    all_goals exact zaG hl h5 _
   walk_nrm
   refine zag.va (v:=.int .i64 k) ?_
   walk_nrm
   refine zag.enter rfl rfl qi (fun w=>run_call_body rfl func46 rfl rfl) (fun w=>events_call_body rfl func46 rfl rfl _) ?_
   walk_nrm
   refine zag.callv (Kc:=fun _=>False) W B hLv hlv hX hf1 rfl hx1 qh (v0:=.bool false) (fun _ _ h=>zcr h) (fun _ h=>h.elim) (fun _ _ _ h=>h.elim) (zkR _ _ _ _ _ _ _) (fun w _ τ d=>hk_has _) fun S1=>?_
   simp only[Frame.finish_at]
   walk_nrm
   refine zag.re ?_
   refine zag.ctl rfl (fun _=>stepG_cond (t:=false) rfl) ?_
   simp only[Bool.false_eq_true,↓reduceIte]
   refine zag.ctl rfl (fun _=>stepG_exit rfl) ?_
   refine zag.ctl rfl (fun _=>stepG_end) ?_
   refine zag.ctl rfl (fun w=>stepG_leave rfl rfl hS (results_none rfl _ _ w) (events_results_none rfl _ _)) ?_
   obtain rfl:k=fin:=qg
   exact hend _
  | succ r ih =>
   intro k hk hfk S u6 u7 v9 v10 v11 v12 v13 v14 v15 v16 v17 v18 v19 v20 v21 v22
   have hk_has:∀ w,Calls L 46 #[.agg #[.int .i64 f,.int .i64 m,.int .i64 s,.int .i64 o,.int .i64 i,.int .i64 u],.int .i64 k] w fun e _=>e=.returned (.bool true):=fun w=>by
    have:=hhas k w
    rw[decide_eq_true qg] at this
    exact this
   have hw1:IntKind.i64.wrap ((k:Int)+1)=((k+1:Nat):Int):=by rw[IntKind.wrap_i64];omega
   simp only[zeg,Tryz.f86,Tryz.f65]
   refine zag.sq ?_
   refine zag.sq ?_
   refine zag.rg ?_
   simp only[rgs,Nat.reduceAdd]
   refine zag.val rfl rfl qi (v:=.agg #[.int .i64 f,.int .i64 m,.int .i64 s,.int .i64 o,.int .i64 i,.int .i64 u]) (fun w hp=>?_) (fun hl w hp e he=>?_) ?_
   ·have c0:=hp.cell h5 0 rfl
    have c1:=hp.cell h5 1 rfl
    have c2:=hp.cell h5 2 rfl
    have c3:=hp.cell h5 3 rfl
    have c4:=hp.cell h5 4 rfl
    have c5:=hp.cell h5 5 rfl
    go_simp
   ·have c0:=hp.cell h5 0 rfl
    have c1:=hp.cell h5 1 rfl
    have c2:=hp.cell h5 2 rfl
    have c3:=hp.cell h5 3 rfl
    have c4:=hp.cell h5 4 rfl
    have c5:=hp.cell h5 5 rfl
    simp[go_sem, *] at he
    rcases he with rfl|rfl|rfl|rfl|rfl|rfl
    all_goals exact zaG hl h5 _
   walk_nrm
   refine zag.va (v:=.int .i64 k) ?_
   walk_nrm
   refine zag.enter rfl rfl qi (fun w=>run_call_body rfl func46 rfl rfl) (fun w=>events_call_body rfl func46 rfl rfl _) ?_
   walk_nrm
   refine zag.callv (Kc:=fun _=>False) W B hLv hlv hX hf1 rfl hx1 qh (v0:=.bool true) (fun _ _ h=>zcr h) (fun _ h=>h.elim) (fun _ _ _ h=>h.elim) (zkR _ _ _ _ _ _ _) (fun w _ τ d=>hk_has _) fun S1=>?_
   simp only[Frame.finish_at]
   walk_nrm
   refine zag.re ?_
   refine zag.ctl rfl (fun _=>stepG_cond (t:=true) rfl) ?_
   simp only[↓reduceIte]
   refine zag.ctl rfl (fun _=>stepG_skip) ?_
   refine zag.sq ?_
   refine zag.ctl rfl (fun _=>stepG_block) ?_
   refine zag.rg ?_
   simp only[rgs,Nat.reduceAdd]
   refine zag.va (v:=.chan (some ch)) ?_
   walk_nrm
   refine zag.va (v:=.int .i64 k) ?_
   walk_nrm
   refine zag.va (v:=.func (.func fr) #[] #[]) ?_
   walk_nrm
   refine zag.val rfl rfl qi (v:=.agg #[.int .i64 wd,.slice ga n cap]) (fun w hp=>?_) (fun hl w hp e he=>?_) ?_
   ·have c0:=hp.cell h4 0 rfl
    have c1:=hp.cell h4 1 rfl
    go_simp
   ·have c0:=hp.cell h4 0 rfl
    have c1:=hp.cell h4 1 rfl
    simp[go_sem, *] at he
    rcases he with rfl|rfl
    all_goals exact zaG hl h4 _
   walk_nrm
   refine zag.va (v:=.int .i64 k) ?_
   walk_nrm
   refine zag.enter rfl rfl qi (fun w=>znQ rfl rfl hm2 hn2 hb2) (fun w=>zhZ rfl rfl hm2 hn2 hb2 _) ?_
   walk_nrm
   refine zag.callb W B hLv hlv hX hf2 hb2 hx2 hr2 (hPt k) hKc hcl (zpa _ hga _) (hrk k hfk qg) (hPr k) fun S2 x bs hrow hnew hlo=>?_
   have hsh:=hRs k x bs hrow
   obtain⟨y,hy⟩:∃ y,y=x:=⟨_,rfl⟩
   have hrow':=hrow
   rw[<- hy] at hrow'
   obtain⟨xa,xn,xc,rfl⟩:=hsh
   simp only[Frame.finish_at]
   walk_nrm
   refine zag.val rfl rfl qi (v:=.agg #[.int .i64 k,y]) (fun w hp=>by subst hy;go_simp) (fun _ w hp e he=>by simp[go_sem] at he) ?_
   walk_nrm
   refine zag.send (l':=l) rfl rfl rfl qi (v:=.agg #[.int .i64 k,y]) (z:=.tuple #[]) (fun w=>qo) (fun w=>qj) (fun c=>((S c\/S1 c)\/S2 c)/\¬ ∃ p∈bs,p.1=c) (fun _ h=>h.1) (fun w hp=>hsnd k _ w _ bs hfk qg hrow' (fun p h=>hp p (List.mem_append_left _ h)) (fun p h=>⟨.inr (hnew p h).1,fun q=>q.2 ⟨p,h,rfl⟩⟩)) ?_ ?_
   ·exact fun _ p h=>⟨List.mem_append_right _ h,(hlo p h).imp id fun q=>⟨.inl q,fun ⟨p',h',e⟩=>(hnew p' h').2.2 (e ▸ q)⟩⟩
   refine zag.re ?_
   refine zag.ctl rfl (fun _=>stepG_inBlock) ?_
   refine zag.rg ?_
   simp only[rgs,Nat.reduceAdd]
   refine zag.va (v:=.int .i64 k) ?_
   walk_nrm
   refine zag.va (v:=.int .i64 ((k+1:Nat):Int)) ?_
   walk_nrm
   refine zag.va (v:=.int .i64 ((k+1:Nat):Int)) ?_
   walk_nrm
   refine zag.re ?_
   refine zag.ctl rfl (fun _=>stepG_inLoop) ?_
   exact ih (k+1) qg qg _ _ _ _ _ _ _ _ _ _ _ _ _ _ _ _ _
end
def zcd(fC:Nat)(Wg bg bs br bc:Nat):Deferred:={ target:=.fn (.func fC) #[.pointer (some ⟨Wg,0,none⟩),.pointer (some ⟨bg,0,none⟩),.pointer (some ⟨bs,0,none⟩),.pointer (some ⟨br,0,none⟩),.pointer (some ⟨bc,0,none⟩)],args:=#[] }
theorem zlb(I:Ins fC fR fS tC tW tF tE tL bC bR bS z Sh)(Wg bg bs br bc:Nat)(w:World):stepG Tryz.prog false (born Tryz.prog (zcd fC Wg bg bs br bc)) w =
  .go (G ((baseD fC).at ⟨#[.pointer (some ⟨Wg,0,none⟩),.pointer (some ⟨bg,0,none⟩),.pointer (some ⟨bs,0,none⟩),.pointer (some ⟨br,0,none⟩),.pointer (some ⟨bc,0,none⟩),undef,undef,undef,undef,undef],[]⟩ [.code (bC.body.getD .skip)]) [bot]) w #[]:=by
 have hC:=I.hC
 cases I <;> simp[born,zcd,stepG,unwind,callDeferred,invoke,callFunc,hC,Tryz.f85,Tryz.f63,seen,GStep.after,G,Frame.enter,Frame.at,baseD,bot]
theorem zjE(I:Ins fC fR fS tC tW tF tE tL bC bR bS z Sh)(T:Array Value):QuitsD Tryz.prog 2 0 (G { (baseD fC).at ⟨T,[]⟩ [] with mode:=.returning } [bot]):=by
 have hC:=I.hC
 have hR:=I.hR
 have hS:=I.hS
 have I0:=I
 cases I
 all_goals
  refine QuitsD.ctl (g':=G bot []) rfl (fun w=>?_) ?_
  ·simp[G,stepG,unwind,doReturn,results,Frame.at,baseD,bot,hC,Tryz.f85,Tryz.f63,seen,GStep.after,goexitEntry]
  refine QuitsD.ctl (g':={ G bot [] with status:=.finished }) rfl (fun w=>?_) ⟨rfl,rfl⟩
  simp[G,stepG,unwind,bot,goexitEntry,Frame.catches]
  rfl
section
variable[Payload]{L:Program}{Snd:Nat->(Nat->Prop)->Value->World->Prop}{Wg ch:Nat}{K S:Nat->Prop}
theorem zlf(I:Ins fC fR fS tC tW tF tE tL bC bR bS z Sh)[T:zaA L Tryz.prog][zaA L L](W:Whole L)(B:Bodies L Tryz.prog X)(hX:zk7 L X)(hf1:L.funcs[46]?=some Tryz.f46)(hx1:¬ X 46)(hf2:L.funcs[fr]?=some fn)(hm2:Tryz.prog.funcs[fr]?=some fn)(hb2:fn.body.isSome=true)(hn2:(fn.name == "runtime.NumGoroutine")=false)(hx2:¬ X fr)(hr2:zcp fn=true){fst:Nat}{m s o i u:Int}{bg bs br bc:Nat}{l:List (Nat × Obj)}{fin:Nat}(hg:(bg,.cells #[.int .i64 wd,.slice ga n cap] 25)∈l)(hs:(bs,.cells #[.int .i64 fst,.int .i64 m,.int .i64 s,.int .i64 o,.int .i64 i,.int .i64 u] 86)∈l)(hr:(br,.cells #[.func (.func fr) #[] #[]] tF)∈l)(hc:(bc,.cells #[.chan (some ch)] tC)∈l)(hKc:∀ c,Kc c->K c)(hcl:∀ w,Hp l w->Closed Kc w)(hga:zaj (zeA Kc) (.slice ga n cap) (.slice ga n cap))(hfin:(fin:Int)=fst+m)(hm:0<=m)(hfin2:fin<=1000)(hhas:∀(k:Nat) (w:World),Calls L 46 #[.agg #[.int .i64 fst,.int .i64 m,.int .i64 s,.int .i64 o,.int .i64 i,.int .i64 u],.int .i64 k] w fun e _=>e=.returned (.bool (decide ((fst:Int)<=k/\(k:Int)<fst+m))))(hrk:∀ k:Nat,fst<=k->k<fin->∀ w,Hp l w->∀ τ d,Calls L fr #[.agg #[.int .i64 wd,.slice ga n cap],.int .i64 k] (w.frz.tp τ d) fun e w'=>∃ v,e=.returned v/\Post k w v w')(hPt:∀ k w0 v w τ d,Post k w0 v w->Post k w0 v (w.tp τ d))(hPr:∀ k w0 v v' R wl w₁,Post k w0 v wl->zaj R v v'->za9 w0.heap.size R wl w₁->∃ bs,RowP k v' bs/\Hp bs w₁/\∀ p∈bs,zby w0.heap.size R p.1)(hRs:∀ k x bs,RowP k x bs->Sh x)(hsnd:∀(k:Nat) (S:Nat->Prop) (w:World) (x:Value) (bs:List (Nat × Obj)),fst<=k->k<fin->RowP k x bs->Hp bs w->(∀ p∈bs,S p.1)->Snd k S (.agg #[.int .i64 k,x]) w) :
  zag Tryz.prog false (zak 119 Wg ch) (ExE Wg false) (zk3 Tryz.prog 119 Wg K fin) Snd ch K l fst S (born Tryz.prog (zcd fC Wg bg bs br bc)):=by
 have hC:=I.hC
 have hR:=I.hR
 have hS:=I.hS
 have I0:=I
 cases I
 all_goals
  have hLa:∀(w:World) (o:Obj),zak 119 Wg ch w->zak 119 Wg ch (w.alloc o):=zak.alloc
  refine zag.ctl rfl (fun w=>zlb I0 Wg bg bs br bc w) ?_
  simp only[Tryz.f85,Tryz.f63,Option.getD_some]
  refine zag.sq ?_
  refine zag.rg ?_
  simp only[rgs]
  refine zag.ctl rfl (fun _=>stepG_defer rfl rfl qi rfl) ?_
  walk_nrm
  refine zag.re ?_
  refine zag.rg ?_
  simp only[rgs,Nat.reduceAdd]
  refine zag.val rfl rfl qi (v:=.agg #[.int .i64 wd,.slice ga n cap]) (fun w hp=>?_) (fun hl w hp e he=>?_) ?_
  ·have c0:=hp.cell hg 0 rfl
   have c1:=hp.cell hg 1 rfl
   go_simp
  ·have c0:=hp.cell hg 0 rfl
   have c1:=hp.cell hg 1 rfl
   simp[go_sem, *] at he
   rcases he with rfl|rfl
   all_goals exact zaG hl hg _
  walk_nrm
  refine zag.val rfl rfl qi (v:=.agg #[.int .i64 fst,.int .i64 m,.int .i64 s,.int .i64 o,.int .i64 i,.int .i64 u]) (fun w hp=>?_) (fun hl w hp e he=>?_) ?_
  ·have c0:=hp.cell hs 0 rfl
   have c1:=hp.cell hs 1 rfl
   have c2:=hp.cell hs 2 rfl
   have c3:=hp.cell hs 3 rfl
   have c4:=hp.cell hs 4 rfl
   have c5:=hp.cell hs 5 rfl
   go_simp
  ·have c0:=hp.cell hs 0 rfl
   have c1:=hp.cell hs 1 rfl
   have c2:=hp.cell hs 2 rfl
   have c3:=hp.cell hs 3 rfl
   have c4:=hp.cell hs 4 rfl
   have c5:=hp.cell hs 5 rfl
   simp[go_sem, *] at he
   rcases he with rfl|rfl|rfl|rfl|rfl|rfl
   all_goals exact zaG hl hs _
  walk_nrm
  refine zag.val rfl rfl qi (v:=.func (.func fr) #[] #[]) (fun w hp=>?_) (fun hl w hp e he=>?_) ?_
  ·have c0:=hp.cell hr 0 rfl
   go_simp
  ·have c0:=hp.cell hr 0 rfl
   simp[go_sem, *] at he
   subst he
   exact zaG hl hr _
  walk_nrm
  refine zag.val rfl rfl qi (v:=.chan (some ch)) (fun w hp=>?_) (fun hl w hp e he=>?_) ?_
  ·have c0:=hp.cell hc 0 rfl
   go_simp
  ·have c0:=hp.cell hc 0 rfl
   simp[go_sem, *] at he
   subst he
   exact zaG hl hc _
  walk_nrm
  refine zag.enter rfl rfl qi (fun w=>run_call_body rfl hS rfl rfl) (fun w=>events_call_body rfl hS rfl rfl _) ?_
  rw[enter_at _ hS rfl]
  simp only[Tryz.f86,Tryz.f65]
  walk_nrm
  refine zag.sq ?_
  refine zag.rg ?_
  simp only[rgs,Nat.reduceAdd]
  refine zag.new hLa rfl rfl qi (V:=fun c=>.pointer (some ⟨c,0,none⟩)) (obj:=.cells #[.int .i64 wd,.slice ga n cap] 25) (fun w hp=>qo) (fun _ w hp e he=>by simp[go_sem] at he) fun b4 hK_b4 hS_b4=>?_
  walk_nrm
  refine zag.new hLa rfl rfl qi (V:=fun c=>.pointer (some ⟨c,0,none⟩)) (obj:=.cells #[.int .i64 fst,.int .i64 m,.int .i64 s,.int .i64 o,.int .i64 i,.int .i64 u] 86) (fun w hp=>qo) (fun _ w hp e he=>by simp[go_sem] at he) fun b5 hK_b5 hS_b5=>?_
  walk_nrm
  refine zag.re ?_
  refine zag.sq ?_
  refine zag.rg ?_
  simp only[rgs,Nat.reduceAdd]
  refine zag.va (v:=.pointer (some ⟨b5,0,none⟩)) ?_
  walk_nrm
  refine zag.val rfl rfl qi (v:=.int .i64 fst) (fun w hp=>?_) (fun hl w hp e he=>?_) ?_
  ·have c0:=hp.cell mcs 0 rfl
   go_simp
  ·have c0:=hp.cell mcs 0 rfl
   simp[go_sem, *] at he
   subst he
   exact zaG hl mcs _
  walk_nrm
  refine zag.va (v:=.int .i64 fst) ?_
  walk_nrm
  refine zag.re ?_
  refine zag.ctl rfl (fun _=>stepG_block) ?_
  refine zag.ctl rfl (fun _=>stepG_loop) ?_
  refine zlQ I0 (Lv:=LvW Wg ch) (f:=(fst:Int)) W B zak.keep zak.low hX hf1 hx1 hf2 hm2 hb2 hn2 hx2 hr2 qk qk hKc (fun w hp=>hcl w fun p h=>hp p (by simp[h])) hga hfin hfin2 hhas (fun k h1 h2 w hp=>hrk k qg h2 w fun p h=>hp p (by simp[h])) hPt hPr hRs (fun k S w x bs h1 h2=>hsnd k S w x bs qg h2) ?_ (fin - fst) fst qg qg _ _ _ _ _ _ _ _ _ _ _ _ _ _ _ _ _
  intro S2
  simp only[Frame.finish_at]
  walk_nrm
  refine zag.re ?_
  refine zag.ctl rfl (fun _=>stepG_end) ?_
  refine zag.ctl rfl (fun _=>stepG_unwind_enter rfl func64 rfl rfl) ?_
  walk_nrmf Tryz.f64
  intro hl w hp hL hlt
  exact zoX zqk (C:=bs) (v:=.int .i64 fst) (hl _ (mcm (mcm hs))) rfl (zjE I0 _) w hL (hp.cell (mcm (mcm hs)) 0 rfl)
