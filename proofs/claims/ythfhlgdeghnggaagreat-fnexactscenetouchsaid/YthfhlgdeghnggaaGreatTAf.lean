/- Part. -/
import Derived.Test.YthfhlgdeghnggaaGreatChecked
import Derived.WalkKit
import Derived.WalkLawsBesides
import Derived.Conc.WgLib
import Derived.Test.YthfhlgdeghnggaaGreatTAe
set_option maxHeartbeats 4000000
namespace Go.Proofs.YthfhlgdeghnggaaGreat
variable{fn:Func}{fr:FuncId}{X:FuncId->Prop}{wd:Int}{cap:Nat}{rows:Nat->Int}{Kc:Nat->Prop}{ga:Option Addr}{ty:TypeId}{v x:Value}
section
open Go Go.Conc Go.ConcN Go.RowKit Go.Conc.Lib Go.ConcR.Gen Go.ConcN.Gen
noncomputable abbrev zfi:Code:=match Tryz.f99.body with|some (.seq _ (.seq _ (.block _ (.loop c))))=>c|_=>.skip
theorem zbw{R:BR}{b:Bool}(h:zao R (.bool b) v):v=.bool b:=by cases h;rfl
theorem zci{R:BR}{k:IntKind}{n:Int}(h:zao R (.int k n) v):v=.int k n:=by cases h;rfl
theorem zk6{R:BR}{y:Value}(hx:zao R x x)(hy:zao R y y):zaz R #[x,y] #[x,y]:=by
 refine⟨rfl,fun i h h'=>?_⟩
 match i,h with
 | 0,_=>exact hx
 | 1,_=>exact hy
theorem zfj{R:BR}(f m s o i u k:Int):zaz R #[.agg #[.int .i64 f,.int .i64 m,.int .i64 s,.int .i64 o,.int .i64 i,.int .i64 u],.int .i64 k] #[.agg #[.int .i64 f,.int .i64 m,.int .i64 s,.int .i64 o,.int .i64 i,.int .i64 u],.int .i64 k]:=by
 refine zk6 (.agg rfl fun j h h'=>?_) (.int _ _)
 match j,h with
 | 0,_=>exact .int _ _
 | 1,_=>exact .int _ _
 | 2,_=>exact .int _ _
 | 3,_=>exact .int _ _
 | 4,_=>exact .int _ _
 | 5,_=>exact .int _ _
theorem zkL{R:BR}(wd:Int)(hx:zao R x x)(k:Int):zaz R #[.agg #[.int .i64 wd,x],.int .i64 k] #[.agg #[.int .i64 wd,x],.int .i64 k]:=by
 refine zk6 (.agg rfl fun j h h'=>?_) (.int _ _)
 match j,h with
 | 0,_=>exact .int _ _
 | 1,_=>exact hx
section
variable{L:Program}{main:Bool}{Live:World->Prop}{Ex:Event->Prop}{Stop:Nat->(Nat->Prop)->Goroutine->World->Prop}{Snd:Nat->(Nat->Prop)->Value->World->Prop}{ch:Nat}{K:Nat->Prop}
set_option maxRecDepth 100000 in
theorem zor[T:zaB L Tryz.prog][zaB L L](W:Whole L)(B:Bodies L Tryz.prog X){Lv:Nat->Prop}(hLv:∀ w w':World,(∀ c,Lv c->w'.heap[c]?=w.heap[c]?)->Live w->Live w')(hlv:∀ w c,Live w->Lv c->c<w.heap.size)(hX:zji L X)(hf1:L.funcs[115]?=some Tryz.f115)(hx1:¬ X 115)(hf2:L.funcs[fr]?=some fn)(hm2:Tryz.prog.funcs[fr]?=some fn)(hb2:fn.body.isSome=true)(hn2:(fn.name == "runtime.NumGoroutine")=false)(hx2:¬ X fr)(hr2:zbM fn=true){n:Nat}{f m s o i u:Int}{b4 b5:Nat}{l:List (Nat × Obj)}{fin:Nat}(h4:(b4,.cells #[.int .i64 wd,.slice ga n cap] 33)∈l)(h5:(b5,.cells #[.int .i64 f,.int .i64 m,.int .i64 s,.int .i64 o,.int .i64 i,.int .i64 u] 136)∈l)(hKc:∀ c,Kc c->K c)(hcl:∀ w,Hp l w->Closed Kc w)(hga:zao (zcu Kc) (.slice ga n cap) (.slice ga n cap))(hfin:(fin:Int)=f+m)(hfin2:fin<=1000)(hhas:∀(k:Nat) (w:World),Calls L 115 #[.agg #[.int .i64 f,.int .i64 m,.int .i64 s,.int .i64 o,.int .i64 i,.int .i64 u],.int .i64 k] w fun e _=>e=.returned (.bool (decide (f<=k/\(k:Int)<f+m))))(hrk:∀ k:Nat,f<=k->k<fin->∀ w,Hp l w->∀ τ d,Calls L fr #[.agg #[.int .i64 wd,.slice ga n cap],.int .i64 k] (w.frz.tp τ d) fun e _=>e=.returned (.int .i64 (rows k)))(hsnd:∀(k:Nat) (S:Nat->Prop) (w:World),f<=k->k<fin->(∀ c,¬ S c)->Snd k S (.agg #[.int .i64 k,.int .i64 (rows k)]) w){c:Frame}{cs:List Frame}(hend:∀ S:Nat->Prop,zag Tryz.prog main Live Ex Stop Snd ch K l fin S (G (c.finish (.tuple #[])) cs)) :
  ∀(r k:Nat),k+r=fin->f<=k->∀(S:Nat->Prop) (u6 u7 v9 v10 v11 v12 v13 v14 v15 v16 v17 v18 v19 v20 v21 v22:Value),
   zag Tryz.prog main Live Ex Stop Snd ch K l k S (G ((base 99).at ⟨#[.agg #[.int .i64 wd,.slice ga n cap],.agg #[.int .i64 f,.int .i64 m,.int .i64 s,.int .i64 o,.int .i64 i,.int .i64 u],.func (.func fr) #[] #[],.chan (some ch),.pointer (some ⟨b4,0,none⟩),.pointer (some ⟨b5,0,none⟩),u6,u7,.int .i64 k,v9,v10,v11,v12,v13,v14,v15,v16,v17,v18,v19,v20,v21,v22],[]⟩ [.code zfi,.inLoop zfi,.inBlock 0]) (c::cs)):=by
 intro r
 induction r with
 | zero =>
  intro k hk hfk S u6 u7 v9 v10 v11 v12 v13 v14 v15 v16 v17 v18 v19 v20 v21 v22
  have hk_has:∀ w,Calls L 115 #[.agg #[.int .i64 f,.int .i64 m,.int .i64 s,.int .i64 o,.int .i64 i,.int .i64 u],.int .i64 k] w fun e _=>e=.returned (.bool false):=fun w=>by
   have:=hhas k w
   rw[decide_eq_false (by omega)] at this
   exact this
  simp only[zfi,Tryz.f99]
  refine zag.sq ?_
  refine zag.sq ?_
  refine zag.rg ?_
  simp only[List.size_toArray,List.length_cons,List.length_nil,Nat.reduceAdd,Nat.zero_add,List.range,List.range.loop]
  refine zag.val rfl rfl (by decide) (v:=.agg #[.int .i64 f,.int .i64 m,.int .i64 s,.int .i64 o,.int .i64 i,.int .i64 u]) (fun w hp=>?_) (fun hl w hp e he=>?_) ?_
  ·have c0:=hp.cell h5 0 rfl
   have c1:=hp.cell h5 1 rfl
   have c2:=hp.cell h5 2 rfl
   have c3:=hp.cell h5 3 rfl
   have c4:=hp.cell h5 4 rfl
   have c5:=hp.cell h5 5 rfl
   go_simp
  ·have c0:=hp.cell h5 0 rfl
   have c1:=hp.cell h5 1 rfl
   have c2:=hp.cell h5 2 rfl
   have c3:=hp.cell h5 3 rfl
   have c4:=hp.cell h5 4 rfl
   have c5:=hp.cell h5 5 rfl
   simp[go_sem, *] at he
   rcases he with rfl|rfl|rfl|rfl|rfl|rfl
   all_goals exact zau hl h5 _
  walk_nrm
  refine zag.val rfl rfl (by decide) (v:=.int .i64 k) (fun w hp=>by go_simp) (fun _ w hp e he=>by simp[go_sem] at he) ?_
  walk_nrm
  refine zag.enter rfl rfl (by decide) (fun w=>run_call_body rfl Tryz.func115 rfl rfl) (fun w=>events_call_body rfl Tryz.func115 rfl rfl _) ?_
  walk_nrm
  refine zag.callv (Kc:=fun _=>False) W B hLv hlv hX hf1 rfl hx1 (by kernel_rfl) (v0:=.bool false) (fun _ _ h=>zbw h) (fun _ h=>h.elim) (fun _ _ _ h=>h.elim) (zfj _ _ _ _ _ _ _) (fun w _ τ d=>hk_has _) fun S1=>?_
  simp only[Frame.finish_at]
  walk_nrm
  refine zag.re ?_
  refine zag.ctl rfl (fun _=>stepG_cond (t:=false) rfl) ?_
  simp only[Bool.false_eq_true,↓reduceIte]
  refine zag.ctl rfl (fun _=>stepG_exit rfl) ?_
  refine zag.ctl rfl (fun _=>stepG_end) ?_
  refine zag.ctl rfl (fun w=>stepG_leave rfl rfl Tryz.func99 (results_none rfl _ _ w) (events_results_none rfl _ _)) ?_
  obtain rfl:k=fin:=by omega
  exact hend _
 | succ r ih =>
  intro k hk hfk S u6 u7 v9 v10 v11 v12 v13 v14 v15 v16 v17 v18 v19 v20 v21 v22
  have hk_has:∀ w,Calls L 115 #[.agg #[.int .i64 f,.int .i64 m,.int .i64 s,.int .i64 o,.int .i64 i,.int .i64 u],.int .i64 k] w fun e _=>e=.returned (.bool true):=fun w=>by
   have:=hhas k w
   rw[decide_eq_true (by omega)] at this
   exact this
  have hw1:IntKind.i64.wrap ((k:Int)+1)=((k+1:Nat):Int):=by rw[IntKind.wrap_i64];omega
  simp only[zfi,Tryz.f99]
  refine zag.sq ?_
  refine zag.sq ?_
  refine zag.rg ?_
  simp only[List.size_toArray,List.length_cons,List.length_nil,Nat.reduceAdd,Nat.zero_add,List.range,List.range.loop]
  refine zag.val rfl rfl (by decide) (v:=.agg #[.int .i64 f,.int .i64 m,.int .i64 s,.int .i64 o,.int .i64 i,.int .i64 u]) (fun w hp=>?_) (fun hl w hp e he=>?_) ?_
  ·have c0:=hp.cell h5 0 rfl
   have c1:=hp.cell h5 1 rfl
   have c2:=hp.cell h5 2 rfl
   have c3:=hp.cell h5 3 rfl
   have c4:=hp.cell h5 4 rfl
   have c5:=hp.cell h5 5 rfl
   go_simp
  ·have c0:=hp.cell h5 0 rfl
   have c1:=hp.cell h5 1 rfl
   have c2:=hp.cell h5 2 rfl
   have c3:=hp.cell h5 3 rfl
   have c4:=hp.cell h5 4 rfl
   have c5:=hp.cell h5 5 rfl
   simp[go_sem, *] at he
   rcases he with rfl|rfl|rfl|rfl|rfl|rfl
   all_goals exact zau hl h5 _
  walk_nrm
  refine zag.val rfl rfl (by decide) (v:=.int .i64 k) (fun w hp=>by go_simp) (fun _ w hp e he=>by simp[go_sem] at he) ?_
  walk_nrm
  refine zag.enter rfl rfl (by decide) (fun w=>run_call_body rfl Tryz.func115 rfl rfl) (fun w=>events_call_body rfl Tryz.func115 rfl rfl _) ?_
  walk_nrm
  refine zag.callv (Kc:=fun _=>False) W B hLv hlv hX hf1 rfl hx1 (by kernel_rfl) (v0:=.bool true) (fun _ _ h=>zbw h) (fun _ h=>h.elim) (fun _ _ _ h=>h.elim) (zfj _ _ _ _ _ _ _) (fun w _ τ d=>hk_has _) fun S1=>?_
  simp only[Frame.finish_at]
  walk_nrm
  refine zag.re ?_
  refine zag.ctl rfl (fun _=>stepG_cond (t:=true) rfl) ?_
  simp only[↓reduceIte]
  refine zag.ctl rfl (fun _=>stepG_skip) ?_
  refine zag.sq ?_
  refine zag.ctl rfl (fun _=>stepG_block) ?_
  refine zag.rg ?_
  simp only[List.size_toArray,List.length_cons,List.length_nil,Nat.reduceAdd,Nat.zero_add,List.range,List.range.loop]
  refine zag.val rfl rfl (by decide) (v:=.chan (some ch)) (fun w hp=>by go_simp) (fun _ w hp e he=>by simp[go_sem] at he) ?_
  walk_nrm
  refine zag.val rfl rfl (by decide) (v:=.int .i64 k) (fun w hp=>by go_simp) (fun _ w hp e he=>by simp[go_sem] at he) ?_
  walk_nrm
  refine zag.val rfl rfl (by decide) (v:=.func (.func fr) #[] #[]) (fun w hp=>by go_simp) (fun _ w hp e he=>by simp[go_sem] at he) ?_
  walk_nrm
  refine zag.val rfl rfl (by decide) (v:=.agg #[.int .i64 wd,.slice ga n cap]) (fun w hp=>?_) (fun hl w hp e he=>?_) ?_
  ·have c0:=hp.cell h4 0 rfl
   have c1:=hp.cell h4 1 rfl
   go_simp
  ·have c0:=hp.cell h4 0 rfl
   have c1:=hp.cell h4 1 rfl
   simp[go_sem, *] at he
   rcases he with rfl|rfl
   all_goals exact zau hl h4 _
  walk_nrm
  refine zag.val rfl rfl (by decide) (v:=.int .i64 k) (fun w hp=>by go_simp) (fun _ w hp e he=>by simp[go_sem] at he) ?_
  walk_nrm
  refine zag.enter rfl rfl (by decide) (fun w=>ziW rfl rfl hm2 hn2 hb2) (fun w=>zeN rfl rfl hm2 hn2 hb2 _) ?_
  walk_nrm
  refine zag.callv W B hLv hlv hX hf2 hb2 hx2 hr2 (v0:=.int .i64 (rows k)) (fun _ _ h=>zci h) hKc hcl (zkL _ hga _) (hrk k hfk (by omega)) fun S2=>?_
  simp only[Frame.finish_at]
  walk_nrm
  refine zag.val rfl rfl (by decide) (v:=.agg #[.int .i64 k,.int .i64 (rows k)]) (fun w hp=>by go_simp) (fun _ w hp e he=>by simp[go_sem] at he) ?_
  walk_nrm
  refine zag.send (l':=l) rfl rfl rfl (by decide) (v:=.agg #[.int .i64 k,.int .i64 (rows k)]) (z:=.tuple #[]) (fun w=>by go_simp) (fun w=>by simp[go_sem]) (fun c=>(S c\/S1 c)\/S2 c) (fun _ h=>h) (fun w _=>hsnd k _ w hfk (by omega) (fun c h=>h.2 h.1)) ?_ ?_
  ·exact fun hl p h=>⟨h,(hl p h).imp id fun x=>x⟩
  refine zag.re ?_
  refine zag.ctl rfl (fun _=>stepG_inBlock) ?_
  refine zag.rg ?_
  simp only[List.size_toArray,List.length_cons,List.length_nil,Nat.reduceAdd,Nat.zero_add,List.range,List.range.loop]
  refine zag.val rfl rfl (by decide) (v:=.int .i64 k) (fun w hp=>by go_simp) (fun _ w hp e he=>by simp[go_sem] at he) ?_
  walk_nrm
  refine zag.val rfl rfl (by decide) (v:=.int .i64 ((k+1:Nat):Int)) (fun w hp=>by go_simp) (fun _ w hp e he=>by simp[go_sem] at he) ?_
  walk_nrm
  refine zag.val rfl rfl (by decide) (v:=.int .i64 ((k+1:Nat):Int)) (fun w hp=>by go_simp) (fun _ w hp e he=>by simp[go_sem] at he) ?_
  walk_nrm
  refine zag.re ?_
  refine zag.ctl rfl (fun _=>stepG_inLoop) ?_
  exact ih (k+1) (by omega) (by omega) _ _ _ _ _ _ _ _ _ _ _ _ _ _ _ _ _
end
end
section
open Go
abbrev zoZ:Go.Conc.Lib.WgLink:={ add:=87,done:=89,wait:=91,relMerge:=102,disable:=103,enable:=104,inBubble:=105,associate:=106,fatal:=107,uOr:=108,uAdd:=109,raceRead:=110,uLoad:=111,uStore:=112,disassociate:=113,semrelease:=114,acquire:=116,isAssociated:=117,uCas:=118,raceWrite:=119,semacquire:=120,orU64:=134,addU64:=135,loadU64:=136,storeU64:=137,casU64:=138,tWgP:=162,tUP:=164,tAssoc:=166,tWg:=134,tAU:=131,tU64:=129,tUint:=170,tU32:=132,tPU32:=171,tPAU:=210,tPU64:=212,tNoCopy:=126,tANoCopy:=127,tAlign64:=128 }
theorem zjg:Go.Conc.Lib.WgLib Tryz.prog zoZ :=
 ⟨Tryz.func87,Tryz.func89,Tryz.func91,Tryz.func102,Tryz.func103,Tryz.func104,Tryz.func105,Tryz.func106,Tryz.func107,Tryz.func108,Tryz.func109,Tryz.func110,Tryz.func111,Tryz.func112,Tryz.func113,Tryz.func114,Tryz.func116,Tryz.func117,Tryz.func118,Tryz.func119,Tryz.func120,Tryz.func134,Tryz.func135,Tryz.func136,Tryz.func137,Tryz.func138,Tryz.underlying162,Tryz.runUnderlying162,Tryz.sizeOf162,Tryz.isAgg162,Tryz.zeroValue162,Tryz.underlying164,Tryz.runUnderlying164,Tryz.sizeOf164,Tryz.isAgg164,Tryz.zeroValue164,Tryz.underlying166,Tryz.runUnderlying166,Tryz.sizeOf166,Tryz.isAgg166,Tryz.zeroValue166,Tryz.underlying134,Tryz.runUnderlying134,Tryz.sizeOf134,Tryz.isAgg134,Tryz.zeroValue134,Tryz.underlying131,Tryz.runUnderlying131,Tryz.sizeOf131,Tryz.isAgg131,Tryz.zeroValue131,Tryz.underlying129,Tryz.runUnderlying129,Tryz.sizeOf129,Tryz.isAgg129,Tryz.zeroValue129,Tryz.underlying170,Tryz.runUnderlying170,Tryz.sizeOf170,Tryz.isAgg170,Tryz.zeroValue170,Tryz.underlying132,Tryz.runUnderlying132,Tryz.sizeOf132,Tryz.isAgg132,Tryz.zeroValue132,Tryz.underlying171,Tryz.runUnderlying171,Tryz.sizeOf171,Tryz.isAgg171,Tryz.zeroValue171,Tryz.underlying210,Tryz.runUnderlying210,Tryz.sizeOf210,Tryz.isAgg210,Tryz.zeroValue210,Tryz.underlying212,Tryz.runUnderlying212,Tryz.sizeOf212,Tryz.isAgg212,Tryz.zeroValue212,Tryz.underlying0,Tryz.runUnderlying0,Tryz.sizeOf0,Tryz.isAgg0,Tryz.zeroValue0,Tryz.underlying3,Tryz.runUnderlying3,Tryz.sizeOf3,Tryz.isAgg3,Tryz.zeroValue3,Tryz.underlying4,Tryz.runUnderlying4,Tryz.sizeOf4,Tryz.isAgg4,Tryz.zeroValue4,Tryz.underlying9,Tryz.runUnderlying9,Tryz.sizeOf9,Tryz.isAgg9,Tryz.zeroValue9,Tryz.underlying20,Tryz.runUnderlying20,Tryz.sizeOf20,Tryz.isAgg20,Tryz.zeroValue20,Tryz.underlying21,Tryz.runUnderlying21,Tryz.sizeOf21,Tryz.isAgg21,Tryz.zeroValue21,by kernel_rfl,by kernel_rfl⟩
end
section
open Go Go.Conc Go.ConcN Go.RowKit Go.Conc.Lib Go.ConcR.Gen Go.ConcN.Gen
open Go.ConcR (KK wgBlock WgAt stA smA rd wr mk Payload Aside2 DC0)
theorem zan.alloc{Wg ch:Nat}(w:World)(o:Obj)(h:zan ty Wg ch w):zan ty Wg ch (w.alloc o):=by
 obtain⟨⟨st,sm,hw⟩,cap,buf,s,r,tm,hc⟩:=h
 refine⟨⟨st,sm,hw.of_block ?_⟩,cap,buf,s,r,tm,?_⟩
 ·exact(za5 w o).2 _ (gei hw).1
 ·rw[(za5 w o).2 _ (gei hc).1]
  exact hc
def LvW(Wg ch:Nat)(c:Nat):Prop:=c=Wg\/c=ch
theorem zan.keep{Wg ch:Nat}(w w':World)(h:∀ c,LvW Wg ch c->w'.heap[c]?=w.heap[c]?)(hl:zan ty Wg ch w):zan ty Wg ch w':=by
 obtain⟨⟨st,sm,hw⟩,cap,buf,s,r,tm,hc⟩:=hl
 exact⟨⟨st,sm,hw.of_block (h _ (.inl rfl))⟩,cap,buf,s,r,tm,by rw[h _ (.inr rfl)];exact hc⟩
theorem zan.low{Wg ch:Nat}(w:World)(c:Nat)(hl:zan ty Wg ch w)(h:LvW Wg ch c):c<w.heap.size:=by
 obtain⟨⟨st,sm,hw⟩,cap,buf,s,r,tm,hc⟩:=hl
 rcases h with rfl|rfl
 ·exact(gei hw).1
 ·exact(gei hc).1
noncomputable def bot:Frame:={ (default:Frame) with fn:=Tryz.prog.funcs.size,defers:=[],mode:=.panicking [goexitEntry] }
def zds(Wg bg bs br bc:Nat):Deferred:={ target:=.fn (.func 98) #[.pointer (some ⟨Wg,0,none⟩),.pointer (some ⟨bg,0,none⟩),.pointer (some ⟨bs,0,none⟩),.pointer (some ⟨br,0,none⟩),.pointer (some ⟨bc,0,none⟩)],args:=#[] }
theorem zm3(Wg bg bs br bc:Nat)(w:World):stepG Tryz.prog false (born Tryz.prog (zds Wg bg bs br bc)) w =
  .go (G ((baseD 98).at ⟨#[.pointer (some ⟨Wg,0,none⟩),.pointer (some ⟨bg,0,none⟩),.pointer (some ⟨bs,0,none⟩),.pointer (some ⟨br,0,none⟩),.pointer (some ⟨bc,0,none⟩),undef,undef,undef,undef,undef],[]⟩ [.code (Tryz.f98.body.getD .skip)]) [bot]) w #[]:=by
 simp[born,zds,stepG,unwind,callDeferred,invoke,callFunc,Tryz.func98,Tryz.f98,seen,GStep.after,G,Frame.enter,Frame.at,baseD,bot]
theorem zl3(T:Array Value):QuitsD Tryz.prog 2 0 (G { (baseD 98).at ⟨T,[]⟩ [] with mode:=.returning } [bot]):=by
 refine QuitsD.ctl (g':=G bot []) rfl (fun w=>?_) ?_
 ·simp[G,stepG,unwind,doReturn,results,Frame.at,baseD,bot,Tryz.func98,Tryz.f98,seen,GStep.after,goexitEntry]
 refine QuitsD.ctl (g':={ G bot [] with status:=.finished }) rfl (fun w=>?_) ⟨rfl,rfl⟩
 simp[G,stepG,unwind,bot,goexitEntry,Frame.catches]
 rfl
section
variable[Payload]{L:Program}{Snd:Nat->(Nat->Prop)->Value->World->Prop}{Wg ch:Nat}{K S:Nat->Prop}
set_option maxRecDepth 100000 in
theorem zm9[T:zaB L Tryz.prog][zaB L L](W:Whole L)(B:Bodies L Tryz.prog X)(hX:zji L X)(hf1:L.funcs[115]?=some Tryz.f115)(hx1:¬ X 115)(hf2:L.funcs[fr]?=some fn)(hm2:Tryz.prog.funcs[fr]?=some fn)(hb2:fn.body.isSome=true)(hn2:(fn.name == "runtime.NumGoroutine")=false)(hx2:¬ X fr)(hr2:zbM fn=true){n:Nat}{fst:Nat}{m s o i u:Int}{bg bs br bc:Nat}{l:List (Nat × Obj)}{fin:Nat}(hg:(bg,.cells #[.int .i64 wd,.slice ga n cap] 33)∈l)(hs:(bs,.cells #[.int .i64 fst,.int .i64 m,.int .i64 s,.int .i64 o,.int .i64 i,.int .i64 u] 136)∈l)(hr:(br,.cells #[.func (.func fr) #[] #[]] 71)∈l)(hc:(bc,.cells #[.chan (some ch)] 156)∈l)(hKc:∀ c,Kc c->K c)(hcl:∀ w,Hp l w->Closed Kc w)(hga:zao (zcu Kc) (.slice ga n cap) (.slice ga n cap))(hfin:(fin:Int)=fst+m)(hm:0<=m)(hfin2:fin<=1000)(hhas:∀(k:Nat) (w:World),Calls L 115 #[.agg #[.int .i64 fst,.int .i64 m,.int .i64 s,.int .i64 o,.int .i64 i,.int .i64 u],.int .i64 k] w fun e _=>e=.returned (.bool (decide ((fst:Int)<=k/\(k:Int)<fst+m))))(hrk:∀ k:Nat,fst<=k->k<fin->∀ w,Hp l w->∀ τ d,Calls L fr #[.agg #[.int .i64 wd,.slice ga n cap],.int .i64 k] (w.frz.tp τ d) fun e _=>e=.returned (.int .i64 (rows k)))(hsnd:∀(k:Nat) (S:Nat->Prop) (w:World),fst<=k->k<fin->(∀ c,¬ S c)->Snd k S (.agg #[.int .i64 k,.int .i64 (rows k)]) w) :
  zag Tryz.prog false (zan 134 Wg ch) (ExE Wg false) (zjk Tryz.prog 134 Wg K fin) Snd ch K l fst S (born Tryz.prog (zds Wg bg bs br bc)):=by
 have hLa:∀(w:World) (o:Obj),zan 134 Wg ch w->zan 134 Wg ch (w.alloc o):=zan.alloc
 refine zag.ctl rfl (fun w=>zm3 Wg bg bs br bc w) ?_
 simp only[Tryz.f98,Option.getD_some]
 refine zag.sq ?_
 refine zag.rg ?_
 simp only[List.size_toArray,List.length_cons,List.length_nil,Nat.zero_add,List.range,List.range.loop]
 refine zag.ctl rfl (fun _=>stepG_defer rfl rfl (by decide) rfl) ?_
 walk_nrm
 refine zag.re ?_
 refine zag.rg ?_
 simp only[List.size_toArray,List.length_cons,List.length_nil,Nat.reduceAdd,Nat.zero_add,List.range,List.range.loop]
 refine zag.val rfl rfl (by decide) (v:=.agg #[.int .i64 wd,.slice ga n cap]) (fun w hp=>?_) (fun hl w hp e he=>?_) ?_
 ·have c0:=hp.cell hg 0 rfl
  have c1:=hp.cell hg 1 rfl
  go_simp
 ·have c0:=hp.cell hg 0 rfl
  have c1:=hp.cell hg 1 rfl
  simp[go_sem, *] at he
  rcases he with rfl|rfl
  all_goals exact zau hl hg _
 walk_nrm
 refine zag.val rfl rfl (by decide) (v:=.agg #[.int .i64 fst,.int .i64 m,.int .i64 s,.int .i64 o,.int .i64 i,.int .i64 u]) (fun w hp=>?_) (fun hl w hp e he=>?_) ?_
 ·have c0:=hp.cell hs 0 rfl
  have c1:=hp.cell hs 1 rfl
  have c2:=hp.cell hs 2 rfl
  have c3:=hp.cell hs 3 rfl
  have c4:=hp.cell hs 4 rfl
  have c5:=hp.cell hs 5 rfl
  go_simp
 ·have c0:=hp.cell hs 0 rfl
  have c1:=hp.cell hs 1 rfl
  have c2:=hp.cell hs 2 rfl
  have c3:=hp.cell hs 3 rfl
  have c4:=hp.cell hs 4 rfl
  have c5:=hp.cell hs 5 rfl
  simp[go_sem, *] at he
  rcases he with rfl|rfl|rfl|rfl|rfl|rfl
  all_goals exact zau hl hs _
 walk_nrm
 refine zag.val rfl rfl (by decide) (v:=.func (.func fr) #[] #[]) (fun w hp=>?_) (fun hl w hp e he=>?_) ?_
 ·have c0:=hp.cell hr 0 rfl
  go_simp
 ·have c0:=hp.cell hr 0 rfl
  simp[go_sem, *] at he
  subst he
  exact zau hl hr _
 walk_nrm
 refine zag.val rfl rfl (by decide) (v:=.chan (some ch)) (fun w hp=>?_) (fun hl w hp e he=>?_) ?_
 ·have c0:=hp.cell hc 0 rfl
  go_simp
 ·have c0:=hp.cell hc 0 rfl
  simp[go_sem, *] at he
  subst he
  exact zau hl hc _
 walk_nrm
 refine zag.enter rfl rfl (by decide) (fun w=>run_call_body rfl Tryz.func99 rfl rfl) (fun w=>events_call_body rfl Tryz.func99 rfl rfl _) ?_
 rw[enter_at _ Tryz.func99 rfl]
 walk_nrmf Tryz.f99
 refine zag.sq ?_
 refine zag.rg ?_
 simp only[List.size_toArray,List.length_cons,List.length_nil,Nat.reduceAdd,Nat.zero_add,List.range,List.range.loop]
 refine zag.new hLa rfl rfl (by decide) (V:=fun c=>.pointer (some ⟨c,0,none⟩)) (obj:=.cells #[.int .i64 wd,.slice ga n cap] 33) (fun w hp=>by go_simp) (fun _ w hp e he=>by simp[go_sem] at he) fun b4 hK_b4 hS_b4=>?_
 walk_nrm
 refine zag.new hLa rfl rfl (by decide) (V:=fun c=>.pointer (some ⟨c,0,none⟩)) (obj:=.cells #[.int .i64 fst,.int .i64 m,.int .i64 s,.int .i64 o,.int .i64 i,.int .i64 u] 136) (fun w hp=>by go_simp) (fun _ w hp e he=>by simp[go_sem] at he) fun b5 hK_b5 hS_b5=>?_
 walk_nrm
 refine zag.re ?_
 refine zag.sq ?_
 refine zag.rg ?_
 simp only[List.size_toArray,List.length_cons,List.length_nil,Nat.reduceAdd,Nat.zero_add,List.range,List.range.loop]
 refine zag.val rfl rfl (by decide) (v:=.pointer (some ⟨b5,0,none⟩)) (fun w hp=>by go_simp) (fun _ w hp e he=>by simp[go_sem] at he) ?_
 walk_nrm
 refine zag.val rfl rfl (by decide) (v:=.int .i64 fst) (fun w hp=>?_) (fun hl w hp e he=>?_) ?_
 ·have c0:=hp.cell mcs 0 rfl
  go_simp
 ·have c0:=hp.cell mcs 0 rfl
  simp[go_sem, *] at he
  subst he
  exact zau hl mcs _
 walk_nrm
 refine zag.val rfl rfl (by decide) (v:=.int .i64 fst) (fun w hp=>by go_simp) (fun _ w hp e he=>by simp[go_sem] at he) ?_
 walk_nrm
 refine zag.re ?_
 refine zag.ctl rfl (fun _=>stepG_block) ?_
 refine zag.ctl rfl (fun _=>stepG_loop) ?_
 refine zor (Lv:=LvW Wg ch) (f:=(fst:Int)) W B zan.keep zan.low hX hf1 hx1 hf2 hm2 hb2 hn2 hx2 hr2 (by simp) (by simp) hKc (fun w hp=>hcl w fun p h=>hp p (by simp[h])) hga hfin hfin2 hhas (fun k h1 h2 w hp=>hrk k (by omega) h2 w fun p h=>hp p (by simp[h])) (fun k S w h1 h2=>hsnd k S w (by omega) h2) ?_ (fin - fst) fst (by omega) (by omega) _ _ _ _ _ _ _ _ _ _ _ _ _ _ _ _ _
 intro S2
 simp only[Frame.finish_at]
 walk_nrm
 refine zag.re ?_
 refine zag.ctl rfl (fun _=>stepG_end) ?_
 refine zag.ctl rfl (fun _=>stepG_unwind_enter rfl Tryz.func89 rfl rfl) ?_
 walk_nrmf Tryz.f89
 intro hl w hp hL hlt
 exact zkF zjg (C:=bs) (v:=.int .i64 fst) (hl _ (mcm (mcm hs))) rfl (zl3 _) w hL (hp.cell (mcm (mcm hs)) 0 rfl)
end
noncomputable abbrev zsM:Code:=match Tryz.f84.body with|some (.seq _ (.seq _ (.seq _ (.seq _ (.seq _ (.seq (.seq _ (.block _ (.loop c))) _))))))=>c|_=>.skip
noncomputable abbrev zgV:Code:=match Tryz.f84.body with|some (.seq _ (.seq _ (.seq _ (.seq _ (.seq _ (.seq (.seq _ (.block _ (.loop _))) c))))))=>c|_=>.skip
noncomputable abbrev zo5(gV rV sV:Value)(many i:Int)(bg br bc Wg ch:Nat)(c:Frame)(cs:List Frame)(v9 v22 v23 v24 v25 v26:Value):Goroutine:=G ((base 84).at ⟨#[gV,rV,.pointer (some ⟨bg,0,none⟩),.pointer (some ⟨br,0,none⟩),.slice none 0 0,.int .i64 many,.pointer (some ⟨bc,0,none⟩),.pointer (some ⟨Wg,0,none⟩),undef,v9,undef,undef,gV,.bool true,.bool false,gV,.int .i64 many,.int .i64 many,.chan (some ch),gV,sV,.int .i64 i,v22,v23,v24,v25,v26,undef,undef,undef,undef,undef,undef,undef,undef,undef,undef,undef,undef,undef,undef,undef],[]⟩ [.code zsM,.inLoop zsM,.inBlock 0,.code zgV]) (c::cs)
theorem zd3:(Tryz.prog.info? 136).map (·.size)=some 6:=by kernel_rfl
theorem zan.aside{Wg ch c:Nat}(hc:¬ LvW Wg ch c)(w w':World)(h:∀ d,d≠c->w'.heap[d]?=w.heap[d]?)(hl:zan ty Wg ch w):zan ty Wg ch w' :=
 zan.keep w w' (fun d hd=>h d (by rintro rfl;exact hc hd)) hl
section
variable[Payload]{Snd:Nat->(Nat->Prop)->Value->World->Prop}{Wg ch:Nat}{fst fin:Nat->Nat}{B:Nat->Prop}{Q:World->Prop}{l:List (Nat × Obj)}{gV rV:Value}{many:Int}{bg br bc:Nat}{c:Frame}{cs:List Frame}{sV:Value}{i i' y0 y1 y2 y3 y4 y5:Int}{St1:(Nat->Prop)->St}{jn:Nat}
set_option maxRecDepth 100000 in
theorem zhM(hQ:zhd B Q)(hi:decide (i<4)=true)(hi':IntKind.i64.wrap (i+1)=i')(hix:∀ w,Sem.run Tryz.prog (Instr.index 137 sV (.int .i64 i)) w=.ok (.agg #[.int .i64 y0,.int .i64 y1,.int .i64 y2,.int .i64 y3,.int .i64 y4,.int .i64 y5]) w)(hie:∀ w es,Sem.events Tryz.prog (Instr.index 137 sV (.int .i64 i)) w es=es)(hchild:∀(K:Nat->Prop) (bs:Nat) (l':List (Nat × Obj)),(bs,.cells #[.int .i64 y0,.int .i64 y1,.int .i64 y2,.int .i64 y3,.int .i64 y4,.int .i64 y5] 136)∈l'->(∀ p∈l,p∈l')->(∀ p∈l',K p.1)->∀ w,Hp l' w->zan 134 Wg ch w->(∀ c,K c->c<w.heap.size)->∃ rc,Sit Tryz.prog 134 Wg ch Snd K (fun _=>False) (fst jn) (fin jn) ⟨7,0,0⟩ rc (born Tryz.prog (zds Wg bg bs br bc)) w)(hnext:∀(K':Nat->Prop) (v9 v22 v23 v24 v25 v26:Value),(∀ c,B c->K' c)->(∀ c,K' c->¬ LvW Wg ch c)->zaE Tryz.prog true (zan 134 Wg ch) (ExE Wg true) (fun _ S g w=>St1 K' S g w) (fun _ _ _ _=>False) ch K' Q l 0 (fun _=>False) (zo5 gV rV sV many i' bg br bc Wg ch c cs v9 v22 v23 v24 v25 v26)){K S:Nat->Prop}(hBK:∀ c,B c->K c)(hKL:∀ c,K c\/S c->¬ LvW Wg ch c)(v9 v22 v23 v24 v25 v26:Value):zaE Tryz.prog true (zan 134 Wg ch) (ExE Wg true) (fun _ S g w=>zhf Tryz.prog 134 Wg ch Snd fst fin K jn (fun K S g w=>WX Tryz.prog 134 Wg ch K (St1 K) S g w) S g w) (fun _ _ _ _=>False) ch K Q l 0 S
  (zo5 gV rV sV many i bg br bc Wg ch c cs v9 v22 v23 v24 v25 v26):=by
 simp only[zo5,zsM,Tryz.f84]
 refine zaE.sq ?_
 refine zaE.rg ?_
 simp only[List.size_toArray,List.length_cons,List.length_nil,Nat.zero_add,List.range,List.range.loop]
 refine zaE.val rfl rfl (by decide) (v:=.bool true) (fun w hp=>by (have h:=hi;go_simp)) (fun _ w hp e he=>by simp[go_sem] at he) ?_
 walk_nrm
 refine zaE.re ?_
 refine zaE.sq ?_
 refine zaE.ctl rfl (fun _=>stepG_cond (t:=true) rfl) ?_
 simp only[↓reduceIte]
 refine zaE.ctl rfl (fun _=>stepG_skip) ?_
 refine zaE.sq ?_
 refine zaE.ctl rfl (fun _=>stepG_block) ?_
 refine zaE.sq ?_
 refine zaE.rg ?_
 simp only[List.size_toArray,List.length_cons,List.length_nil,Nat.reduceAdd,Nat.zero_add,List.range,List.range.loop]
 refine zaE.val rfl rfl (by decide) (v:=.agg #[.int .i64 y0,.int .i64 y1,.int .i64 y2,.int .i64 y3,.int .i64 y4,.int .i64 y5]) (fun w hp=>by (have h:=hix w;go_simp)) (fun _ w hp e he=>by simp[go_sem,hie] at he) ?_
 walk_nrm
 refine zaE.new hQ hBK zan.low zan.alloc rfl rfl (by decide) (V:=fun c=>.pointer (some ⟨c,0,none⟩)) (obj:=.cells #[.int .i64 0,.int .i64 0,.int .i64 0,.int .i64 0,.int .i64 0,.int .i64 0] 136) (fun w hp=>by go_simp) (fun _ w hp e he=>by simp[go_sem] at he) fun b9 hK_b9 hS_b9 hv_b9 hl_b9=>?_
 walk_nrm
 refine zaE.put (l':=(b9,.cells #[.int .i64 y0,.int .i64 y1,.int .i64 y2,.int .i64 y3,.int .i64 y4,.int .i64 y5] 136)::l) (c:=b9) (obj:=.cells #[.int .i64 y0,.int .i64 y1,.int .i64 y2,.int .i64 y3,.int .i64 y4,.int .i64 y5] 136) hQ hBK rfl rfl (by decide) (Or.inr rfl) (fun h=>hK_b9 (hBK b9 h)) (zan.aside hv_b9) (fun w hp=>⟨w.setRow b9 #[.int .i64 y0,.int .i64 y1,.int .i64 y2,.int .i64 y3,.int .i64 y4,.int .i64 y5],zeF (ty:=136) rfl rfl rfl (hp.at mcs) zd3 rfl (by simp[Value.oneCell']),(zas (hp.at mcs)).1,(zas (hp.at mcs)).2⟩) (fun _ w hp e he=>?_) (fun p hp=>?_) ?_
 ·obtain⟨q,rfl⟩:=zgL (cells:=#[.int .i64 y0,.int .i64 y1,.int .i64 y2,.int .i64 y3,.int .i64 y4,.int .i64 y5]) (ty:=136) rfl rfl rfl (hp.at mcs) zd3 rfl (by simp[Value.oneCell']) e he
  exact Or.inl ⟨_,_,rfl,Or.inl (Or.inr rfl)⟩
 ·rcases List.mem_cons.1 hp with rfl|hp
  ·exact Or.inl rfl
  ·exact Or.inr ⟨mcm hp,hl_b9 p hp⟩
 walk_nrm
 refine zaE.re ?_
 refine zaE.sq ?_
 refine zaE.rg ?_
 simp only[List.size_toArray,List.length_cons,List.length_nil,Nat.zero_add,List.range,List.range.loop]
 refine zaE.enter rfl rfl (by decide) (fun w=>run_call_body rfl Tryz.func87 rfl rfl) (fun w=>events_call_body rfl Tryz.func87 rfl rfl _) ?_
 rw[enter_at _ Tryz.func87 rfl]
 walk_nrmf Tryz.f87
 intro hl w hp hL hq hlt
 have hKL9:∀ d,K d\/S d\/d=b9->¬ LvW Wg ch d:=fun d hd=>by rcases hd with h|h|rfl;exact hKL d (.inl h);exact hKL d (.inr h);exact hv_b9
 refine zh9 (Fp:=zjn Q _ (fun d=>K d\/S d\/d=b9)) (S:=fun d=>S d\/d=b9) zjg (zdh hQ) (fun h=>?_) (fun d hd=>?_) ?_ w ⟨hq,hp,hlt⟩ hL
 ·rcases h with h|⟨p,hp,h⟩
  ·exact hKL _ (.inl (hBK _ h)) (.inl rfl)
  ·exact hKL9 _ (hl p hp) (.inl h)
 ·rcases hd with h|⟨p,hp,rfl⟩
  ·exact .inl (hBK _ h)
  ·exact hl p hp
 rintro w ⟨hq,hp,hlt⟩ hL
 refine(?_:zaE Tryz.prog true (zan 134 Wg ch) (ExE Wg true) (fun _ S g w=>MGo Tryz.prog 134 Wg ch Snd fst fin K jn (fun K S g w=>WX Tryz.prog 134 Wg ch K (St1 K) S g w) S g w) (fun _ _ _ _=>False) ch K Q ((b9,.cells #[.int .i64 y0,.int .i64 y1,.int .i64 y2,.int .i64 y3,.int .i64 y4,.int .i64 y5] 136)::l) 0 (fun d=>S d\/d=b9) _) hl w hp hL hq hlt
 walk_nrm
 refine zaE.re ?_
 refine zaE.rg ?_
 simp only[List.size_toArray,List.length_cons,List.length_nil,Nat.reduceAdd,Nat.zero_add,List.range,List.range.loop]
 refine zaE.val rfl rfl (by decide) (v:=.func (.func 98) #[] #[.pointer (some ⟨Wg,0,none⟩),.pointer (some ⟨bg,0,none⟩),.pointer (some ⟨b9,0,none⟩),.pointer (some ⟨br,0,none⟩),.pointer (some ⟨bc,0,none⟩)]) (fun w hp=>by go_simp) (fun _ w hp e he=>by simp[go_sem] at he) ?_
 walk_nrm
 refine zaE.stop hQ hBK fun hl w hp hL hq hlt=>?_
 obtain⟨rc,hsit⟩:=hchild (fun d=>K d\/S d\/d=b9) b9 ((b9,.cells #[.int .i64 y0,.int .i64 y1,.int .i64 y2,.int .i64 y3,.int .i64 y4,.int .i64 y5] 136)::l) mcs (fun p h=>mcm h) hl w hp hL hlt
 refine⟨rfl,_,born Tryz.prog (zds Wg bg b9 br bc),fun d=>K d\/S d\/d=b9,rc,zny rfl rfl (by decide) rfl rfl,fun _ h=>h,hsit,?_⟩
 show WX Tryz.prog 134 Wg ch (fun d=>K d\/S d\/d=b9) (St1 (fun d=>K d\/S d\/d=b9)) (fun _=>False) _ w
 refine(?_:zaE Tryz.prog true (zan 134 Wg ch) (ExE Wg true) (fun _ S1 g w=>St1 (fun d=>K d\/(S d\/d=b9)) S1 g w) (fun _ _ _ _=>False) ch (fun d=>K d\/(S d\/d=b9)) Q l 0 (fun _=>False) _) (fun p h=>.inl (hl p (mcm h))) w (fun p h=>hp p (mcm h)) hL hq (fun d hd=>hlt d (by simpa using hd))
 walk_nrm
 refine zaE.re ?_
 refine zaE.ctl rfl (fun _=>stepG_inBlock) ?_
 refine zaE.rg ?_
 simp only[List.size_toArray,List.length_cons,List.length_nil,Nat.reduceAdd,Nat.zero_add,List.range,List.range.loop]
 refine zaE.val rfl rfl (by decide) (v:=.int .i64 i') (fun w hp=>by (have h:=hi';go_simp)) (fun _ w hp e he=>by simp[go_sem] at he) ?_
 walk_nrm
 refine zaE.val rfl rfl (by decide) (v:=.int .i64 i') (fun w hp=>by go_simp) (fun _ w hp e he=>by simp[go_sem] at he) ?_
 walk_nrm
 refine zaE.re ?_
 refine zaE.ctl rfl (fun _=>stepG_inLoop) ?_
 exact hnext _ _ _ _ _ _ _ (fun d hd=>.inl (hBK d hd)) hKL9
