/- Part. -/
import Derived.Test.YthfhphdofgkjhaaGreatChecked
import Derived.WalkKit
import Derived.WalkLawsBesides
import Derived.Conc.WgLib
import Derived.Test.YthfhphdofgkjhaaGreatLAe
set_option maxHeartbeats 4000000
namespace Go.Proofs.YthfhphdofgkjhaaGreat
variable{fn:Func}{fr:FuncId}{X:FuncId->Prop}{wd:Int}{cap:Nat}{rows:Nat->Int}{Kc:Nat->Prop}{ga:Option Addr}{ty:TypeId}{v x:Value}
section
open Go Go.Conc Go.ConcN Go.RowKit Go.Conc.Lib Go.ConcR.Gen Go.ConcN.Gen
noncomputable abbrev ze6:Code:=match Tryz.f65.body with|some (.seq _ (.seq _ (.block _ (.loop c))))=>c|_=>.skip
theorem zbv{R:BR}{b:Bool}(h:zao R (.bool b) v):v=.bool b:=by cases h;rfl
theorem zcf{R:BR}{k:IntKind}{n:Int}(h:zao R (.int k n) v):v=.int k n:=by cases h;rfl
theorem zkA{R:BR}{y:Value}(hx:zao R x x)(hy:zao R y y):zay R #[x,y] #[x,y]:=by
 refine⟨rfl,fun i h h'=>?_⟩
 match i,h with
 | 0,_=>exact hx
 | 1,_=>exact hy
theorem ze7{R:BR}(f m s o i u k:Int):zay R #[.agg #[.int .i64 f,.int .i64 m,.int .i64 s,.int .i64 o,.int .i64 i,.int .i64 u],.int .i64 k] #[.agg #[.int .i64 f,.int .i64 m,.int .i64 s,.int .i64 o,.int .i64 i,.int .i64 u],.int .i64 k]:=by
 refine zkA (.agg rfl fun j h h'=>?_) (.int _ _)
 match j,h with
 | 0,_=>exact .int _ _
 | 1,_=>exact .int _ _
 | 2,_=>exact .int _ _
 | 3,_=>exact .int _ _
 | 4,_=>exact .int _ _
 | 5,_=>exact .int _ _
theorem zkc{R:BR}(wd:Int)(hx:zao R x x)(k:Int):zay R #[.agg #[.int .i64 wd,x],.int .i64 k] #[.agg #[.int .i64 wd,x],.int .i64 k]:=by
 refine zkA (.agg rfl fun j h h'=>?_) (.int _ _)
 match j,h with
 | 0,_=>exact .int _ _
 | 1,_=>exact hx
section
variable{L:Program}{main:Bool}{Live:World->Prop}{Ex:Event->Prop}{Stop:Nat->(Nat->Prop)->Goroutine->World->Prop}{Snd:Nat->(Nat->Prop)->Value->World->Prop}{ch:Nat}{K:Nat->Prop}
set_option maxRecDepth 100000 in
theorem znu[T:zaB L Tryz.prog][zaB L L](W:Whole L)(B:Bodies L Tryz.prog X){Lv:Nat->Prop}(hLv:∀ w w':World,(∀ c,Lv c->w'.heap[c]?=w.heap[c]?)->Live w->Live w')(hlv:∀ w c,Live w->Lv c->c<w.heap.size)(hX:ziO L X)(hf1:L.funcs[81]?=some Tryz.f81)(hx1:¬ X 81)(hf2:L.funcs[fr]?=some fn)(hm2:Tryz.prog.funcs[fr]?=some fn)(hb2:fn.body.isSome=true)(hn2:(fn.name == "runtime.NumGoroutine")=false)(hx2:¬ X fr)(hr2:zbN fn=true){n:Nat}{f m s o i u:Int}{b4 b5:Nat}{l:List (Nat × Obj)}{fin:Nat}(h4:(b4,.cells #[.int .i64 wd,.slice ga n cap] 25)∈l)(h5:(b5,.cells #[.int .i64 f,.int .i64 m,.int .i64 s,.int .i64 o,.int .i64 i,.int .i64 u] 87)∈l)(hKc:∀ c,Kc c->K c)(hcl:∀ w,Hp l w->Closed Kc w)(hga:zao (zdA Kc) (.slice ga n cap) (.slice ga n cap))(hfin:(fin:Int)=f+m)(hfin2:fin<=1000)(hhas:∀(k:Nat) (w:World),Calls L 81 #[.agg #[.int .i64 f,.int .i64 m,.int .i64 s,.int .i64 o,.int .i64 i,.int .i64 u],.int .i64 k] w fun e _=>e=.returned (.bool (decide (f<=k/\(k:Int)<f+m))))(hrk:∀ k:Nat,f<=k->k<fin->∀ w,Hp l w->∀ τ d,Calls L fr #[.agg #[.int .i64 wd,.slice ga n cap],.int .i64 k] (w.frz.tp τ d) fun e _=>e=.returned (.int .i64 (rows k)))(hsnd:∀(k:Nat) (S:Nat->Prop) (w:World),f<=k->k<fin->(∀ c,¬ S c)->Snd k S (.agg #[.int .i64 k,.int .i64 (rows k)]) w){c:Frame}{cs:List Frame}(hend:∀ S:Nat->Prop,zag Tryz.prog main Live Ex Stop Snd ch K l fin S (G (c.finish (.tuple #[])) cs)) :
  ∀(r k:Nat),k+r=fin->f<=k->∀(S:Nat->Prop) (u6 u7 v9 v10 v11 v12 v13 v14 v15 v16 v17 v18 v19 v20 v21 v22:Value),
   zag Tryz.prog main Live Ex Stop Snd ch K l k S (G ((base 65).at ⟨#[.agg #[.int .i64 wd,.slice ga n cap],.agg #[.int .i64 f,.int .i64 m,.int .i64 s,.int .i64 o,.int .i64 i,.int .i64 u],.func (.func fr) #[] #[],.chan (some ch),.pointer (some ⟨b4,0,none⟩),.pointer (some ⟨b5,0,none⟩),u6,u7,.int .i64 k,v9,v10,v11,v12,v13,v14,v15,v16,v17,v18,v19,v20,v21,v22],[]⟩ [.code ze6,.inLoop ze6,.inBlock 0]) (c::cs)):=by
 intro r
 induction r with
 | zero =>
  intro k hk hfk S u6 u7 v9 v10 v11 v12 v13 v14 v15 v16 v17 v18 v19 v20 v21 v22
  have hk_has:∀ w,Calls L 81 #[.agg #[.int .i64 f,.int .i64 m,.int .i64 s,.int .i64 o,.int .i64 i,.int .i64 u],.int .i64 k] w fun e _=>e=.returned (.bool false):=fun w=>by
   have:=hhas k w
   rw[decide_eq_false (by omega)] at this
   exact this
  simp only[ze6,Tryz.f65]
  refine zag.sq ?_
  refine zag.sq ?_
  refine zag.rg ?_
  simp only[List.size_toArray,List.length_cons,List.length_nil,Nat.reduceAdd,Nat.zero_add,List.range,List.range.loop]
  refine zag.val rfl rfl (by decide) (v:=.agg #[.int .i64 f,.int .i64 m,.int .i64 s,.int .i64 o,.int .i64 i,.int .i64 u]) (fun w hp=>?_) (fun hl w hp e he=>?_) ?_
  ·have c0:=hp.cell h5 0 rfl
   have c1:=hp.cell h5 1 rfl
   have c2:=hp.cell h5 2 rfl
   have c3:=hp.cell h5 3 rfl
   have c4:=hp.cell h5 4 rfl
   have c5:=hp.cell h5 5 rfl
   go_simp
  ·have c0:=hp.cell h5 0 rfl
   have c1:=hp.cell h5 1 rfl
   have c2:=hp.cell h5 2 rfl
   have c3:=hp.cell h5 3 rfl
   have c4:=hp.cell h5 4 rfl
   have c5:=hp.cell h5 5 rfl
   simp[go_sem, *] at he
   rcases he with rfl|rfl|rfl|rfl|rfl|rfl
   all_goals exact zau hl h5 _
  walk_nrm
  refine zag.val rfl rfl (by decide) (v:=.int .i64 k) (fun w hp=>by go_simp) (fun _ w hp e he=>by simp[go_sem] at he) ?_
  walk_nrm
  refine zag.enter rfl rfl (by decide) (fun w=>run_call_body rfl Tryz.func81 rfl rfl) (fun w=>events_call_body rfl Tryz.func81 rfl rfl _) ?_
  walk_nrm
  refine zag.callv (Kc:=fun _=>False) W B hLv hlv hX hf1 rfl hx1 (by kernel_rfl) (v0:=.bool false) (fun _ _ h=>zbv h) (fun _ h=>h.elim) (fun _ _ _ h=>h.elim) (ze7 _ _ _ _ _ _ _) (fun w _ τ d=>hk_has _) fun S1=>?_
  simp only[Frame.finish_at]
  walk_nrm
  refine zag.re ?_
  refine zag.ctl rfl (fun _=>stepG_cond (t:=false) rfl) ?_
  simp only[Bool.false_eq_true,↓reduceIte]
  refine zag.ctl rfl (fun _=>stepG_exit rfl) ?_
  refine zag.ctl rfl (fun _=>stepG_end) ?_
  refine zag.ctl rfl (fun w=>stepG_leave rfl rfl Tryz.func65 (results_none rfl _ _ w) (events_results_none rfl _ _)) ?_
  obtain rfl:k=fin:=by omega
  exact hend _
 | succ r ih =>
  intro k hk hfk S u6 u7 v9 v10 v11 v12 v13 v14 v15 v16 v17 v18 v19 v20 v21 v22
  have hk_has:∀ w,Calls L 81 #[.agg #[.int .i64 f,.int .i64 m,.int .i64 s,.int .i64 o,.int .i64 i,.int .i64 u],.int .i64 k] w fun e _=>e=.returned (.bool true):=fun w=>by
   have:=hhas k w
   rw[decide_eq_true (by omega)] at this
   exact this
  have hw1:IntKind.i64.wrap ((k:Int)+1)=((k+1:Nat):Int):=by rw[IntKind.wrap_i64];omega
  simp only[ze6,Tryz.f65]
  refine zag.sq ?_
  refine zag.sq ?_
  refine zag.rg ?_
  simp only[List.size_toArray,List.length_cons,List.length_nil,Nat.reduceAdd,Nat.zero_add,List.range,List.range.loop]
  refine zag.val rfl rfl (by decide) (v:=.agg #[.int .i64 f,.int .i64 m,.int .i64 s,.int .i64 o,.int .i64 i,.int .i64 u]) (fun w hp=>?_) (fun hl w hp e he=>?_) ?_
  ·have c0:=hp.cell h5 0 rfl
   have c1:=hp.cell h5 1 rfl
   have c2:=hp.cell h5 2 rfl
   have c3:=hp.cell h5 3 rfl
   have c4:=hp.cell h5 4 rfl
   have c5:=hp.cell h5 5 rfl
   go_simp
  ·have c0:=hp.cell h5 0 rfl
   have c1:=hp.cell h5 1 rfl
   have c2:=hp.cell h5 2 rfl
   have c3:=hp.cell h5 3 rfl
   have c4:=hp.cell h5 4 rfl
   have c5:=hp.cell h5 5 rfl
   simp[go_sem, *] at he
   rcases he with rfl|rfl|rfl|rfl|rfl|rfl
   all_goals exact zau hl h5 _
  walk_nrm
  refine zag.val rfl rfl (by decide) (v:=.int .i64 k) (fun w hp=>by go_simp) (fun _ w hp e he=>by simp[go_sem] at he) ?_
  walk_nrm
  refine zag.enter rfl rfl (by decide) (fun w=>run_call_body rfl Tryz.func81 rfl rfl) (fun w=>events_call_body rfl Tryz.func81 rfl rfl _) ?_
  walk_nrm
  refine zag.callv (Kc:=fun _=>False) W B hLv hlv hX hf1 rfl hx1 (by kernel_rfl) (v0:=.bool true) (fun _ _ h=>zbv h) (fun _ h=>h.elim) (fun _ _ _ h=>h.elim) (ze7 _ _ _ _ _ _ _) (fun w _ τ d=>hk_has _) fun S1=>?_
  simp only[Frame.finish_at]
  walk_nrm
  refine zag.re ?_
  refine zag.ctl rfl (fun _=>stepG_cond (t:=true) rfl) ?_
  simp only[↓reduceIte]
  refine zag.ctl rfl (fun _=>stepG_skip) ?_
  refine zag.sq ?_
  refine zag.ctl rfl (fun _=>stepG_block) ?_
  refine zag.rg ?_
  simp only[List.size_toArray,List.length_cons,List.length_nil,Nat.reduceAdd,Nat.zero_add,List.range,List.range.loop]
  refine zag.val rfl rfl (by decide) (v:=.chan (some ch)) (fun w hp=>by go_simp) (fun _ w hp e he=>by simp[go_sem] at he) ?_
  walk_nrm
  refine zag.val rfl rfl (by decide) (v:=.int .i64 k) (fun w hp=>by go_simp) (fun _ w hp e he=>by simp[go_sem] at he) ?_
  walk_nrm
  refine zag.val rfl rfl (by decide) (v:=.func (.func fr) #[] #[]) (fun w hp=>by go_simp) (fun _ w hp e he=>by simp[go_sem] at he) ?_
  walk_nrm
  refine zag.val rfl rfl (by decide) (v:=.agg #[.int .i64 wd,.slice ga n cap]) (fun w hp=>?_) (fun hl w hp e he=>?_) ?_
  ·have c0:=hp.cell h4 0 rfl
   have c1:=hp.cell h4 1 rfl
   go_simp
  ·have c0:=hp.cell h4 0 rfl
   have c1:=hp.cell h4 1 rfl
   simp[go_sem, *] at he
   rcases he with rfl|rfl
   all_goals exact zau hl h4 _
  walk_nrm
  refine zag.val rfl rfl (by decide) (v:=.int .i64 k) (fun w hp=>by go_simp) (fun _ w hp e he=>by simp[go_sem] at he) ?_
  walk_nrm
  refine zag.enter rfl rfl (by decide) (fun w=>zis rfl rfl hm2 hn2 hb2) (fun w=>zey rfl rfl hm2 hn2 hb2 _) ?_
  walk_nrm
  refine zag.callv W B hLv hlv hX hf2 hb2 hx2 hr2 (v0:=.int .i64 (rows k)) (fun _ _ h=>zcf h) hKc hcl (zkc _ hga _) (hrk k hfk (by omega)) fun S2=>?_
  simp only[Frame.finish_at]
  walk_nrm
  refine zag.val rfl rfl (by decide) (v:=.agg #[.int .i64 k,.int .i64 (rows k)]) (fun w hp=>by go_simp) (fun _ w hp e he=>by simp[go_sem] at he) ?_
  walk_nrm
  refine zag.send (l':=l) rfl rfl rfl (by decide) (v:=.agg #[.int .i64 k,.int .i64 (rows k)]) (z:=.tuple #[]) (fun w=>by go_simp) (fun w=>by simp[go_sem]) (fun c=>(S c\/S1 c)\/S2 c) (fun _ h=>h) (fun w _=>hsnd k _ w hfk (by omega) (fun c h=>h.2 h.1)) ?_ ?_
  ·exact fun hl p h=>⟨h,(hl p h).imp id fun x=>x⟩
  refine zag.re ?_
  refine zag.ctl rfl (fun _=>stepG_inBlock) ?_
  refine zag.rg ?_
  simp only[List.size_toArray,List.length_cons,List.length_nil,Nat.reduceAdd,Nat.zero_add,List.range,List.range.loop]
  refine zag.val rfl rfl (by decide) (v:=.int .i64 k) (fun w hp=>by go_simp) (fun _ w hp e he=>by simp[go_sem] at he) ?_
  walk_nrm
  refine zag.val rfl rfl (by decide) (v:=.int .i64 ((k+1:Nat):Int)) (fun w hp=>by go_simp) (fun _ w hp e he=>by simp[go_sem] at he) ?_
  walk_nrm
  refine zag.val rfl rfl (by decide) (v:=.int .i64 ((k+1:Nat):Int)) (fun w hp=>by go_simp) (fun _ w hp e he=>by simp[go_sem] at he) ?_
  walk_nrm
  refine zag.re ?_
  refine zag.ctl rfl (fun _=>stepG_inLoop) ?_
  exact ih (k+1) (by omega) (by omega) _ _ _ _ _ _ _ _ _ _ _ _ _ _ _ _ _
end
end
section
open Go
abbrev zn0:Go.Conc.Lib.WgLink:={ add:=44,done:=46,wait:=48,relMerge:=68,disable:=69,enable:=70,inBubble:=71,associate:=72,fatal:=73,uOr:=74,uAdd:=75,raceRead:=76,uLoad:=77,uStore:=78,disassociate:=79,semrelease:=80,acquire:=82,isAssociated:=83,uCas:=84,raceWrite:=85,semacquire:=86,orU64:=93,addU64:=94,loadU64:=95,storeU64:=96,casU64:=97,tWgP:=134,tUP:=136,tAssoc:=138,tWg:=85,tAU:=82,tU64:=80,tUint:=142,tU32:=83,tPU32:=143,tPAU:=174,tPU64:=176,tNoCopy:=77,tANoCopy:=78,tAlign64:=79 }
theorem ziM:Go.Conc.Lib.WgLib Tryz.prog zn0 :=
 ⟨Tryz.func44,Tryz.func46,Tryz.func48,Tryz.func68,Tryz.func69,Tryz.func70,Tryz.func71,Tryz.func72,Tryz.func73,Tryz.func74,Tryz.func75,Tryz.func76,Tryz.func77,Tryz.func78,Tryz.func79,Tryz.func80,Tryz.func82,Tryz.func83,Tryz.func84,Tryz.func85,Tryz.func86,Tryz.func93,Tryz.func94,Tryz.func95,Tryz.func96,Tryz.func97,Tryz.underlying134,Tryz.runUnderlying134,Tryz.sizeOf134,Tryz.isAgg134,Tryz.zeroValue134,Tryz.underlying136,Tryz.runUnderlying136,Tryz.sizeOf136,Tryz.isAgg136,Tryz.zeroValue136,Tryz.underlying138,Tryz.runUnderlying138,Tryz.sizeOf138,Tryz.isAgg138,Tryz.zeroValue138,Tryz.underlying85,Tryz.runUnderlying85,Tryz.sizeOf85,Tryz.isAgg85,Tryz.zeroValue85,Tryz.underlying82,Tryz.runUnderlying82,Tryz.sizeOf82,Tryz.isAgg82,Tryz.zeroValue82,Tryz.underlying80,Tryz.runUnderlying80,Tryz.sizeOf80,Tryz.isAgg80,Tryz.zeroValue80,Tryz.underlying142,Tryz.runUnderlying142,Tryz.sizeOf142,Tryz.isAgg142,Tryz.zeroValue142,Tryz.underlying83,Tryz.runUnderlying83,Tryz.sizeOf83,Tryz.isAgg83,Tryz.zeroValue83,Tryz.underlying143,Tryz.runUnderlying143,Tryz.sizeOf143,Tryz.isAgg143,Tryz.zeroValue143,Tryz.underlying174,Tryz.runUnderlying174,Tryz.sizeOf174,Tryz.isAgg174,Tryz.zeroValue174,Tryz.underlying176,Tryz.runUnderlying176,Tryz.sizeOf176,Tryz.isAgg176,Tryz.zeroValue176,Tryz.underlying0,Tryz.runUnderlying0,Tryz.sizeOf0,Tryz.isAgg0,Tryz.zeroValue0,Tryz.underlying3,Tryz.runUnderlying3,Tryz.sizeOf3,Tryz.isAgg3,Tryz.zeroValue3,Tryz.underlying4,Tryz.runUnderlying4,Tryz.sizeOf4,Tryz.isAgg4,Tryz.zeroValue4,Tryz.underlying9,Tryz.runUnderlying9,Tryz.sizeOf9,Tryz.isAgg9,Tryz.zeroValue9,Tryz.underlying20,Tryz.runUnderlying20,Tryz.sizeOf20,Tryz.isAgg20,Tryz.zeroValue20,Tryz.underlying21,Tryz.runUnderlying21,Tryz.sizeOf21,Tryz.isAgg21,Tryz.zeroValue21,by kernel_rfl,by kernel_rfl⟩
end
section
open Go Go.Conc Go.ConcN Go.RowKit Go.Conc.Lib Go.ConcR.Gen Go.ConcN.Gen
open Go.ConcR (KK wgBlock WgAt stA smA rd wr mk Payload Aside2 DC0)
theorem zan.alloc{Wg ch:Nat}(w:World)(o:Obj)(h:zan ty Wg ch w):zan ty Wg ch (w.alloc o):=by
 obtain⟨⟨st,sm,hw⟩,cap,buf,s,r,tm,hc⟩:=h
 refine⟨⟨st,sm,hw.of_block ?_⟩,cap,buf,s,r,tm,?_⟩
 ·exact(za7 w o).2 _ (gei hw).1
 ·rw[(za7 w o).2 _ (gei hc).1]
  exact hc
def LvW(Wg ch:Nat)(c:Nat):Prop:=c=Wg\/c=ch
theorem zan.keep{Wg ch:Nat}(w w':World)(h:∀ c,LvW Wg ch c->w'.heap[c]?=w.heap[c]?)(hl:zan ty Wg ch w):zan ty Wg ch w':=by
 obtain⟨⟨st,sm,hw⟩,cap,buf,s,r,tm,hc⟩:=hl
 exact⟨⟨st,sm,hw.of_block (h _ (.inl rfl))⟩,cap,buf,s,r,tm,by rw[h _ (.inr rfl)];exact hc⟩
theorem zan.low{Wg ch:Nat}(w:World)(c:Nat)(hl:zan ty Wg ch w)(h:LvW Wg ch c):c<w.heap.size:=by
 obtain⟨⟨st,sm,hw⟩,cap,buf,s,r,tm,hc⟩:=hl
 rcases h with rfl|rfl
 ·exact(gei hw).1
 ·exact(gei hc).1
noncomputable def bot:Frame:={ (default:Frame) with fn:=Tryz.prog.funcs.size,defers:=[],mode:=.panicking [goexitEntry] }
def zdl(Wg bg bs br bc:Nat):Deferred:={ target:=.fn (.func 64) #[.pointer (some ⟨Wg,0,none⟩),.pointer (some ⟨bg,0,none⟩),.pointer (some ⟨bs,0,none⟩),.pointer (some ⟨br,0,none⟩),.pointer (some ⟨bc,0,none⟩)],args:=#[] }
theorem zmd(Wg bg bs br bc:Nat)(w:World):stepG Tryz.prog false (born Tryz.prog (zdl Wg bg bs br bc)) w =
  .go (G ((baseD 64).at ⟨#[.pointer (some ⟨Wg,0,none⟩),.pointer (some ⟨bg,0,none⟩),.pointer (some ⟨bs,0,none⟩),.pointer (some ⟨br,0,none⟩),.pointer (some ⟨bc,0,none⟩),undef,undef,undef,undef,undef],[]⟩ [.code (Tryz.f64.body.getD .skip)]) [bot]) w #[]:=by
 simp[born,zdl,stepG,unwind,callDeferred,invoke,callFunc,Tryz.func64,Tryz.f64,seen,GStep.after,G,Frame.enter,Frame.at,baseD,bot]
theorem zls(T:Array Value):QuitsD Tryz.prog 2 0 (G { (baseD 64).at ⟨T,[]⟩ [] with mode:=.returning } [bot]):=by
 refine QuitsD.ctl (g':=G bot []) rfl (fun w=>?_) ?_
 ·simp[G,stepG,unwind,doReturn,results,Frame.at,baseD,bot,Tryz.func64,Tryz.f64,seen,GStep.after,goexitEntry]
 refine QuitsD.ctl (g':={ G bot [] with status:=.finished }) rfl (fun w=>?_) ⟨rfl,rfl⟩
 simp[G,stepG,unwind,bot,goexitEntry,Frame.catches]
 rfl
section
variable[Payload]{L:Program}{Snd:Nat->(Nat->Prop)->Value->World->Prop}{Wg ch:Nat}{K S:Nat->Prop}
set_option maxRecDepth 100000 in
theorem zmj[T:zaB L Tryz.prog][zaB L L](W:Whole L)(B:Bodies L Tryz.prog X)(hX:ziO L X)(hf1:L.funcs[81]?=some Tryz.f81)(hx1:¬ X 81)(hf2:L.funcs[fr]?=some fn)(hm2:Tryz.prog.funcs[fr]?=some fn)(hb2:fn.body.isSome=true)(hn2:(fn.name == "runtime.NumGoroutine")=false)(hx2:¬ X fr)(hr2:zbN fn=true){n:Nat}{fst:Nat}{m s o i u:Int}{bg bs br bc:Nat}{l:List (Nat × Obj)}{fin:Nat}(hg:(bg,.cells #[.int .i64 wd,.slice ga n cap] 25)∈l)(hs:(bs,.cells #[.int .i64 fst,.int .i64 m,.int .i64 s,.int .i64 o,.int .i64 i,.int .i64 u] 87)∈l)(hr:(br,.cells #[.func (.func fr) #[] #[]] 74)∈l)(hc:(bc,.cells #[.chan (some ch)] 126)∈l)(hKc:∀ c,Kc c->K c)(hcl:∀ w,Hp l w->Closed Kc w)(hga:zao (zdA Kc) (.slice ga n cap) (.slice ga n cap))(hfin:(fin:Int)=fst+m)(hm:0<=m)(hfin2:fin<=1000)(hhas:∀(k:Nat) (w:World),Calls L 81 #[.agg #[.int .i64 fst,.int .i64 m,.int .i64 s,.int .i64 o,.int .i64 i,.int .i64 u],.int .i64 k] w fun e _=>e=.returned (.bool (decide ((fst:Int)<=k/\(k:Int)<fst+m))))(hrk:∀ k:Nat,fst<=k->k<fin->∀ w,Hp l w->∀ τ d,Calls L fr #[.agg #[.int .i64 wd,.slice ga n cap],.int .i64 k] (w.frz.tp τ d) fun e _=>e=.returned (.int .i64 (rows k)))(hsnd:∀(k:Nat) (S:Nat->Prop) (w:World),fst<=k->k<fin->(∀ c,¬ S c)->Snd k S (.agg #[.int .i64 k,.int .i64 (rows k)]) w) :
  zag Tryz.prog false (zan 85 Wg ch) (ExE Wg false) (ziP Tryz.prog 85 Wg K fin) Snd ch K l fst S (born Tryz.prog (zdl Wg bg bs br bc)):=by
 have hLa:∀(w:World) (o:Obj),zan 85 Wg ch w->zan 85 Wg ch (w.alloc o):=zan.alloc
 refine zag.ctl rfl (fun w=>zmd Wg bg bs br bc w) ?_
 simp only[Tryz.f64,Option.getD_some]
 refine zag.sq ?_
 refine zag.rg ?_
 simp only[List.size_toArray,List.length_cons,List.length_nil,Nat.zero_add,List.range,List.range.loop]
 refine zag.ctl rfl (fun _=>stepG_defer rfl rfl (by decide) rfl) ?_
 walk_nrm
 refine zag.re ?_
 refine zag.rg ?_
 simp only[List.size_toArray,List.length_cons,List.length_nil,Nat.reduceAdd,Nat.zero_add,List.range,List.range.loop]
 refine zag.val rfl rfl (by decide) (v:=.agg #[.int .i64 wd,.slice ga n cap]) (fun w hp=>?_) (fun hl w hp e he=>?_) ?_
 ·have c0:=hp.cell hg 0 rfl
  have c1:=hp.cell hg 1 rfl
  go_simp
 ·have c0:=hp.cell hg 0 rfl
  have c1:=hp.cell hg 1 rfl
  simp[go_sem, *] at he
  rcases he with rfl|rfl
  all_goals exact zau hl hg _
 walk_nrm
 refine zag.val rfl rfl (by decide) (v:=.agg #[.int .i64 fst,.int .i64 m,.int .i64 s,.int .i64 o,.int .i64 i,.int .i64 u]) (fun w hp=>?_) (fun hl w hp e he=>?_) ?_
 ·have c0:=hp.cell hs 0 rfl
  have c1:=hp.cell hs 1 rfl
  have c2:=hp.cell hs 2 rfl
  have c3:=hp.cell hs 3 rfl
  have c4:=hp.cell hs 4 rfl
  have c5:=hp.cell hs 5 rfl
  go_simp
 ·have c0:=hp.cell hs 0 rfl
  have c1:=hp.cell hs 1 rfl
  have c2:=hp.cell hs 2 rfl
  have c3:=hp.cell hs 3 rfl
  have c4:=hp.cell hs 4 rfl
  have c5:=hp.cell hs 5 rfl
  simp[go_sem, *] at he
  rcases he with rfl|rfl|rfl|rfl|rfl|rfl
  all_goals exact zau hl hs _
 walk_nrm
 refine zag.val rfl rfl (by decide) (v:=.func (.func fr) #[] #[]) (fun w hp=>?_) (fun hl w hp e he=>?_) ?_
 ·have c0:=hp.cell hr 0 rfl
  go_simp
 ·have c0:=hp.cell hr 0 rfl
  simp[go_sem, *] at he
  subst he
  exact zau hl hr _
 walk_nrm
 refine zag.val rfl rfl (by decide) (v:=.chan (some ch)) (fun w hp=>?_) (fun hl w hp e he=>?_) ?_
 ·have c0:=hp.cell hc 0 rfl
  go_simp
 ·have c0:=hp.cell hc 0 rfl
  simp[go_sem, *] at he
  subst he
  exact zau hl hc _
 walk_nrm
 refine zag.enter rfl rfl (by decide) (fun w=>run_call_body rfl Tryz.func65 rfl rfl) (fun w=>events_call_body rfl Tryz.func65 rfl rfl _) ?_
 rw[enter_at _ Tryz.func65 rfl]
 walk_nrmf Tryz.f65
 refine zag.sq ?_
 refine zag.rg ?_
 simp only[List.size_toArray,List.length_cons,List.length_nil,Nat.reduceAdd,Nat.zero_add,List.range,List.range.loop]
 refine zag.new hLa rfl rfl (by decide) (V:=fun c=>.pointer (some ⟨c,0,none⟩)) (obj:=.cells #[.int .i64 wd,.slice ga n cap] 25) (fun w hp=>by go_simp) (fun _ w hp e he=>by simp[go_sem] at he) fun b4 hK_b4 hS_b4=>?_
 walk_nrm
 refine zag.new hLa rfl rfl (by decide) (V:=fun c=>.pointer (some ⟨c,0,none⟩)) (obj:=.cells #[.int .i64 fst,.int .i64 m,.int .i64 s,.int .i64 o,.int .i64 i,.int .i64 u] 87) (fun w hp=>by go_simp) (fun _ w hp e he=>by simp[go_sem] at he) fun b5 hK_b5 hS_b5=>?_
 walk_nrm
 refine zag.re ?_
 refine zag.sq ?_
 refine zag.rg ?_
 simp only[List.size_toArray,List.length_cons,List.length_nil,Nat.reduceAdd,Nat.zero_add,List.range,List.range.loop]
 refine zag.val rfl rfl (by decide) (v:=.pointer (some ⟨b5,0,none⟩)) (fun w hp=>by go_simp) (fun _ w hp e he=>by simp[go_sem] at he) ?_
 walk_nrm
 refine zag.val rfl rfl (by decide) (v:=.int .i64 fst) (fun w hp=>?_) (fun hl w hp e he=>?_) ?_
 ·have c0:=hp.cell mcs 0 rfl
  go_simp
 ·have c0:=hp.cell mcs 0 rfl
  simp[go_sem, *] at he
  subst he
  exact zau hl mcs _
 walk_nrm
 refine zag.val rfl rfl (by decide) (v:=.int .i64 fst) (fun w hp=>by go_simp) (fun _ w hp e he=>by simp[go_sem] at he) ?_
 walk_nrm
 refine zag.re ?_
 refine zag.ctl rfl (fun _=>stepG_block) ?_
 refine zag.ctl rfl (fun _=>stepG_loop) ?_
 refine znu (Lv:=LvW Wg ch) (f:=(fst:Int)) W B zan.keep zan.low hX hf1 hx1 hf2 hm2 hb2 hn2 hx2 hr2 (by simp) (by simp) hKc (fun w hp=>hcl w fun p h=>hp p (by simp[h])) hga hfin hfin2 hhas (fun k h1 h2 w hp=>hrk k (by omega) h2 w fun p h=>hp p (by simp[h])) (fun k S w h1 h2=>hsnd k S w (by omega) h2) ?_ (fin - fst) fst (by omega) (by omega) _ _ _ _ _ _ _ _ _ _ _ _ _ _ _ _ _
 intro S2
 simp only[Frame.finish_at]
 walk_nrm
 refine zag.re ?_
 refine zag.ctl rfl (fun _=>stepG_end) ?_
 refine zag.ctl rfl (fun _=>stepG_unwind_enter rfl Tryz.func46 rfl rfl) ?_
 walk_nrmf Tryz.f46
 intro hl w hp hL hlt
 exact zj7 ziM (C:=bs) (v:=.int .i64 fst) (hl _ (mcm (mcm hs))) rfl (zls _) w hL (hp.cell (mcm (mcm hs)) 0 rfl)
end
noncomputable abbrev zrO:Code:=match Tryz.f40.body with|some (.seq _ (.seq _ (.seq _ (.seq _ (.seq _ (.seq (.seq _ (.block _ (.loop c))) _))))))=>c|_=>.skip
noncomputable abbrev zgF:Code:=match Tryz.f40.body with|some (.seq _ (.seq _ (.seq _ (.seq _ (.seq _ (.seq (.seq _ (.block _ (.loop _))) c))))))=>c|_=>.skip
noncomputable abbrev zn7(gV rV sV:Value)(many i:Int)(bg br bc Wg ch:Nat)(c:Frame)(cs:List Frame)(v9 v22 v23 v24 v25 v26:Value):Goroutine:=G ((base 40).at ⟨#[gV,rV,.pointer (some ⟨bg,0,none⟩),.pointer (some ⟨br,0,none⟩),.slice none 0 0,.int .i64 many,.pointer (some ⟨bc,0,none⟩),.pointer (some ⟨Wg,0,none⟩),undef,v9,undef,undef,gV,.bool true,.bool false,gV,.int .i64 many,.int .i64 many,.chan (some ch),gV,sV,.int .i64 i,v22,v23,v24,v25,v26,undef,undef,undef,undef,undef,undef,undef,undef,undef,undef,undef,undef,undef,undef,undef],[]⟩ [.code zrO,.inLoop zrO,.inBlock 0,.code zgF]) (c::cs)
theorem zdR:(Tryz.prog.info? 87).map (·.size)=some 6:=by kernel_rfl
theorem zan.aside{Wg ch c:Nat}(hc:¬ LvW Wg ch c)(w w':World)(h:∀ d,d≠c->w'.heap[d]?=w.heap[d]?)(hl:zan ty Wg ch w):zan ty Wg ch w' :=
 zan.keep w w' (fun d hd=>h d (by rintro rfl;exact hc hd)) hl
section
variable[Payload]{Snd:Nat->(Nat->Prop)->Value->World->Prop}{Wg ch:Nat}{fst fin:Nat->Nat}{B:Nat->Prop}{Q:World->Prop}{l:List (Nat × Obj)}{gV rV:Value}{many:Int}{bg br bc:Nat}{c:Frame}{cs:List Frame}{sV:Value}{i i' y0 y1 y2 y3 y4 y5:Int}{St1:(Nat->Prop)->St}{jn:Nat}
set_option maxRecDepth 100000 in
theorem zhn(hQ:zgU B Q)(hi:decide (i<4)=true)(hi':IntKind.i64.wrap (i+1)=i')(hix:∀ w,Sem.run Tryz.prog (Instr.index 88 sV (.int .i64 i)) w=.ok (.agg #[.int .i64 y0,.int .i64 y1,.int .i64 y2,.int .i64 y3,.int .i64 y4,.int .i64 y5]) w)(hie:∀ w es,Sem.events Tryz.prog (Instr.index 88 sV (.int .i64 i)) w es=es)(hchild:∀(K:Nat->Prop) (bs:Nat) (l':List (Nat × Obj)),(bs,.cells #[.int .i64 y0,.int .i64 y1,.int .i64 y2,.int .i64 y3,.int .i64 y4,.int .i64 y5] 87)∈l'->(∀ p∈l,p∈l')->(∀ p∈l',K p.1)->∀ w,Hp l' w->zan 85 Wg ch w->(∀ c,K c->c<w.heap.size)->∃ rc,Sit Tryz.prog 85 Wg ch Snd K (fun _=>False) (fst jn) (fin jn) ⟨7,0,0⟩ rc (born Tryz.prog (zdl Wg bg bs br bc)) w)(hnext:∀(K':Nat->Prop) (v9 v22 v23 v24 v25 v26:Value),(∀ c,B c->K' c)->(∀ c,K' c->¬ LvW Wg ch c)->zaE Tryz.prog true (zan 85 Wg ch) (ExE Wg true) (fun _ S g w=>St1 K' S g w) (fun _ _ _ _=>False) ch K' Q l 0 (fun _=>False) (zn7 gV rV sV many i' bg br bc Wg ch c cs v9 v22 v23 v24 v25 v26)){K S:Nat->Prop}(hBK:∀ c,B c->K c)(hKL:∀ c,K c\/S c->¬ LvW Wg ch c)(v9 v22 v23 v24 v25 v26:Value):zaE Tryz.prog true (zan 85 Wg ch) (ExE Wg true) (fun _ S g w=>zgV Tryz.prog 85 Wg ch Snd fst fin K jn (fun K S g w=>WX Tryz.prog 85 Wg ch K (St1 K) S g w) S g w) (fun _ _ _ _=>False) ch K Q l 0 S
  (zn7 gV rV sV many i bg br bc Wg ch c cs v9 v22 v23 v24 v25 v26):=by
 simp only[zn7,zrO,Tryz.f40]
 refine zaE.sq ?_
 refine zaE.rg ?_
 simp only[List.size_toArray,List.length_cons,List.length_nil,Nat.zero_add,List.range,List.range.loop]
 refine zaE.val rfl rfl (by decide) (v:=.bool true) (fun w hp=>by (have h:=hi;go_simp)) (fun _ w hp e he=>by simp[go_sem] at he) ?_
 walk_nrm
 refine zaE.re ?_
 refine zaE.sq ?_
 refine zaE.ctl rfl (fun _=>stepG_cond (t:=true) rfl) ?_
 simp only[↓reduceIte]
 refine zaE.ctl rfl (fun _=>stepG_skip) ?_
 refine zaE.sq ?_
 refine zaE.ctl rfl (fun _=>stepG_block) ?_
 refine zaE.sq ?_
 refine zaE.rg ?_
 simp only[List.size_toArray,List.length_cons,List.length_nil,Nat.reduceAdd,Nat.zero_add,List.range,List.range.loop]
 refine zaE.val rfl rfl (by decide) (v:=.agg #[.int .i64 y0,.int .i64 y1,.int .i64 y2,.int .i64 y3,.int .i64 y4,.int .i64 y5]) (fun w hp=>by (have h:=hix w;go_simp)) (fun _ w hp e he=>by simp[go_sem,hie] at he) ?_
 walk_nrm
 refine zaE.new hQ hBK zan.low zan.alloc rfl rfl (by decide) (V:=fun c=>.pointer (some ⟨c,0,none⟩)) (obj:=.cells #[.int .i64 0,.int .i64 0,.int .i64 0,.int .i64 0,.int .i64 0,.int .i64 0] 87) (fun w hp=>by go_simp) (fun _ w hp e he=>by simp[go_sem] at he) fun b9 hK_b9 hS_b9 hv_b9 hl_b9=>?_
 walk_nrm
 refine zaE.put (l':=(b9,.cells #[.int .i64 y0,.int .i64 y1,.int .i64 y2,.int .i64 y3,.int .i64 y4,.int .i64 y5] 87)::l) (c:=b9) (obj:=.cells #[.int .i64 y0,.int .i64 y1,.int .i64 y2,.int .i64 y3,.int .i64 y4,.int .i64 y5] 87) hQ hBK rfl rfl (by decide) (Or.inr rfl) (fun h=>hK_b9 (hBK b9 h)) (zan.aside hv_b9) (fun w hp=>⟨w.setRow b9 #[.int .i64 y0,.int .i64 y1,.int .i64 y2,.int .i64 y3,.int .i64 y4,.int .i64 y5],zeq (ty:=87) rfl rfl rfl (hp.at mcs) zdR rfl (by simp[Value.oneCell']),(zas (hp.at mcs)).1,(zas (hp.at mcs)).2⟩) (fun _ w hp e he=>?_) (fun p hp=>?_) ?_
 ·obtain⟨q,rfl⟩:=zgw (cells:=#[.int .i64 y0,.int .i64 y1,.int .i64 y2,.int .i64 y3,.int .i64 y4,.int .i64 y5]) (ty:=87) rfl rfl rfl (hp.at mcs) zdR rfl (by simp[Value.oneCell']) e he
  exact Or.inl ⟨_,_,rfl,Or.inl (Or.inr rfl)⟩
 ·rcases List.mem_cons.1 hp with rfl|hp
  ·exact Or.inl rfl
  ·exact Or.inr ⟨mcm hp,hl_b9 p hp⟩
 walk_nrm
 refine zaE.re ?_
 refine zaE.sq ?_
 refine zaE.rg ?_
 simp only[List.size_toArray,List.length_cons,List.length_nil,Nat.zero_add,List.range,List.range.loop]
 refine zaE.enter rfl rfl (by decide) (fun w=>run_call_body rfl Tryz.func44 rfl rfl) (fun w=>events_call_body rfl Tryz.func44 rfl rfl _) ?_
 rw[enter_at _ Tryz.func44 rfl]
 walk_nrmf Tryz.f44
 intro hl w hp hL hq hlt
 have hKL9:∀ d,K d\/S d\/d=b9->¬ LvW Wg ch d:=fun d hd=>by rcases hd with h|h|rfl;exact hKL d (.inl h);exact hKL d (.inr h);exact hv_b9
 refine zhH (Fp:=ziR Q _ (fun d=>K d\/S d\/d=b9)) (S:=fun d=>S d\/d=b9) ziM (zc9 hQ) (fun h=>?_) (fun d hd=>?_) ?_ w ⟨hq,hp,hlt⟩ hL
 ·rcases h with h|⟨p,hp,h⟩
  ·exact hKL _ (.inl (hBK _ h)) (.inl rfl)
  ·exact hKL9 _ (hl p hp) (.inl h)
 ·rcases hd with h|⟨p,hp,rfl⟩
  ·exact .inl (hBK _ h)
  ·exact hl p hp
 rintro w ⟨hq,hp,hlt⟩ hL
 refine(?_:zaE Tryz.prog true (zan 85 Wg ch) (ExE Wg true) (fun _ S g w=>MGo Tryz.prog 85 Wg ch Snd fst fin K jn (fun K S g w=>WX Tryz.prog 85 Wg ch K (St1 K) S g w) S g w) (fun _ _ _ _=>False) ch K Q ((b9,.cells #[.int .i64 y0,.int .i64 y1,.int .i64 y2,.int .i64 y3,.int .i64 y4,.int .i64 y5] 87)::l) 0 (fun d=>S d\/d=b9) _) hl w hp hL hq hlt
 walk_nrm
 refine zaE.re ?_
 refine zaE.rg ?_
 simp only[List.size_toArray,List.length_cons,List.length_nil,Nat.reduceAdd,Nat.zero_add,List.range,List.range.loop]
 refine zaE.val rfl rfl (by decide) (v:=.func (.func 64) #[] #[.pointer (some ⟨Wg,0,none⟩),.pointer (some ⟨bg,0,none⟩),.pointer (some ⟨b9,0,none⟩),.pointer (some ⟨br,0,none⟩),.pointer (some ⟨bc,0,none⟩)]) (fun w hp=>by go_simp) (fun _ w hp e he=>by simp[go_sem] at he) ?_
 walk_nrm
 refine zaE.stop hQ hBK fun hl w hp hL hq hlt=>?_
 obtain⟨rc,hsit⟩:=hchild (fun d=>K d\/S d\/d=b9) b9 ((b9,.cells #[.int .i64 y0,.int .i64 y1,.int .i64 y2,.int .i64 y3,.int .i64 y4,.int .i64 y5] 87)::l) mcs (fun p h=>mcm h) hl w hp hL hlt
 refine⟨rfl,_,born Tryz.prog (zdl Wg bg b9 br bc),fun d=>K d\/S d\/d=b9,rc,zmE rfl rfl (by decide) rfl rfl,fun _ h=>h,hsit,?_⟩
 show WX Tryz.prog 85 Wg ch (fun d=>K d\/S d\/d=b9) (St1 (fun d=>K d\/S d\/d=b9)) (fun _=>False) _ w
 refine(?_:zaE Tryz.prog true (zan 85 Wg ch) (ExE Wg true) (fun _ S1 g w=>St1 (fun d=>K d\/(S d\/d=b9)) S1 g w) (fun _ _ _ _=>False) ch (fun d=>K d\/(S d\/d=b9)) Q l 0 (fun _=>False) _) (fun p h=>.inl (hl p (mcm h))) w (fun p h=>hp p (mcm h)) hL hq (fun d hd=>hlt d (by simpa using hd))
 walk_nrm
 refine zaE.re ?_
 refine zaE.ctl rfl (fun _=>stepG_inBlock) ?_
 refine zaE.rg ?_
 simp only[List.size_toArray,List.length_cons,List.length_nil,Nat.reduceAdd,Nat.zero_add,List.range,List.range.loop]
 refine zaE.val rfl rfl (by decide) (v:=.int .i64 i') (fun w hp=>by (have h:=hi';go_simp)) (fun _ w hp e he=>by simp[go_sem] at he) ?_
 walk_nrm
 refine zaE.val rfl rfl (by decide) (v:=.int .i64 i') (fun w hp=>by go_simp) (fun _ w hp e he=>by simp[go_sem] at he) ?_
 walk_nrm
 refine zaE.re ?_
 refine zaE.ctl rfl (fun _=>stepG_inLoop) ?_
 exact hnext _ _ _ _ _ _ _ (fun d hd=>.inl (hBK d hd)) hKL9
