/- Of the proof: Qa, Qb, Qc, Qd -/
import Derived.Test.YtmekljoegndkkaaGreatChecked
import Derived.WalkKit
import Derived.WalkLawsBesides
import Derived.Conc.WgLib
import Derived.Test.YtmekljoegndkkaaGreatLAh
set_option maxHeartbeats 4000000
namespace Go.Proofs.YtmekljoegndkkaaGreat
variable {fn:Func} {fr:FuncId} {X:FuncId->Prop} {wd:Int} {cap:Nat} {rows:Nat->Int} {Kc:Nat->Prop} {ga:Option Addr} {ty:TypeId} {v x:Value}
section
open Go Go.Conc Go.ConcN Go.RowKit Go.Conc.Lib Go.ConcR.Gen Go.ConcN.Gen
noncomputable abbrev ze4:Code:=match Tryz.f58.body with | some (.seq _ (.seq _ (.block _ (.loop c))))=>c | _=>.skip
theorem zbz {R:BR} {b:Bool} (h:zaq R (.bool b) v):v=.bool b:=by cases h; rfl
theorem zch {R:BR} {k:IntKind} {n:Int} (h:zaq R (.int k n) v):v=.int k n:=by cases h; rfl
theorem zkd {R:BR} {y:Value} (hx:zaq R x x) (hy:zaq R y y):zaA R #[x,y] #[x,y]:=by
 refine ⟨rfl,fun i h h'=>?_⟩
 match i,h with
 | 0,_=>exact hx
 | 1,_=>exact hy
theorem ze5 {R:BR} (f m s o i u k:Int):zaA R #[.agg #[.int .i64 f,.int .i64 m,.int .i64 s,.int .i64 o,.int .i64 i,.int .i64 u],.int .i64 k] #[.agg #[.int .i64 f,.int .i64 m,.int .i64 s,.int .i64 o,.int .i64 i,.int .i64 u],.int .i64 k]:=by
 refine zkd (.agg rfl fun j h h'=>?_) (.int _ _)
 match j,h with
 | 0,_=>exact .int _ _
 | 1,_=>exact .int _ _
 | 2,_=>exact .int _ _
 | 3,_=>exact .int _ _
 | 4,_=>exact .int _ _
 | 5,_=>exact .int _ _
theorem zjS {R:BR} (wd:Int) (hx:zaq R x x) (k:Int):zaA R #[.agg #[.int .i64 wd,x],.int .i64 k] #[.agg #[.int .i64 wd,x],.int .i64 k]:=by
 refine zkd (.agg rfl fun j h h'=>?_) (.int _ _)
 match j,h with
 | 0,_=>exact .int _ _
 | 1,_=>exact hx
section
variable {L:Program} {main:Bool} {Live:World->Prop} {Ex:Event->Prop} {Stop:Nat->(Nat->Prop)->Goroutine->World->Prop} {Snd:Nat->(Nat->Prop)->Value->World->Prop} {ch:Nat} {K:Nat->Prop}
set_option maxRecDepth 100000 in
theorem zmZ [T:zaC L Tryz.prog] [zaC L L] (W:Whole L) (B:Bodies L Tryz.prog X) {Lv:Nat->Prop} (hLv:∀ w w':World,(∀ c,Lv c->w'.heap[c]?=w.heap[c]?)->Live w->Live w') (hlv:∀ w c,Live w->Lv c->c < w.heap.size)
  (hX:∀ f,X f->∃ t,((L.funcs[f]?).bind (·.body)).getD (.refuse "unsupported: a function without a Go body is entered")=.refuse t)
  (hf1:L.funcs[74]?=some Tryz.f74) (hx1:¬ X 74)
  (hf2:L.funcs[fr]?=some fn) (hm2:Tryz.prog.funcs[fr]?=some fn) (hb2:fn.body.isSome=true) (hn2:(fn.name == "runtime.NumGoroutine")=false) (hx2:¬ X fr) (hr2:zbR fn=true)
  {n:Nat} {f m s o i u:Int} {b4 b5:Nat} {l:List (Nat × Obj)} {fin:Nat}
  (h4:(b4,.cells #[.int .i64 wd,.slice ga n cap] 28) ∈ l) (h5:(b5,.cells #[.int .i64 f,.int .i64 m,.int .i64 s,.int .i64 o,.int .i64 i,.int .i64 u] 83) ∈ l)
  (hKc:∀ c,Kc c->K c) (hcl:∀ w,Hp l w->Closed Kc w) (hga:zaq (zdD Kc) (.slice ga n cap) (.slice ga n cap))
  (hfin:(fin:Int)=f + m) (hfin2:fin<=1000)
  (hhas:∀ (k:Nat) (w:World),Calls L 74 #[.agg #[.int .i64 f,.int .i64 m,.int .i64 s,.int .i64 o,.int .i64 i,.int .i64 u],.int .i64 k] w fun e _=>e=.returned (.bool (decide (f<=k/\(k:Int) < f + m))))
  (hrk:∀ k:Nat,f<=k->k < fin->∀ w,Hp l w->∀ τ d,Calls L fr #[.agg #[.int .i64 wd,.slice ga n cap],.int .i64 k] (w.frz.tp τ d) fun e _=>e=.returned (.int .i64 (rows k)))
  (hsnd:∀ (k:Nat) (S:Nat->Prop) (w:World),f<=k->k < fin->(∀ c,¬ S c)->Snd k S (.agg #[.int .i64 k,.int .i64 (rows k)]) w)
  {c:Frame} {cs:List Frame} (hend:∀ S:Nat->Prop,zag Tryz.prog main Live Ex Stop Snd ch K l fin S (G (c.finish (.tuple #[])) cs)) :
  ∀ (r k:Nat),k + r=fin->f<=k->∀ (S:Nat->Prop) (u6 u7 v9 v10 v11 v12 v13 v14 v15 v16 v17 v18 v19 v20 v21 v22:Value),
   zag Tryz.prog main Live Ex Stop Snd ch K l k S (G ((base 58).at ⟨#[.agg #[.int .i64 wd,.slice ga n cap],.agg #[.int .i64 f,.int .i64 m,.int .i64 s,.int .i64 o,.int .i64 i,.int .i64 u],.func (.func fr) #[] #[],.chan (some ch),.pointer (some ⟨b4,0,none⟩),.pointer (some ⟨b5,0,none⟩),u6,u7,.int .i64 k,v9,v10,v11,v12,v13,v14,v15,v16,v17,v18,v19,v20,v21,v22],[]⟩ [.code ze4,.inLoop ze4,.inBlock 0]) (c :: cs)):=by
 intro r
 induction r with
 | zero =>
  intro k hk hfk S u6 u7 v9 v10 v11 v12 v13 v14 v15 v16 v17 v18 v19 v20 v21 v22
  have hk_has:∀ w,Calls L 74 #[.agg #[.int .i64 f,.int .i64 m,.int .i64 s,.int .i64 o,.int .i64 i,.int .i64 u],.int .i64 k] w fun e _=>e=.returned (.bool false):=fun w=>by
   have:=hhas k w
   rw [decide_eq_false (by omega)] at this
   exact this
  simp only [ze4,Tryz.f58]
  refine zag.sq ?_
  refine zag.sq ?_
  refine zag.rg ?_
  simp only [List.size_toArray,List.length_cons,List.length_nil,Nat.reduceAdd,Nat.zero_add,List.range,List.range.loop]
  refine zag.val rfl rfl (by decide) (v:=.agg #[.int .i64 f,.int .i64 m,.int .i64 s,.int .i64 o,.int .i64 i,.int .i64 u]) (fun w hp=>?_) (fun hl w hp e he=>?_) ?_
  ·have c0:=hp.cell h5 0 rfl
   have c1:=hp.cell h5 1 rfl
   have c2:=hp.cell h5 2 rfl
   have c3:=hp.cell h5 3 rfl
   have c4:=hp.cell h5 4 rfl
   have c5:=hp.cell h5 5 rfl
   go_simp
  ·have c0:=hp.cell h5 0 rfl
   have c1:=hp.cell h5 1 rfl
   have c2:=hp.cell h5 2 rfl
   have c3:=hp.cell h5 3 rfl
   have c4:=hp.cell h5 4 rfl
   have c5:=hp.cell h5 5 rfl
   simp [go_sem, *] at he
   rcases he with rfl | rfl | rfl | rfl | rfl | rfl
   all_goals exact zau hl h5 _
  walk_nrm
  refine zag.val rfl rfl (by decide) (v:=.int .i64 k) (fun w hp=>by go_simp) (fun _ w hp e he=>by simp [go_sem] at he) ?_
  walk_nrm
  refine zag.enter rfl rfl (by decide) (fun w=>run_call_body rfl Tryz.func74 rfl rfl) (fun w=>events_call_body rfl Tryz.func74 rfl rfl _) ?_
  walk_nrm
  refine zag.callv (Kc:=fun _=>False) W B hLv hlv hX hf1 rfl hx1 (by kernel_rfl) (v0:=.bool false) (fun _ _ h=>zbz h) (fun _ h=>h.elim) (fun _ _ _ h=>h.elim) (ze5 _ _ _ _ _ _ _) (fun w _ τ d=>hk_has _) fun S1=>?_
  simp only [Frame.finish_at]
  walk_nrm
  refine zag.re ?_
  refine zag.ctl rfl (fun _=>stepG_cond (t:=false) rfl) ?_
  simp only [Bool.false_eq_true,↓reduceIte]
  refine zag.ctl rfl (fun _=>stepG_exit rfl) ?_
  refine zag.ctl rfl (fun _=>stepG_end) ?_
  refine zag.ctl rfl (fun w=>stepG_leave rfl rfl Tryz.func58 (results_none rfl _ _ w) (events_results_none rfl _ _)) ?_
  obtain rfl:k=fin:=by omega
  exact hend _
 | succ r ih =>
  intro k hk hfk S u6 u7 v9 v10 v11 v12 v13 v14 v15 v16 v17 v18 v19 v20 v21 v22
  have hk_has:∀ w,Calls L 74 #[.agg #[.int .i64 f,.int .i64 m,.int .i64 s,.int .i64 o,.int .i64 i,.int .i64 u],.int .i64 k] w fun e _=>e=.returned (.bool true):=fun w=>by
   have:=hhas k w
   rw [decide_eq_true (by omega)] at this
   exact this
  have hw1:IntKind.i64.wrap ((k:Int) + 1)=((k + 1:Nat):Int):=by rw [IntKind.wrap_i64]; omega
  simp only [ze4,Tryz.f58]
  refine zag.sq ?_
  refine zag.sq ?_
  refine zag.rg ?_
  simp only [List.size_toArray,List.length_cons,List.length_nil,Nat.reduceAdd,Nat.zero_add,List.range,List.range.loop]
  refine zag.val rfl rfl (by decide) (v:=.agg #[.int .i64 f,.int .i64 m,.int .i64 s,.int .i64 o,.int .i64 i,.int .i64 u]) (fun w hp=>?_) (fun hl w hp e he=>?_) ?_
  ·have c0:=hp.cell h5 0 rfl
   have c1:=hp.cell h5 1 rfl
   have c2:=hp.cell h5 2 rfl
   have c3:=hp.cell h5 3 rfl
   have c4:=hp.cell h5 4 rfl
   have c5:=hp.cell h5 5 rfl
   go_simp
  ·have c0:=hp.cell h5 0 rfl
   have c1:=hp.cell h5 1 rfl
   have c2:=hp.cell h5 2 rfl
   have c3:=hp.cell h5 3 rfl
   have c4:=hp.cell h5 4 rfl
   have c5:=hp.cell h5 5 rfl
   simp [go_sem, *] at he
   rcases he with rfl | rfl | rfl | rfl | rfl | rfl
   all_goals exact zau hl h5 _
  walk_nrm
  refine zag.val rfl rfl (by decide) (v:=.int .i64 k) (fun w hp=>by go_simp) (fun _ w hp e he=>by simp [go_sem] at he) ?_
  walk_nrm
  refine zag.enter rfl rfl (by decide) (fun w=>run_call_body rfl Tryz.func74 rfl rfl) (fun w=>events_call_body rfl Tryz.func74 rfl rfl _) ?_
  walk_nrm
  refine zag.callv (Kc:=fun _=>False) W B hLv hlv hX hf1 rfl hx1 (by kernel_rfl) (v0:=.bool true) (fun _ _ h=>zbz h) (fun _ h=>h.elim) (fun _ _ _ h=>h.elim) (ze5 _ _ _ _ _ _ _) (fun w _ τ d=>hk_has _) fun S1=>?_
  simp only [Frame.finish_at]
  walk_nrm
  refine zag.re ?_
  refine zag.ctl rfl (fun _=>stepG_cond (t:=true) rfl) ?_
  simp only [↓reduceIte]
  refine zag.ctl rfl (fun _=>stepG_skip) ?_
  refine zag.sq ?_
  refine zag.ctl rfl (fun _=>stepG_block) ?_
  refine zag.rg ?_
  simp only [List.size_toArray,List.length_cons,List.length_nil,Nat.reduceAdd,Nat.zero_add,List.range,List.range.loop]
  refine zag.val rfl rfl (by decide) (v:=.chan (some ch)) (fun w hp=>by go_simp) (fun _ w hp e he=>by simp [go_sem] at he) ?_
  walk_nrm
  refine zag.val rfl rfl (by decide) (v:=.int .i64 k) (fun w hp=>by go_simp) (fun _ w hp e he=>by simp [go_sem] at he) ?_
  walk_nrm
  refine zag.val rfl rfl (by decide) (v:=.func (.func fr) #[] #[]) (fun w hp=>by go_simp) (fun _ w hp e he=>by simp [go_sem] at he) ?_
  walk_nrm
  refine zag.val rfl rfl (by decide) (v:=.agg #[.int .i64 wd,.slice ga n cap]) (fun w hp=>?_) (fun hl w hp e he=>?_) ?_
  ·have c0:=hp.cell h4 0 rfl
   have c1:=hp.cell h4 1 rfl
   go_simp
  ·have c0:=hp.cell h4 0 rfl
   have c1:=hp.cell h4 1 rfl
   simp [go_sem, *] at he
   rcases he with rfl | rfl
   all_goals exact zau hl h4 _
  walk_nrm
  refine zag.val rfl rfl (by decide) (v:=.int .i64 k) (fun w hp=>by go_simp) (fun _ w hp e he=>by simp [go_sem] at he) ?_
  walk_nrm
  refine zag.enter rfl rfl (by decide) (fun w=>zie rfl rfl hm2 hn2 hb2) (fun w=>zeu rfl rfl hm2 hn2 hb2 _) ?_
  walk_nrm
  refine zag.callv W B hLv hlv hX hf2 hb2 hx2 hr2 (v0:=.int .i64 (rows k)) (fun _ _ h=>zch h) hKc hcl (zjS _ hga _) (hrk k hfk (by omega)) fun S2=>?_
  simp only [Frame.finish_at]
  walk_nrm
  refine zag.val rfl rfl (by decide) (v:=.agg #[.int .i64 k,.int .i64 (rows k)]) (fun w hp=>by go_simp) (fun _ w hp e he=>by simp [go_sem] at he) ?_
  walk_nrm
  refine zag.send (l':=l) rfl rfl rfl (by decide) (v:=.agg #[.int .i64 k,.int .i64 (rows k)]) (z:=.tuple #[]) (fun w=>by go_simp) (fun w=>by simp [go_sem]) (fun c=>(S c\/S1 c)\/S2 c) (fun _ h=>h) (fun w _=>hsnd k _ w hfk (by omega) (fun c h=>h.2 h.1)) ?_ ?_
  ·exact fun hl p h=>⟨h,(hl p h).imp id fun x=>x⟩
  refine zag.re ?_
  refine zag.ctl rfl (fun _=>stepG_inBlock) ?_
  refine zag.rg ?_
  simp only [List.size_toArray,List.length_cons,List.length_nil,Nat.reduceAdd,Nat.zero_add,List.range,List.range.loop]
  refine zag.val rfl rfl (by decide) (v:=.int .i64 k) (fun w hp=>by go_simp) (fun _ w hp e he=>by simp [go_sem] at he) ?_
  walk_nrm
  refine zag.val rfl rfl (by decide) (v:=.int .i64 ((k + 1:Nat):Int)) (fun w hp=>by go_simp) (fun _ w hp e he=>by simp [go_sem] at he) ?_
  walk_nrm
  refine zag.val rfl rfl (by decide) (v:=.int .i64 ((k + 1:Nat):Int)) (fun w hp=>by go_simp) (fun _ w hp e he=>by simp [go_sem] at he) ?_
  walk_nrm
  refine zag.re ?_
  refine zag.ctl rfl (fun _=>stepG_inLoop) ?_
  exact ih (k + 1) (by omega) (by omega) _ _ _ _ _ _ _ _ _ _ _ _ _ _ _ _ _
end
end
section
open Go
abbrev znu:Go.Conc.Lib.WgLink:={ add:=46,done:=48,wait:=50,relMerge:=61,disable:=62,enable:=63,inBubble:=64,associate:=65,fatal:=66,uOr:=67,uAdd:=68,raceRead:=69,uLoad:=70,uStore:=71,disassociate:=72,semrelease:=73,acquire:=75,isAssociated:=76,uCas:=77,raceWrite:=78,semacquire:=79,orU64:=87,addU64:=88,loadU64:=89,storeU64:=90,casU64:=91,tWgP:=116,tUP:=118,tAssoc:=120,tWg:=81,tAU:=78,tU64:=76,tUint:=124,tU32:=79,tPU32:=125,tPAU:=150,tPU64:=152,tNoCopy:=73,tANoCopy:=74,tAlign64:=75 }
theorem zee:Go.Conc.Lib.WgLib Tryz.prog znu :=
 ⟨Tryz.func46,Tryz.func48,Tryz.func50,Tryz.func61,Tryz.func62,Tryz.func63,Tryz.func64,Tryz.func65,Tryz.func66,Tryz.func67,Tryz.func68,Tryz.func69,Tryz.func70,Tryz.func71,Tryz.func72,Tryz.func73,Tryz.func75,Tryz.func76,Tryz.func77,Tryz.func78,Tryz.func79,Tryz.func87,Tryz.func88,Tryz.func89,Tryz.func90,Tryz.func91,Tryz.underlying116,Tryz.runUnderlying116,Tryz.sizeOf116,Tryz.isAgg116,Tryz.zeroValue116,Tryz.underlying118,Tryz.runUnderlying118,Tryz.sizeOf118,Tryz.isAgg118,Tryz.zeroValue118,Tryz.underlying120,Tryz.runUnderlying120,Tryz.sizeOf120,Tryz.isAgg120,Tryz.zeroValue120,Tryz.underlying81,Tryz.runUnderlying81,Tryz.sizeOf81,Tryz.isAgg81,Tryz.zeroValue81,Tryz.underlying78,Tryz.runUnderlying78,Tryz.sizeOf78,Tryz.isAgg78,Tryz.zeroValue78,Tryz.underlying76,Tryz.runUnderlying76,Tryz.sizeOf76,Tryz.isAgg76,Tryz.zeroValue76,Tryz.underlying124,Tryz.runUnderlying124,Tryz.sizeOf124,Tryz.isAgg124,Tryz.zeroValue124,Tryz.underlying79,Tryz.runUnderlying79,Tryz.sizeOf79,Tryz.isAgg79,Tryz.zeroValue79,Tryz.underlying125,Tryz.runUnderlying125,Tryz.sizeOf125,Tryz.isAgg125,Tryz.zeroValue125,Tryz.underlying150,Tryz.runUnderlying150,Tryz.sizeOf150,Tryz.isAgg150,Tryz.zeroValue150,Tryz.underlying152,Tryz.runUnderlying152,Tryz.sizeOf152,Tryz.isAgg152,Tryz.zeroValue152,Tryz.underlying0,Tryz.runUnderlying0,Tryz.sizeOf0,Tryz.isAgg0,Tryz.zeroValue0,Tryz.underlying3,Tryz.runUnderlying3,Tryz.sizeOf3,Tryz.isAgg3,Tryz.zeroValue3,Tryz.underlying4,Tryz.runUnderlying4,Tryz.sizeOf4,Tryz.isAgg4,Tryz.zeroValue4,Tryz.underlying9,Tryz.runUnderlying9,Tryz.sizeOf9,Tryz.isAgg9,Tryz.zeroValue9,Tryz.underlying20,Tryz.runUnderlying20,Tryz.sizeOf20,Tryz.isAgg20,Tryz.zeroValue20,Tryz.underlying21,Tryz.runUnderlying21,Tryz.sizeOf21,Tryz.isAgg21,Tryz.zeroValue21,by kernel_rfl,by kernel_rfl⟩
end
section
open Go Go.Conc Go.ConcN Go.RowKit Go.Conc.Lib Go.ConcR.Gen Go.ConcN.Gen
open Go.ConcR (KK wgBlock WgAt stA smA rd wr mk Payload Aside2 DC0)
theorem zai.alloc {Wg ch:Nat} (w:World) (o:Obj) (h:zai ty Wg ch w):zai ty Wg ch (w.alloc o):=by
 obtain ⟨⟨st,sm,hw⟩,cap,buf,s,r,tm,hc⟩:=h
 refine ⟨⟨st,sm,hw.of_block ?_⟩,cap,buf,s,r,tm,?_⟩
 ·exact (za5 w o).2 _ (gei hw).1
 ·rw [(za5 w o).2 _ (gei hc).1]
  exact hc
def LvW (Wg ch:Nat) (c:Nat):Prop:=c=Wg\/c=ch
theorem zai.keep {Wg ch:Nat} (w w':World) (h:∀ c,LvW Wg ch c->w'.heap[c]?=w.heap[c]?) (hl:zai ty Wg ch w):zai ty Wg ch w':=by
 obtain ⟨⟨st,sm,hw⟩,cap,buf,s,r,tm,hc⟩:=hl
 exact ⟨⟨st,sm,hw.of_block (h _ (.inl rfl))⟩,cap,buf,s,r,tm,by rw [h _ (.inr rfl)]; exact hc⟩
theorem zai.low {Wg ch:Nat} (w:World) (c:Nat) (hl:zai ty Wg ch w) (h:LvW Wg ch c):c < w.heap.size:=by
 obtain ⟨⟨st,sm,hw⟩,cap,buf,s,r,tm,hc⟩:=hl
 rcases h with rfl | rfl
 ·exact (gei hw).1
 ·exact (gei hc).1
noncomputable def bot:Frame:={ (default:Frame) with fn:=Tryz.prog.funcs.size,defers:=[],mode:=.panicking [goexitEntry] }
def zbu (Wg bg bs br bc:Nat):Deferred:={ target:=.fn (.func 57) #[.pointer (some ⟨Wg,0,none⟩),.pointer (some ⟨bg,0,none⟩),.pointer (some ⟨bs,0,none⟩),.pointer (some ⟨br,0,none⟩),.pointer (some ⟨bc,0,none⟩)],args:=#[] }
theorem zlN (Wg bg bs br bc:Nat) (w:World):stepG Tryz.prog false (born Tryz.prog (zbu Wg bg bs br bc)) w =
  .go (G ((baseD 57).at ⟨#[.pointer (some ⟨Wg,0,none⟩),.pointer (some ⟨bg,0,none⟩),.pointer (some ⟨bs,0,none⟩),.pointer (some ⟨br,0,none⟩),.pointer (some ⟨bc,0,none⟩),undef,undef,undef,undef,undef],[]⟩ [.code (Tryz.f57.body.getD .skip)]) [bot]) w #[]:=by
 simp [born,zbu,stepG,unwind,callDeferred,invoke,callFunc,Tryz.func57,Tryz.f57,seen,GStep.after,G,Frame.enter,Frame.at,baseD,bot]
theorem zk0 (T:Array Value):QuitsD Tryz.prog 2 0 (G { (baseD 57).at ⟨T,[]⟩ [] with mode:=.returning } [bot]):=by
 refine QuitsD.ctl (g':=G bot []) rfl (fun w=>?_) ?_
 ·simp [G,stepG,unwind,doReturn,results,Frame.at,baseD,bot,Tryz.func57,Tryz.f57,seen,GStep.after,goexitEntry]
 refine QuitsD.ctl (g':={ G bot [] with status:=.finished }) rfl (fun w=>?_) ⟨rfl,rfl⟩
 simp [G,stepG,unwind,bot,goexitEntry,Frame.catches]
 rfl
section
variable [Payload] {L:Program} {Snd:Nat->(Nat->Prop)->Value->World->Prop} {Wg ch:Nat} {K S:Nat->Prop}
set_option maxRecDepth 100000 in
theorem zdK [T:zaC L Tryz.prog] [zaC L L] (W:Whole L) (B:Bodies L Tryz.prog X)
  (hX:∀ f,X f->∃ t,((L.funcs[f]?).bind (·.body)).getD (.refuse "unsupported: a function without a Go body is entered")=.refuse t)
  (hf1:L.funcs[74]?=some Tryz.f74) (hx1:¬ X 74)
  (hf2:L.funcs[fr]?=some fn) (hm2:Tryz.prog.funcs[fr]?=some fn) (hb2:fn.body.isSome=true) (hn2:(fn.name == "runtime.NumGoroutine")=false) (hx2:¬ X fr) (hr2:zbR fn=true)
  {n:Nat} {fst:Nat} {m s o i u:Int} {bg bs br bc:Nat} {l:List (Nat × Obj)} {fin:Nat} 
  (hg:(bg,.cells #[.int .i64 wd,.slice ga n cap] 28) ∈ l) (hs:(bs,.cells #[.int .i64 fst,.int .i64 m,.int .i64 s,.int .i64 o,.int .i64 i,.int .i64 u] 83) ∈ l) (hr:(br,.cells #[.func (.func fr) #[] #[]] 38) ∈ l) (hc:(bc,.cells #[.chan (some ch)] 110) ∈ l)
  (hKc:∀ c,Kc c->K c) (hcl:∀ w,Hp l w->Closed Kc w) (hga:zaq (zdD Kc) (.slice ga n cap) (.slice ga n cap))
  (hfin:(fin:Int)=fst + m) (hm:0<=m) (hfin2:fin<=1000)
  (hhas:∀ (k:Nat) (w:World),Calls L 74 #[.agg #[.int .i64 fst,.int .i64 m,.int .i64 s,.int .i64 o,.int .i64 i,.int .i64 u],.int .i64 k] w fun e _=>e=.returned (.bool (decide ((fst:Int)<=k/\(k:Int) < fst + m))))
  (hrk:∀ k:Nat,fst<=k->k < fin->∀ w,Hp l w->∀ τ d,Calls L fr #[.agg #[.int .i64 wd,.slice ga n cap],.int .i64 k] (w.frz.tp τ d) fun e _=>e=.returned (.int .i64 (rows k)))
  (hsnd:∀ (k:Nat) (S:Nat->Prop) (w:World),fst<=k->k < fin->(∀ c,¬ S c)->Snd k S (.agg #[.int .i64 k,.int .i64 (rows k)]) w) :
  zag Tryz.prog false (zai 81 Wg ch) (ExE Wg false) (ziB Tryz.prog 81 Wg K fin) Snd ch K l fst S (born Tryz.prog (zbu Wg bg bs br bc)):=by
 have hLa:∀ (w:World) (o:Obj),zai 81 Wg ch w->zai 81 Wg ch (w.alloc o):=zai.alloc
 refine zag.ctl rfl (fun w=>zlN Wg bg bs br bc w) ?_
 simp only [Tryz.f57,Option.getD_some]
 refine zag.sq ?_
 refine zag.rg ?_
 simp only [List.size_toArray,List.length_cons,List.length_nil,Nat.zero_add,List.range,List.range.loop]
 refine zag.ctl rfl (fun _=>stepG_defer rfl rfl (by decide) rfl) ?_
 walk_nrm
 refine zag.re ?_
 refine zag.rg ?_
 simp only [List.size_toArray,List.length_cons,List.length_nil,Nat.reduceAdd,Nat.zero_add,List.range,List.range.loop]
 refine zag.val rfl rfl (by decide) (v:=.agg #[.int .i64 wd,.slice ga n cap]) (fun w hp=>?_) (fun hl w hp e he=>?_) ?_
 ·have c0:=hp.cell hg 0 rfl
  have c1:=hp.cell hg 1 rfl
  go_simp
 ·have c0:=hp.cell hg 0 rfl
  have c1:=hp.cell hg 1 rfl
  simp [go_sem, *] at he
  rcases he with rfl | rfl
  all_goals exact zau hl hg _
 walk_nrm
 refine zag.val rfl rfl (by decide) (v:=.agg #[.int .i64 fst,.int .i64 m,.int .i64 s,.int .i64 o,.int .i64 i,.int .i64 u]) (fun w hp=>?_) (fun hl w hp e he=>?_) ?_
 ·have c0:=hp.cell hs 0 rfl
  have c1:=hp.cell hs 1 rfl
  have c2:=hp.cell hs 2 rfl
  have c3:=hp.cell hs 3 rfl
  have c4:=hp.cell hs 4 rfl
  have c5:=hp.cell hs 5 rfl
  go_simp
 ·have c0:=hp.cell hs 0 rfl
  have c1:=hp.cell hs 1 rfl
  have c2:=hp.cell hs 2 rfl
  have c3:=hp.cell hs 3 rfl
  have c4:=hp.cell hs 4 rfl
  have c5:=hp.cell hs 5 rfl
  simp [go_sem, *] at he
  rcases he with rfl | rfl | rfl | rfl | rfl | rfl
  all_goals exact zau hl hs _
 walk_nrm
 refine zag.val rfl rfl (by decide) (v:=.func (.func fr) #[] #[]) (fun w hp=>?_) (fun hl w hp e he=>?_) ?_
 ·have c0:=hp.cell hr 0 rfl
  go_simp
 ·have c0:=hp.cell hr 0 rfl
  simp [go_sem, *] at he
  subst he
  exact zau hl hr _
 walk_nrm
 refine zag.val rfl rfl (by decide) (v:=.chan (some ch)) (fun w hp=>?_) (fun hl w hp e he=>?_) ?_
 ·have c0:=hp.cell hc 0 rfl
  go_simp
 ·have c0:=hp.cell hc 0 rfl
  simp [go_sem, *] at he
  subst he
  exact zau hl hc _
 walk_nrm
 refine zag.enter rfl rfl (by decide) (fun w=>run_call_body rfl Tryz.func58 rfl rfl) (fun w=>events_call_body rfl Tryz.func58 rfl rfl _) ?_
 rw [enter_at _ Tryz.func58 rfl]
 walk_nrmf Tryz.f58
 refine zag.sq ?_
 refine zag.rg ?_
 simp only [List.size_toArray,List.length_cons,List.length_nil,Nat.reduceAdd,Nat.zero_add,List.range,List.range.loop]
 refine zag.new hLa rfl rfl (by decide) (V:=fun c=>.pointer (some ⟨c,0,none⟩)) (obj:=.cells #[.int .i64 wd,.slice ga n cap] 28) (fun w hp=>by go_simp) (fun _ w hp e he=>by simp [go_sem] at he) fun b4 hK_b4 hS_b4=>?_
 walk_nrm
 refine zag.new hLa rfl rfl (by decide) (V:=fun c=>.pointer (some ⟨c,0,none⟩)) (obj:=.cells #[.int .i64 fst,.int .i64 m,.int .i64 s,.int .i64 o,.int .i64 i,.int .i64 u] 83) (fun w hp=>by go_simp) (fun _ w hp e he=>by simp [go_sem] at he) fun b5 hK_b5 hS_b5=>?_
 walk_nrm
 refine zag.re ?_
 refine zag.sq ?_
 refine zag.rg ?_
 simp only [List.size_toArray,List.length_cons,List.length_nil,Nat.reduceAdd,Nat.zero_add,List.range,List.range.loop]
 refine zag.val rfl rfl (by decide) (v:=.pointer (some ⟨b5,0,none⟩)) (fun w hp=>by go_simp) (fun _ w hp e he=>by simp [go_sem] at he) ?_
 walk_nrm
 refine zag.val rfl rfl (by decide) (v:=.int .i64 fst) (fun w hp=>?_) (fun hl w hp e he=>?_) ?_
 ·have c0:=hp.cell mcs 0 rfl
  go_simp
 ·have c0:=hp.cell mcs 0 rfl
  simp [go_sem, *] at he
  subst he
  exact zau hl mcs _
 walk_nrm
 refine zag.val rfl rfl (by decide) (v:=.int .i64 fst) (fun w hp=>by go_simp) (fun _ w hp e he=>by simp [go_sem] at he) ?_
 walk_nrm
 refine zag.re ?_
 refine zag.ctl rfl (fun _=>stepG_block) ?_
 refine zag.ctl rfl (fun _=>stepG_loop) ?_
 refine zmZ (Lv:=LvW Wg ch) (f:=(fst:Int)) W B zai.keep zai.low hX hf1 hx1 hf2 hm2 hb2 hn2 hx2 hr2 (by simp) (by simp) hKc (fun w hp=>hcl w fun p h=>hp p (by simp [h])) hga hfin hfin2 hhas (fun k h1 h2 w hp=>hrk k (by omega) h2 w fun p h=>hp p (by simp [h])) (fun k S w h1 h2=>hsnd k S w (by omega) h2) ?_ (fin - fst) fst (by omega) (by omega) _ _ _ _ _ _ _ _ _ _ _ _ _ _ _ _ _
 intro S2
 simp only [Frame.finish_at]
 walk_nrm
 refine zag.re ?_
 refine zag.ctl rfl (fun _=>stepG_end) ?_
 refine zag.ctl rfl (fun _=>stepG_unwind_enter rfl Tryz.func48 rfl rfl) ?_
 walk_nrmf Tryz.f48
 intro hl w hp hL hlt
 exact zjO zee (C:=bs) (v:=.int .i64 fst) (hl _ (mcm (mcm hs))) rfl (zk0 _) w hL (hp.cell (mcm (mcm hs)) 0 rfl)
end
noncomputable abbrev zdl:Code:=match Tryz.f42.body with | some (.seq _ (.seq _ (.seq _ (.seq _ (.seq _ (.seq (.seq _ (.block _ (.loop c))) _))))))=>c | _=>.skip
noncomputable abbrev zbx:Code:=match Tryz.f42.body with | some (.seq _ (.seq _ (.seq _ (.seq _ (.seq _ (.seq (.seq _ (.block _ (.loop _))) c))))))=>c | _=>.skip
theorem zaL:(Tryz.prog.info? 83).map (·.size)=some 6:=by kernel_rfl
theorem zqH (x0 x1 x2 x3 x4 x5 x6 x7 x8 x9 x10 x11 x12 x13 x14 x15 x16 x17 x18 x19 x20 x21 x22 x23:Int) (w:World):Sem.run Tryz.prog (Instr.index 84 (.agg #[.int .i64 x0,.int .i64 x1,.int .i64 x2,.int .i64 x3,.int .i64 x4,.int .i64 x5,.int .i64 x6,.int .i64 x7,.int .i64 x8,.int .i64 x9,.int .i64 x10,.int .i64 x11,.int .i64 x12,.int .i64 x13,.int .i64 x14,.int .i64 x15,.int .i64 x16,.int .i64 x17,.int .i64 x18,.int .i64 x19,.int .i64 x20,.int .i64 x21,.int .i64 x22,.int .i64 x23]) (.int .i64 0)) w=.ok (.agg #[.int .i64 x0,.int .i64 x1,.int .i64 x2,.int .i64 x3,.int .i64 x4,.int .i64 x5]) w:=by kernel_rfl
theorem zpo (x0 x1 x2 x3 x4 x5 x6 x7 x8 x9 x10 x11 x12 x13 x14 x15 x16 x17 x18 x19 x20 x21 x22 x23:Int) (w:World) (es:Array Event):Sem.events Tryz.prog (Instr.index 84 (.agg #[.int .i64 x0,.int .i64 x1,.int .i64 x2,.int .i64 x3,.int .i64 x4,.int .i64 x5,.int .i64 x6,.int .i64 x7,.int .i64 x8,.int .i64 x9,.int .i64 x10,.int .i64 x11,.int .i64 x12,.int .i64 x13,.int .i64 x14,.int .i64 x15,.int .i64 x16,.int .i64 x17,.int .i64 x18,.int .i64 x19,.int .i64 x20,.int .i64 x21,.int .i64 x22,.int .i64 x23]) (.int .i64 0)) w es=es:=by kernel_rfl
theorem zqI (x0 x1 x2 x3 x4 x5 x6 x7 x8 x9 x10 x11 x12 x13 x14 x15 x16 x17 x18 x19 x20 x21 x22 x23:Int) (w:World):Sem.run Tryz.prog (Instr.index 84 (.agg #[.int .i64 x0,.int .i64 x1,.int .i64 x2,.int .i64 x3,.int .i64 x4,.int .i64 x5,.int .i64 x6,.int .i64 x7,.int .i64 x8,.int .i64 x9,.int .i64 x10,.int .i64 x11,.int .i64 x12,.int .i64 x13,.int .i64 x14,.int .i64 x15,.int .i64 x16,.int .i64 x17,.int .i64 x18,.int .i64 x19,.int .i64 x20,.int .i64 x21,.int .i64 x22,.int .i64 x23]) (.int .i64 1)) w=.ok (.agg #[.int .i64 x6,.int .i64 x7,.int .i64 x8,.int .i64 x9,.int .i64 x10,.int .i64 x11]) w:=by kernel_rfl
theorem zpp (x0 x1 x2 x3 x4 x5 x6 x7 x8 x9 x10 x11 x12 x13 x14 x15 x16 x17 x18 x19 x20 x21 x22 x23:Int) (w:World) (es:Array Event):Sem.events Tryz.prog (Instr.index 84 (.agg #[.int .i64 x0,.int .i64 x1,.int .i64 x2,.int .i64 x3,.int .i64 x4,.int .i64 x5,.int .i64 x6,.int .i64 x7,.int .i64 x8,.int .i64 x9,.int .i64 x10,.int .i64 x11,.int .i64 x12,.int .i64 x13,.int .i64 x14,.int .i64 x15,.int .i64 x16,.int .i64 x17,.int .i64 x18,.int .i64 x19,.int .i64 x20,.int .i64 x21,.int .i64 x22,.int .i64 x23]) (.int .i64 1)) w es=es:=by kernel_rfl
theorem zqJ (x0 x1 x2 x3 x4 x5 x6 x7 x8 x9 x10 x11 x12 x13 x14 x15 x16 x17 x18 x19 x20 x21 x22 x23:Int) (w:World):Sem.run Tryz.prog (Instr.index 84 (.agg #[.int .i64 x0,.int .i64 x1,.int .i64 x2,.int .i64 x3,.int .i64 x4,.int .i64 x5,.int .i64 x6,.int .i64 x7,.int .i64 x8,.int .i64 x9,.int .i64 x10,.int .i64 x11,.int .i64 x12,.int .i64 x13,.int .i64 x14,.int .i64 x15,.int .i64 x16,.int .i64 x17,.int .i64 x18,.int .i64 x19,.int .i64 x20,.int .i64 x21,.int .i64 x22,.int .i64 x23]) (.int .i64 2)) w=.ok (.agg #[.int .i64 x12,.int .i64 x13,.int .i64 x14,.int .i64 x15,.int .i64 x16,.int .i64 x17]) w:=by kernel_rfl
theorem zpq (x0 x1 x2 x3 x4 x5 x6 x7 x8 x9 x10 x11 x12 x13 x14 x15 x16 x17 x18 x19 x20 x21 x22 x23:Int) (w:World) (es:Array Event):Sem.events Tryz.prog (Instr.index 84 (.agg #[.int .i64 x0,.int .i64 x1,.int .i64 x2,.int .i64 x3,.int .i64 x4,.int .i64 x5,.int .i64 x6,.int .i64 x7,.int .i64 x8,.int .i64 x9,.int .i64 x10,.int .i64 x11,.int .i64 x12,.int .i64 x13,.int .i64 x14,.int .i64 x15,.int .i64 x16,.int .i64 x17,.int .i64 x18,.int .i64 x19,.int .i64 x20,.int .i64 x21,.int .i64 x22,.int .i64 x23]) (.int .i64 2)) w es=es:=by kernel_rfl
theorem zqK (x0 x1 x2 x3 x4 x5 x6 x7 x8 x9 x10 x11 x12 x13 x14 x15 x16 x17 x18 x19 x20 x21 x22 x23:Int) (w:World):Sem.run Tryz.prog (Instr.index 84 (.agg #[.int .i64 x0,.int .i64 x1,.int .i64 x2,.int .i64 x3,.int .i64 x4,.int .i64 x5,.int .i64 x6,.int .i64 x7,.int .i64 x8,.int .i64 x9,.int .i64 x10,.int .i64 x11,.int .i64 x12,.int .i64 x13,.int .i64 x14,.int .i64 x15,.int .i64 x16,.int .i64 x17,.int .i64 x18,.int .i64 x19,.int .i64 x20,.int .i64 x21,.int .i64 x22,.int .i64 x23]) (.int .i64 3)) w=.ok (.agg #[.int .i64 x18,.int .i64 x19,.int .i64 x20,.int .i64 x21,.int .i64 x22,.int .i64 x23]) w:=by kernel_rfl
theorem zpr (x0 x1 x2 x3 x4 x5 x6 x7 x8 x9 x10 x11 x12 x13 x14 x15 x16 x17 x18 x19 x20 x21 x22 x23:Int) (w:World) (es:Array Event):Sem.events Tryz.prog (Instr.index 84 (.agg #[.int .i64 x0,.int .i64 x1,.int .i64 x2,.int .i64 x3,.int .i64 x4,.int .i64 x5,.int .i64 x6,.int .i64 x7,.int .i64 x8,.int .i64 x9,.int .i64 x10,.int .i64 x11,.int .i64 x12,.int .i64 x13,.int .i64 x14,.int .i64 x15,.int .i64 x16,.int .i64 x17,.int .i64 x18,.int .i64 x19,.int .i64 x20,.int .i64 x21,.int .i64 x22,.int .i64 x23]) (.int .i64 3)) w es=es:=by kernel_rfl
theorem zai.aside {Wg ch c:Nat} (hc:¬ LvW Wg ch c) (w w':World) (h:∀ d,d ≠ c->w'.heap[d]?=w.heap[d]?) (hl:zai ty Wg ch w):zai ty Wg ch w' :=
 zai.keep w w' (fun d hd=>h d (by rintro rfl; exact hc hd)) hl
section
variable [Payload] {Snd:Nat->(Nat->Prop)->Value->World->Prop} {Wg ch:Nat} {fst fin:Nat->Nat} {B:Nat->Prop} {Q:World->Prop} {l:List (Nat × Obj)} {gV rV:Value} {many:Int} {bg br bc:Nat} {c:Frame} {cs:List Frame} {x0 x1 x2 x3 x4 x5 x6 x7 x8 x9 x10 x11 x12 x13 x14 x15 x16 x17 x18 x19 x20 x21 x22 x23:Int} {St1:(Nat->Prop)->St} {jn:Nat}
set_option maxRecDepth 100000 in
theorem zqb (hQ:zeH B Q)
  (hchild:∀ (K:Nat->Prop) (bs:Nat) (l':List (Nat × Obj)),(bs,.cells #[.int .i64 x18,.int .i64 x19,.int .i64 x20,.int .i64 x21,.int .i64 x22,.int .i64 x23] 83) ∈ l'->(∀ p ∈ l,p ∈ l')->(∀ p ∈ l',K p.1)->∀ w,Hp l' w->zai 81 Wg ch w->(∀ c,K c->c < w.heap.size)->∃ rc,Sit Tryz.prog 81 Wg ch Snd K (fun _=>False) (fst jn) (fin jn) ⟨7,0,0⟩ rc (born Tryz.prog (zbu Wg bg bs br bc)) w)
  (hnext:∀ (K':Nat->Prop) (v9 v22 v23 v24 v25 v26:Value),(∀ c,B c->K' c)->(∀ c,K' c->¬ LvW Wg ch c)->zal Tryz.prog true (zai 81 Wg ch) (ExE Wg true) (fun _ S g w=>St1 K' S g w) (fun _ _ _ _=>False) ch K' Q l 0 (fun _=>False) (G ((base 42).at ⟨#[gV,rV,.pointer (some ⟨bg,0,none⟩),.pointer (some ⟨br,0,none⟩),.slice none 0 0,.int .i64 many,.pointer (some ⟨bc,0,none⟩),.pointer (some ⟨Wg,0,none⟩),undef,v9,undef,undef,gV,.bool true,.bool false,gV,.int .i64 many,.int .i64 many,.chan (some ch),gV,.agg #[.int .i64 x0,.int .i64 x1,.int .i64 x2,.int .i64 x3,.int .i64 x4,.int .i64 x5,.int .i64 x6,.int .i64 x7,.int .i64 x8,.int .i64 x9,.int .i64 x10,.int .i64 x11,.int .i64 x12,.int .i64 x13,.int .i64 x14,.int .i64 x15,.int .i64 x16,.int .i64 x17,.int .i64 x18,.int .i64 x19,.int .i64 x20,.int .i64 x21,.int .i64 x22,.int .i64 x23],.int .i64 4,v22,v23,v24,v25,v26,undef,undef,undef,undef,undef,undef,undef,undef,undef,undef,undef,undef,undef,undef,undef],[]⟩ [.code zdl,.inLoop zdl,.inBlock 0,.code zbx]) (c :: cs)))
  {K S:Nat->Prop} (hBK:∀ c,B c->K c) (hKL:∀ c,K c\/S c->¬ LvW Wg ch c) (v9 v22 v23 v24 v25 v26:Value):zal Tryz.prog true (zai 81 Wg ch) (ExE Wg true) (fun _ S g w=>zeI Tryz.prog 81 Wg ch Snd fst fin K jn (fun K S g w=>WX Tryz.prog 81 Wg ch K (St1 K) S g w) S g w) (fun _ _ _ _=>False) ch K Q l 0 S
  (G ((base 42).at ⟨#[gV,rV,.pointer (some ⟨bg,0,none⟩),.pointer (some ⟨br,0,none⟩),.slice none 0 0,.int .i64 many,.pointer (some ⟨bc,0,none⟩),.pointer (some ⟨Wg,0,none⟩),undef,v9,undef,undef,gV,.bool true,.bool false,gV,.int .i64 many,.int .i64 many,.chan (some ch),gV,.agg #[.int .i64 x0,.int .i64 x1,.int .i64 x2,.int .i64 x3,.int .i64 x4,.int .i64 x5,.int .i64 x6,.int .i64 x7,.int .i64 x8,.int .i64 x9,.int .i64 x10,.int .i64 x11,.int .i64 x12,.int .i64 x13,.int .i64 x14,.int .i64 x15,.int .i64 x16,.int .i64 x17,.int .i64 x18,.int .i64 x19,.int .i64 x20,.int .i64 x21,.int .i64 x22,.int .i64 x23],.int .i64 3,v22,v23,v24,v25,v26,undef,undef,undef,undef,undef,undef,undef,undef,undef,undef,undef,undef,undef,undef,undef],[]⟩ [.code zdl,.inLoop zdl,.inBlock 0,.code zbx]) (c :: cs)):=by
 simp only [zdl,Tryz.f42]
 refine zal.sq ?_
 refine zal.rg ?_
 simp only [List.size_toArray,List.length_cons,List.length_nil,Nat.zero_add,List.range,List.range.loop]
 refine zal.val rfl rfl (by decide) (v:=.bool true) (fun w hp=>by go_simp) (fun _ w hp e he=>by simp [go_sem] at he) ?_
 walk_nrm
 refine zal.re ?_
 refine zal.sq ?_
 refine zal.ctl rfl (fun _=>stepG_cond (t:=true) rfl) ?_
 simp only [↓reduceIte]
 refine zal.ctl rfl (fun _=>stepG_skip) ?_
 refine zal.sq ?_
 refine zal.ctl rfl (fun _=>stepG_block) ?_
 refine zal.sq ?_
 refine zal.rg ?_
 simp only [List.size_toArray,List.length_cons,List.length_nil,Nat.reduceAdd,Nat.zero_add,List.range,List.range.loop]
 refine zal.val rfl rfl (by decide) (v:=.agg #[.int .i64 x18,.int .i64 x19,.int .i64 x20,.int .i64 x21,.int .i64 x22,.int .i64 x23]) (fun w hp=>by (have hi:=zqK x0 x1 x2 x3 x4 x5 x6 x7 x8 x9 x10 x11 x12 x13 x14 x15 x16 x17 x18 x19 x20 x21 x22 x23 w; go_simp)) (fun _ w hp e he=>by simp [go_sem,zpr] at he) ?_
 walk_nrm
 refine zal.new hQ hBK zai.low zai.alloc rfl rfl (by decide) (V:=fun c=>.pointer (some ⟨c,0,none⟩)) (obj:=.cells #[.int .i64 0,.int .i64 0,.int .i64 0,.int .i64 0,.int .i64 0,.int .i64 0] 83) (fun w hp=>by go_simp) (fun _ w hp e he=>by simp [go_sem] at he) fun b9 hK_b9 hS_b9 hv_b9 hl_b9=>?_
 walk_nrm
 refine zal.put (l':=(b9,.cells #[.int .i64 x18,.int .i64 x19,.int .i64 x20,.int .i64 x21,.int .i64 x22,.int .i64 x23] 83) :: l) (c:=b9) (obj:=.cells #[.int .i64 x18,.int .i64 x19,.int .i64 x20,.int .i64 x21,.int .i64 x22,.int .i64 x23] 83) hQ hBK rfl rfl (by decide) (Or.inr rfl) (fun h=>hK_b9 (hBK b9 h)) (zai.aside hv_b9) (fun w hp=>⟨w.setRow b9 #[.int .i64 x18,.int .i64 x19,.int .i64 x20,.int .i64 x21,.int .i64 x22,.int .i64 x23],zbL (ty:=83) rfl rfl rfl (hp.at mcs) zaL rfl (by simp [Value.oneCell']),(zam (hp.at mcs)).1,(zam (hp.at mcs)).2⟩) (fun _ w hp e he=>?_) (fun p hp=>?_) ?_
 ·obtain ⟨q,rfl⟩:=zcH (cells:=#[.int .i64 x18,.int .i64 x19,.int .i64 x20,.int .i64 x21,.int .i64 x22,.int .i64 x23]) (ty:=83) rfl rfl rfl (hp.at mcs) zaL rfl (by simp [Value.oneCell']) e he
  exact Or.inl ⟨_,_,rfl,Or.inl (Or.inr rfl)⟩
 ·rcases List.mem_cons.1 hp with rfl | hp
  ·exact Or.inl rfl
  ·exact Or.inr ⟨mcm hp,hl_b9 p hp⟩
 walk_nrm
 refine zal.re ?_
 refine zal.sq ?_
 refine zal.rg ?_
 simp only [List.size_toArray,List.length_cons,List.length_nil,Nat.zero_add,List.range,List.range.loop]
 refine zal.enter rfl rfl (by decide) (fun w=>run_call_body rfl Tryz.func46 rfl rfl) (fun w=>events_call_body rfl Tryz.func46 rfl rfl _) ?_
 rw [enter_at _ Tryz.func46 rfl]
 walk_nrmf Tryz.f46
 intro hl w hp hL hq hlt
 have hKL9:∀ d,K d\/S d\/d=b9->¬ LvW Wg ch d:=fun d hd=>by rcases hd with h | h | rfl; exact hKL d (.inl h); exact hKL d (.inr h); exact hv_b9
 refine zbJ (Fp:=zeg Q _ (fun d=>K d\/S d\/d=b9)) (S:=fun d=>S d\/d=b9) zee (zbi hQ) (fun h=>?_) (fun d hd=>?_) ?_ w ⟨hq,hp,hlt⟩ hL
 ·rcases h with h | ⟨p,hp,h⟩
  ·exact hKL _ (.inl (hBK _ h)) (.inl rfl)
  ·exact hKL9 _ (hl p hp) (.inl h)
 ·rcases hd with h | ⟨p,hp,rfl⟩
  ·exact .inl (hBK _ h)
  ·exact hl p hp
 rintro w ⟨hq,hp,hlt⟩ hL
 refine (?_:zal Tryz.prog true (zai 81 Wg ch) (ExE Wg true) (fun _ S g w=>MGo Tryz.prog 81 Wg ch Snd fst fin K jn (fun K S g w=>WX Tryz.prog 81 Wg ch K (St1 K) S g w) S g w) (fun _ _ _ _=>False) ch K Q ((b9,.cells #[.int .i64 x18,.int .i64 x19,.int .i64 x20,.int .i64 x21,.int .i64 x22,.int .i64 x23] 83) :: l) 0 (fun d=>S d\/d=b9) _) hl w hp hL hq hlt
 walk_nrm
 refine zal.re ?_
 refine zal.rg ?_
 simp only [List.size_toArray,List.length_cons,List.length_nil,Nat.reduceAdd,Nat.zero_add,List.range,List.range.loop]
 refine zal.val rfl rfl (by decide) (v:=.func (.func 57) #[] #[.pointer (some ⟨Wg,0,none⟩),.pointer (some ⟨bg,0,none⟩),.pointer (some ⟨b9,0,none⟩),.pointer (some ⟨br,0,none⟩),.pointer (some ⟨bc,0,none⟩)]) (fun w hp=>by go_simp) (fun _ w hp e he=>by simp [go_sem] at he) ?_
 walk_nrm
 refine zal.stop hQ hBK fun hl w hp hL hq hlt=>?_
 obtain ⟨rc,hsit⟩:=hchild (fun d=>K d\/S d\/d=b9) b9 ((b9,.cells #[.int .i64 x18,.int .i64 x19,.int .i64 x20,.int .i64 x21,.int .i64 x22,.int .i64 x23] 83) :: l) mcs (fun p h=>mcm h) hl w hp hL hlt
 refine ⟨rfl,_,born Tryz.prog (zbu Wg bg b9 br bc),fun d=>K d\/S d\/d=b9,rc,zcT rfl rfl (by decide) rfl rfl,fun _ h=>h,hsit,?_⟩
 show WX Tryz.prog 81 Wg ch (fun d=>K d\/S d\/d=b9) (St1 (fun d=>K d\/S d\/d=b9)) (fun _=>False) _ w
 refine (?_:zal Tryz.prog true (zai 81 Wg ch) (ExE Wg true) (fun _ S1 g w=>St1 (fun d=>K d\/(S d\/d=b9)) S1 g w) (fun _ _ _ _=>False) ch (fun d=>K d\/(S d\/d=b9)) Q l 0 (fun _=>False) _) (fun p h=>.inl (hl p (mcm h))) w (fun p h=>hp p (mcm h)) hL hq (fun d hd=>hlt d (by simpa using hd))
 walk_nrm
 refine zal.re ?_
 refine zal.ctl rfl (fun _=>stepG_inBlock) ?_
 refine zal.rg ?_
 simp only [List.size_toArray,List.length_cons,List.length_nil,Nat.reduceAdd,Nat.zero_add,List.range,List.range.loop]
 refine zal.val rfl rfl (by decide) (v:=.int .i64 4) (fun w hp=>by (go_simp; decide)) (fun _ w hp e he=>by simp [go_sem] at he) ?_
 walk_nrm
 refine zal.val rfl rfl (by decide) (v:=.int .i64 4) (fun w hp=>by go_simp) (fun _ w hp e he=>by simp [go_sem] at he) ?_
 walk_nrm
 refine zal.re ?_
 refine zal.ctl rfl (fun _=>stepG_inLoop) ?_
 exact hnext _ _ _ _ _ _ _ (fun d hd=>.inl (hBK d hd)) hKL9
set_option maxRecDepth 100000 in
theorem zqa (hQ:zeH B Q)
  (hchild:∀ (K:Nat->Prop) (bs:Nat) (l':List (Nat × Obj)),(bs,.cells #[.int .i64 x12,.int .i64 x13,.int .i64 x14,.int .i64 x15,.int .i64 x16,.int .i64 x17] 83) ∈ l'->(∀ p ∈ l,p ∈ l')->(∀ p ∈ l',K p.1)->∀ w,Hp l' w->zai 81 Wg ch w->(∀ c,K c->c < w.heap.size)->∃ rc,Sit Tryz.prog 81 Wg ch Snd K (fun _=>False) (fst jn) (fin jn) ⟨7,0,0⟩ rc (born Tryz.prog (zbu Wg bg bs br bc)) w)
  (hnext:∀ (K':Nat->Prop) (v9 v22 v23 v24 v25 v26:Value),(∀ c,B c->K' c)->(∀ c,K' c->¬ LvW Wg ch c)->zal Tryz.prog true (zai 81 Wg ch) (ExE Wg true) (fun _ S g w=>St1 K' S g w) (fun _ _ _ _=>False) ch K' Q l 0 (fun _=>False) (G ((base 42).at ⟨#[gV,rV,.pointer (some ⟨bg,0,none⟩),.pointer (some ⟨br,0,none⟩),.slice none 0 0,.int .i64 many,.pointer (some ⟨bc,0,none⟩),.pointer (some ⟨Wg,0,none⟩),undef,v9,undef,undef,gV,.bool true,.bool false,gV,.int .i64 many,.int .i64 many,.chan (some ch),gV,.agg #[.int .i64 x0,.int .i64 x1,.int .i64 x2,.int .i64 x3,.int .i64 x4,.int .i64 x5,.int .i64 x6,.int .i64 x7,.int .i64 x8,.int .i64 x9,.int .i64 x10,.int .i64 x11,.int .i64 x12,.int .i64 x13,.int .i64 x14,.int .i64 x15,.int .i64 x16,.int .i64 x17,.int .i64 x18,.int .i64 x19,.int .i64 x20,.int .i64 x21,.int .i64 x22,.int .i64 x23],.int .i64 3,v22,v23,v24,v25,v26,undef,undef,undef,undef,undef,undef,undef,undef,undef,undef,undef,undef,undef,undef,undef],[]⟩ [.code zdl,.inLoop zdl,.inBlock 0,.code zbx]) (c :: cs)))
  {K S:Nat->Prop} (hBK:∀ c,B c->K c) (hKL:∀ c,K c\/S c->¬ LvW Wg ch c) (v9 v22 v23 v24 v25 v26:Value):zal Tryz.prog true (zai 81 Wg ch) (ExE Wg true) (fun _ S g w=>zeI Tryz.prog 81 Wg ch Snd fst fin K jn (fun K S g w=>WX Tryz.prog 81 Wg ch K (St1 K) S g w) S g w) (fun _ _ _ _=>False) ch K Q l 0 S
  (G ((base 42).at ⟨#[gV,rV,.pointer (some ⟨bg,0,none⟩),.pointer (some ⟨br,0,none⟩),.slice none 0 0,.int .i64 many,.pointer (some ⟨bc,0,none⟩),.pointer (some ⟨Wg,0,none⟩),undef,v9,undef,undef,gV,.bool true,.bool false,gV,.int .i64 many,.int .i64 many,.chan (some ch),gV,.agg #[.int .i64 x0,.int .i64 x1,.int .i64 x2,.int .i64 x3,.int .i64 x4,.int .i64 x5,.int .i64 x6,.int .i64 x7,.int .i64 x8,.int .i64 x9,.int .i64 x10,.int .i64 x11,.int .i64 x12,.int .i64 x13,.int .i64 x14,.int .i64 x15,.int .i64 x16,.int .i64 x17,.int .i64 x18,.int .i64 x19,.int .i64 x20,.int .i64 x21,.int .i64 x22,.int .i64 x23],.int .i64 2,v22,v23,v24,v25,v26,undef,undef,undef,undef,undef,undef,undef,undef,undef,undef,undef,undef,undef,undef,undef],[]⟩ [.code zdl,.inLoop zdl,.inBlock 0,.code zbx]) (c :: cs)):=by
 simp only [zdl,Tryz.f42]
 refine zal.sq ?_
 refine zal.rg ?_
 simp only [List.size_toArray,List.length_cons,List.length_nil,Nat.zero_add,List.range,List.range.loop]
 refine zal.val rfl rfl (by decide) (v:=.bool true) (fun w hp=>by go_simp) (fun _ w hp e he=>by simp [go_sem] at he) ?_
 walk_nrm
 refine zal.re ?_
 refine zal.sq ?_
 refine zal.ctl rfl (fun _=>stepG_cond (t:=true) rfl) ?_
 simp only [↓reduceIte]
 refine zal.ctl rfl (fun _=>stepG_skip) ?_
 refine zal.sq ?_
 refine zal.ctl rfl (fun _=>stepG_block) ?_
 refine zal.sq ?_
 refine zal.rg ?_
 simp only [List.size_toArray,List.length_cons,List.length_nil,Nat.reduceAdd,Nat.zero_add,List.range,List.range.loop]
 refine zal.val rfl rfl (by decide) (v:=.agg #[.int .i64 x12,.int .i64 x13,.int .i64 x14,.int .i64 x15,.int .i64 x16,.int .i64 x17]) (fun w hp=>by (have hi:=zqJ x0 x1 x2 x3 x4 x5 x6 x7 x8 x9 x10 x11 x12 x13 x14 x15 x16 x17 x18 x19 x20 x21 x22 x23 w; go_simp)) (fun _ w hp e he=>by simp [go_sem,zpq] at he) ?_
 walk_nrm
 refine zal.new hQ hBK zai.low zai.alloc rfl rfl (by decide) (V:=fun c=>.pointer (some ⟨c,0,none⟩)) (obj:=.cells #[.int .i64 0,.int .i64 0,.int .i64 0,.int .i64 0,.int .i64 0,.int .i64 0] 83) (fun w hp=>by go_simp) (fun _ w hp e he=>by simp [go_sem] at he) fun b9 hK_b9 hS_b9 hv_b9 hl_b9=>?_
 walk_nrm
 refine zal.put (l':=(b9,.cells #[.int .i64 x12,.int .i64 x13,.int .i64 x14,.int .i64 x15,.int .i64 x16,.int .i64 x17] 83) :: l) (c:=b9) (obj:=.cells #[.int .i64 x12,.int .i64 x13,.int .i64 x14,.int .i64 x15,.int .i64 x16,.int .i64 x17] 83) hQ hBK rfl rfl (by decide) (Or.inr rfl) (fun h=>hK_b9 (hBK b9 h)) (zai.aside hv_b9) (fun w hp=>⟨w.setRow b9 #[.int .i64 x12,.int .i64 x13,.int .i64 x14,.int .i64 x15,.int .i64 x16,.int .i64 x17],zbL (ty:=83) rfl rfl rfl (hp.at mcs) zaL rfl (by simp [Value.oneCell']),(zam (hp.at mcs)).1,(zam (hp.at mcs)).2⟩) (fun _ w hp e he=>?_) (fun p hp=>?_) ?_
 ·obtain ⟨q,rfl⟩:=zcH (cells:=#[.int .i64 x12,.int .i64 x13,.int .i64 x14,.int .i64 x15,.int .i64 x16,.int .i64 x17]) (ty:=83) rfl rfl rfl (hp.at mcs) zaL rfl (by simp [Value.oneCell']) e he
  exact Or.inl ⟨_,_,rfl,Or.inl (Or.inr rfl)⟩
 ·rcases List.mem_cons.1 hp with rfl | hp
  ·exact Or.inl rfl
  ·exact Or.inr ⟨mcm hp,hl_b9 p hp⟩
 walk_nrm
 refine zal.re ?_
 refine zal.sq ?_
 refine zal.rg ?_
 simp only [List.size_toArray,List.length_cons,List.length_nil,Nat.zero_add,List.range,List.range.loop]
 refine zal.enter rfl rfl (by decide) (fun w=>run_call_body rfl Tryz.func46 rfl rfl) (fun w=>events_call_body rfl Tryz.func46 rfl rfl _) ?_
 rw [enter_at _ Tryz.func46 rfl]
 walk_nrmf Tryz.f46
 intro hl w hp hL hq hlt
 have hKL9:∀ d,K d\/S d\/d=b9->¬ LvW Wg ch d:=fun d hd=>by rcases hd with h | h | rfl; exact hKL d (.inl h); exact hKL d (.inr h); exact hv_b9
 refine zbJ (Fp:=zeg Q _ (fun d=>K d\/S d\/d=b9)) (S:=fun d=>S d\/d=b9) zee (zbi hQ) (fun h=>?_) (fun d hd=>?_) ?_ w ⟨hq,hp,hlt⟩ hL
 ·rcases h with h | ⟨p,hp,h⟩
  ·exact hKL _ (.inl (hBK _ h)) (.inl rfl)
  ·exact hKL9 _ (hl p hp) (.inl h)
 ·rcases hd with h | ⟨p,hp,rfl⟩
  ·exact .inl (hBK _ h)
  ·exact hl p hp
 rintro w ⟨hq,hp,hlt⟩ hL
 refine (?_:zal Tryz.prog true (zai 81 Wg ch) (ExE Wg true) (fun _ S g w=>MGo Tryz.prog 81 Wg ch Snd fst fin K jn (fun K S g w=>WX Tryz.prog 81 Wg ch K (St1 K) S g w) S g w) (fun _ _ _ _=>False) ch K Q ((b9,.cells #[.int .i64 x12,.int .i64 x13,.int .i64 x14,.int .i64 x15,.int .i64 x16,.int .i64 x17] 83) :: l) 0 (fun d=>S d\/d=b9) _) hl w hp hL hq hlt
 walk_nrm
 refine zal.re ?_
 refine zal.rg ?_
 simp only [List.size_toArray,List.length_cons,List.length_nil,Nat.reduceAdd,Nat.zero_add,List.range,List.range.loop]
 refine zal.val rfl rfl (by decide) (v:=.func (.func 57) #[] #[.pointer (some ⟨Wg,0,none⟩),.pointer (some ⟨bg,0,none⟩),.pointer (some ⟨b9,0,none⟩),.pointer (some ⟨br,0,none⟩),.pointer (some ⟨bc,0,none⟩)]) (fun w hp=>by go_simp) (fun _ w hp e he=>by simp [go_sem] at he) ?_
 walk_nrm
 refine zal.stop hQ hBK fun hl w hp hL hq hlt=>?_
 obtain ⟨rc,hsit⟩:=hchild (fun d=>K d\/S d\/d=b9) b9 ((b9,.cells #[.int .i64 x12,.int .i64 x13,.int .i64 x14,.int .i64 x15,.int .i64 x16,.int .i64 x17] 83) :: l) mcs (fun p h=>mcm h) hl w hp hL hlt
 refine ⟨rfl,_,born Tryz.prog (zbu Wg bg b9 br bc),fun d=>K d\/S d\/d=b9,rc,zcT rfl rfl (by decide) rfl rfl,fun _ h=>h,hsit,?_⟩
 show WX Tryz.prog 81 Wg ch (fun d=>K d\/S d\/d=b9) (St1 (fun d=>K d\/S d\/d=b9)) (fun _=>False) _ w
 refine (?_:zal Tryz.prog true (zai 81 Wg ch) (ExE Wg true) (fun _ S1 g w=>St1 (fun d=>K d\/(S d\/d=b9)) S1 g w) (fun _ _ _ _=>False) ch (fun d=>K d\/(S d\/d=b9)) Q l 0 (fun _=>False) _) (fun p h=>.inl (hl p (mcm h))) w (fun p h=>hp p (mcm h)) hL hq (fun d hd=>hlt d (by simpa using hd))
 walk_nrm
 refine zal.re ?_
 refine zal.ctl rfl (fun _=>stepG_inBlock) ?_
 refine zal.rg ?_
 simp only [List.size_toArray,List.length_cons,List.length_nil,Nat.reduceAdd,Nat.zero_add,List.range,List.range.loop]
 refine zal.val rfl rfl (by decide) (v:=.int .i64 3) (fun w hp=>by (go_simp; decide)) (fun _ w hp e he=>by simp [go_sem] at he) ?_
 walk_nrm
 refine zal.val rfl rfl (by decide) (v:=.int .i64 3) (fun w hp=>by go_simp) (fun _ w hp e he=>by simp [go_sem] at he) ?_
 walk_nrm
 refine zal.re ?_
 refine zal.ctl rfl (fun _=>stepG_inLoop) ?_
 exact hnext _ _ _ _ _ _ _ (fun d hd=>.inl (hBK d hd)) hKL9
set_option maxRecDepth 100000 in
theorem zp9 (hQ:zeH B Q)
  (hchild:∀ (K:Nat->Prop) (bs:Nat) (l':List (Nat × Obj)),(bs,.cells #[.int .i64 x6,.int .i64 x7,.int .i64 x8,.int .i64 x9,.int .i64 x10,.int .i64 x11] 83) ∈ l'->(∀ p ∈ l,p ∈ l')->(∀ p ∈ l',K p.1)->∀ w,Hp l' w->zai 81 Wg ch w->(∀ c,K c->c < w.heap.size)->∃ rc,Sit Tryz.prog 81 Wg ch Snd K (fun _=>False) (fst jn) (fin jn) ⟨7,0,0⟩ rc (born Tryz.prog (zbu Wg bg bs br bc)) w)
  (hnext:∀ (K':Nat->Prop) (v9 v22 v23 v24 v25 v26:Value),(∀ c,B c->K' c)->(∀ c,K' c->¬ LvW Wg ch c)->zal Tryz.prog true (zai 81 Wg ch) (ExE Wg true) (fun _ S g w=>St1 K' S g w) (fun _ _ _ _=>False) ch K' Q l 0 (fun _=>False) (G ((base 42).at ⟨#[gV,rV,.pointer (some ⟨bg,0,none⟩),.pointer (some ⟨br,0,none⟩),.slice none 0 0,.int .i64 many,.pointer (some ⟨bc,0,none⟩),.pointer (some ⟨Wg,0,none⟩),undef,v9,undef,undef,gV,.bool true,.bool false,gV,.int .i64 many,.int .i64 many,.chan (some ch),gV,.agg #[.int .i64 x0,.int .i64 x1,.int .i64 x2,.int .i64 x3,.int .i64 x4,.int .i64 x5,.int .i64 x6,.int .i64 x7,.int .i64 x8,.int .i64 x9,.int .i64 x10,.int .i64 x11,.int .i64 x12,.int .i64 x13,.int .i64 x14,.int .i64 x15,.int .i64 x16,.int .i64 x17,.int .i64 x18,.int .i64 x19,.int .i64 x20,.int .i64 x21,.int .i64 x22,.int .i64 x23],.int .i64 2,v22,v23,v24,v25,v26,undef,undef,undef,undef,undef,undef,undef,undef,undef,undef,undef,undef,undef,undef,undef],[]⟩ [.code zdl,.inLoop zdl,.inBlock 0,.code zbx]) (c :: cs)))
  {K S:Nat->Prop} (hBK:∀ c,B c->K c) (hKL:∀ c,K c\/S c->¬ LvW Wg ch c) (v9 v22 v23 v24 v25 v26:Value):zal Tryz.prog true (zai 81 Wg ch) (ExE Wg true) (fun _ S g w=>zeI Tryz.prog 81 Wg ch Snd fst fin K jn (fun K S g w=>WX Tryz.prog 81 Wg ch K (St1 K) S g w) S g w) (fun _ _ _ _=>False) ch K Q l 0 S
  (G ((base 42).at ⟨#[gV,rV,.pointer (some ⟨bg,0,none⟩),.pointer (some ⟨br,0,none⟩),.slice none 0 0,.int .i64 many,.pointer (some ⟨bc,0,none⟩),.pointer (some ⟨Wg,0,none⟩),undef,v9,undef,undef,gV,.bool true,.bool false,gV,.int .i64 many,.int .i64 many,.chan (some ch),gV,.agg #[.int .i64 x0,.int .i64 x1,.int .i64 x2,.int .i64 x3,.int .i64 x4,.int .i64 x5,.int .i64 x6,.int .i64 x7,.int .i64 x8,.int .i64 x9,.int .i64 x10,.int .i64 x11,.int .i64 x12,.int .i64 x13,.int .i64 x14,.int .i64 x15,.int .i64 x16,.int .i64 x17,.int .i64 x18,.int .i64 x19,.int .i64 x20,.int .i64 x21,.int .i64 x22,.int .i64 x23],.int .i64 1,v22,v23,v24,v25,v26,undef,undef,undef,undef,undef,undef,undef,undef,undef,undef,undef,undef,undef,undef,undef],[]⟩ [.code zdl,.inLoop zdl,.inBlock 0,.code zbx]) (c :: cs)):=by
 simp only [zdl,Tryz.f42]
 refine zal.sq ?_
 refine zal.rg ?_
 simp only [List.size_toArray,List.length_cons,List.length_nil,Nat.zero_add,List.range,List.range.loop]
 refine zal.val rfl rfl (by decide) (v:=.bool true) (fun w hp=>by go_simp) (fun _ w hp e he=>by simp [go_sem] at he) ?_
 walk_nrm
 refine zal.re ?_
 refine zal.sq ?_
 refine zal.ctl rfl (fun _=>stepG_cond (t:=true) rfl) ?_
 simp only [↓reduceIte]
 refine zal.ctl rfl (fun _=>stepG_skip) ?_
 refine zal.sq ?_
 refine zal.ctl rfl (fun _=>stepG_block) ?_
 refine zal.sq ?_
 refine zal.rg ?_
 simp only [List.size_toArray,List.length_cons,List.length_nil,Nat.reduceAdd,Nat.zero_add,List.range,List.range.loop]
 refine zal.val rfl rfl (by decide) (v:=.agg #[.int .i64 x6,.int .i64 x7,.int .i64 x8,.int .i64 x9,.int .i64 x10,.int .i64 x11]) (fun w hp=>by (have hi:=zqI x0 x1 x2 x3 x4 x5 x6 x7 x8 x9 x10 x11 x12 x13 x14 x15 x16 x17 x18 x19 x20 x21 x22 x23 w; go_simp)) (fun _ w hp e he=>by simp [go_sem,zpp] at he) ?_
 walk_nrm
 refine zal.new hQ hBK zai.low zai.alloc rfl rfl (by decide) (V:=fun c=>.pointer (some ⟨c,0,none⟩)) (obj:=.cells #[.int .i64 0,.int .i64 0,.int .i64 0,.int .i64 0,.int .i64 0,.int .i64 0] 83) (fun w hp=>by go_simp) (fun _ w hp e he=>by simp [go_sem] at he) fun b9 hK_b9 hS_b9 hv_b9 hl_b9=>?_
 walk_nrm
 refine zal.put (l':=(b9,.cells #[.int .i64 x6,.int .i64 x7,.int .i64 x8,.int .i64 x9,.int .i64 x10,.int .i64 x11] 83) :: l) (c:=b9) (obj:=.cells #[.int .i64 x6,.int .i64 x7,.int .i64 x8,.int .i64 x9,.int .i64 x10,.int .i64 x11] 83) hQ hBK rfl rfl (by decide) (Or.inr rfl) (fun h=>hK_b9 (hBK b9 h)) (zai.aside hv_b9) (fun w hp=>⟨w.setRow b9 #[.int .i64 x6,.int .i64 x7,.int .i64 x8,.int .i64 x9,.int .i64 x10,.int .i64 x11],zbL (ty:=83) rfl rfl rfl (hp.at mcs) zaL rfl (by simp [Value.oneCell']),(zam (hp.at mcs)).1,(zam (hp.at mcs)).2⟩) (fun _ w hp e he=>?_) (fun p hp=>?_) ?_
 ·obtain ⟨q,rfl⟩:=zcH (cells:=#[.int .i64 x6,.int .i64 x7,.int .i64 x8,.int .i64 x9,.int .i64 x10,.int .i64 x11]) (ty:=83) rfl rfl rfl (hp.at mcs) zaL rfl (by simp [Value.oneCell']) e he
  exact Or.inl ⟨_,_,rfl,Or.inl (Or.inr rfl)⟩
 ·rcases List.mem_cons.1 hp with rfl | hp
  ·exact Or.inl rfl
  ·exact Or.inr ⟨mcm hp,hl_b9 p hp⟩
 walk_nrm
 refine zal.re ?_
 refine zal.sq ?_
 refine zal.rg ?_
 simp only [List.size_toArray,List.length_cons,List.length_nil,Nat.zero_add,List.range,List.range.loop]
 refine zal.enter rfl rfl (by decide) (fun w=>run_call_body rfl Tryz.func46 rfl rfl) (fun w=>events_call_body rfl Tryz.func46 rfl rfl _) ?_
 rw [enter_at _ Tryz.func46 rfl]
 walk_nrmf Tryz.f46
 intro hl w hp hL hq hlt
 have hKL9:∀ d,K d\/S d\/d=b9->¬ LvW Wg ch d:=fun d hd=>by rcases hd with h | h | rfl; exact hKL d (.inl h); exact hKL d (.inr h); exact hv_b9
 refine zbJ (Fp:=zeg Q _ (fun d=>K d\/S d\/d=b9)) (S:=fun d=>S d\/d=b9) zee (zbi hQ) (fun h=>?_) (fun d hd=>?_) ?_ w ⟨hq,hp,hlt⟩ hL
 ·rcases h with h | ⟨p,hp,h⟩
  ·exact hKL _ (.inl (hBK _ h)) (.inl rfl)
  ·exact hKL9 _ (hl p hp) (.inl h)
 ·rcases hd with h | ⟨p,hp,rfl⟩
  ·exact .inl (hBK _ h)
  ·exact hl p hp
 rintro w ⟨hq,hp,hlt⟩ hL
 refine (?_:zal Tryz.prog true (zai 81 Wg ch) (ExE Wg true) (fun _ S g w=>MGo Tryz.prog 81 Wg ch Snd fst fin K jn (fun K S g w=>WX Tryz.prog 81 Wg ch K (St1 K) S g w) S g w) (fun _ _ _ _=>False) ch K Q ((b9,.cells #[.int .i64 x6,.int .i64 x7,.int .i64 x8,.int .i64 x9,.int .i64 x10,.int .i64 x11] 83) :: l) 0 (fun d=>S d\/d=b9) _) hl w hp hL hq hlt
 walk_nrm
 refine zal.re ?_
 refine zal.rg ?_
 simp only [List.size_toArray,List.length_cons,List.length_nil,Nat.reduceAdd,Nat.zero_add,List.range,List.range.loop]
 refine zal.val rfl rfl (by decide) (v:=.func (.func 57) #[] #[.pointer (some ⟨Wg,0,none⟩),.pointer (some ⟨bg,0,none⟩),.pointer (some ⟨b9,0,none⟩),.pointer (some ⟨br,0,none⟩),.pointer (some ⟨bc,0,none⟩)]) (fun w hp=>by go_simp) (fun _ w hp e he=>by simp [go_sem] at he) ?_
 walk_nrm
 refine zal.stop hQ hBK fun hl w hp hL hq hlt=>?_
 obtain ⟨rc,hsit⟩:=hchild (fun d=>K d\/S d\/d=b9) b9 ((b9,.cells #[.int .i64 x6,.int .i64 x7,.int .i64 x8,.int .i64 x9,.int .i64 x10,.int .i64 x11] 83) :: l) mcs (fun p h=>mcm h) hl w hp hL hlt
 refine ⟨rfl,_,born Tryz.prog (zbu Wg bg b9 br bc),fun d=>K d\/S d\/d=b9,rc,zcT rfl rfl (by decide) rfl rfl,fun _ h=>h,hsit,?_⟩
 show WX Tryz.prog 81 Wg ch (fun d=>K d\/S d\/d=b9) (St1 (fun d=>K d\/S d\/d=b9)) (fun _=>False) _ w
 refine (?_:zal Tryz.prog true (zai 81 Wg ch) (ExE Wg true) (fun _ S1 g w=>St1 (fun d=>K d\/(S d\/d=b9)) S1 g w) (fun _ _ _ _=>False) ch (fun d=>K d\/(S d\/d=b9)) Q l 0 (fun _=>False) _) (fun p h=>.inl (hl p (mcm h))) w (fun p h=>hp p (mcm h)) hL hq (fun d hd=>hlt d (by simpa using hd))
 walk_nrm
 refine zal.re ?_
 refine zal.ctl rfl (fun _=>stepG_inBlock) ?_
 refine zal.rg ?_
 simp only [List.size_toArray,List.length_cons,List.length_nil,Nat.reduceAdd,Nat.zero_add,List.range,List.range.loop]
 refine zal.val rfl rfl (by decide) (v:=.int .i64 2) (fun w hp=>by (go_simp; decide)) (fun _ w hp e he=>by simp [go_sem] at he) ?_
 walk_nrm
 refine zal.val rfl rfl (by decide) (v:=.int .i64 2) (fun w hp=>by go_simp) (fun _ w hp e he=>by simp [go_sem] at he) ?_
 walk_nrm
 refine zal.re ?_
 refine zal.ctl rfl (fun _=>stepG_inLoop) ?_
 exact hnext _ _ _ _ _ _ _ (fun d hd=>.inl (hBK d hd)) hKL9
set_option maxRecDepth 100000 in
theorem zp8 (hQ:zeH B Q)
  (hchild:∀ (K:Nat->Prop) (bs:Nat) (l':List (Nat × Obj)),(bs,.cells #[.int .i64 x0,.int .i64 x1,.int .i64 x2,.int .i64 x3,.int .i64 x4,.int .i64 x5] 83) ∈ l'->(∀ p ∈ l,p ∈ l')->(∀ p ∈ l',K p.1)->∀ w,Hp l' w->zai 81 Wg ch w->(∀ c,K c->c < w.heap.size)->∃ rc,Sit Tryz.prog 81 Wg ch Snd K (fun _=>False) (fst jn) (fin jn) ⟨7,0,0⟩ rc (born Tryz.prog (zbu Wg bg bs br bc)) w)
  (hnext:∀ (K':Nat->Prop) (v9 v22 v23 v24 v25 v26:Value),(∀ c,B c->K' c)->(∀ c,K' c->¬ LvW Wg ch c)->zal Tryz.prog true (zai 81 Wg ch) (ExE Wg true) (fun _ S g w=>St1 K' S g w) (fun _ _ _ _=>False) ch K' Q l 0 (fun _=>False) (G ((base 42).at ⟨#[gV,rV,.pointer (some ⟨bg,0,none⟩),.pointer (some ⟨br,0,none⟩),.slice none 0 0,.int .i64 many,.pointer (some ⟨bc,0,none⟩),.pointer (some ⟨Wg,0,none⟩),undef,v9,undef,undef,gV,.bool true,.bool false,gV,.int .i64 many,.int .i64 many,.chan (some ch),gV,.agg #[.int .i64 x0,.int .i64 x1,.int .i64 x2,.int .i64 x3,.int .i64 x4,.int .i64 x5,.int .i64 x6,.int .i64 x7,.int .i64 x8,.int .i64 x9,.int .i64 x10,.int .i64 x11,.int .i64 x12,.int .i64 x13,.int .i64 x14,.int .i64 x15,.int .i64 x16,.int .i64 x17,.int .i64 x18,.int .i64 x19,.int .i64 x20,.int .i64 x21,.int .i64 x22,.int .i64 x23],.int .i64 1,v22,v23,v24,v25,v26,undef,undef,undef,undef,undef,undef,undef,undef,undef,undef,undef,undef,undef,undef,undef],[]⟩ [.code zdl,.inLoop zdl,.inBlock 0,.code zbx]) (c :: cs)))
  {K S:Nat->Prop} (hBK:∀ c,B c->K c) (hKL:∀ c,K c\/S c->¬ LvW Wg ch c) (v9 v22 v23 v24 v25 v26:Value):zal Tryz.prog true (zai 81 Wg ch) (ExE Wg true) (fun _ S g w=>zeI Tryz.prog 81 Wg ch Snd fst fin K jn (fun K S g w=>WX Tryz.prog 81 Wg ch K (St1 K) S g w) S g w) (fun _ _ _ _=>False) ch K Q l 0 S
  (G ((base 42).at ⟨#[gV,rV,.pointer (some ⟨bg,0,none⟩),.pointer (some ⟨br,0,none⟩),.slice none 0 0,.int .i64 many,.pointer (some ⟨bc,0,none⟩),.pointer (some ⟨Wg,0,none⟩),undef,v9,undef,undef,gV,.bool true,.bool false,gV,.int .i64 many,.int .i64 many,.chan (some ch),gV,.agg #[.int .i64 x0,.int .i64 x1,.int .i64 x2,.int .i64 x3,.int .i64 x4,.int .i64 x5,.int .i64 x6,.int .i64 x7,.int .i64 x8,.int .i64 x9,.int .i64 x10,.int .i64 x11,.int .i64 x12,.int .i64 x13,.int .i64 x14,.int .i64 x15,.int .i64 x16,.int .i64 x17,.int .i64 x18,.int .i64 x19,.int .i64 x20,.int .i64 x21,.int .i64 x22,.int .i64 x23],.int .i64 0,v22,v23,v24,v25,v26,undef,undef,undef,undef,undef,undef,undef,undef,undef,undef,undef,undef,undef,undef,undef],[]⟩ [.code zdl,.inLoop zdl,.inBlock 0,.code zbx]) (c :: cs)):=by
 simp only [zdl,Tryz.f42]
 refine zal.sq ?_
 refine zal.rg ?_
 simp only [List.size_toArray,List.length_cons,List.length_nil,Nat.zero_add,List.range,List.range.loop]
 refine zal.val rfl rfl (by decide) (v:=.bool true) (fun w hp=>by go_simp) (fun _ w hp e he=>by simp [go_sem] at he) ?_
 walk_nrm
 refine zal.re ?_
 refine zal.sq ?_
 refine zal.ctl rfl (fun _=>stepG_cond (t:=true) rfl) ?_
 simp only [↓reduceIte]
 refine zal.ctl rfl (fun _=>stepG_skip) ?_
 refine zal.sq ?_
 refine zal.ctl rfl (fun _=>stepG_block) ?_
 refine zal.sq ?_
 refine zal.rg ?_
 simp only [List.size_toArray,List.length_cons,List.length_nil,Nat.reduceAdd,Nat.zero_add,List.range,List.range.loop]
 refine zal.val rfl rfl (by decide) (v:=.agg #[.int .i64 x0,.int .i64 x1,.int .i64 x2,.int .i64 x3,.int .i64 x4,.int .i64 x5]) (fun w hp=>by (have hi:=zqH x0 x1 x2 x3 x4 x5 x6 x7 x8 x9 x10 x11 x12 x13 x14 x15 x16 x17 x18 x19 x20 x21 x22 x23 w; go_simp)) (fun _ w hp e he=>by simp [go_sem,zpo] at he) ?_
 walk_nrm
 refine zal.new hQ hBK zai.low zai.alloc rfl rfl (by decide) (V:=fun c=>.pointer (some ⟨c,0,none⟩)) (obj:=.cells #[.int .i64 0,.int .i64 0,.int .i64 0,.int .i64 0,.int .i64 0,.int .i64 0] 83) (fun w hp=>by go_simp) (fun _ w hp e he=>by simp [go_sem] at he) fun b9 hK_b9 hS_b9 hv_b9 hl_b9=>?_
 walk_nrm
 refine zal.put (l':=(b9,.cells #[.int .i64 x0,.int .i64 x1,.int .i64 x2,.int .i64 x3,.int .i64 x4,.int .i64 x5] 83) :: l) (c:=b9) (obj:=.cells #[.int .i64 x0,.int .i64 x1,.int .i64 x2,.int .i64 x3,.int .i64 x4,.int .i64 x5] 83) hQ hBK rfl rfl (by decide) (Or.inr rfl) (fun h=>hK_b9 (hBK b9 h)) (zai.aside hv_b9) (fun w hp=>⟨w.setRow b9 #[.int .i64 x0,.int .i64 x1,.int .i64 x2,.int .i64 x3,.int .i64 x4,.int .i64 x5],zbL (ty:=83) rfl rfl rfl (hp.at mcs) zaL rfl (by simp [Value.oneCell']),(zam (hp.at mcs)).1,(zam (hp.at mcs)).2⟩) (fun _ w hp e he=>?_) (fun p hp=>?_) ?_
 ·obtain ⟨q,rfl⟩:=zcH (cells:=#[.int .i64 x0,.int .i64 x1,.int .i64 x2,.int .i64 x3,.int .i64 x4,.int .i64 x5]) (ty:=83) rfl rfl rfl (hp.at mcs) zaL rfl (by simp [Value.oneCell']) e he
  exact Or.inl ⟨_,_,rfl,Or.inl (Or.inr rfl)⟩
 ·rcases List.mem_cons.1 hp with rfl | hp
  ·exact Or.inl rfl
  ·exact Or.inr ⟨mcm hp,hl_b9 p hp⟩
 walk_nrm
 refine zal.re ?_
 refine zal.sq ?_
 refine zal.rg ?_
 simp only [List.size_toArray,List.length_cons,List.length_nil,Nat.zero_add,List.range,List.range.loop]
 refine zal.enter rfl rfl (by decide) (fun w=>run_call_body rfl Tryz.func46 rfl rfl) (fun w=>events_call_body rfl Tryz.func46 rfl rfl _) ?_
 rw [enter_at _ Tryz.func46 rfl]
 walk_nrmf Tryz.f46
 intro hl w hp hL hq hlt
 have hKL9:∀ d,K d\/S d\/d=b9->¬ LvW Wg ch d:=fun d hd=>by rcases hd with h | h | rfl; exact hKL d (.inl h); exact hKL d (.inr h); exact hv_b9
 refine zbJ (Fp:=zeg Q _ (fun d=>K d\/S d\/d=b9)) (S:=fun d=>S d\/d=b9) zee (zbi hQ) (fun h=>?_) (fun d hd=>?_) ?_ w ⟨hq,hp,hlt⟩ hL
 ·rcases h with h | ⟨p,hp,h⟩
  ·exact hKL _ (.inl (hBK _ h)) (.inl rfl)
  ·exact hKL9 _ (hl p hp) (.inl h)
 ·rcases hd with h | ⟨p,hp,rfl⟩
  ·exact .inl (hBK _ h)
  ·exact hl p hp
 rintro w ⟨hq,hp,hlt⟩ hL
 refine (?_:zal Tryz.prog true (zai 81 Wg ch) (ExE Wg true) (fun _ S g w=>MGo Tryz.prog 81 Wg ch Snd fst fin K jn (fun K S g w=>WX Tryz.prog 81 Wg ch K (St1 K) S g w) S g w) (fun _ _ _ _=>False) ch K Q ((b9,.cells #[.int .i64 x0,.int .i64 x1,.int .i64 x2,.int .i64 x3,.int .i64 x4,.int .i64 x5] 83) :: l) 0 (fun d=>S d\/d=b9) _) hl w hp hL hq hlt
 walk_nrm
 refine zal.re ?_
 refine zal.rg ?_
 simp only [List.size_toArray,List.length_cons,List.length_nil,Nat.reduceAdd,Nat.zero_add,List.range,List.range.loop]
 refine zal.val rfl rfl (by decide) (v:=.func (.func 57) #[] #[.pointer (some ⟨Wg,0,none⟩),.pointer (some ⟨bg,0,none⟩),.pointer (some ⟨b9,0,none⟩),.pointer (some ⟨br,0,none⟩),.pointer (some ⟨bc,0,none⟩)]) (fun w hp=>by go_simp) (fun _ w hp e he=>by simp [go_sem] at he) ?_
 walk_nrm
 refine zal.stop hQ hBK fun hl w hp hL hq hlt=>?_
 obtain ⟨rc,hsit⟩:=hchild (fun d=>K d\/S d\/d=b9) b9 ((b9,.cells #[.int .i64 x0,.int .i64 x1,.int .i64 x2,.int .i64 x3,.int .i64 x4,.int .i64 x5] 83) :: l) mcs (fun p h=>mcm h) hl w hp hL hlt
 refine ⟨rfl,_,born Tryz.prog (zbu Wg bg b9 br bc),fun d=>K d\/S d\/d=b9,rc,zcT rfl rfl (by decide) rfl rfl,fun _ h=>h,hsit,?_⟩
 show WX Tryz.prog 81 Wg ch (fun d=>K d\/S d\/d=b9) (St1 (fun d=>K d\/S d\/d=b9)) (fun _=>False) _ w
 refine (?_:zal Tryz.prog true (zai 81 Wg ch) (ExE Wg true) (fun _ S1 g w=>St1 (fun d=>K d\/(S d\/d=b9)) S1 g w) (fun _ _ _ _=>False) ch (fun d=>K d\/(S d\/d=b9)) Q l 0 (fun _=>False) _) (fun p h=>.inl (hl p (mcm h))) w (fun p h=>hp p (mcm h)) hL hq (fun d hd=>hlt d (by simpa using hd))
 walk_nrm
 refine zal.re ?_
 refine zal.ctl rfl (fun _=>stepG_inBlock) ?_
 refine zal.rg ?_
 simp only [List.size_toArray,List.length_cons,List.length_nil,Nat.reduceAdd,Nat.zero_add,List.range,List.range.loop]
 refine zal.val rfl rfl (by decide) (v:=.int .i64 1) (fun w hp=>by (go_simp; decide)) (fun _ w hp e he=>by simp [go_sem] at he) ?_
 walk_nrm
 refine zal.val rfl rfl (by decide) (v:=.int .i64 1) (fun w hp=>by go_simp) (fun _ w hp e he=>by simp [go_sem] at he) ?_
 walk_nrm
 refine zal.re ?_
 refine zal.ctl rfl (fun _=>stepG_inLoop) ?_
 exact hnext _ _ _ _ _ _ _ (fun d hd=>.inl (hBK d hd)) hKL9
end
end
end Go.Proofs.YtmekljoegndkkaaGreat
