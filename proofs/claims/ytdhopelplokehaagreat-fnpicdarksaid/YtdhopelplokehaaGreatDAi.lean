/- Of the proof: Qa, Qb, Qc, Qd -/
import Derived.Test.YtdhopelplokehaaGreatChecked
import Derived.WalkKit
import Derived.WalkLawsBesides
import Derived.Conc.WgLib
import Derived.Test.YtdhopelplokehaaGreatDAh
set_option maxHeartbeats 4000000
namespace Go.Proofs.YtdhopelplokehaaGreat
section
open Go Go.Conc Go.ConcN Go.RowKit Go.Conc.Lib Go.ConcR.Gen Go.ConcN.Gen
noncomputable abbrev sendLoop:Code:=match Tryz.f64.body with | some (.seq _ (.seq _ (.block _ (.loop c))))=>c | _=>.skip
theorem vrel_bool {R:BR} {b:Bool} {v:Value} (h:VRel R (.bool b) v):v=.bool b:=by cases h; rfl
theorem vrel_int {R:BR} {k:IntKind} {n:Int} {v:Value} (h:VRel R (.int k n) v):v=.int k n:=by cases h; rfl
theorem rrel_two {R:BR} {x y:Value} (hx:VRel R x x) (hy:VRel R y y):RRel R #[x,y] #[x,y]:=by
 refine ⟨rfl,fun i h h'=>?_⟩
 match i,h with
 | 0,_=>exact hx
 | 1,_=>exact hy
theorem side_rel {R:BR} (f m s o i u k:Int):RRel R #[.agg #[.int .i64 f,.int .i64 m,.int .i64 s,.int .i64 o,.int .i64 i,.int .i64 u],.int .i64 k] #[.agg #[.int .i64 f,.int .i64 m,.int .i64 s,.int .i64 o,.int .i64 i,.int .i64 u],.int .i64 k]:=by
 refine rrel_two (.agg rfl fun j h h'=>?_) (.int _ _)
 match j,h with
 | 0,_=>exact .int _ _
 | 1,_=>exact .int _ _
 | 2,_=>exact .int _ _
 | 3,_=>exact .int _ _
 | 4,_=>exact .int _ _
 | 5,_=>exact .int _ _
theorem grid_rel {R:BR} (wd:Int) {x:Value} (hx:VRel R x x) (k:Int):RRel R #[.agg #[.int .i64 wd,x],.int .i64 k] #[.agg #[.int .i64 wd,x],.int .i64 k]:=by
 refine rrel_two (.agg rfl fun j h h'=>?_) (.int _ _)
 match j,h with
 | 0,_=>exact .int _ _
 | 1,_=>exact hx
section
variable {L:Program} {main:Bool} {Live:World->Prop} {Ex:Event->Prop} {Stop:Nat->(Nat->Prop)->Goroutine->World->Prop} {Snd:Nat->(Nat->Prop)->Value->World->Prop} {ch:Nat} {K:Nat->Prop}
set_option maxRecDepth 100000 in
theorem send_loop [T:Twin3 L Tryz.prog] [Twin3 L L] (W:Whole L) {X:FuncId->Prop} (B:Bodies L Tryz.prog X) {Kc Lv:Nat->Prop} (hLv:∀ w w':World,(∀ c,Lv c->w'.heap[c]?=w.heap[c]?)->Live w->Live w') (hlv:∀ w c,Live w->Lv c->c < w.heap.size)
  (hX:∀ f,X f->∃ t,((L.funcs[f]?).bind (·.body)).getD (.refuse "unsupported: a function without a Go body is entered")=.refuse t)
  (hf1:L.funcs[95]?=some Tryz.f95) (hx1:¬ X 95)
  {fr:FuncId} {fn:Func} (hf2:L.funcs[fr]?=some fn) (hm2:Tryz.prog.funcs[fr]?=some fn) (hb2:fn.body.isSome=true) (hn2:(fn.name == "runtime.NumGoroutine")=false) (hx2:¬ X fr) (hr2:tmpRes fn=true)
  {wd:Int} {ga:Option Addr} {n cap:Nat} {f m s o i u:Int} {b4 b5:Nat} {l:List (Nat × Obj)} {rows:Nat->Int} {fin:Nat}
  (h4:(b4,.cells #[.int .i64 wd,.slice ga n cap] 25) ∈ l) (h5:(b5,.cells #[.int .i64 f,.int .i64 m,.int .i64 s,.int .i64 o,.int .i64 i,.int .i64 u] 65) ∈ l)
  (hKc:∀ c,Kc c->K c) (hcl:∀ w,Hp l w->Closed Kc w) (hga:VRel (idOn Kc) (.slice ga n cap) (.slice ga n cap))
  (hfin:(fin:Int)=f + m) (hfin2:fin<=1000)
  (hhas:∀ (k:Nat) (w:World),Calls L 95 #[.agg #[.int .i64 f,.int .i64 m,.int .i64 s,.int .i64 o,.int .i64 i,.int .i64 u],.int .i64 k] w fun e _=>e=.returned (.bool (decide (f<=k/\(k:Int) < f + m))))
  (hrk:∀ k:Nat,f<=k->k < fin->∀ w,Hp l w->∀ τ d,Calls L fr #[.agg #[.int .i64 wd,.slice ga n cap],.int .i64 k] (w.frz.tp τ d) fun e _=>e=.returned (.int .i64 (rows k)))
  (hsnd:∀ (k:Nat) (S:Nat->Prop) (w:World),f<=k->k < fin->(∀ c,¬ S c)->Snd k S (.agg #[.int .i64 k,.int .i64 (rows k)]) w)
  {c:Frame} {cs:List Frame} (hend:∀ S:Nat->Prop,WayL Tryz.prog main Live Ex Stop Snd ch K l fin S (G (c.finish (.tuple #[])) cs)) :
  ∀ (r k:Nat),k + r=fin->f<=k->∀ (S:Nat->Prop) (u6 u7 v9 v10 v11 v12 v13 v14 v15 v16 v17 v18 v19 v20 v21 v22:Value),
   WayL Tryz.prog main Live Ex Stop Snd ch K l k S (G ((base 64).at ⟨#[.agg #[.int .i64 wd,.slice ga n cap],.agg #[.int .i64 f,.int .i64 m,.int .i64 s,.int .i64 o,.int .i64 i,.int .i64 u],.func (.func fr) #[] #[],.chan (some ch),.pointer (some ⟨b4,0,none⟩),.pointer (some ⟨b5,0,none⟩),u6,u7,.int .i64 k,v9,v10,v11,v12,v13,v14,v15,v16,v17,v18,v19,v20,v21,v22],[]⟩ [.code sendLoop,.inLoop sendLoop,.inBlock 0]) (c :: cs)):=by
 intro r
 induction r with
 | zero =>
  intro k hk hfk S u6 u7 v9 v10 v11 v12 v13 v14 v15 v16 v17 v18 v19 v20 v21 v22
  have hk_has:∀ w,Calls L 95 #[.agg #[.int .i64 f,.int .i64 m,.int .i64 s,.int .i64 o,.int .i64 i,.int .i64 u],.int .i64 k] w fun e _=>e=.returned (.bool false):=fun w=>by
   have:=hhas k w
   rw [decide_eq_false (by omega)] at this
   exact this
  simp only [sendLoop,Tryz.f64]
  refine WayL.ctl rfl (fun _=>stepG_seq) ?_
  refine WayL.ctl rfl (fun _=>stepG_seq) ?_
  refine WayL.ctl rfl (fun _=>stepG_region) ?_
  simp only [List.size_toArray,List.length_cons,List.length_nil,Nat.reduceAdd,Nat.zero_add,List.range,List.range.loop]
  refine WayL.val rfl rfl (by decide) (v:=.agg #[.int .i64 f,.int .i64 m,.int .i64 s,.int .i64 o,.int .i64 i,.int .i64 u]) (fun w hp=>?_) (fun hl w hp e he=>?_) ?_
  ·have c0:=hp.cell h5 0 rfl
   have c1:=hp.cell h5 1 rfl
   have c2:=hp.cell h5 2 rfl
   have c3:=hp.cell h5 3 rfl
   have c4:=hp.cell h5 4 rfl
   have c5:=hp.cell h5 5 rfl
   go_simp
  ·have c0:=hp.cell h5 0 rfl
   have c1:=hp.cell h5 1 rfl
   have c2:=hp.cell h5 2 rfl
   have c3:=hp.cell h5 3 rfl
   have c4:=hp.cell h5 4 rfl
   have c5:=hp.cell h5 5 rfl
   simp [go_sem, *] at he
   rcases he with rfl | rfl | rfl | rfl | rfl | rfl
   all_goals exact evs_read hl h5 _
  walk_nrm
  refine WayL.val rfl rfl (by decide) (v:=.int .i64 k) (fun w hp=>by go_simp) (fun _ w hp e he=>by simp [go_sem] at he) ?_
  walk_nrm
  refine WayL.enter rfl rfl (by decide) (fun w=>run_call_body rfl Tryz.func95 rfl rfl) (fun w=>events_call_body rfl Tryz.func95 rfl rfl _) ?_
  walk_nrm
  refine WayL.callv (Kc:=fun _=>False) W B hLv hlv hX hf1 rfl hx1 (by kernel_rfl) (v0:=.bool false) (fun _ _ h=>vrel_bool h) (fun _ h=>h.elim) (fun _ _ _ h=>h.elim) (side_rel _ _ _ _ _ _ _) (fun w _ τ d=>hk_has _) fun S1=>?_
  simp only [Frame.finish_at]
  walk_nrm
  refine WayL.ctl rfl (fun _=>stepG_region_end) ?_
  refine WayL.ctl rfl (fun _=>stepG_cond (t:=false) rfl) ?_
  simp only [Bool.false_eq_true,↓reduceIte]
  refine WayL.ctl rfl (fun _=>stepG_exit rfl) ?_
  refine WayL.ctl rfl (fun _=>stepG_end) ?_
  refine WayL.ctl rfl (fun w=>stepG_leave rfl rfl Tryz.func64 (results_none rfl _ _ w) (events_results_none rfl _ _)) ?_
  obtain rfl:k=fin:=by omega
  exact hend _
 | succ r ih =>
  intro k hk hfk S u6 u7 v9 v10 v11 v12 v13 v14 v15 v16 v17 v18 v19 v20 v21 v22
  have hk_has:∀ w,Calls L 95 #[.agg #[.int .i64 f,.int .i64 m,.int .i64 s,.int .i64 o,.int .i64 i,.int .i64 u],.int .i64 k] w fun e _=>e=.returned (.bool true):=fun w=>by
   have:=hhas k w
   rw [decide_eq_true (by omega)] at this
   exact this
  have hw1:IntKind.i64.wrap ((k:Int) + 1)=((k + 1:Nat):Int):=by rw [IntKind.wrap_i64]; omega
  simp only [sendLoop,Tryz.f64]
  refine WayL.ctl rfl (fun _=>stepG_seq) ?_
  refine WayL.ctl rfl (fun _=>stepG_seq) ?_
  refine WayL.ctl rfl (fun _=>stepG_region) ?_
  simp only [List.size_toArray,List.length_cons,List.length_nil,Nat.reduceAdd,Nat.zero_add,List.range,List.range.loop]
  refine WayL.val rfl rfl (by decide) (v:=.agg #[.int .i64 f,.int .i64 m,.int .i64 s,.int .i64 o,.int .i64 i,.int .i64 u]) (fun w hp=>?_) (fun hl w hp e he=>?_) ?_
  ·have c0:=hp.cell h5 0 rfl
   have c1:=hp.cell h5 1 rfl
   have c2:=hp.cell h5 2 rfl
   have c3:=hp.cell h5 3 rfl
   have c4:=hp.cell h5 4 rfl
   have c5:=hp.cell h5 5 rfl
   go_simp
  ·have c0:=hp.cell h5 0 rfl
   have c1:=hp.cell h5 1 rfl
   have c2:=hp.cell h5 2 rfl
   have c3:=hp.cell h5 3 rfl
   have c4:=hp.cell h5 4 rfl
   have c5:=hp.cell h5 5 rfl
   simp [go_sem, *] at he
   rcases he with rfl | rfl | rfl | rfl | rfl | rfl
   all_goals exact evs_read hl h5 _
  walk_nrm
  refine WayL.val rfl rfl (by decide) (v:=.int .i64 k) (fun w hp=>by go_simp) (fun _ w hp e he=>by simp [go_sem] at he) ?_
  walk_nrm
  refine WayL.enter rfl rfl (by decide) (fun w=>run_call_body rfl Tryz.func95 rfl rfl) (fun w=>events_call_body rfl Tryz.func95 rfl rfl _) ?_
  walk_nrm
  refine WayL.callv (Kc:=fun _=>False) W B hLv hlv hX hf1 rfl hx1 (by kernel_rfl) (v0:=.bool true) (fun _ _ h=>vrel_bool h) (fun _ h=>h.elim) (fun _ _ _ h=>h.elim) (side_rel _ _ _ _ _ _ _) (fun w _ τ d=>hk_has _) fun S1=>?_
  simp only [Frame.finish_at]
  walk_nrm
  refine WayL.ctl rfl (fun _=>stepG_region_end) ?_
  refine WayL.ctl rfl (fun _=>stepG_cond (t:=true) rfl) ?_
  simp only [↓reduceIte]
  refine WayL.ctl rfl (fun _=>stepG_skip) ?_
  refine WayL.ctl rfl (fun _=>stepG_seq) ?_
  refine WayL.ctl rfl (fun _=>stepG_block) ?_
  refine WayL.ctl rfl (fun _=>stepG_region) ?_
  simp only [List.size_toArray,List.length_cons,List.length_nil,Nat.reduceAdd,Nat.zero_add,List.range,List.range.loop]
  refine WayL.val rfl rfl (by decide) (v:=.chan (some ch)) (fun w hp=>by go_simp) (fun _ w hp e he=>by simp [go_sem] at he) ?_
  walk_nrm
  refine WayL.val rfl rfl (by decide) (v:=.int .i64 k) (fun w hp=>by go_simp) (fun _ w hp e he=>by simp [go_sem] at he) ?_
  walk_nrm
  refine WayL.val rfl rfl (by decide) (v:=.func (.func fr) #[] #[]) (fun w hp=>by go_simp) (fun _ w hp e he=>by simp [go_sem] at he) ?_
  walk_nrm
  refine WayL.val rfl rfl (by decide) (v:=.agg #[.int .i64 wd,.slice ga n cap]) (fun w hp=>?_) (fun hl w hp e he=>?_) ?_
  ·have c0:=hp.cell h4 0 rfl
   have c1:=hp.cell h4 1 rfl
   go_simp
  ·have c0:=hp.cell h4 0 rfl
   have c1:=hp.cell h4 1 rfl
   simp [go_sem, *] at he
   rcases he with rfl | rfl
   all_goals exact evs_read hl h4 _
  walk_nrm
  refine WayL.val rfl rfl (by decide) (v:=.int .i64 k) (fun w hp=>by go_simp) (fun _ w hp e he=>by simp [go_sem] at he) ?_
  walk_nrm
  refine WayL.enter rfl rfl (by decide) (fun w=>run_callv rfl rfl hm2 hn2 hb2) (fun w=>events_callv rfl rfl hm2 hn2 hb2 _) ?_
  walk_nrm
  refine WayL.callv W B hLv hlv hX hf2 hb2 hx2 hr2 (v0:=.int .i64 (rows k)) (fun _ _ h=>vrel_int h) hKc hcl (grid_rel _ hga _) (hrk k hfk (by omega)) fun S2=>?_
  simp only [Frame.finish_at]
  walk_nrm
  refine WayL.val rfl rfl (by decide) (v:=.agg #[.int .i64 k,.int .i64 (rows k)]) (fun w hp=>by go_simp) (fun _ w hp e he=>by simp [go_sem] at he) ?_
  walk_nrm
  refine WayL.send (l':=l) rfl rfl rfl (by decide) (v:=.agg #[.int .i64 k,.int .i64 (rows k)]) (z:=.tuple #[]) (fun w=>by go_simp) (fun w=>by simp [go_sem]) (fun c=>(S c\/S1 c)\/S2 c) (fun _ h=>h) (fun w _=>hsnd k _ w hfk (by omega) (fun c h=>h.2 h.1)) ?_ ?_
  ·exact fun hl p h=>⟨h,(hl p h).imp id fun x=>x⟩
  refine WayL.ctl rfl (fun _=>stepG_region_end) ?_
  refine WayL.ctl rfl (fun _=>stepG_inBlock) ?_
  refine WayL.ctl rfl (fun _=>stepG_region) ?_
  simp only [List.size_toArray,List.length_cons,List.length_nil,Nat.reduceAdd,Nat.zero_add,List.range,List.range.loop]
  refine WayL.val rfl rfl (by decide) (v:=.int .i64 k) (fun w hp=>by go_simp) (fun _ w hp e he=>by simp [go_sem] at he) ?_
  walk_nrm
  refine WayL.val rfl rfl (by decide) (v:=.int .i64 ((k + 1:Nat):Int)) (fun w hp=>by go_simp) (fun _ w hp e he=>by simp [go_sem] at he) ?_
  walk_nrm
  refine WayL.val rfl rfl (by decide) (v:=.int .i64 ((k + 1:Nat):Int)) (fun w hp=>by go_simp) (fun _ w hp e he=>by simp [go_sem] at he) ?_
  walk_nrm
  refine WayL.ctl rfl (fun _=>stepG_region_end) ?_
  refine WayL.ctl rfl (fun _=>stepG_inLoop) ?_
  exact ih (k + 1) (by omega) (by omega) _ _ _ _ _ _ _ _ _ _ _ _ _ _ _ _ _
end
end
section
open Go
abbrev wgLink:Go.Conc.Lib.WgLink:={ add:=61,done:=63,wait:=65,relMerge:=82,disable:=83,enable:=84,inBubble:=85,associate:=86,fatal:=87,uOr:=88,uAdd:=89,raceRead:=90,uLoad:=91,uStore:=92,disassociate:=93,semrelease:=94,acquire:=96,isAssociated:=97,uCas:=98,raceWrite:=99,semacquire:=100,orU64:=115,addU64:=116,loadU64:=117,storeU64:=118,casU64:=119,tWgP:=126,tUP:=128,tAssoc:=130,tWg:=94,tAU:=91,tU64:=89,tUint:=134,tU32:=92,tPU32:=135,tPAU:=174,tPU64:=176,tNoCopy:=86,tANoCopy:=87,tAlign64:=88 }
theorem wgLib:Go.Conc.Lib.WgLib Tryz.prog wgLink :=
 ⟨Tryz.func61,Tryz.func63,Tryz.func65,Tryz.func82,Tryz.func83,Tryz.func84,Tryz.func85,Tryz.func86,Tryz.func87,Tryz.func88,Tryz.func89,Tryz.func90,Tryz.func91,Tryz.func92,Tryz.func93,Tryz.func94,Tryz.func96,Tryz.func97,Tryz.func98,Tryz.func99,Tryz.func100,Tryz.func115,Tryz.func116,Tryz.func117,Tryz.func118,Tryz.func119,Tryz.underlying126,Tryz.runUnderlying126,Tryz.sizeOf126,Tryz.isAgg126,Tryz.zeroValue126,Tryz.underlying128,Tryz.runUnderlying128,Tryz.sizeOf128,Tryz.isAgg128,Tryz.zeroValue128,Tryz.underlying130,Tryz.runUnderlying130,Tryz.sizeOf130,Tryz.isAgg130,Tryz.zeroValue130,Tryz.underlying94,Tryz.runUnderlying94,Tryz.sizeOf94,Tryz.isAgg94,Tryz.zeroValue94,Tryz.underlying91,Tryz.runUnderlying91,Tryz.sizeOf91,Tryz.isAgg91,Tryz.zeroValue91,Tryz.underlying89,Tryz.runUnderlying89,Tryz.sizeOf89,Tryz.isAgg89,Tryz.zeroValue89,Tryz.underlying134,Tryz.runUnderlying134,Tryz.sizeOf134,Tryz.isAgg134,Tryz.zeroValue134,Tryz.underlying92,Tryz.runUnderlying92,Tryz.sizeOf92,Tryz.isAgg92,Tryz.zeroValue92,Tryz.underlying135,Tryz.runUnderlying135,Tryz.sizeOf135,Tryz.isAgg135,Tryz.zeroValue135,Tryz.underlying174,Tryz.runUnderlying174,Tryz.sizeOf174,Tryz.isAgg174,Tryz.zeroValue174,Tryz.underlying176,Tryz.runUnderlying176,Tryz.sizeOf176,Tryz.isAgg176,Tryz.zeroValue176,Tryz.underlying0,Tryz.runUnderlying0,Tryz.sizeOf0,Tryz.isAgg0,Tryz.zeroValue0,Tryz.underlying3,Tryz.runUnderlying3,Tryz.sizeOf3,Tryz.isAgg3,Tryz.zeroValue3,Tryz.underlying4,Tryz.runUnderlying4,Tryz.sizeOf4,Tryz.isAgg4,Tryz.zeroValue4,Tryz.underlying9,Tryz.runUnderlying9,Tryz.sizeOf9,Tryz.isAgg9,Tryz.zeroValue9,Tryz.underlying20,Tryz.runUnderlying20,Tryz.sizeOf20,Tryz.isAgg20,Tryz.zeroValue20,Tryz.underlying21,Tryz.runUnderlying21,Tryz.sizeOf21,Tryz.isAgg21,Tryz.zeroValue21,by kernel_rfl,by kernel_rfl⟩
end
section
open Go Go.Conc Go.ConcN Go.RowKit Go.Conc.Lib Go.ConcR.Gen Go.ConcN.Gen
open Go.ConcR (KK wgBlock WgAt stA smA rd wr mk Payload Aside2 DC0)
theorem LiveW.alloc {ty:TypeId} {Wg ch:Nat} (w:World) (o:Obj) (h:LiveW ty Wg ch w):LiveW ty Wg ch (w.alloc o):=by
 obtain ⟨⟨st,sm,hw⟩,cap,buf,s,r,tm,hc⟩:=h
 refine ⟨⟨st,sm,hw.of_block ?_⟩,cap,buf,s,r,tm,?_⟩
 ·exact (new_heap w o).2 _ (Array.getElem?_eq_some_iff.1 hw).1
 ·rw [(new_heap w o).2 _ (Array.getElem?_eq_some_iff.1 hc).1]
  exact hc
def LvW (Wg ch:Nat) (c:Nat):Prop:=c=Wg\/c=ch
theorem LiveW.keep {ty:TypeId} {Wg ch:Nat} (w w':World) (h:∀ c,LvW Wg ch c->w'.heap[c]?=w.heap[c]?) (hl:LiveW ty Wg ch w):LiveW ty Wg ch w':=by
 obtain ⟨⟨st,sm,hw⟩,cap,buf,s,r,tm,hc⟩:=hl
 exact ⟨⟨st,sm,hw.of_block (h _ (.inl rfl))⟩,cap,buf,s,r,tm,by rw [h _ (.inr rfl)]; exact hc⟩
theorem LiveW.low {ty:TypeId} {Wg ch:Nat} (w:World) (c:Nat) (hl:LiveW ty Wg ch w) (h:LvW Wg ch c):c < w.heap.size:=by
 obtain ⟨⟨st,sm,hw⟩,cap,buf,s,r,tm,hc⟩:=hl
 rcases h with rfl | rfl
 ·exact (Array.getElem?_eq_some_iff.1 hw).1
 ·exact (Array.getElem?_eq_some_iff.1 hc).1
noncomputable def bot:Frame:={ (default:Frame) with fn:=Tryz.prog.funcs.size,defers:=[],mode:=.panicking [goexitEntry] }
def goCall (Wg bg bs br bc:Nat):Deferred:={ target:=.fn (.func 62) #[.pointer (some ⟨Wg,0,none⟩),.pointer (some ⟨bg,0,none⟩),.pointer (some ⟨bs,0,none⟩),.pointer (some ⟨br,0,none⟩),.pointer (some ⟨bc,0,none⟩)],args:=#[] }
theorem born_step (Wg bg bs br bc:Nat) (w:World):stepG Tryz.prog false (born Tryz.prog (goCall Wg bg bs br bc)) w =
  .go (G ((baseD 62).at ⟨#[.pointer (some ⟨Wg,0,none⟩),.pointer (some ⟨bg,0,none⟩),.pointer (some ⟨bs,0,none⟩),.pointer (some ⟨br,0,none⟩),.pointer (some ⟨bc,0,none⟩),undef,undef,undef,undef,undef],[]⟩ [.code (Tryz.f62.body.getD .skip)]) [bot]) w #[]:=by
 simp [born,goCall,stepG,unwind,callDeferred,invoke,callFunc,Tryz.func62,Tryz.f62,seen,GStep.after,G,Frame.enter,Frame.at,baseD,bot]
theorem quits_tail (T:Array Value):QuitsD Tryz.prog 2 0 (G { (baseD 62).at ⟨T,[]⟩ [] with mode:=.returning } [bot]):=by
 refine QuitsD.ctl (g':=G bot []) rfl (fun w=>?_) ?_
 ·simp [G,stepG,unwind,doReturn,results,Frame.at,baseD,bot,Tryz.func62,Tryz.f62,seen,GStep.after,goexitEntry]
 refine QuitsD.ctl (g':={ G bot [] with status:=.finished }) rfl (fun w=>?_) ⟨rfl,rfl⟩
 simp [G,stepG,unwind,bot,goexitEntry,Frame.catches]
 rfl
section
variable [Payload] {L:Program} {Snd:Nat->(Nat->Prop)->Value->World->Prop} {Wg ch:Nat} {K S:Nat->Prop}
set_option maxRecDepth 100000 in
theorem child_way [T:Twin3 L Tryz.prog] [Twin3 L L] (W:Whole L) {X:FuncId->Prop} (B:Bodies L Tryz.prog X)
  (hX:∀ f,X f->∃ t,((L.funcs[f]?).bind (·.body)).getD (.refuse "unsupported: a function without a Go body is entered")=.refuse t)
  (hf1:L.funcs[95]?=some Tryz.f95) (hx1:¬ X 95)
  {fr:FuncId} {fn:Func} (hf2:L.funcs[fr]?=some fn) (hm2:Tryz.prog.funcs[fr]?=some fn) (hb2:fn.body.isSome=true) (hn2:(fn.name == "runtime.NumGoroutine")=false) (hx2:¬ X fr) (hr2:tmpRes fn=true)
  {wd:Int} {ga:Option Addr} {n cap:Nat} {fst:Nat} {m s o i u:Int} {bg bs br bc:Nat} {l:List (Nat × Obj)} {rows:Nat->Int} {fin:Nat} {Kc:Nat->Prop}
  (hg:(bg,.cells #[.int .i64 wd,.slice ga n cap] 25) ∈ l) (hs:(bs,.cells #[.int .i64 fst,.int .i64 m,.int .i64 s,.int .i64 o,.int .i64 i,.int .i64 u] 65) ∈ l) (hr:(br,.cells #[.func (.func fr) #[] #[]] 30) ∈ l) (hc:(bc,.cells #[.chan (some ch)] 84) ∈ l)
  (hKc:∀ c,Kc c->K c) (hcl:∀ w,Hp l w->Closed Kc w) (hga:VRel (idOn Kc) (.slice ga n cap) (.slice ga n cap))
  (hfin:(fin:Int)=fst + m) (hm:0<=m) (hfin2:fin<=1000)
  (hhas:∀ (k:Nat) (w:World),Calls L 95 #[.agg #[.int .i64 fst,.int .i64 m,.int .i64 s,.int .i64 o,.int .i64 i,.int .i64 u],.int .i64 k] w fun e _=>e=.returned (.bool (decide ((fst:Int)<=k/\(k:Int) < fst + m))))
  (hrk:∀ k:Nat,fst<=k->k < fin->∀ w,Hp l w->∀ τ d,Calls L fr #[.agg #[.int .i64 wd,.slice ga n cap],.int .i64 k] (w.frz.tp τ d) fun e _=>e=.returned (.int .i64 (rows k)))
  (hsnd:∀ (k:Nat) (S:Nat->Prop) (w:World),fst<=k->k < fin->(∀ c,¬ S c)->Snd k S (.agg #[.int .i64 k,.int .i64 (rows k)]) w) :
  WayL Tryz.prog false (LiveW 94 Wg ch) (ExE Wg false) (CStop Tryz.prog 94 Wg K fin) Snd ch K l fst S (born Tryz.prog (goCall Wg bg bs br bc)):=by
 have hLa:∀ (w:World) (o:Obj),LiveW 94 Wg ch w->LiveW 94 Wg ch (w.alloc o):=LiveW.alloc
 refine WayL.ctl rfl (fun w=>born_step Wg bg bs br bc w) ?_
 simp only [Tryz.f62,Option.getD_some]
 refine WayL.ctl rfl (fun _=>stepG_seq) ?_
 refine WayL.ctl rfl (fun _=>stepG_region) ?_
 simp only [List.size_toArray,List.length_cons,List.length_nil,Nat.zero_add,List.range,List.range.loop]
 refine WayL.ctl rfl (fun _=>stepG_defer rfl rfl (by decide) rfl) ?_
 walk_nrm
 refine WayL.ctl rfl (fun _=>stepG_region_end) ?_
 refine WayL.ctl rfl (fun _=>stepG_region) ?_
 simp only [List.size_toArray,List.length_cons,List.length_nil,Nat.reduceAdd,Nat.zero_add,List.range,List.range.loop]
 refine WayL.val rfl rfl (by decide) (v:=.agg #[.int .i64 wd,.slice ga n cap]) (fun w hp=>?_) (fun hl w hp e he=>?_) ?_
 ·have c0:=hp.cell hg 0 rfl
  have c1:=hp.cell hg 1 rfl
  go_simp
 ·have c0:=hp.cell hg 0 rfl
  have c1:=hp.cell hg 1 rfl
  simp [go_sem, *] at he
  rcases he with rfl | rfl
  all_goals exact evs_read hl hg _
 walk_nrm
 refine WayL.val rfl rfl (by decide) (v:=.agg #[.int .i64 fst,.int .i64 m,.int .i64 s,.int .i64 o,.int .i64 i,.int .i64 u]) (fun w hp=>?_) (fun hl w hp e he=>?_) ?_
 ·have c0:=hp.cell hs 0 rfl
  have c1:=hp.cell hs 1 rfl
  have c2:=hp.cell hs 2 rfl
  have c3:=hp.cell hs 3 rfl
  have c4:=hp.cell hs 4 rfl
  have c5:=hp.cell hs 5 rfl
  go_simp
 ·have c0:=hp.cell hs 0 rfl
  have c1:=hp.cell hs 1 rfl
  have c2:=hp.cell hs 2 rfl
  have c3:=hp.cell hs 3 rfl
  have c4:=hp.cell hs 4 rfl
  have c5:=hp.cell hs 5 rfl
  simp [go_sem, *] at he
  rcases he with rfl | rfl | rfl | rfl | rfl | rfl
  all_goals exact evs_read hl hs _
 walk_nrm
 refine WayL.val rfl rfl (by decide) (v:=.func (.func fr) #[] #[]) (fun w hp=>?_) (fun hl w hp e he=>?_) ?_
 ·have c0:=hp.cell hr 0 rfl
  go_simp
 ·have c0:=hp.cell hr 0 rfl
  simp [go_sem, *] at he
  subst he
  exact evs_read hl hr _
 walk_nrm
 refine WayL.val rfl rfl (by decide) (v:=.chan (some ch)) (fun w hp=>?_) (fun hl w hp e he=>?_) ?_
 ·have c0:=hp.cell hc 0 rfl
  go_simp
 ·have c0:=hp.cell hc 0 rfl
  simp [go_sem, *] at he
  subst he
  exact evs_read hl hc _
 walk_nrm
 refine WayL.enter rfl rfl (by decide) (fun w=>run_call_body rfl Tryz.func64 rfl rfl) (fun w=>events_call_body rfl Tryz.func64 rfl rfl _) ?_
 rw [enter_at _ Tryz.func64 rfl]
 walk_nrmf Tryz.f64
 refine WayL.ctl rfl (fun _=>stepG_seq) ?_
 refine WayL.ctl rfl (fun _=>stepG_region) ?_
 simp only [List.size_toArray,List.length_cons,List.length_nil,Nat.reduceAdd,Nat.zero_add,List.range,List.range.loop]
 refine WayL.new hLa rfl rfl (by decide) (V:=fun c=>.pointer (some ⟨c,0,none⟩)) (obj:=.cells #[.int .i64 wd,.slice ga n cap] 25) (fun w hp=>by go_simp) (fun _ w hp e he=>by simp [go_sem] at he) fun b4 hK_b4 hS_b4=>?_
 walk_nrm
 refine WayL.new hLa rfl rfl (by decide) (V:=fun c=>.pointer (some ⟨c,0,none⟩)) (obj:=.cells #[.int .i64 fst,.int .i64 m,.int .i64 s,.int .i64 o,.int .i64 i,.int .i64 u] 65) (fun w hp=>by go_simp) (fun _ w hp e he=>by simp [go_sem] at he) fun b5 hK_b5 hS_b5=>?_
 walk_nrm
 refine WayL.ctl rfl (fun _=>stepG_region_end) ?_
 refine WayL.ctl rfl (fun _=>stepG_seq) ?_
 refine WayL.ctl rfl (fun _=>stepG_region) ?_
 simp only [List.size_toArray,List.length_cons,List.length_nil,Nat.reduceAdd,Nat.zero_add,List.range,List.range.loop]
 refine WayL.val rfl rfl (by decide) (v:=.pointer (some ⟨b5,0,none⟩)) (fun w hp=>by go_simp) (fun _ w hp e he=>by simp [go_sem] at he) ?_
 walk_nrm
 refine WayL.val rfl rfl (by decide) (v:=.int .i64 fst) (fun w hp=>?_) (fun hl w hp e he=>?_) ?_
 ·have c0:=hp.cell (List.mem_cons_self ..) 0 rfl
  go_simp
 ·have c0:=hp.cell (List.mem_cons_self ..) 0 rfl
  simp [go_sem, *] at he
  subst he
  exact evs_read hl (List.mem_cons_self ..) _
 walk_nrm
 refine WayL.val rfl rfl (by decide) (v:=.int .i64 fst) (fun w hp=>by go_simp) (fun _ w hp e he=>by simp [go_sem] at he) ?_
 walk_nrm
 refine WayL.ctl rfl (fun _=>stepG_region_end) ?_
 refine WayL.ctl rfl (fun _=>stepG_block) ?_
 refine WayL.ctl rfl (fun _=>stepG_loop) ?_
 refine send_loop (Lv:=LvW Wg ch) (f:=(fst:Int)) W B LiveW.keep LiveW.low hX hf1 hx1 hf2 hm2 hb2 hn2 hx2 hr2 (by simp) (by simp) hKc (fun w hp=>hcl w fun p h=>hp p (by simp [h])) hga hfin hfin2 hhas (fun k h1 h2 w hp=>hrk k (by omega) h2 w fun p h=>hp p (by simp [h])) (fun k S w h1 h2=>hsnd k S w (by omega) h2) ?_ (fin - fst) fst (by omega) (by omega) _ _ _ _ _ _ _ _ _ _ _ _ _ _ _ _ _
 intro S2
 simp only [Frame.finish_at]
 walk_nrm
 refine WayL.ctl rfl (fun _=>stepG_region_end) ?_
 refine WayL.ctl rfl (fun _=>stepG_end) ?_
 refine WayL.ctl rfl (fun _=>stepG_unwind_enter rfl Tryz.func63 rfl rfl) ?_
 walk_nrmf Tryz.f63
 intro hl w hp hL hlt
 exact done_way wgLib (C:=bs) (v:=.int .i64 fst) (hl _ (List.mem_cons_of_mem _ (List.mem_cons_of_mem _ hs))) rfl (quits_tail _) w hL (hp.cell (List.mem_cons_of_mem _ (List.mem_cons_of_mem _ hs)) 0 rfl)
end
end
section
open Go Go.Conc Go.ConcN Go.RowKit Go.Conc.Lib Go.ConcR.Gen Go.ConcN.Gen
open Go.ConcR (KK wgBlock WgAt stA smA rd wr mk Payload Aside2 DC0)
noncomputable abbrev lp39:Code:=match Tryz.f39.body with | some (.seq _ (.seq _ (.seq _ (.seq _ (.seq _ (.seq (.seq _ (.block _ (.loop c))) _))))))=>c | _=>.skip
noncomputable abbrev rest39:Code:=match Tryz.f39.body with | some (.seq _ (.seq _ (.seq _ (.seq _ (.seq _ (.seq (.seq _ (.block _ (.loop _))) c))))))=>c | _=>.skip
theorem info_side:(Tryz.prog.info? 65).map (·.size)=some 6:=by kernel_rfl
theorem idx_0 (x0 x1 x2 x3 x4 x5 x6 x7 x8 x9 x10 x11 x12 x13 x14 x15 x16 x17 x18 x19 x20 x21 x22 x23:Int) (w:World):Sem.run Tryz.prog (Instr.index 95 (.agg #[.int .i64 x0,.int .i64 x1,.int .i64 x2,.int .i64 x3,.int .i64 x4,.int .i64 x5,.int .i64 x6,.int .i64 x7,.int .i64 x8,.int .i64 x9,.int .i64 x10,.int .i64 x11,.int .i64 x12,.int .i64 x13,.int .i64 x14,.int .i64 x15,.int .i64 x16,.int .i64 x17,.int .i64 x18,.int .i64 x19,.int .i64 x20,.int .i64 x21,.int .i64 x22,.int .i64 x23]) (.int .i64 0)) w=.ok (.agg #[.int .i64 x0,.int .i64 x1,.int .i64 x2,.int .i64 x3,.int .i64 x4,.int .i64 x5]) w:=by kernel_rfl
theorem idxE_0 (x0 x1 x2 x3 x4 x5 x6 x7 x8 x9 x10 x11 x12 x13 x14 x15 x16 x17 x18 x19 x20 x21 x22 x23:Int) (w:World) (es:Array Event):Sem.events Tryz.prog (Instr.index 95 (.agg #[.int .i64 x0,.int .i64 x1,.int .i64 x2,.int .i64 x3,.int .i64 x4,.int .i64 x5,.int .i64 x6,.int .i64 x7,.int .i64 x8,.int .i64 x9,.int .i64 x10,.int .i64 x11,.int .i64 x12,.int .i64 x13,.int .i64 x14,.int .i64 x15,.int .i64 x16,.int .i64 x17,.int .i64 x18,.int .i64 x19,.int .i64 x20,.int .i64 x21,.int .i64 x22,.int .i64 x23]) (.int .i64 0)) w es=es:=by kernel_rfl
theorem idx_1 (x0 x1 x2 x3 x4 x5 x6 x7 x8 x9 x10 x11 x12 x13 x14 x15 x16 x17 x18 x19 x20 x21 x22 x23:Int) (w:World):Sem.run Tryz.prog (Instr.index 95 (.agg #[.int .i64 x0,.int .i64 x1,.int .i64 x2,.int .i64 x3,.int .i64 x4,.int .i64 x5,.int .i64 x6,.int .i64 x7,.int .i64 x8,.int .i64 x9,.int .i64 x10,.int .i64 x11,.int .i64 x12,.int .i64 x13,.int .i64 x14,.int .i64 x15,.int .i64 x16,.int .i64 x17,.int .i64 x18,.int .i64 x19,.int .i64 x20,.int .i64 x21,.int .i64 x22,.int .i64 x23]) (.int .i64 1)) w=.ok (.agg #[.int .i64 x6,.int .i64 x7,.int .i64 x8,.int .i64 x9,.int .i64 x10,.int .i64 x11]) w:=by kernel_rfl
theorem idxE_1 (x0 x1 x2 x3 x4 x5 x6 x7 x8 x9 x10 x11 x12 x13 x14 x15 x16 x17 x18 x19 x20 x21 x22 x23:Int) (w:World) (es:Array Event):Sem.events Tryz.prog (Instr.index 95 (.agg #[.int .i64 x0,.int .i64 x1,.int .i64 x2,.int .i64 x3,.int .i64 x4,.int .i64 x5,.int .i64 x6,.int .i64 x7,.int .i64 x8,.int .i64 x9,.int .i64 x10,.int .i64 x11,.int .i64 x12,.int .i64 x13,.int .i64 x14,.int .i64 x15,.int .i64 x16,.int .i64 x17,.int .i64 x18,.int .i64 x19,.int .i64 x20,.int .i64 x21,.int .i64 x22,.int .i64 x23]) (.int .i64 1)) w es=es:=by kernel_rfl
theorem idx_2 (x0 x1 x2 x3 x4 x5 x6 x7 x8 x9 x10 x11 x12 x13 x14 x15 x16 x17 x18 x19 x20 x21 x22 x23:Int) (w:World):Sem.run Tryz.prog (Instr.index 95 (.agg #[.int .i64 x0,.int .i64 x1,.int .i64 x2,.int .i64 x3,.int .i64 x4,.int .i64 x5,.int .i64 x6,.int .i64 x7,.int .i64 x8,.int .i64 x9,.int .i64 x10,.int .i64 x11,.int .i64 x12,.int .i64 x13,.int .i64 x14,.int .i64 x15,.int .i64 x16,.int .i64 x17,.int .i64 x18,.int .i64 x19,.int .i64 x20,.int .i64 x21,.int .i64 x22,.int .i64 x23]) (.int .i64 2)) w=.ok (.agg #[.int .i64 x12,.int .i64 x13,.int .i64 x14,.int .i64 x15,.int .i64 x16,.int .i64 x17]) w:=by kernel_rfl
theorem idxE_2 (x0 x1 x2 x3 x4 x5 x6 x7 x8 x9 x10 x11 x12 x13 x14 x15 x16 x17 x18 x19 x20 x21 x22 x23:Int) (w:World) (es:Array Event):Sem.events Tryz.prog (Instr.index 95 (.agg #[.int .i64 x0,.int .i64 x1,.int .i64 x2,.int .i64 x3,.int .i64 x4,.int .i64 x5,.int .i64 x6,.int .i64 x7,.int .i64 x8,.int .i64 x9,.int .i64 x10,.int .i64 x11,.int .i64 x12,.int .i64 x13,.int .i64 x14,.int .i64 x15,.int .i64 x16,.int .i64 x17,.int .i64 x18,.int .i64 x19,.int .i64 x20,.int .i64 x21,.int .i64 x22,.int .i64 x23]) (.int .i64 2)) w es=es:=by kernel_rfl
theorem idx_3 (x0 x1 x2 x3 x4 x5 x6 x7 x8 x9 x10 x11 x12 x13 x14 x15 x16 x17 x18 x19 x20 x21 x22 x23:Int) (w:World):Sem.run Tryz.prog (Instr.index 95 (.agg #[.int .i64 x0,.int .i64 x1,.int .i64 x2,.int .i64 x3,.int .i64 x4,.int .i64 x5,.int .i64 x6,.int .i64 x7,.int .i64 x8,.int .i64 x9,.int .i64 x10,.int .i64 x11,.int .i64 x12,.int .i64 x13,.int .i64 x14,.int .i64 x15,.int .i64 x16,.int .i64 x17,.int .i64 x18,.int .i64 x19,.int .i64 x20,.int .i64 x21,.int .i64 x22,.int .i64 x23]) (.int .i64 3)) w=.ok (.agg #[.int .i64 x18,.int .i64 x19,.int .i64 x20,.int .i64 x21,.int .i64 x22,.int .i64 x23]) w:=by kernel_rfl
theorem idxE_3 (x0 x1 x2 x3 x4 x5 x6 x7 x8 x9 x10 x11 x12 x13 x14 x15 x16 x17 x18 x19 x20 x21 x22 x23:Int) (w:World) (es:Array Event):Sem.events Tryz.prog (Instr.index 95 (.agg #[.int .i64 x0,.int .i64 x1,.int .i64 x2,.int .i64 x3,.int .i64 x4,.int .i64 x5,.int .i64 x6,.int .i64 x7,.int .i64 x8,.int .i64 x9,.int .i64 x10,.int .i64 x11,.int .i64 x12,.int .i64 x13,.int .i64 x14,.int .i64 x15,.int .i64 x16,.int .i64 x17,.int .i64 x18,.int .i64 x19,.int .i64 x20,.int .i64 x21,.int .i64 x22,.int .i64 x23]) (.int .i64 3)) w es=es:=by kernel_rfl
theorem LiveW.aside {ty:TypeId} {Wg ch c:Nat} (hc:¬ LvW Wg ch c) (w w':World) (h:∀ d,d ≠ c->w'.heap[d]?=w.heap[d]?) (hl:LiveW ty Wg ch w):LiveW ty Wg ch w' :=
 LiveW.keep w w' (fun d hd=>h d (by rintro rfl; exact hc hd)) hl
section
variable [Payload] {Snd:Nat->(Nat->Prop)->Value->World->Prop} {Wg ch:Nat} {fst fin:Nat->Nat} {B:Nat->Prop} {Q:World->Prop} {l:List (Nat × Obj)} {gV rV:Value} {many:Int} {bg br bc:Nat} {c:Frame} {cs:List Frame} {x0 x1 x2 x3 x4 x5 x6 x7 x8 x9 x10 x11 x12 x13 x14 x15 x16 x17 x18 x19 x20 x21 x22 x23:Int} {St1:(Nat->Prop)->St} {jn:Nat}
set_option maxRecDepth 100000 in
theorem round_3 (hQ:FpOk B Q)
  (hchild:∀ (K:Nat->Prop) (bs:Nat) (l':List (Nat × Obj)),(bs,.cells #[.int .i64 x18,.int .i64 x19,.int .i64 x20,.int .i64 x21,.int .i64 x22,.int .i64 x23] 65) ∈ l'->(∀ p ∈ l,p ∈ l')->(∀ p ∈ l',K p.1)->∀ w,Hp l' w->LiveW 94 Wg ch w->(∀ c,K c->c < w.heap.size)->∃ rc,Sit Tryz.prog 94 Wg ch Snd K (fun _=>False) (fst jn) (fin jn) ⟨7,0,0⟩ rc (born Tryz.prog (goCall Wg bg bs br bc)) w)
  (hnext:∀ (K':Nat->Prop) (v9 v22 v23 v24 v25 v26:Value),(∀ c,B c->K' c)->(∀ c,K' c->¬ LvW Wg ch c)->WayQ Tryz.prog true (LiveW 94 Wg ch) (ExE Wg true) (fun _ S g w=>St1 K' S g w) (fun _ _ _ _=>False) ch K' Q l 0 (fun _=>False) (G ((base 39).at ⟨#[gV,rV,.pointer (some ⟨bg,0,none⟩),.pointer (some ⟨br,0,none⟩),.slice none 0 0,.int .i64 many,.pointer (some ⟨bc,0,none⟩),.pointer (some ⟨Wg,0,none⟩),undef,v9,undef,undef,gV,.bool true,.bool false,gV,.int .i64 many,.int .i64 many,.chan (some ch),gV,.agg #[.int .i64 x0,.int .i64 x1,.int .i64 x2,.int .i64 x3,.int .i64 x4,.int .i64 x5,.int .i64 x6,.int .i64 x7,.int .i64 x8,.int .i64 x9,.int .i64 x10,.int .i64 x11,.int .i64 x12,.int .i64 x13,.int .i64 x14,.int .i64 x15,.int .i64 x16,.int .i64 x17,.int .i64 x18,.int .i64 x19,.int .i64 x20,.int .i64 x21,.int .i64 x22,.int .i64 x23],.int .i64 4,v22,v23,v24,v25,v26,undef,undef,undef,undef,undef,undef,undef,undef,undef,undef,undef,undef,undef,undef,undef],[]⟩ [.code lp39,.inLoop lp39,.inBlock 0,.code rest39]) (c :: cs)))
  {K S:Nat->Prop} (hBK:∀ c,B c->K c) (hKL:∀ c,K c\/S c->¬ LvW Wg ch c) (v9 v22 v23 v24 v25 v26:Value):WayQ Tryz.prog true (LiveW 94 Wg ch) (ExE Wg true) (fun _ S g w=>MKdS Tryz.prog 94 Wg ch Snd fst fin K jn (fun K S g w=>WX Tryz.prog 94 Wg ch K (St1 K) S g w) S g w) (fun _ _ _ _=>False) ch K Q l 0 S
  (G ((base 39).at ⟨#[gV,rV,.pointer (some ⟨bg,0,none⟩),.pointer (some ⟨br,0,none⟩),.slice none 0 0,.int .i64 many,.pointer (some ⟨bc,0,none⟩),.pointer (some ⟨Wg,0,none⟩),undef,v9,undef,undef,gV,.bool true,.bool false,gV,.int .i64 many,.int .i64 many,.chan (some ch),gV,.agg #[.int .i64 x0,.int .i64 x1,.int .i64 x2,.int .i64 x3,.int .i64 x4,.int .i64 x5,.int .i64 x6,.int .i64 x7,.int .i64 x8,.int .i64 x9,.int .i64 x10,.int .i64 x11,.int .i64 x12,.int .i64 x13,.int .i64 x14,.int .i64 x15,.int .i64 x16,.int .i64 x17,.int .i64 x18,.int .i64 x19,.int .i64 x20,.int .i64 x21,.int .i64 x22,.int .i64 x23],.int .i64 3,v22,v23,v24,v25,v26,undef,undef,undef,undef,undef,undef,undef,undef,undef,undef,undef,undef,undef,undef,undef],[]⟩ [.code lp39,.inLoop lp39,.inBlock 0,.code rest39]) (c :: cs)):=by
 simp only [lp39,Tryz.f39]
 refine WayQ.ctl rfl (fun _=>stepG_seq) ?_
 refine WayQ.ctl rfl (fun _=>stepG_region) ?_
 simp only [List.size_toArray,List.length_cons,List.length_nil,Nat.zero_add,List.range,List.range.loop]
 refine WayQ.val rfl rfl (by decide) (v:=.bool true) (fun w hp=>by go_simp) (fun _ w hp e he=>by simp [go_sem] at he) ?_
 walk_nrm
 refine WayQ.ctl rfl (fun _=>stepG_region_end) ?_
 refine WayQ.ctl rfl (fun _=>stepG_seq) ?_
 refine WayQ.ctl rfl (fun _=>stepG_cond (t:=true) rfl) ?_
 simp only [↓reduceIte]
 refine WayQ.ctl rfl (fun _=>stepG_skip) ?_
 refine WayQ.ctl rfl (fun _=>stepG_seq) ?_
 refine WayQ.ctl rfl (fun _=>stepG_block) ?_
 refine WayQ.ctl rfl (fun _=>stepG_seq) ?_
 refine WayQ.ctl rfl (fun _=>stepG_region) ?_
 simp only [List.size_toArray,List.length_cons,List.length_nil,Nat.reduceAdd,Nat.zero_add,List.range,List.range.loop]
 refine WayQ.val rfl rfl (by decide) (v:=.agg #[.int .i64 x18,.int .i64 x19,.int .i64 x20,.int .i64 x21,.int .i64 x22,.int .i64 x23]) (fun w hp=>by (have hi:=idx_3 x0 x1 x2 x3 x4 x5 x6 x7 x8 x9 x10 x11 x12 x13 x14 x15 x16 x17 x18 x19 x20 x21 x22 x23 w; go_simp)) (fun _ w hp e he=>by simp [go_sem,idxE_3] at he) ?_
 walk_nrm
 refine WayQ.new hQ hBK LiveW.low LiveW.alloc rfl rfl (by decide) (V:=fun c=>.pointer (some ⟨c,0,none⟩)) (obj:=.cells #[.int .i64 0,.int .i64 0,.int .i64 0,.int .i64 0,.int .i64 0,.int .i64 0] 65) (fun w hp=>by go_simp) (fun _ w hp e he=>by simp [go_sem] at he) fun b9 hK_b9 hS_b9 hv_b9 hl_b9=>?_
 walk_nrm
 refine WayQ.put (l':=(b9,.cells #[.int .i64 x18,.int .i64 x19,.int .i64 x20,.int .i64 x21,.int .i64 x22,.int .i64 x23] 65) :: l) (c:=b9) (obj:=.cells #[.int .i64 x18,.int .i64 x19,.int .i64 x20,.int .i64 x21,.int .i64 x22,.int .i64 x23] 65) hQ hBK rfl rfl (by decide) (Or.inr rfl) (fun h=>hK_b9 (hBK b9 h)) (LiveW.aside hv_b9) (fun w hp=>⟨w.setRow b9 #[.int .i64 x18,.int .i64 x19,.int .i64 x20,.int .i64 x21,.int .i64 x22,.int .i64 x23],run_put (ty:=65) rfl rfl rfl (hp.at (List.mem_cons_self ..)) info_side rfl (by simp [Value.oneCell']),(setRow_aside (hp.at (List.mem_cons_self ..))).1,(setRow_aside (hp.at (List.mem_cons_self ..))).2⟩) (fun _ w hp e he=>?_) (fun p hp=>?_) ?_
 ·obtain ⟨q,rfl⟩:=ev_put (cells:=#[.int .i64 x18,.int .i64 x19,.int .i64 x20,.int .i64 x21,.int .i64 x22,.int .i64 x23]) (ty:=65) rfl rfl rfl (hp.at (List.mem_cons_self ..)) info_side rfl (by simp [Value.oneCell']) e he
  exact Or.inl ⟨_,_,rfl,Or.inl (Or.inr rfl)⟩
 ·rcases List.mem_cons.1 hp with rfl | hp
  ·exact Or.inl rfl
  ·exact Or.inr ⟨List.mem_cons_of_mem _ hp,hl_b9 p hp⟩
 walk_nrm
 refine WayQ.ctl rfl (fun _=>stepG_region_end) ?_
 refine WayQ.ctl rfl (fun _=>stepG_seq) ?_
 refine WayQ.ctl rfl (fun _=>stepG_region) ?_
 simp only [List.size_toArray,List.length_cons,List.length_nil,Nat.zero_add,List.range,List.range.loop]
 refine WayQ.enter rfl rfl (by decide) (fun w=>run_call_body rfl Tryz.func61 rfl rfl) (fun w=>events_call_body rfl Tryz.func61 rfl rfl _) ?_
 rw [enter_at _ Tryz.func61 rfl]
 walk_nrmf Tryz.f61
 intro hl w hp hL hq hlt
 have hKL9:∀ d,K d\/S d\/d=b9->¬ LvW Wg ch d:=fun d hd=>by rcases hd with h | h | rfl; exact hKL d (.inl h); exact hKL d (.inr h); exact hv_b9
 refine add_stops (Fp:=FpAll Q _ (fun d=>K d\/S d\/d=b9)) (S:=fun d=>S d\/d=b9) wgLib (fpAll_ok hQ) (fun h=>?_) (fun d hd=>?_) ?_ w ⟨hq,hp,hlt⟩ hL
 ·rcases h with h | ⟨p,hp,h⟩
  ·exact hKL _ (.inl (hBK _ h)) (.inl rfl)
  ·exact hKL9 _ (hl p hp) (.inl h)
 ·rcases hd with h | ⟨p,hp,rfl⟩
  ·exact .inl (hBK _ h)
  ·exact hl p hp
 rintro w ⟨hq,hp,hlt⟩ hL
 refine (?_:WayQ Tryz.prog true (LiveW 94 Wg ch) (ExE Wg true) (fun _ S g w=>MGo Tryz.prog 94 Wg ch Snd fst fin K jn (fun K S g w=>WX Tryz.prog 94 Wg ch K (St1 K) S g w) S g w) (fun _ _ _ _=>False) ch K Q ((b9,.cells #[.int .i64 x18,.int .i64 x19,.int .i64 x20,.int .i64 x21,.int .i64 x22,.int .i64 x23] 65) :: l) 0 (fun d=>S d\/d=b9) _) hl w hp hL hq hlt
 walk_nrm
 refine WayQ.ctl rfl (fun _=>stepG_region_end) ?_
 refine WayQ.ctl rfl (fun _=>stepG_region) ?_
 simp only [List.size_toArray,List.length_cons,List.length_nil,Nat.reduceAdd,Nat.zero_add,List.range,List.range.loop]
 refine WayQ.val rfl rfl (by decide) (v:=.func (.func 62) #[] #[.pointer (some ⟨Wg,0,none⟩),.pointer (some ⟨bg,0,none⟩),.pointer (some ⟨b9,0,none⟩),.pointer (some ⟨br,0,none⟩),.pointer (some ⟨bc,0,none⟩)]) (fun w hp=>by go_simp) (fun _ w hp e he=>by simp [go_sem] at he) ?_
 walk_nrm
 refine WayQ.stop hQ hBK fun hl w hp hL hq hlt=>?_
 obtain ⟨rc,hsit⟩:=hchild (fun d=>K d\/S d\/d=b9) b9 ((b9,.cells #[.int .i64 x18,.int .i64 x19,.int .i64 x20,.int .i64 x21,.int .i64 x22,.int .i64 x23] 65) :: l) (List.mem_cons_self ..) (fun p h=>List.mem_cons_of_mem _ h) hl w hp hL hlt
 refine ⟨rfl,_,born Tryz.prog (goCall Wg bg b9 br bc),fun d=>K d\/S d\/d=b9,rc,go_step rfl rfl (by decide) rfl rfl,fun _ h=>h,hsit,?_⟩
 show WX Tryz.prog 94 Wg ch (fun d=>K d\/S d\/d=b9) (St1 (fun d=>K d\/S d\/d=b9)) (fun _=>False) _ w
 refine (?_:WayQ Tryz.prog true (LiveW 94 Wg ch) (ExE Wg true) (fun _ S1 g w=>St1 (fun d=>K d\/(S d\/d=b9)) S1 g w) (fun _ _ _ _=>False) ch (fun d=>K d\/(S d\/d=b9)) Q l 0 (fun _=>False) _) (fun p h=>.inl (hl p (List.mem_cons_of_mem _ h))) w (fun p h=>hp p (List.mem_cons_of_mem _ h)) hL hq (fun d hd=>hlt d (by simpa using hd))
 walk_nrm
 refine WayQ.ctl rfl (fun _=>stepG_region_end) ?_
 refine WayQ.ctl rfl (fun _=>stepG_inBlock) ?_
 refine WayQ.ctl rfl (fun _=>stepG_region) ?_
 simp only [List.size_toArray,List.length_cons,List.length_nil,Nat.reduceAdd,Nat.zero_add,List.range,List.range.loop]
 refine WayQ.val rfl rfl (by decide) (v:=.int .i64 4) (fun w hp=>by (go_simp; decide)) (fun _ w hp e he=>by simp [go_sem] at he) ?_
 walk_nrm
 refine WayQ.val rfl rfl (by decide) (v:=.int .i64 4) (fun w hp=>by go_simp) (fun _ w hp e he=>by simp [go_sem] at he) ?_
 walk_nrm
 refine WayQ.ctl rfl (fun _=>stepG_region_end) ?_
 refine WayQ.ctl rfl (fun _=>stepG_inLoop) ?_
 exact hnext _ _ _ _ _ _ _ (fun d hd=>.inl (hBK d hd)) hKL9
set_option maxRecDepth 100000 in
theorem round_2 (hQ:FpOk B Q)
  (hchild:∀ (K:Nat->Prop) (bs:Nat) (l':List (Nat × Obj)),(bs,.cells #[.int .i64 x12,.int .i64 x13,.int .i64 x14,.int .i64 x15,.int .i64 x16,.int .i64 x17] 65) ∈ l'->(∀ p ∈ l,p ∈ l')->(∀ p ∈ l',K p.1)->∀ w,Hp l' w->LiveW 94 Wg ch w->(∀ c,K c->c < w.heap.size)->∃ rc,Sit Tryz.prog 94 Wg ch Snd K (fun _=>False) (fst jn) (fin jn) ⟨7,0,0⟩ rc (born Tryz.prog (goCall Wg bg bs br bc)) w)
  (hnext:∀ (K':Nat->Prop) (v9 v22 v23 v24 v25 v26:Value),(∀ c,B c->K' c)->(∀ c,K' c->¬ LvW Wg ch c)->WayQ Tryz.prog true (LiveW 94 Wg ch) (ExE Wg true) (fun _ S g w=>St1 K' S g w) (fun _ _ _ _=>False) ch K' Q l 0 (fun _=>False) (G ((base 39).at ⟨#[gV,rV,.pointer (some ⟨bg,0,none⟩),.pointer (some ⟨br,0,none⟩),.slice none 0 0,.int .i64 many,.pointer (some ⟨bc,0,none⟩),.pointer (some ⟨Wg,0,none⟩),undef,v9,undef,undef,gV,.bool true,.bool false,gV,.int .i64 many,.int .i64 many,.chan (some ch),gV,.agg #[.int .i64 x0,.int .i64 x1,.int .i64 x2,.int .i64 x3,.int .i64 x4,.int .i64 x5,.int .i64 x6,.int .i64 x7,.int .i64 x8,.int .i64 x9,.int .i64 x10,.int .i64 x11,.int .i64 x12,.int .i64 x13,.int .i64 x14,.int .i64 x15,.int .i64 x16,.int .i64 x17,.int .i64 x18,.int .i64 x19,.int .i64 x20,.int .i64 x21,.int .i64 x22,.int .i64 x23],.int .i64 3,v22,v23,v24,v25,v26,undef,undef,undef,undef,undef,undef,undef,undef,undef,undef,undef,undef,undef,undef,undef],[]⟩ [.code lp39,.inLoop lp39,.inBlock 0,.code rest39]) (c :: cs)))
  {K S:Nat->Prop} (hBK:∀ c,B c->K c) (hKL:∀ c,K c\/S c->¬ LvW Wg ch c) (v9 v22 v23 v24 v25 v26:Value):WayQ Tryz.prog true (LiveW 94 Wg ch) (ExE Wg true) (fun _ S g w=>MKdS Tryz.prog 94 Wg ch Snd fst fin K jn (fun K S g w=>WX Tryz.prog 94 Wg ch K (St1 K) S g w) S g w) (fun _ _ _ _=>False) ch K Q l 0 S
  (G ((base 39).at ⟨#[gV,rV,.pointer (some ⟨bg,0,none⟩),.pointer (some ⟨br,0,none⟩),.slice none 0 0,.int .i64 many,.pointer (some ⟨bc,0,none⟩),.pointer (some ⟨Wg,0,none⟩),undef,v9,undef,undef,gV,.bool true,.bool false,gV,.int .i64 many,.int .i64 many,.chan (some ch),gV,.agg #[.int .i64 x0,.int .i64 x1,.int .i64 x2,.int .i64 x3,.int .i64 x4,.int .i64 x5,.int .i64 x6,.int .i64 x7,.int .i64 x8,.int .i64 x9,.int .i64 x10,.int .i64 x11,.int .i64 x12,.int .i64 x13,.int .i64 x14,.int .i64 x15,.int .i64 x16,.int .i64 x17,.int .i64 x18,.int .i64 x19,.int .i64 x20,.int .i64 x21,.int .i64 x22,.int .i64 x23],.int .i64 2,v22,v23,v24,v25,v26,undef,undef,undef,undef,undef,undef,undef,undef,undef,undef,undef,undef,undef,undef,undef],[]⟩ [.code lp39,.inLoop lp39,.inBlock 0,.code rest39]) (c :: cs)):=by
 simp only [lp39,Tryz.f39]
 refine WayQ.ctl rfl (fun _=>stepG_seq) ?_
 refine WayQ.ctl rfl (fun _=>stepG_region) ?_
 simp only [List.size_toArray,List.length_cons,List.length_nil,Nat.zero_add,List.range,List.range.loop]
 refine WayQ.val rfl rfl (by decide) (v:=.bool true) (fun w hp=>by go_simp) (fun _ w hp e he=>by simp [go_sem] at he) ?_
 walk_nrm
 refine WayQ.ctl rfl (fun _=>stepG_region_end) ?_
 refine WayQ.ctl rfl (fun _=>stepG_seq) ?_
 refine WayQ.ctl rfl (fun _=>stepG_cond (t:=true) rfl) ?_
 simp only [↓reduceIte]
 refine WayQ.ctl rfl (fun _=>stepG_skip) ?_
 refine WayQ.ctl rfl (fun _=>stepG_seq) ?_
 refine WayQ.ctl rfl (fun _=>stepG_block) ?_
 refine WayQ.ctl rfl (fun _=>stepG_seq) ?_
 refine WayQ.ctl rfl (fun _=>stepG_region) ?_
 simp only [List.size_toArray,List.length_cons,List.length_nil,Nat.reduceAdd,Nat.zero_add,List.range,List.range.loop]
 refine WayQ.val rfl rfl (by decide) (v:=.agg #[.int .i64 x12,.int .i64 x13,.int .i64 x14,.int .i64 x15,.int .i64 x16,.int .i64 x17]) (fun w hp=>by (have hi:=idx_2 x0 x1 x2 x3 x4 x5 x6 x7 x8 x9 x10 x11 x12 x13 x14 x15 x16 x17 x18 x19 x20 x21 x22 x23 w; go_simp)) (fun _ w hp e he=>by simp [go_sem,idxE_2] at he) ?_
 walk_nrm
 refine WayQ.new hQ hBK LiveW.low LiveW.alloc rfl rfl (by decide) (V:=fun c=>.pointer (some ⟨c,0,none⟩)) (obj:=.cells #[.int .i64 0,.int .i64 0,.int .i64 0,.int .i64 0,.int .i64 0,.int .i64 0] 65) (fun w hp=>by go_simp) (fun _ w hp e he=>by simp [go_sem] at he) fun b9 hK_b9 hS_b9 hv_b9 hl_b9=>?_
 walk_nrm
 refine WayQ.put (l':=(b9,.cells #[.int .i64 x12,.int .i64 x13,.int .i64 x14,.int .i64 x15,.int .i64 x16,.int .i64 x17] 65) :: l) (c:=b9) (obj:=.cells #[.int .i64 x12,.int .i64 x13,.int .i64 x14,.int .i64 x15,.int .i64 x16,.int .i64 x17] 65) hQ hBK rfl rfl (by decide) (Or.inr rfl) (fun h=>hK_b9 (hBK b9 h)) (LiveW.aside hv_b9) (fun w hp=>⟨w.setRow b9 #[.int .i64 x12,.int .i64 x13,.int .i64 x14,.int .i64 x15,.int .i64 x16,.int .i64 x17],run_put (ty:=65) rfl rfl rfl (hp.at (List.mem_cons_self ..)) info_side rfl (by simp [Value.oneCell']),(setRow_aside (hp.at (List.mem_cons_self ..))).1,(setRow_aside (hp.at (List.mem_cons_self ..))).2⟩) (fun _ w hp e he=>?_) (fun p hp=>?_) ?_
 ·obtain ⟨q,rfl⟩:=ev_put (cells:=#[.int .i64 x12,.int .i64 x13,.int .i64 x14,.int .i64 x15,.int .i64 x16,.int .i64 x17]) (ty:=65) rfl rfl rfl (hp.at (List.mem_cons_self ..)) info_side rfl (by simp [Value.oneCell']) e he
  exact Or.inl ⟨_,_,rfl,Or.inl (Or.inr rfl)⟩
 ·rcases List.mem_cons.1 hp with rfl | hp
  ·exact Or.inl rfl
  ·exact Or.inr ⟨List.mem_cons_of_mem _ hp,hl_b9 p hp⟩
 walk_nrm
 refine WayQ.ctl rfl (fun _=>stepG_region_end) ?_
 refine WayQ.ctl rfl (fun _=>stepG_seq) ?_
 refine WayQ.ctl rfl (fun _=>stepG_region) ?_
 simp only [List.size_toArray,List.length_cons,List.length_nil,Nat.zero_add,List.range,List.range.loop]
 refine WayQ.enter rfl rfl (by decide) (fun w=>run_call_body rfl Tryz.func61 rfl rfl) (fun w=>events_call_body rfl Tryz.func61 rfl rfl _) ?_
 rw [enter_at _ Tryz.func61 rfl]
 walk_nrmf Tryz.f61
 intro hl w hp hL hq hlt
 have hKL9:∀ d,K d\/S d\/d=b9->¬ LvW Wg ch d:=fun d hd=>by rcases hd with h | h | rfl; exact hKL d (.inl h); exact hKL d (.inr h); exact hv_b9
 refine add_stops (Fp:=FpAll Q _ (fun d=>K d\/S d\/d=b9)) (S:=fun d=>S d\/d=b9) wgLib (fpAll_ok hQ) (fun h=>?_) (fun d hd=>?_) ?_ w ⟨hq,hp,hlt⟩ hL
 ·rcases h with h | ⟨p,hp,h⟩
  ·exact hKL _ (.inl (hBK _ h)) (.inl rfl)
  ·exact hKL9 _ (hl p hp) (.inl h)
 ·rcases hd with h | ⟨p,hp,rfl⟩
  ·exact .inl (hBK _ h)
  ·exact hl p hp
 rintro w ⟨hq,hp,hlt⟩ hL
 refine (?_:WayQ Tryz.prog true (LiveW 94 Wg ch) (ExE Wg true) (fun _ S g w=>MGo Tryz.prog 94 Wg ch Snd fst fin K jn (fun K S g w=>WX Tryz.prog 94 Wg ch K (St1 K) S g w) S g w) (fun _ _ _ _=>False) ch K Q ((b9,.cells #[.int .i64 x12,.int .i64 x13,.int .i64 x14,.int .i64 x15,.int .i64 x16,.int .i64 x17] 65) :: l) 0 (fun d=>S d\/d=b9) _) hl w hp hL hq hlt
 walk_nrm
 refine WayQ.ctl rfl (fun _=>stepG_region_end) ?_
 refine WayQ.ctl rfl (fun _=>stepG_region) ?_
 simp only [List.size_toArray,List.length_cons,List.length_nil,Nat.reduceAdd,Nat.zero_add,List.range,List.range.loop]
 refine WayQ.val rfl rfl (by decide) (v:=.func (.func 62) #[] #[.pointer (some ⟨Wg,0,none⟩),.pointer (some ⟨bg,0,none⟩),.pointer (some ⟨b9,0,none⟩),.pointer (some ⟨br,0,none⟩),.pointer (some ⟨bc,0,none⟩)]) (fun w hp=>by go_simp) (fun _ w hp e he=>by simp [go_sem] at he) ?_
 walk_nrm
 refine WayQ.stop hQ hBK fun hl w hp hL hq hlt=>?_
 obtain ⟨rc,hsit⟩:=hchild (fun d=>K d\/S d\/d=b9) b9 ((b9,.cells #[.int .i64 x12,.int .i64 x13,.int .i64 x14,.int .i64 x15,.int .i64 x16,.int .i64 x17] 65) :: l) (List.mem_cons_self ..) (fun p h=>List.mem_cons_of_mem _ h) hl w hp hL hlt
 refine ⟨rfl,_,born Tryz.prog (goCall Wg bg b9 br bc),fun d=>K d\/S d\/d=b9,rc,go_step rfl rfl (by decide) rfl rfl,fun _ h=>h,hsit,?_⟩
 show WX Tryz.prog 94 Wg ch (fun d=>K d\/S d\/d=b9) (St1 (fun d=>K d\/S d\/d=b9)) (fun _=>False) _ w
 refine (?_:WayQ Tryz.prog true (LiveW 94 Wg ch) (ExE Wg true) (fun _ S1 g w=>St1 (fun d=>K d\/(S d\/d=b9)) S1 g w) (fun _ _ _ _=>False) ch (fun d=>K d\/(S d\/d=b9)) Q l 0 (fun _=>False) _) (fun p h=>.inl (hl p (List.mem_cons_of_mem _ h))) w (fun p h=>hp p (List.mem_cons_of_mem _ h)) hL hq (fun d hd=>hlt d (by simpa using hd))
 walk_nrm
 refine WayQ.ctl rfl (fun _=>stepG_region_end) ?_
 refine WayQ.ctl rfl (fun _=>stepG_inBlock) ?_
 refine WayQ.ctl rfl (fun _=>stepG_region) ?_
 simp only [List.size_toArray,List.length_cons,List.length_nil,Nat.reduceAdd,Nat.zero_add,List.range,List.range.loop]
 refine WayQ.val rfl rfl (by decide) (v:=.int .i64 3) (fun w hp=>by (go_simp; decide)) (fun _ w hp e he=>by simp [go_sem] at he) ?_
 walk_nrm
 refine WayQ.val rfl rfl (by decide) (v:=.int .i64 3) (fun w hp=>by go_simp) (fun _ w hp e he=>by simp [go_sem] at he) ?_
 walk_nrm
 refine WayQ.ctl rfl (fun _=>stepG_region_end) ?_
 refine WayQ.ctl rfl (fun _=>stepG_inLoop) ?_
 exact hnext _ _ _ _ _ _ _ (fun d hd=>.inl (hBK d hd)) hKL9
set_option maxRecDepth 100000 in
theorem round_1 (hQ:FpOk B Q)
  (hchild:∀ (K:Nat->Prop) (bs:Nat) (l':List (Nat × Obj)),(bs,.cells #[.int .i64 x6,.int .i64 x7,.int .i64 x8,.int .i64 x9,.int .i64 x10,.int .i64 x11] 65) ∈ l'->(∀ p ∈ l,p ∈ l')->(∀ p ∈ l',K p.1)->∀ w,Hp l' w->LiveW 94 Wg ch w->(∀ c,K c->c < w.heap.size)->∃ rc,Sit Tryz.prog 94 Wg ch Snd K (fun _=>False) (fst jn) (fin jn) ⟨7,0,0⟩ rc (born Tryz.prog (goCall Wg bg bs br bc)) w)
  (hnext:∀ (K':Nat->Prop) (v9 v22 v23 v24 v25 v26:Value),(∀ c,B c->K' c)->(∀ c,K' c->¬ LvW Wg ch c)->WayQ Tryz.prog true (LiveW 94 Wg ch) (ExE Wg true) (fun _ S g w=>St1 K' S g w) (fun _ _ _ _=>False) ch K' Q l 0 (fun _=>False) (G ((base 39).at ⟨#[gV,rV,.pointer (some ⟨bg,0,none⟩),.pointer (some ⟨br,0,none⟩),.slice none 0 0,.int .i64 many,.pointer (some ⟨bc,0,none⟩),.pointer (some ⟨Wg,0,none⟩),undef,v9,undef,undef,gV,.bool true,.bool false,gV,.int .i64 many,.int .i64 many,.chan (some ch),gV,.agg #[.int .i64 x0,.int .i64 x1,.int .i64 x2,.int .i64 x3,.int .i64 x4,.int .i64 x5,.int .i64 x6,.int .i64 x7,.int .i64 x8,.int .i64 x9,.int .i64 x10,.int .i64 x11,.int .i64 x12,.int .i64 x13,.int .i64 x14,.int .i64 x15,.int .i64 x16,.int .i64 x17,.int .i64 x18,.int .i64 x19,.int .i64 x20,.int .i64 x21,.int .i64 x22,.int .i64 x23],.int .i64 2,v22,v23,v24,v25,v26,undef,undef,undef,undef,undef,undef,undef,undef,undef,undef,undef,undef,undef,undef,undef],[]⟩ [.code lp39,.inLoop lp39,.inBlock 0,.code rest39]) (c :: cs)))
  {K S:Nat->Prop} (hBK:∀ c,B c->K c) (hKL:∀ c,K c\/S c->¬ LvW Wg ch c) (v9 v22 v23 v24 v25 v26:Value):WayQ Tryz.prog true (LiveW 94 Wg ch) (ExE Wg true) (fun _ S g w=>MKdS Tryz.prog 94 Wg ch Snd fst fin K jn (fun K S g w=>WX Tryz.prog 94 Wg ch K (St1 K) S g w) S g w) (fun _ _ _ _=>False) ch K Q l 0 S
  (G ((base 39).at ⟨#[gV,rV,.pointer (some ⟨bg,0,none⟩),.pointer (some ⟨br,0,none⟩),.slice none 0 0,.int .i64 many,.pointer (some ⟨bc,0,none⟩),.pointer (some ⟨Wg,0,none⟩),undef,v9,undef,undef,gV,.bool true,.bool false,gV,.int .i64 many,.int .i64 many,.chan (some ch),gV,.agg #[.int .i64 x0,.int .i64 x1,.int .i64 x2,.int .i64 x3,.int .i64 x4,.int .i64 x5,.int .i64 x6,.int .i64 x7,.int .i64 x8,.int .i64 x9,.int .i64 x10,.int .i64 x11,.int .i64 x12,.int .i64 x13,.int .i64 x14,.int .i64 x15,.int .i64 x16,.int .i64 x17,.int .i64 x18,.int .i64 x19,.int .i64 x20,.int .i64 x21,.int .i64 x22,.int .i64 x23],.int .i64 1,v22,v23,v24,v25,v26,undef,undef,undef,undef,undef,undef,undef,undef,undef,undef,undef,undef,undef,undef,undef],[]⟩ [.code lp39,.inLoop lp39,.inBlock 0,.code rest39]) (c :: cs)):=by
 simp only [lp39,Tryz.f39]
 refine WayQ.ctl rfl (fun _=>stepG_seq) ?_
 refine WayQ.ctl rfl (fun _=>stepG_region) ?_
 simp only [List.size_toArray,List.length_cons,List.length_nil,Nat.zero_add,List.range,List.range.loop]
 refine WayQ.val rfl rfl (by decide) (v:=.bool true) (fun w hp=>by go_simp) (fun _ w hp e he=>by simp [go_sem] at he) ?_
 walk_nrm
 refine WayQ.ctl rfl (fun _=>stepG_region_end) ?_
 refine WayQ.ctl rfl (fun _=>stepG_seq) ?_
 refine WayQ.ctl rfl (fun _=>stepG_cond (t:=true) rfl) ?_
 simp only [↓reduceIte]
 refine WayQ.ctl rfl (fun _=>stepG_skip) ?_
 refine WayQ.ctl rfl (fun _=>stepG_seq) ?_
 refine WayQ.ctl rfl (fun _=>stepG_block) ?_
 refine WayQ.ctl rfl (fun _=>stepG_seq) ?_
 refine WayQ.ctl rfl (fun _=>stepG_region) ?_
 simp only [List.size_toArray,List.length_cons,List.length_nil,Nat.reduceAdd,Nat.zero_add,List.range,List.range.loop]
 refine WayQ.val rfl rfl (by decide) (v:=.agg #[.int .i64 x6,.int .i64 x7,.int .i64 x8,.int .i64 x9,.int .i64 x10,.int .i64 x11]) (fun w hp=>by (have hi:=idx_1 x0 x1 x2 x3 x4 x5 x6 x7 x8 x9 x10 x11 x12 x13 x14 x15 x16 x17 x18 x19 x20 x21 x22 x23 w; go_simp)) (fun _ w hp e he=>by simp [go_sem,idxE_1] at he) ?_
 walk_nrm
 refine WayQ.new hQ hBK LiveW.low LiveW.alloc rfl rfl (by decide) (V:=fun c=>.pointer (some ⟨c,0,none⟩)) (obj:=.cells #[.int .i64 0,.int .i64 0,.int .i64 0,.int .i64 0,.int .i64 0,.int .i64 0] 65) (fun w hp=>by go_simp) (fun _ w hp e he=>by simp [go_sem] at he) fun b9 hK_b9 hS_b9 hv_b9 hl_b9=>?_
 walk_nrm
 refine WayQ.put (l':=(b9,.cells #[.int .i64 x6,.int .i64 x7,.int .i64 x8,.int .i64 x9,.int .i64 x10,.int .i64 x11] 65) :: l) (c:=b9) (obj:=.cells #[.int .i64 x6,.int .i64 x7,.int .i64 x8,.int .i64 x9,.int .i64 x10,.int .i64 x11] 65) hQ hBK rfl rfl (by decide) (Or.inr rfl) (fun h=>hK_b9 (hBK b9 h)) (LiveW.aside hv_b9) (fun w hp=>⟨w.setRow b9 #[.int .i64 x6,.int .i64 x7,.int .i64 x8,.int .i64 x9,.int .i64 x10,.int .i64 x11],run_put (ty:=65) rfl rfl rfl (hp.at (List.mem_cons_self ..)) info_side rfl (by simp [Value.oneCell']),(setRow_aside (hp.at (List.mem_cons_self ..))).1,(setRow_aside (hp.at (List.mem_cons_self ..))).2⟩) (fun _ w hp e he=>?_) (fun p hp=>?_) ?_
 ·obtain ⟨q,rfl⟩:=ev_put (cells:=#[.int .i64 x6,.int .i64 x7,.int .i64 x8,.int .i64 x9,.int .i64 x10,.int .i64 x11]) (ty:=65) rfl rfl rfl (hp.at (List.mem_cons_self ..)) info_side rfl (by simp [Value.oneCell']) e he
  exact Or.inl ⟨_,_,rfl,Or.inl (Or.inr rfl)⟩
 ·rcases List.mem_cons.1 hp with rfl | hp
  ·exact Or.inl rfl
  ·exact Or.inr ⟨List.mem_cons_of_mem _ hp,hl_b9 p hp⟩
 walk_nrm
 refine WayQ.ctl rfl (fun _=>stepG_region_end) ?_
 refine WayQ.ctl rfl (fun _=>stepG_seq) ?_
 refine WayQ.ctl rfl (fun _=>stepG_region) ?_
 simp only [List.size_toArray,List.length_cons,List.length_nil,Nat.zero_add,List.range,List.range.loop]
 refine WayQ.enter rfl rfl (by decide) (fun w=>run_call_body rfl Tryz.func61 rfl rfl) (fun w=>events_call_body rfl Tryz.func61 rfl rfl _) ?_
 rw [enter_at _ Tryz.func61 rfl]
 walk_nrmf Tryz.f61
 intro hl w hp hL hq hlt
 have hKL9:∀ d,K d\/S d\/d=b9->¬ LvW Wg ch d:=fun d hd=>by rcases hd with h | h | rfl; exact hKL d (.inl h); exact hKL d (.inr h); exact hv_b9
 refine add_stops (Fp:=FpAll Q _ (fun d=>K d\/S d\/d=b9)) (S:=fun d=>S d\/d=b9) wgLib (fpAll_ok hQ) (fun h=>?_) (fun d hd=>?_) ?_ w ⟨hq,hp,hlt⟩ hL
 ·rcases h with h | ⟨p,hp,h⟩
  ·exact hKL _ (.inl (hBK _ h)) (.inl rfl)
  ·exact hKL9 _ (hl p hp) (.inl h)
 ·rcases hd with h | ⟨p,hp,rfl⟩
  ·exact .inl (hBK _ h)
  ·exact hl p hp
 rintro w ⟨hq,hp,hlt⟩ hL
 refine (?_:WayQ Tryz.prog true (LiveW 94 Wg ch) (ExE Wg true) (fun _ S g w=>MGo Tryz.prog 94 Wg ch Snd fst fin K jn (fun K S g w=>WX Tryz.prog 94 Wg ch K (St1 K) S g w) S g w) (fun _ _ _ _=>False) ch K Q ((b9,.cells #[.int .i64 x6,.int .i64 x7,.int .i64 x8,.int .i64 x9,.int .i64 x10,.int .i64 x11] 65) :: l) 0 (fun d=>S d\/d=b9) _) hl w hp hL hq hlt
 walk_nrm
 refine WayQ.ctl rfl (fun _=>stepG_region_end) ?_
 refine WayQ.ctl rfl (fun _=>stepG_region) ?_
 simp only [List.size_toArray,List.length_cons,List.length_nil,Nat.reduceAdd,Nat.zero_add,List.range,List.range.loop]
 refine WayQ.val rfl rfl (by decide) (v:=.func (.func 62) #[] #[.pointer (some ⟨Wg,0,none⟩),.pointer (some ⟨bg,0,none⟩),.pointer (some ⟨b9,0,none⟩),.pointer (some ⟨br,0,none⟩),.pointer (some ⟨bc,0,none⟩)]) (fun w hp=>by go_simp) (fun _ w hp e he=>by simp [go_sem] at he) ?_
 walk_nrm
 refine WayQ.stop hQ hBK fun hl w hp hL hq hlt=>?_
 obtain ⟨rc,hsit⟩:=hchild (fun d=>K d\/S d\/d=b9) b9 ((b9,.cells #[.int .i64 x6,.int .i64 x7,.int .i64 x8,.int .i64 x9,.int .i64 x10,.int .i64 x11] 65) :: l) (List.mem_cons_self ..) (fun p h=>List.mem_cons_of_mem _ h) hl w hp hL hlt
 refine ⟨rfl,_,born Tryz.prog (goCall Wg bg b9 br bc),fun d=>K d\/S d\/d=b9,rc,go_step rfl rfl (by decide) rfl rfl,fun _ h=>h,hsit,?_⟩
 show WX Tryz.prog 94 Wg ch (fun d=>K d\/S d\/d=b9) (St1 (fun d=>K d\/S d\/d=b9)) (fun _=>False) _ w
 refine (?_:WayQ Tryz.prog true (LiveW 94 Wg ch) (ExE Wg true) (fun _ S1 g w=>St1 (fun d=>K d\/(S d\/d=b9)) S1 g w) (fun _ _ _ _=>False) ch (fun d=>K d\/(S d\/d=b9)) Q l 0 (fun _=>False) _) (fun p h=>.inl (hl p (List.mem_cons_of_mem _ h))) w (fun p h=>hp p (List.mem_cons_of_mem _ h)) hL hq (fun d hd=>hlt d (by simpa using hd))
 walk_nrm
 refine WayQ.ctl rfl (fun _=>stepG_region_end) ?_
 refine WayQ.ctl rfl (fun _=>stepG_inBlock) ?_
 refine WayQ.ctl rfl (fun _=>stepG_region) ?_
 simp only [List.size_toArray,List.length_cons,List.length_nil,Nat.reduceAdd,Nat.zero_add,List.range,List.range.loop]
 refine WayQ.val rfl rfl (by decide) (v:=.int .i64 2) (fun w hp=>by (go_simp; decide)) (fun _ w hp e he=>by simp [go_sem] at he) ?_
 walk_nrm
 refine WayQ.val rfl rfl (by decide) (v:=.int .i64 2) (fun w hp=>by go_simp) (fun _ w hp e he=>by simp [go_sem] at he) ?_
 walk_nrm
 refine WayQ.ctl rfl (fun _=>stepG_region_end) ?_
 refine WayQ.ctl rfl (fun _=>stepG_inLoop) ?_
 exact hnext _ _ _ _ _ _ _ (fun d hd=>.inl (hBK d hd)) hKL9
set_option maxRecDepth 100000 in
theorem round_0 (hQ:FpOk B Q)
  (hchild:∀ (K:Nat->Prop) (bs:Nat) (l':List (Nat × Obj)),(bs,.cells #[.int .i64 x0,.int .i64 x1,.int .i64 x2,.int .i64 x3,.int .i64 x4,.int .i64 x5] 65) ∈ l'->(∀ p ∈ l,p ∈ l')->(∀ p ∈ l',K p.1)->∀ w,Hp l' w->LiveW 94 Wg ch w->(∀ c,K c->c < w.heap.size)->∃ rc,Sit Tryz.prog 94 Wg ch Snd K (fun _=>False) (fst jn) (fin jn) ⟨7,0,0⟩ rc (born Tryz.prog (goCall Wg bg bs br bc)) w)
  (hnext:∀ (K':Nat->Prop) (v9 v22 v23 v24 v25 v26:Value),(∀ c,B c->K' c)->(∀ c,K' c->¬ LvW Wg ch c)->WayQ Tryz.prog true (LiveW 94 Wg ch) (ExE Wg true) (fun _ S g w=>St1 K' S g w) (fun _ _ _ _=>False) ch K' Q l 0 (fun _=>False) (G ((base 39).at ⟨#[gV,rV,.pointer (some ⟨bg,0,none⟩),.pointer (some ⟨br,0,none⟩),.slice none 0 0,.int .i64 many,.pointer (some ⟨bc,0,none⟩),.pointer (some ⟨Wg,0,none⟩),undef,v9,undef,undef,gV,.bool true,.bool false,gV,.int .i64 many,.int .i64 many,.chan (some ch),gV,.agg #[.int .i64 x0,.int .i64 x1,.int .i64 x2,.int .i64 x3,.int .i64 x4,.int .i64 x5,.int .i64 x6,.int .i64 x7,.int .i64 x8,.int .i64 x9,.int .i64 x10,.int .i64 x11,.int .i64 x12,.int .i64 x13,.int .i64 x14,.int .i64 x15,.int .i64 x16,.int .i64 x17,.int .i64 x18,.int .i64 x19,.int .i64 x20,.int .i64 x21,.int .i64 x22,.int .i64 x23],.int .i64 1,v22,v23,v24,v25,v26,undef,undef,undef,undef,undef,undef,undef,undef,undef,undef,undef,undef,undef,undef,undef],[]⟩ [.code lp39,.inLoop lp39,.inBlock 0,.code rest39]) (c :: cs)))
  {K S:Nat->Prop} (hBK:∀ c,B c->K c) (hKL:∀ c,K c\/S c->¬ LvW Wg ch c) (v9 v22 v23 v24 v25 v26:Value):WayQ Tryz.prog true (LiveW 94 Wg ch) (ExE Wg true) (fun _ S g w=>MKdS Tryz.prog 94 Wg ch Snd fst fin K jn (fun K S g w=>WX Tryz.prog 94 Wg ch K (St1 K) S g w) S g w) (fun _ _ _ _=>False) ch K Q l 0 S
  (G ((base 39).at ⟨#[gV,rV,.pointer (some ⟨bg,0,none⟩),.pointer (some ⟨br,0,none⟩),.slice none 0 0,.int .i64 many,.pointer (some ⟨bc,0,none⟩),.pointer (some ⟨Wg,0,none⟩),undef,v9,undef,undef,gV,.bool true,.bool false,gV,.int .i64 many,.int .i64 many,.chan (some ch),gV,.agg #[.int .i64 x0,.int .i64 x1,.int .i64 x2,.int .i64 x3,.int .i64 x4,.int .i64 x5,.int .i64 x6,.int .i64 x7,.int .i64 x8,.int .i64 x9,.int .i64 x10,.int .i64 x11,.int .i64 x12,.int .i64 x13,.int .i64 x14,.int .i64 x15,.int .i64 x16,.int .i64 x17,.int .i64 x18,.int .i64 x19,.int .i64 x20,.int .i64 x21,.int .i64 x22,.int .i64 x23],.int .i64 0,v22,v23,v24,v25,v26,undef,undef,undef,undef,undef,undef,undef,undef,undef,undef,undef,undef,undef,undef,undef],[]⟩ [.code lp39,.inLoop lp39,.inBlock 0,.code rest39]) (c :: cs)):=by
 simp only [lp39,Tryz.f39]
 refine WayQ.ctl rfl (fun _=>stepG_seq) ?_
 refine WayQ.ctl rfl (fun _=>stepG_region) ?_
 simp only [List.size_toArray,List.length_cons,List.length_nil,Nat.zero_add,List.range,List.range.loop]
 refine WayQ.val rfl rfl (by decide) (v:=.bool true) (fun w hp=>by go_simp) (fun _ w hp e he=>by simp [go_sem] at he) ?_
 walk_nrm
 refine WayQ.ctl rfl (fun _=>stepG_region_end) ?_
 refine WayQ.ctl rfl (fun _=>stepG_seq) ?_
 refine WayQ.ctl rfl (fun _=>stepG_cond (t:=true) rfl) ?_
 simp only [↓reduceIte]
 refine WayQ.ctl rfl (fun _=>stepG_skip) ?_
 refine WayQ.ctl rfl (fun _=>stepG_seq) ?_
 refine WayQ.ctl rfl (fun _=>stepG_block) ?_
 refine WayQ.ctl rfl (fun _=>stepG_seq) ?_
 refine WayQ.ctl rfl (fun _=>stepG_region) ?_
 simp only [List.size_toArray,List.length_cons,List.length_nil,Nat.reduceAdd,Nat.zero_add,List.range,List.range.loop]
 refine WayQ.val rfl rfl (by decide) (v:=.agg #[.int .i64 x0,.int .i64 x1,.int .i64 x2,.int .i64 x3,.int .i64 x4,.int .i64 x5]) (fun w hp=>by (have hi:=idx_0 x0 x1 x2 x3 x4 x5 x6 x7 x8 x9 x10 x11 x12 x13 x14 x15 x16 x17 x18 x19 x20 x21 x22 x23 w; go_simp)) (fun _ w hp e he=>by simp [go_sem,idxE_0] at he) ?_
 walk_nrm
 refine WayQ.new hQ hBK LiveW.low LiveW.alloc rfl rfl (by decide) (V:=fun c=>.pointer (some ⟨c,0,none⟩)) (obj:=.cells #[.int .i64 0,.int .i64 0,.int .i64 0,.int .i64 0,.int .i64 0,.int .i64 0] 65) (fun w hp=>by go_simp) (fun _ w hp e he=>by simp [go_sem] at he) fun b9 hK_b9 hS_b9 hv_b9 hl_b9=>?_
 walk_nrm
 refine WayQ.put (l':=(b9,.cells #[.int .i64 x0,.int .i64 x1,.int .i64 x2,.int .i64 x3,.int .i64 x4,.int .i64 x5] 65) :: l) (c:=b9) (obj:=.cells #[.int .i64 x0,.int .i64 x1,.int .i64 x2,.int .i64 x3,.int .i64 x4,.int .i64 x5] 65) hQ hBK rfl rfl (by decide) (Or.inr rfl) (fun h=>hK_b9 (hBK b9 h)) (LiveW.aside hv_b9) (fun w hp=>⟨w.setRow b9 #[.int .i64 x0,.int .i64 x1,.int .i64 x2,.int .i64 x3,.int .i64 x4,.int .i64 x5],run_put (ty:=65) rfl rfl rfl (hp.at (List.mem_cons_self ..)) info_side rfl (by simp [Value.oneCell']),(setRow_aside (hp.at (List.mem_cons_self ..))).1,(setRow_aside (hp.at (List.mem_cons_self ..))).2⟩) (fun _ w hp e he=>?_) (fun p hp=>?_) ?_
 ·obtain ⟨q,rfl⟩:=ev_put (cells:=#[.int .i64 x0,.int .i64 x1,.int .i64 x2,.int .i64 x3,.int .i64 x4,.int .i64 x5]) (ty:=65) rfl rfl rfl (hp.at (List.mem_cons_self ..)) info_side rfl (by simp [Value.oneCell']) e he
  exact Or.inl ⟨_,_,rfl,Or.inl (Or.inr rfl)⟩
 ·rcases List.mem_cons.1 hp with rfl | hp
  ·exact Or.inl rfl
  ·exact Or.inr ⟨List.mem_cons_of_mem _ hp,hl_b9 p hp⟩
 walk_nrm
 refine WayQ.ctl rfl (fun _=>stepG_region_end) ?_
 refine WayQ.ctl rfl (fun _=>stepG_seq) ?_
 refine WayQ.ctl rfl (fun _=>stepG_region) ?_
 simp only [List.size_toArray,List.length_cons,List.length_nil,Nat.zero_add,List.range,List.range.loop]
 refine WayQ.enter rfl rfl (by decide) (fun w=>run_call_body rfl Tryz.func61 rfl rfl) (fun w=>events_call_body rfl Tryz.func61 rfl rfl _) ?_
 rw [enter_at _ Tryz.func61 rfl]
 walk_nrmf Tryz.f61
 intro hl w hp hL hq hlt
 have hKL9:∀ d,K d\/S d\/d=b9->¬ LvW Wg ch d:=fun d hd=>by rcases hd with h | h | rfl; exact hKL d (.inl h); exact hKL d (.inr h); exact hv_b9
 refine add_stops (Fp:=FpAll Q _ (fun d=>K d\/S d\/d=b9)) (S:=fun d=>S d\/d=b9) wgLib (fpAll_ok hQ) (fun h=>?_) (fun d hd=>?_) ?_ w ⟨hq,hp,hlt⟩ hL
 ·rcases h with h | ⟨p,hp,h⟩
  ·exact hKL _ (.inl (hBK _ h)) (.inl rfl)
  ·exact hKL9 _ (hl p hp) (.inl h)
 ·rcases hd with h | ⟨p,hp,rfl⟩
  ·exact .inl (hBK _ h)
  ·exact hl p hp
 rintro w ⟨hq,hp,hlt⟩ hL
 refine (?_:WayQ Tryz.prog true (LiveW 94 Wg ch) (ExE Wg true) (fun _ S g w=>MGo Tryz.prog 94 Wg ch Snd fst fin K jn (fun K S g w=>WX Tryz.prog 94 Wg ch K (St1 K) S g w) S g w) (fun _ _ _ _=>False) ch K Q ((b9,.cells #[.int .i64 x0,.int .i64 x1,.int .i64 x2,.int .i64 x3,.int .i64 x4,.int .i64 x5] 65) :: l) 0 (fun d=>S d\/d=b9) _) hl w hp hL hq hlt
 walk_nrm
 refine WayQ.ctl rfl (fun _=>stepG_region_end) ?_
 refine WayQ.ctl rfl (fun _=>stepG_region) ?_
 simp only [List.size_toArray,List.length_cons,List.length_nil,Nat.reduceAdd,Nat.zero_add,List.range,List.range.loop]
 refine WayQ.val rfl rfl (by decide) (v:=.func (.func 62) #[] #[.pointer (some ⟨Wg,0,none⟩),.pointer (some ⟨bg,0,none⟩),.pointer (some ⟨b9,0,none⟩),.pointer (some ⟨br,0,none⟩),.pointer (some ⟨bc,0,none⟩)]) (fun w hp=>by go_simp) (fun _ w hp e he=>by simp [go_sem] at he) ?_
 walk_nrm
 refine WayQ.stop hQ hBK fun hl w hp hL hq hlt=>?_
 obtain ⟨rc,hsit⟩:=hchild (fun d=>K d\/S d\/d=b9) b9 ((b9,.cells #[.int .i64 x0,.int .i64 x1,.int .i64 x2,.int .i64 x3,.int .i64 x4,.int .i64 x5] 65) :: l) (List.mem_cons_self ..) (fun p h=>List.mem_cons_of_mem _ h) hl w hp hL hlt
 refine ⟨rfl,_,born Tryz.prog (goCall Wg bg b9 br bc),fun d=>K d\/S d\/d=b9,rc,go_step rfl rfl (by decide) rfl rfl,fun _ h=>h,hsit,?_⟩
 show WX Tryz.prog 94 Wg ch (fun d=>K d\/S d\/d=b9) (St1 (fun d=>K d\/S d\/d=b9)) (fun _=>False) _ w
 refine (?_:WayQ Tryz.prog true (LiveW 94 Wg ch) (ExE Wg true) (fun _ S1 g w=>St1 (fun d=>K d\/(S d\/d=b9)) S1 g w) (fun _ _ _ _=>False) ch (fun d=>K d\/(S d\/d=b9)) Q l 0 (fun _=>False) _) (fun p h=>.inl (hl p (List.mem_cons_of_mem _ h))) w (fun p h=>hp p (List.mem_cons_of_mem _ h)) hL hq (fun d hd=>hlt d (by simpa using hd))
 walk_nrm
 refine WayQ.ctl rfl (fun _=>stepG_region_end) ?_
 refine WayQ.ctl rfl (fun _=>stepG_inBlock) ?_
 refine WayQ.ctl rfl (fun _=>stepG_region) ?_
 simp only [List.size_toArray,List.length_cons,List.length_nil,Nat.reduceAdd,Nat.zero_add,List.range,List.range.loop]
 refine WayQ.val rfl rfl (by decide) (v:=.int .i64 1) (fun w hp=>by (go_simp; decide)) (fun _ w hp e he=>by simp [go_sem] at he) ?_
 walk_nrm
 refine WayQ.val rfl rfl (by decide) (v:=.int .i64 1) (fun w hp=>by go_simp) (fun _ w hp e he=>by simp [go_sem] at he) ?_
 walk_nrm
 refine WayQ.ctl rfl (fun _=>stepG_region_end) ?_
 refine WayQ.ctl rfl (fun _=>stepG_inLoop) ?_
 exact hnext _ _ _ _ _ _ _ (fun d hd=>.inl (hBK d hd)) hKL9
end
end
end Go.Proofs.YtdhopelplokehaaGreat
