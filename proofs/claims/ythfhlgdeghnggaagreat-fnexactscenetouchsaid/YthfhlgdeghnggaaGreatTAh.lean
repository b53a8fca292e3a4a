/- Part. -/
import Derived.Test.YthfhlgdeghnggaaGreatTAf
set_option maxHeartbeats 4000000
namespace Go.Proofs.YthfhlgdeghnggaaGreat
variable{a:Array Value}{fn:Func}{fr:FuncId}{X:FuncId->Prop}{wd:Int}{cap:Nat}{Kc Lv:Nat->Prop}{RowP:Nat->Value->List (Nat × Obj)->Prop}{Post:Nat->World->Value->World->Prop}{ga:Option Addr}
namespace R2
open Go Go.Conc Go.ConcN Go.RowKit Go.Conc.Lib Go.ConcR.Gen Go.ConcN.Gen
open Go.ConcR (KK wgBlock WgAt stA smA rd wr mk Payload Aside2 DC0)
theorem _root_.Go.Proofs.YthfhlgdeghnggaaGreat.zag.callb{L M:Program}{main:Bool}{Live:World->Prop}{Ex:Event->Prop}{Stop:Nat->(Nat->Prop)->Goroutine->World->Prop}{Snd:Nat->(Nat->Prop)->Value->World->Prop}{ch:Nat}{K:Nat->Prop}{l:List (Nat × Obj)}{σ:Nat}{S:Nat->Prop}[T:zaB L M][zaB L L](W:Whole L)(B:Bodies L M X)(hLv:∀ w w':World,(∀ c,Lv c->w'.heap[c]?=w.heap[c]?)->Live w->Live w')(hlv:∀ w c,Live w->Lv c->c<w.heap.size)(hX:zji L X){f:FuncId}(hf:L.funcs[f]?=some fn)(hb:fn.body.isSome=true)(hnX:¬ X f)(hres:zbM fn=true){Post:World->Value->World->Prop}(hP:∀ w0 v w τ d,Post w0 v w->Post w0 v (w.tp τ d))(hKc:∀ c,Kc c->K c)(hcl:∀ w,Hp l w->Closed Kc w)(ha:zaz (zcu Kc) a a)(hC:∀ w,Hp l w->∀ τ d,Calls L f a (w.frz.tp τ d) fun e w'=>∃ v,e=.returned v/\Post w v w'){Q:Value->List (Nat × Obj)->Prop}(hQ:∀ w0 v v' R wl w₁,Post w0 v wl->zao R v v'->zbb w0.heap.size R wl w₁->∃ bs,Q v' bs/\Hp bs w₁/\∀ p∈bs,zbC w0.heap.size R p.1){c:Frame}{cs:List Frame}(hn:∀(S':Nat->Prop) (v':Value) (bs:List (Nat × Obj)),Q v' bs->(∀ p∈bs,S' p.1/\¬ K p.1/\¬ S p.1)->(∀ p∈l,K p.1\/S p.1)->zag M main Live Ex Stop Snd ch K (bs++l) σ (fun c=>S c\/S' c) (G (c.finish v') cs)) :
  zag M main Live Ex Stop Snd ch K l σ S (G (Frame.enter M f a .normal) (c::cs)):=by
 intro hl
 refine zag.call (Lv:=Lv) (Kc:=Kc) W B hLv hlv hX hf hb hnX hres hP hKc hcl ha hC ?_ hl
 intro w0 v v' S' R wl w₁ _ hp1 hpost hv hw hS' hnew hlt hL hlt1
 obtain⟨bs,hq,hbs,hown⟩:=hQ w0 v v' R wl w₁ hpost hv hw
 have hS2:∀ p∈bs,S' p.1:=fun p h=>by rw[hS'];exact hown p h
 refine hn S' v' bs hq (fun p h=>⟨hS2 p h,fun q=>?_,fun q=>?_⟩) hl (fun p h=>?_) w₁ (fun p h=>?_) hL (fun c hc=>hlt1 c (hc.imp id fun x=>x))
 ·have h1:=hlt p.1 (.inl q);have h2:=hnew p.1 (hS2 p h);omega
 ·have h1:=hlt p.1 (.inr q);have h2:=hnew p.1 (hS2 p h);omega
 ·rcases List.mem_append.1 h with h|h
  ·exact .inr (.inr (hS2 p h))
  ·exact(hl p h).imp id .inl
 ·rcases List.mem_append.1 h with h|h
  ·exact hbs p h
  ·exact hp1 p h
noncomputable abbrev zeg:Code:=match Tryz.f90.body with|some (.seq _ (.seq _ (.block _ (.loop c))))=>c|_=>.skip
section
variable{L:Program}{main:Bool}{Live:World->Prop}{Ex:Event->Prop}{Stop:Nat->(Nat->Prop)->Goroutine->World->Prop}{Snd:Nat->(Nat->Prop)->Value->World->Prop}{ch:Nat}{K:Nat->Prop}
set_option maxRecDepth 100000 in
theorem zmh[T:zaB L Tryz.prog][zaB L L](W:Whole L)(B:Bodies L Tryz.prog X)(hLv:∀ w w':World,(∀ c,Lv c->w'.heap[c]?=w.heap[c]?)->Live w->Live w')(hlv:∀ w c,Live w->Lv c->c<w.heap.size)(hX:zji L X)(hf1:L.funcs[115]?=some Tryz.f115)(hx1:¬ X 115)(hf2:L.funcs[fr]?=some fn)(hm2:Tryz.prog.funcs[fr]?=some fn)(hb2:fn.body.isSome=true)(hn2:(fn.name == "runtime.NumGoroutine")=false)(hx2:¬ X fr)(hr2:zbM fn=true){n:Nat}{f m s o i u:Int}{b4 b5:Nat}{l:List (Nat × Obj)}{fin:Nat}(h4:(b4,.cells #[.int .i64 wd,.slice ga n cap] 33)∈l)(h5:(b5,.cells #[.int .i64 f,.int .i64 m,.int .i64 s,.int .i64 o,.int .i64 i,.int .i64 u] 136)∈l)(hKc:∀ c,Kc c->K c)(hcl:∀ w,Hp l w->Closed Kc w)(hga:zao (zcu Kc) (.slice ga n cap) (.slice ga n cap))(hfin:(fin:Int)=f+m)(hfin2:fin<=1000)(hhas:∀(k:Nat) (w:World),Calls L 115 #[.agg #[.int .i64 f,.int .i64 m,.int .i64 s,.int .i64 o,.int .i64 i,.int .i64 u],.int .i64 k] w fun e _=>e=.returned (.bool (decide (f<=k/\(k:Int)<f+m))))(hrk:∀ k:Nat,f<=k->k<fin->∀ w,Hp l w->∀ τ d,Calls L fr #[.agg #[.int .i64 wd,.slice ga n cap],.int .i64 k] (w.frz.tp τ d) fun e w'=>∃ v,e=.returned v/\Post k w v w')(hPt:∀ k w0 v w τ d,Post k w0 v w->Post k w0 v (w.tp τ d))(hPr:∀ k w0 v v' R wl w₁,Post k w0 v wl->zao R v v'->zbb w0.heap.size R wl w₁->∃ bs,RowP k v' bs/\Hp bs w₁/\∀ p∈bs,zbC w0.heap.size R p.1)(hRs:∀ k x bs,RowP k x bs->∃ xa xn xc,x=.slice xa xn xc)(hsnd:∀(k:Nat) (S:Nat->Prop) (w:World) (x:Value) (bs:List (Nat × Obj)),f<=k->k<fin->RowP k x bs->Hp bs w->(∀ p∈bs,S p.1)->Snd k S (.agg #[.int .i64 k,x]) w){c:Frame}{cs:List Frame}(hend:∀ S:Nat->Prop,zag Tryz.prog main Live Ex Stop Snd ch K l fin S (G (c.finish (.tuple #[])) cs)) :
  ∀(r k:Nat),k+r=fin->f<=k->∀(S:Nat->Prop) (u6 u7 v9 v10 v11 v12 v13 v14 v15 v16 v17 v18 v19 v20 v21 v22:Value),
   zag Tryz.prog main Live Ex Stop Snd ch K l k S (G ((base 90).at ⟨#[.agg #[.int .i64 wd,.slice ga n cap],.agg #[.int .i64 f,.int .i64 m,.int .i64 s,.int .i64 o,.int .i64 i,.int .i64 u],.func (.func fr) #[] #[],.chan (some ch),.pointer (some ⟨b4,0,none⟩),.pointer (some ⟨b5,0,none⟩),u6,u7,.int .i64 k,v9,v10,v11,v12,v13,v14,v15,v16,v17,v18,v19,v20,v21,v22],[]⟩ [.code zeg,.inLoop zeg,.inBlock 0]) (c::cs)):=by
 intro r
 induction r with
 | zero =>
  intro k hk hfk S u6 u7 v9 v10 v11 v12 v13 v14 v15 v16 v17 v18 v19 v20 v21 v22
  have hk_has:∀ w,Calls L 115 #[.agg #[.int .i64 f,.int .i64 m,.int .i64 s,.int .i64 o,.int .i64 i,.int .i64 u],.int .i64 k] w fun e _=>e=.returned (.bool false):=fun w=>by
   have:=hhas k w
   rw[decide_eq_false (by omega)] at this
   exact this
  simp only[zeg,Tryz.f90]
  refine zag.sq ?_
  refine zag.sq ?_
  refine zag.rg ?_
  simp only[List.size_toArray,List.length_cons,List.length_nil,Nat.reduceAdd,Nat.zero_add,List.range,List.range.loop]
  refine zag.val rfl rfl (by decide) (v:=.agg #[.int .i64 f,.int .i64 m,.int .i64 s,.int .i64 o,.int .i64 i,.int .i64 u]) (fun w hp=>?_) (fun hl w hp e he=>?_) ?_
  ·have c0:=hp.cell h5 0 rfl
   have c1:=hp.cell h5 1 rfl
   have c2:=hp.cell h5 2 rfl
   have c3:=hp.cell h5 3 rfl
   have c4:=hp.cell h5 4 rfl
   have c5:=hp.cell h5 5 rfl
   go_simp
  ·have c0:=hp.cell h5 0 rfl
   have c1:=hp.cell h5 1 rfl
   have c2:=hp.cell h5 2 rfl
   have c3:=hp.cell h5 3 rfl
   have c4:=hp.cell h5 4 rfl
   have c5:=hp.cell h5 5 rfl
   simp[go_sem, *] at he
   rcases he with rfl|rfl|rfl|rfl|rfl|rfl
   all_goals exact zau hl h5 _
  walk_nrm
  refine zag.val rfl rfl (by decide) (v:=.int .i64 k) (fun w hp=>by go_simp) (fun _ w hp e he=>by simp[go_sem] at he) ?_
  walk_nrm
  refine zag.enter rfl rfl (by decide) (fun w=>run_call_body rfl Tryz.func115 rfl rfl) (fun w=>events_call_body rfl Tryz.func115 rfl rfl _) ?_
  walk_nrm
  refine zag.callv (Kc:=fun _=>False) W B hLv hlv hX hf1 rfl hx1 (by kernel_rfl) (v0:=.bool false) (fun _ _ h=>zbw h) (fun _ h=>h.elim) (fun _ _ _ h=>h.elim) (zfj _ _ _ _ _ _ _) (fun w _ τ d=>hk_has _) fun S1=>?_
  simp only[Frame.finish_at]
  walk_nrm
  refine zag.re ?_
  refine zag.ctl rfl (fun _=>stepG_cond (t:=false) rfl) ?_
  simp only[Bool.false_eq_true,↓reduceIte]
  refine zag.ctl rfl (fun _=>stepG_exit rfl) ?_
  refine zag.ctl rfl (fun _=>stepG_end) ?_
  refine zag.ctl rfl (fun w=>stepG_leave rfl rfl Tryz.func90 (results_none rfl _ _ w) (events_results_none rfl _ _)) ?_
  obtain rfl:k=fin:=by omega
  exact hend _
 | succ r ih =>
  intro k hk hfk S u6 u7 v9 v10 v11 v12 v13 v14 v15 v16 v17 v18 v19 v20 v21 v22
  have hk_has:∀ w,Calls L 115 #[.agg #[.int .i64 f,.int .i64 m,.int .i64 s,.int .i64 o,.int .i64 i,.int .i64 u],.int .i64 k] w fun e _=>e=.returned (.bool true):=fun w=>by
   have:=hhas k w
   rw[decide_eq_true (by omega)] at this
   exact this
  have hw1:IntKind.i64.wrap ((k:Int)+1)=((k+1:Nat):Int):=by rw[IntKind.wrap_i64];omega
  simp only[zeg,Tryz.f90]
  refine zag.sq ?_
  refine zag.sq ?_
  refine zag.rg ?_
  simp only[List.size_toArray,List.length_cons,List.length_nil,Nat.reduceAdd,Nat.zero_add,List.range,List.range.loop]
  refine zag.val rfl rfl (by decide) (v:=.agg #[.int .i64 f,.int .i64 m,.int .i64 s,.int .i64 o,.int .i64 i,.int .i64 u]) (fun w hp=>?_) (fun hl w hp e he=>?_) ?_
  ·have c0:=hp.cell h5 0 rfl
   have c1:=hp.cell h5 1 rfl
   have c2:=hp.cell h5 2 rfl
   have c3:=hp.cell h5 3 rfl
   have c4:=hp.cell h5 4 rfl
   have c5:=hp.cell h5 5 rfl
   go_simp
  ·have c0:=hp.cell h5 0 rfl
   have c1:=hp.cell h5 1 rfl
   have c2:=hp.cell h5 2 rfl
   have c3:=hp.cell h5 3 rfl
   have c4:=hp.cell h5 4 rfl
   have c5:=hp.cell h5 5 rfl
   simp[go_sem, *] at he
   rcases he with rfl|rfl|rfl|rfl|rfl|rfl
   all_goals exact zau hl h5 _
  walk_nrm
  refine zag.val rfl rfl (by decide) (v:=.int .i64 k) (fun w hp=>by go_simp) (fun _ w hp e he=>by simp[go_sem] at he) ?_
  walk_nrm
  refine zag.enter rfl rfl (by decide) (fun w=>run_call_body rfl Tryz.func115 rfl rfl) (fun w=>events_call_body rfl Tryz.func115 rfl rfl _) ?_
  walk_nrm
  refine zag.callv (Kc:=fun _=>False) W B hLv hlv hX hf1 rfl hx1 (by kernel_rfl) (v0:=.bool true) (fun _ _ h=>zbw h) (fun _ h=>h.elim) (fun _ _ _ h=>h.elim) (zfj _ _ _ _ _ _ _) (fun w _ τ d=>hk_has _) fun S1=>?_
  simp only[Frame.finish_at]
  walk_nrm
  refine zag.re ?_
  refine zag.ctl rfl (fun _=>stepG_cond (t:=true) rfl) ?_
  simp only[↓reduceIte]
  refine zag.ctl rfl (fun _=>stepG_skip) ?_
  refine zag.sq ?_
  refine zag.ctl rfl (fun _=>stepG_block) ?_
  refine zag.rg ?_
  simp only[List.size_toArray,List.length_cons,List.length_nil,Nat.reduceAdd,Nat.zero_add,List.range,List.range.loop]
  refine zag.val rfl rfl (by decide) (v:=.chan (some ch)) (fun w hp=>by go_simp) (fun _ w hp e he=>by simp[go_sem] at he) ?_
  walk_nrm
  refine zag.val rfl rfl (by decide) (v:=.int .i64 k) (fun w hp=>by go_simp) (fun _ w hp e he=>by simp[go_sem] at he) ?_
  walk_nrm
  refine zag.val rfl rfl (by decide) (v:=.func (.func fr) #[] #[]) (fun w hp=>by go_simp) (fun _ w hp e he=>by simp[go_sem] at he) ?_
  walk_nrm
  refine zag.val rfl rfl (by decide) (v:=.agg #[.int .i64 wd,.slice ga n cap]) (fun w hp=>?_) (fun hl w hp e he=>?_) ?_
  ·have c0:=hp.cell h4 0 rfl
   have c1:=hp.cell h4 1 rfl
   go_simp
  ·have c0:=hp.cell h4 0 rfl
   have c1:=hp.cell h4 1 rfl
   simp[go_sem, *] at he
   rcases he with rfl|rfl
   all_goals exact zau hl h4 _
  walk_nrm
  refine zag.val rfl rfl (by decide) (v:=.int .i64 k) (fun w hp=>by go_simp) (fun _ w hp e he=>by simp[go_sem] at he) ?_
  walk_nrm
  refine zag.enter rfl rfl (by decide) (fun w=>ziW rfl rfl hm2 hn2 hb2) (fun w=>zeN rfl rfl hm2 hn2 hb2 _) ?_
  walk_nrm
  refine zag.callb W B hLv hlv hX hf2 hb2 hx2 hr2 (hPt k) hKc hcl (zkL _ hga _) (hrk k hfk (by omega)) (hPr k) fun S2 x bs hrow hnew hlo=>?_
  obtain⟨xa,xn,xc,rfl⟩:=hRs k x bs hrow
  simp only[Frame.finish_at]
  walk_nrm
  refine zag.val rfl rfl (by decide) (v:=.agg #[.int .i64 k,.slice xa xn xc]) (fun w hp=>by go_simp) (fun _ w hp e he=>by simp[go_sem] at he) ?_
  walk_nrm
  refine zag.send (l':=l) rfl rfl rfl (by decide) (v:=.agg #[.int .i64 k,.slice xa xn xc]) (z:=.tuple #[]) (fun w=>by go_simp) (fun w=>by simp[go_sem]) (fun c=>((S c\/S1 c)\/S2 c)/\¬ ∃ p∈bs,p.1=c) (fun _ h=>h.1) (fun w hp=>hsnd k _ w _ bs hfk (by omega) hrow (fun p h=>hp p (List.mem_append_left _ h)) (fun p h=>⟨.inr (hnew p h).1,fun q=>q.2 ⟨p,h,rfl⟩⟩)) ?_ ?_
  ·exact fun _ p h=>⟨List.mem_append_right _ h,(hlo p h).imp id fun q=>⟨.inl q,fun ⟨p',h',e⟩=>(hnew p' h').2.2 (e ▸ q)⟩⟩
  refine zag.re ?_
  refine zag.ctl rfl (fun _=>stepG_inBlock) ?_
  refine zag.rg ?_
  simp only[List.size_toArray,List.length_cons,List.length_nil,Nat.reduceAdd,Nat.zero_add,List.range,List.range.loop]
  refine zag.val rfl rfl (by decide) (v:=.int .i64 k) (fun w hp=>by go_simp) (fun _ w hp e he=>by simp[go_sem] at he) ?_
  walk_nrm
  refine zag.val rfl rfl (by decide) (v:=.int .i64 ((k+1:Nat):Int)) (fun w hp=>by go_simp) (fun _ w hp e he=>by simp[go_sem] at he) ?_
  walk_nrm
  refine zag.val rfl rfl (by decide) (v:=.int .i64 ((k+1:Nat):Int)) (fun w hp=>by go_simp) (fun _ w hp e he=>by simp[go_sem] at he) ?_
  walk_nrm
  refine zag.re ?_
  refine zag.ctl rfl (fun _=>stepG_inLoop) ?_
  exact ih (k+1) (by omega) (by omega) _ _ _ _ _ _ _ _ _ _ _ _ _ _ _ _ _
end
def zcl(Wg bg bs br bc:Nat):Deferred:={ target:=.fn (.func 88) #[.pointer (some ⟨Wg,0,none⟩),.pointer (some ⟨bg,0,none⟩),.pointer (some ⟨bs,0,none⟩),.pointer (some ⟨br,0,none⟩),.pointer (some ⟨bc,0,none⟩)],args:=#[] }
theorem zlw(Wg bg bs br bc:Nat)(w:World):stepG Tryz.prog false (born Tryz.prog (zcl Wg bg bs br bc)) w =
  .go (G ((baseD 88).at ⟨#[.pointer (some ⟨Wg,0,none⟩),.pointer (some ⟨bg,0,none⟩),.pointer (some ⟨bs,0,none⟩),.pointer (some ⟨br,0,none⟩),.pointer (some ⟨bc,0,none⟩),undef,undef,undef,undef,undef],[]⟩ [.code (Tryz.f88.body.getD .skip)]) [bot]) w #[]:=by
 simp[born,zcl,stepG,unwind,callDeferred,invoke,callFunc,Tryz.func88,Tryz.f88,seen,GStep.after,G,Frame.enter,Frame.at,baseD,bot]
theorem zj3(T:Array Value):QuitsD Tryz.prog 2 0 (G { (baseD 88).at ⟨T,[]⟩ [] with mode:=.returning } [bot]):=by
 refine QuitsD.ctl (g':=G bot []) rfl (fun w=>?_) ?_
 ·simp[G,stepG,unwind,doReturn,results,Frame.at,baseD,bot,Tryz.func88,Tryz.f88,seen,GStep.after,goexitEntry]
 refine QuitsD.ctl (g':={ G bot [] with status:=.finished }) rfl (fun w=>?_) ⟨rfl,rfl⟩
 simp[G,stepG,unwind,bot,goexitEntry,Frame.catches]
 rfl
section
variable[Payload]{L:Program}{Snd:Nat->(Nat->Prop)->Value->World->Prop}{Wg ch:Nat}{K S:Nat->Prop}
set_option maxRecDepth 100000 in
theorem zlB[T:zaB L Tryz.prog][zaB L L](W:Whole L)(B:Bodies L Tryz.prog X)(hX:zji L X)(hf1:L.funcs[115]?=some Tryz.f115)(hx1:¬ X 115)(hf2:L.funcs[fr]?=some fn)(hm2:Tryz.prog.funcs[fr]?=some fn)(hb2:fn.body.isSome=true)(hn2:(fn.name == "runtime.NumGoroutine")=false)(hx2:¬ X fr)(hr2:zbM fn=true){n:Nat}{fst:Nat}{m s o i u:Int}{bg bs br bc:Nat}{l:List (Nat × Obj)}{fin:Nat}(hg:(bg,.cells #[.int .i64 wd,.slice ga n cap] 33)∈l)(hs:(bs,.cells #[.int .i64 fst,.int .i64 m,.int .i64 s,.int .i64 o,.int .i64 i,.int .i64 u] 136)∈l)(hr:(br,.cells #[.func (.func fr) #[] #[]] 99)∈l)(hc:(bc,.cells #[.chan (some ch)] 124)∈l)(hKc:∀ c,Kc c->K c)(hcl:∀ w,Hp l w->Closed Kc w)(hga:zao (zcu Kc) (.slice ga n cap) (.slice ga n cap))(hfin:(fin:Int)=fst+m)(hm:0<=m)(hfin2:fin<=1000)(hhas:∀(k:Nat) (w:World),Calls L 115 #[.agg #[.int .i64 fst,.int .i64 m,.int .i64 s,.int .i64 o,.int .i64 i,.int .i64 u],.int .i64 k] w fun e _=>e=.returned (.bool (decide ((fst:Int)<=k/\(k:Int)<fst+m))))(hrk:∀ k:Nat,fst<=k->k<fin->∀ w,Hp l w->∀ τ d,Calls L fr #[.agg #[.int .i64 wd,.slice ga n cap],.int .i64 k] (w.frz.tp τ d) fun e w'=>∃ v,e=.returned v/\Post k w v w')(hPt:∀ k w0 v w τ d,Post k w0 v w->Post k w0 v (w.tp τ d))(hPr:∀ k w0 v v' R wl w₁,Post k w0 v wl->zao R v v'->zbb w0.heap.size R wl w₁->∃ bs,RowP k v' bs/\Hp bs w₁/\∀ p∈bs,zbC w0.heap.size R p.1)(hRs:∀ k x bs,RowP k x bs->∃ xa xn xc,x=.slice xa xn xc)(hsnd:∀(k:Nat) (S:Nat->Prop) (w:World) (x:Value) (bs:List (Nat × Obj)),fst<=k->k<fin->RowP k x bs->Hp bs w->(∀ p∈bs,S p.1)->Snd k S (.agg #[.int .i64 k,x]) w) :
  zag Tryz.prog false (zan 134 Wg ch) (ExE Wg false) (zjk Tryz.prog 134 Wg K fin) Snd ch K l fst S (born Tryz.prog (zcl Wg bg bs br bc)):=by
 have hLa:∀(w:World) (o:Obj),zan 134 Wg ch w->zan 134 Wg ch (w.alloc o):=zan.alloc
 refine zag.ctl rfl (fun w=>zlw Wg bg bs br bc w) ?_
 simp only[Tryz.f88,Option.getD_some]
 refine zag.sq ?_
 refine zag.rg ?_
 simp only[List.size_toArray,List.length_cons,List.length_nil,Nat.zero_add,List.range,List.range.loop]
 refine zag.ctl rfl (fun _=>stepG_defer rfl rfl (by decide) rfl) ?_
 walk_nrm
 refine zag.re ?_
 refine zag.rg ?_
 simp only[List.size_toArray,List.length_cons,List.length_nil,Nat.reduceAdd,Nat.zero_add,List.range,List.range.loop]
 refine zag.val rfl rfl (by decide) (v:=.agg #[.int .i64 wd,.slice ga n cap]) (fun w hp=>?_) (fun hl w hp e he=>?_) ?_
 ·have c0:=hp.cell hg 0 rfl
  have c1:=hp.cell hg 1 rfl
  go_simp
 ·have c0:=hp.cell hg 0 rfl
  have c1:=hp.cell hg 1 rfl
  simp[go_sem, *] at he
  rcases he with rfl|rfl
  all_goals exact zau hl hg _
 walk_nrm
 refine zag.val rfl rfl (by decide) (v:=.agg #[.int .i64 fst,.int .i64 m,.int .i64 s,.int .i64 o,.int .i64 i,.int .i64 u]) (fun w hp=>?_) (fun hl w hp e he=>?_) ?_
 ·have c0:=hp.cell hs 0 rfl
  have c1:=hp.cell hs 1 rfl
  have c2:=hp.cell hs 2 rfl
  have c3:=hp.cell hs 3 rfl
  have c4:=hp.cell hs 4 rfl
  have c5:=hp.cell hs 5 rfl
  go_simp
 ·have c0:=hp.cell hs 0 rfl
  have c1:=hp.cell hs 1 rfl
  have c2:=hp.cell hs 2 rfl
  have c3:=hp.cell hs 3 rfl
  have c4:=hp.cell hs 4 rfl
  have c5:=hp.cell hs 5 rfl
  simp[go_sem, *] at he
  rcases he with rfl|rfl|rfl|rfl|rfl|rfl
  all_goals exact zau hl hs _
 walk_nrm
 refine zag.val rfl rfl (by decide) (v:=.func (.func fr) #[] #[]) (fun w hp=>?_) (fun hl w hp e he=>?_) ?_
 ·have c0:=hp.cell hr 0 rfl
  go_simp
 ·have c0:=hp.cell hr 0 rfl
  simp[go_sem, *] at he
  subst he
  exact zau hl hr _
 walk_nrm
 refine zag.val rfl rfl (by decide) (v:=.chan (some ch)) (fun w hp=>?_) (fun hl w hp e he=>?_) ?_
 ·have c0:=hp.cell hc 0 rfl
  go_simp
 ·have c0:=hp.cell hc 0 rfl
  simp[go_sem, *] at he
  subst he
  exact zau hl hc _
 walk_nrm
 refine zag.enter rfl rfl (by decide) (fun w=>run_call_body rfl Tryz.func90 rfl rfl) (fun w=>events_call_body rfl Tryz.func90 rfl rfl _) ?_
 rw[enter_at _ Tryz.func90 rfl]
 walk_nrmf Tryz.f90
 refine zag.sq ?_
 refine zag.rg ?_
 simp only[List.size_toArray,List.length_cons,List.length_nil,Nat.reduceAdd,Nat.zero_add,List.range,List.range.loop]
 refine zag.new hLa rfl rfl (by decide) (V:=fun c=>.pointer (some ⟨c,0,none⟩)) (obj:=.cells #[.int .i64 wd,.slice ga n cap] 33) (fun w hp=>by go_simp) (fun _ w hp e he=>by simp[go_sem] at he) fun b4 hK_b4 hS_b4=>?_
 walk_nrm
 refine zag.new hLa rfl rfl (by decide) (V:=fun c=>.pointer (some ⟨c,0,none⟩)) (obj:=.cells #[.int .i64 fst,.int .i64 m,.int .i64 s,.int .i64 o,.int .i64 i,.int .i64 u] 136) (fun w hp=>by go_simp) (fun _ w hp e he=>by simp[go_sem] at he) fun b5 hK_b5 hS_b5=>?_
 walk_nrm
 refine zag.re ?_
 refine zag.sq ?_
 refine zag.rg ?_
 simp only[List.size_toArray,List.length_cons,List.length_nil,Nat.reduceAdd,Nat.zero_add,List.range,List.range.loop]
 refine zag.val rfl rfl (by decide) (v:=.pointer (some ⟨b5,0,none⟩)) (fun w hp=>by go_simp) (fun _ w hp e he=>by simp[go_sem] at he) ?_
 walk_nrm
 refine zag.val rfl rfl (by decide) (v:=.int .i64 fst) (fun w hp=>?_) (fun hl w hp e he=>?_) ?_
 ·have c0:=hp.cell mcs 0 rfl
  go_simp
 ·have c0:=hp.cell mcs 0 rfl
  simp[go_sem, *] at he
  subst he
  exact zau hl mcs _
 walk_nrm
 refine zag.val rfl rfl (by decide) (v:=.int .i64 fst) (fun w hp=>by go_simp) (fun _ w hp e he=>by simp[go_sem] at he) ?_
 walk_nrm
 refine zag.re ?_
 refine zag.ctl rfl (fun _=>stepG_block) ?_
 refine zag.ctl rfl (fun _=>stepG_loop) ?_
 refine zmh (Lv:=LvW Wg ch) (f:=(fst:Int)) W B zan.keep zan.low hX hf1 hx1 hf2 hm2 hb2 hn2 hx2 hr2 (by simp) (by simp) hKc (fun w hp=>hcl w fun p h=>hp p (by simp[h])) hga hfin hfin2 hhas (fun k h1 h2 w hp=>hrk k (by omega) h2 w fun p h=>hp p (by simp[h])) hPt hPr hRs (fun k S w x bs h1 h2=>hsnd k S w x bs (by omega) h2) ?_ (fin - fst) fst (by omega) (by omega) _ _ _ _ _ _ _ _ _ _ _ _ _ _ _ _ _
 intro S2
 simp only[Frame.finish_at]
 walk_nrm
 refine zag.re ?_
 refine zag.ctl rfl (fun _=>stepG_end) ?_
 refine zag.ctl rfl (fun _=>stepG_unwind_enter rfl Tryz.func89 rfl rfl) ?_
 walk_nrmf Tryz.f89
 intro hl w hp hL hlt
 exact zkF zjg (C:=bs) (v:=.int .i64 fst) (hl _ (mcm (mcm hs))) rfl (zj3 _) w hL (hp.cell (mcm (mcm hs)) 0 rfl)
end
noncomputable abbrev zpX:Code:=match Tryz.f74.body with|some (.seq _ (.seq _ (.seq _ (.seq _ (.seq _ (.seq (.seq _ (.block _ (.loop c))) _))))))=>c|_=>.skip
noncomputable abbrev zeE:Code:=match Tryz.f74.body with|some (.seq _ (.seq _ (.seq _ (.seq _ (.seq _ (.seq (.seq _ (.block _ (.loop _))) c))))))=>c|_=>.skip
noncomputable abbrev zgA(gV rV sV:Value)(many i:Int)(bg br bc Wg ch:Nat)(c:Frame)(cs:List Frame)(v9 v22 v23 v24 v25 v26:Value):Goroutine:=G ((base 74).at ⟨#[gV,rV,.pointer (some ⟨bg,0,none⟩),.pointer (some ⟨br,0,none⟩),.slice none 0 0,.int .i64 many,.pointer (some ⟨bc,0,none⟩),.pointer (some ⟨Wg,0,none⟩),undef,v9,undef,undef,gV,.bool true,.bool false,gV,.int .i64 many,.int .i64 many,.chan (some ch),gV,sV,.int .i64 i,v22,v23,v24,v25,v26,undef,undef,undef,undef,undef,undef,undef,undef,undef,undef,undef,undef,undef,undef,undef],[]⟩ [.code zpX,.inLoop zpX,.inBlock 0,.code zeE]) (c::cs)
section
variable[Payload]{Snd:Nat->(Nat->Prop)->Value->World->Prop}{Wg ch:Nat}{fst fin:Nat->Nat}{B:Nat->Prop}{Q:World->Prop}{l:List (Nat × Obj)}{gV rV:Value}{many:Int}{bg br bc:Nat}{c:Frame}{cs:List Frame}{sV:Value}{i i' y0 y1 y2 y3 y4 y5:Int}{St1:(Nat->Prop)->St}{jn:Nat}
set_option maxRecDepth 100000 in
theorem zfe(hQ:zhd B Q)(hi:decide (i<4)=true)(hi':IntKind.i64.wrap (i+1)=i')(hix:∀ w,Sem.run Tryz.prog (Instr.index 137 sV (.int .i64 i)) w=.ok (.agg #[.int .i64 y0,.int .i64 y1,.int .i64 y2,.int .i64 y3,.int .i64 y4,.int .i64 y5]) w)(hie:∀ w es,Sem.events Tryz.prog (Instr.index 137 sV (.int .i64 i)) w es=es)(hchild:∀(K:Nat->Prop) (bs:Nat) (l':List (Nat × Obj)),(bs,.cells #[.int .i64 y0,.int .i64 y1,.int .i64 y2,.int .i64 y3,.int .i64 y4,.int .i64 y5] 136)∈l'->(∀ p∈l,p∈l')->(∀ p∈l',K p.1)->∀ w,Hp l' w->zan 134 Wg ch w->(∀ c,K c->c<w.heap.size)->∃ rc,Sit Tryz.prog 134 Wg ch Snd K (fun _=>False) (fst jn) (fin jn) ⟨7,0,0⟩ rc (born Tryz.prog (zcl Wg bg bs br bc)) w)(hnext:∀(K':Nat->Prop) (v9 v22 v23 v24 v25 v26:Value),(∀ c,B c->K' c)->(∀ c,K' c->¬ LvW Wg ch c)->zaE Tryz.prog true (zan 134 Wg ch) (ExE Wg true) (fun _ S g w=>St1 K' S g w) (fun _ _ _ _=>False) ch K' Q l 0 (fun _=>False) (zgA gV rV sV many i' bg br bc Wg ch c cs v9 v22 v23 v24 v25 v26)){K S:Nat->Prop}(hBK:∀ c,B c->K c)(hKL:∀ c,K c\/S c->¬ LvW Wg ch c)(v9 v22 v23 v24 v25 v26:Value):zaE Tryz.prog true (zan 134 Wg ch) (ExE Wg true) (fun _ S g w=>zhf Tryz.prog 134 Wg ch Snd fst fin K jn (fun K S g w=>WX Tryz.prog 134 Wg ch K (St1 K) S g w) S g w) (fun _ _ _ _=>False) ch K Q l 0 S
  (zgA gV rV sV many i bg br bc Wg ch c cs v9 v22 v23 v24 v25 v26):=by
 simp only[zgA,zpX,Tryz.f74]
 refine zaE.sq ?_
 refine zaE.rg ?_
 simp only[List.size_toArray,List.length_cons,List.length_nil,Nat.zero_add,List.range,List.range.loop]
 refine zaE.val rfl rfl (by decide) (v:=.bool true) (fun w hp=>by (have h:=hi;go_simp)) (fun _ w hp e he=>by simp[go_sem] at he) ?_
 walk_nrm
 refine zaE.re ?_
 refine zaE.sq ?_
 refine zaE.ctl rfl (fun _=>stepG_cond (t:=true) rfl) ?_
 simp only[↓reduceIte]
 refine zaE.ctl rfl (fun _=>stepG_skip) ?_
 refine zaE.sq ?_
 refine zaE.ctl rfl (fun _=>stepG_block) ?_
 refine zaE.sq ?_
 refine zaE.rg ?_
 simp only[List.size_toArray,List.length_cons,List.length_nil,Nat.reduceAdd,Nat.zero_add,List.range,List.range.loop]
 refine zaE.val rfl rfl (by decide) (v:=.agg #[.int .i64 y0,.int .i64 y1,.int .i64 y2,.int .i64 y3,.int .i64 y4,.int .i64 y5]) (fun w hp=>by (have h:=hix w;go_simp)) (fun _ w hp e he=>by simp[go_sem,hie] at he) ?_
 walk_nrm
 refine zaE.new hQ hBK zan.low zan.alloc rfl rfl (by decide) (V:=fun c=>.pointer (some ⟨c,0,none⟩)) (obj:=.cells #[.int .i64 0,.int .i64 0,.int .i64 0,.int .i64 0,.int .i64 0,.int .i64 0] 136) (fun w hp=>by go_simp) (fun _ w hp e he=>by simp[go_sem] at he) fun b9 hK_b9 hS_b9 hv_b9 hl_b9=>?_
 walk_nrm
 refine zaE.put (l':=(b9,.cells #[.int .i64 y0,.int .i64 y1,.int .i64 y2,.int .i64 y3,.int .i64 y4,.int .i64 y5] 136)::l) (c:=b9) (obj:=.cells #[.int .i64 y0,.int .i64 y1,.int .i64 y2,.int .i64 y3,.int .i64 y4,.int .i64 y5] 136) hQ hBK rfl rfl (by decide) (Or.inr rfl) (fun h=>hK_b9 (hBK b9 h)) (zan.aside hv_b9) (fun w hp=>⟨w.setRow b9 #[.int .i64 y0,.int .i64 y1,.int .i64 y2,.int .i64 y3,.int .i64 y4,.int .i64 y5],zeF (ty:=136) rfl rfl rfl (hp.at mcs) zd3 rfl (by simp[Value.oneCell']),(zas (hp.at mcs)).1,(zas (hp.at mcs)).2⟩) (fun _ w hp e he=>?_) (fun p hp=>?_) ?_
 ·obtain⟨q,rfl⟩:=zgL (cells:=#[.int .i64 y0,.int .i64 y1,.int .i64 y2,.int .i64 y3,.int .i64 y4,.int .i64 y5]) (ty:=136) rfl rfl rfl (hp.at mcs) zd3 rfl (by simp[Value.oneCell']) e he
  exact Or.inl ⟨_,_,rfl,Or.inl (Or.inr rfl)⟩
 ·rcases List.mem_cons.1 hp with rfl|hp
  ·exact Or.inl rfl
  ·exact Or.inr ⟨mcm hp,hl_b9 p hp⟩
 walk_nrm
 refine zaE.re ?_
 refine zaE.sq ?_
 refine zaE.rg ?_
 simp only[List.size_toArray,List.length_cons,List.length_nil,Nat.zero_add,List.range,List.range.loop]
 refine zaE.enter rfl rfl (by decide) (fun w=>run_call_body rfl Tryz.func87 rfl rfl) (fun w=>events_call_body rfl Tryz.func87 rfl rfl _) ?_
 rw[enter_at _ Tryz.func87 rfl]
 walk_nrmf Tryz.f87
 intro hl w hp hL hq hlt
 have hKL9:∀ d,K d\/S d\/d=b9->¬ LvW Wg ch d:=fun d hd=>by rcases hd with h|h|rfl;exact hKL d (.inl h);exact hKL d (.inr h);exact hv_b9
 refine zh9 (Fp:=zjn Q _ (fun d=>K d\/S d\/d=b9)) (S:=fun d=>S d\/d=b9) zjg (zdh hQ) (fun h=>?_) (fun d hd=>?_) ?_ w ⟨hq,hp,hlt⟩ hL
 ·rcases h with h|⟨p,hp,h⟩
  ·exact hKL _ (.inl (hBK _ h)) (.inl rfl)
  ·exact hKL9 _ (hl p hp) (.inl h)
 ·rcases hd with h|⟨p,hp,rfl⟩
  ·exact .inl (hBK _ h)
  ·exact hl p hp
 rintro w ⟨hq,hp,hlt⟩ hL
 refine(?_:zaE Tryz.prog true (zan 134 Wg ch) (ExE Wg true) (fun _ S g w=>MGo Tryz.prog 134 Wg ch Snd fst fin K jn (fun K S g w=>WX Tryz.prog 134 Wg ch K (St1 K) S g w) S g w) (fun _ _ _ _=>False) ch K Q ((b9,.cells #[.int .i64 y0,.int .i64 y1,.int .i64 y2,.int .i64 y3,.int .i64 y4,.int .i64 y5] 136)::l) 0 (fun d=>S d\/d=b9) _) hl w hp hL hq hlt
 walk_nrm
 refine zaE.re ?_
 refine zaE.rg ?_
 simp only[List.size_toArray,List.length_cons,List.length_nil,Nat.reduceAdd,Nat.zero_add,List.range,List.range.loop]
 refine zaE.val rfl rfl (by decide) (v:=.func (.func 88) #[] #[.pointer (some ⟨Wg,0,none⟩),.pointer (some ⟨bg,0,none⟩),.pointer (some ⟨b9,0,none⟩),.pointer (some ⟨br,0,none⟩),.pointer (some ⟨bc,0,none⟩)]) (fun w hp=>by go_simp) (fun _ w hp e he=>by simp[go_sem] at he) ?_
 walk_nrm
 refine zaE.stop hQ hBK fun hl w hp hL hq hlt=>?_
 obtain⟨rc,hsit⟩:=hchild (fun d=>K d\/S d\/d=b9) b9 ((b9,.cells #[.int .i64 y0,.int .i64 y1,.int .i64 y2,.int .i64 y3,.int .i64 y4,.int .i64 y5] 136)::l) mcs (fun p h=>mcm h) hl w hp hL hlt
 refine⟨rfl,_,born Tryz.prog (zcl Wg bg b9 br bc),fun d=>K d\/S d\/d=b9,rc,zny rfl rfl (by decide) rfl rfl,fun _ h=>h,hsit,?_⟩
 show WX Tryz.prog 134 Wg ch (fun d=>K d\/S d\/d=b9) (St1 (fun d=>K d\/S d\/d=b9)) (fun _=>False) _ w
 refine(?_:zaE Tryz.prog true (zan 134 Wg ch) (ExE Wg true) (fun _ S1 g w=>St1 (fun d=>K d\/(S d\/d=b9)) S1 g w) (fun _ _ _ _=>False) ch (fun d=>K d\/(S d\/d=b9)) Q l 0 (fun _=>False) _) (fun p h=>.inl (hl p (mcm h))) w (fun p h=>hp p (mcm h)) hL hq (fun d hd=>hlt d (by simpa using hd))
 walk_nrm
 refine zaE.re ?_
 refine zaE.ctl rfl (fun _=>stepG_inBlock) ?_
 refine zaE.rg ?_
 simp only[List.size_toArray,List.length_cons,List.length_nil,Nat.reduceAdd,Nat.zero_add,List.range,List.range.loop]
 refine zaE.val rfl rfl (by decide) (v:=.int .i64 i') (fun w hp=>by (have h:=hi';go_simp)) (fun _ w hp e he=>by simp[go_sem] at he) ?_
 walk_nrm
 refine zaE.val rfl rfl (by decide) (v:=.int .i64 i') (fun w hp=>by go_simp) (fun _ w hp e he=>by simp[go_sem] at he) ?_
 walk_nrm
 refine zaE.re ?_
 refine zaE.ctl rfl (fun _=>stepG_inLoop) ?_
 exact hnext _ _ _ _ _ _ _ (fun d hd=>.inl (hBK d hd)) hKL9
