/- Of the proof: Q7, Q8 -/
import Derived.Test.YtdhopelplokehaaGreatDBg
set_option maxHeartbeats 4000000
namespace Go.Proofs.YtdhopelplokehaaGreat
namespace R2
open Go Go.Conc Go.ConcN Go.RowKit Go.Conc.Lib Go.ConcR.Gen Go.ConcN.Gen
open Go.ConcR (KK wgBlock WgAt stA smA rd wr mk Payload Aside2 DC0)
section
variable {L:Program} {Goal:Machine->Trace->Prop} {Shun:Nat->Prop} {c:Frame} {cs:List Frame}
set_option maxRecDepth 100000 in
theorem rows_noneR (hG:∀ n m t m' t',runNT Tryz.prog n m t=(.next m',t')->Goal m' t'->Goal m t) [T:Twin3 L Tryz.prog] [Twin3 L L] (W:Whole L) {X:FuncId->Prop} (B:Bodies L Tryz.prog X)
  (hX:∀ f,X f->∃ t,((L.funcs[f]?).bind (·.body)).getD (.refuse "unsupported: a function without a Go body is entered")=.refuse t)
  (hf3:L.funcs[44]?=some Tryz.f44) (hx3:¬ X 44) {fr:FuncId} {wd:Int} {ga:Option Addr} {n cap:Nat} {l0:List (Nat × Obj)} {Kc:Nat->Prop}
  (hl0:∀ p ∈ l0,Kc p.1) (hcl:∀ w,Hp l0 w->Closed Kc w) (hga:VRel (idOn Kc) (.slice ga n cap) (.slice ga n cap))
  (hok:∀ w,Hp l0 w->∀ τ d,Calls L 44 #[.agg #[.int .i64 wd,.slice ga n cap]] (w.frz.tp τ d) fun e _=>e=.returned (.bool false)) (w:World) (hp0:Hp l0 w) (hKc:∀ c,Kc c->c < w.heap.size/\¬ Shun c)
  (hfin:∀ u:World,KeepB (fun e=>e < w.heap.size/\¬ Shun e) w u->Leads Tryz.prog Goal Shun (fun _=>False) (G (c.finish (.slice none 0 0)) cs) u) :
  Leads Tryz.prog Goal Shun (fun _=>False) (G (Frame.enter Tryz.prog 48 #[.agg #[.int .i64 wd,.slice ga n cap],.func (.func fr) #[] #[]] .normal) (c :: cs)) w:=by
 have hLa:∀ (w:World) (o:Obj),(fun _:World=>True) w->(fun _:World=>True) (w.alloc o):=fun _ _ h=>h
 refine Leads.way hG (ch:=0) (K:=Kc) (S:=fun _=>False) (l:=l0) (lx:=[]) hp0 (fun p h=>.inl (hl0 p h)) (fun _ h=>by cases h) (fun _ h=>by cases h) (fun _ h=>h.elim) (fun c hc=>⟨(hKc c (hc.elim id fun x=>x.elim)).1,(hKc c (hc.elim id fun x=>x.elim)).2,fun h=>h⟩) ?_
 rw [enter_at _ Tryz.func48 rfl]
 walk_nrmf Tryz.f48
 refine WayL.ctl rfl (fun _=>stepG_seq) ?_
 refine WayL.ctl rfl (fun _=>stepG_region) ?_
 simp only [List.size_toArray,List.length_cons,List.length_nil,Nat.reduceAdd,Nat.zero_add,List.range,List.range.loop]
 refine WayL.new hLa rfl rfl (by decide) (V:=fun c=>.pointer (some ⟨c,0,none⟩)) (obj:=.cells #[.int .i64 wd,.slice ga n cap] 25) (fun w hp=>by go_simp) (fun _ w hp e he=>by simp [go_sem] at he) fun bg hK_bg hS_bg=>?_
 walk_nrm
 refine WayL.new hLa rfl rfl (by decide) (V:=fun c=>.pointer (some ⟨c,0,none⟩)) (obj:=.cells #[.func (.func fr) #[] #[]] 70) (fun w hp=>by go_simp) (fun _ w hp e he=>by simp [go_sem] at he) fun br hK_br hS_br=>?_
 walk_nrm
 refine WayL.val rfl rfl (by decide) (v:=.slice none 0 0) (fun w hp=>by go_simp) (fun _ w hp e he=>by simp [go_sem] at he) ?_
 walk_nrm
 refine WayL.ctl rfl (fun _=>stepG_region_end) ?_
 refine WayL.ctl rfl (fun _=>stepG_seq) ?_
 refine WayL.ctl rfl (fun _=>stepG_seq) ?_
 refine WayL.ctl rfl (fun _=>stepG_region) ?_
 simp only [List.size_toArray,List.length_cons,List.length_nil,Nat.reduceAdd,Nat.zero_add,List.range,List.range.loop]
 refine WayL.val rfl rfl (by decide) (v:=.agg #[.int .i64 wd,.slice ga n cap]) (fun w hp=>?_) (fun hl w hp e he=>?_) ?_
 ·have c0:=hp.cell (List.mem_cons_of_mem _ (List.mem_cons_self ..)) 0 rfl
  have c1:=hp.cell (List.mem_cons_of_mem _ (List.mem_cons_self ..)) 1 rfl
  go_simp
 ·have c0:=hp.cell (List.mem_cons_of_mem _ (List.mem_cons_self ..)) 0 rfl
  have c1:=hp.cell (List.mem_cons_of_mem _ (List.mem_cons_self ..)) 1 rfl
  simp [go_sem, *] at he
  rcases he with rfl | rfl
  all_goals exact evs_read hl (List.mem_cons_of_mem _ (List.mem_cons_self ..)) _
 walk_nrm
 have hcl1:∀ w,Hp ((br,.cells #[.func (.func fr) #[] #[]] 70) :: (bg,.cells #[.int .i64 wd,.slice ga n cap] 25) :: l0) w->Closed Kc w:=fun w hp=>hcl w fun p h=>hp p (List.mem_cons_of_mem _ (List.mem_cons_of_mem _ h))
 refine WayL.enter rfl rfl (by decide) (fun w=>run_call_body rfl Tryz.func44 rfl rfl) (fun w=>events_call_body rfl Tryz.func44 rfl rfl _) ?_
 walk_nrm
 refine WayL.callv (Kc:=Kc) (Lv:=fun _=>False) W B (fun _ _ _ _=>trivial) (fun _ _ _ h=>h.elim) hX hf3 rfl hx3 (by kernel_rfl) (v0:=.bool false) (fun _ _ h=>vrel_bool h) (fun _ h=>h) hcl1 (grid_rel1 _ hga) (fun w hp=>hok w fun p h=>hp p (List.mem_cons_of_mem _ (List.mem_cons_of_mem _ h))) fun S1=>?_
 simp only [Frame.finish_at]
 walk_nrm
 refine WayL.val rfl rfl (by decide) (v:=.bool true) (fun w hp=>by go_simp) (fun _ w hp e he=>by simp [go_sem] at he) ?_
 walk_nrm
 refine WayL.ctl rfl (fun _=>stepG_region_end) ?_
 refine WayL.ctl rfl (fun _=>stepG_cond (t:=true) rfl) ?_
 simp only [↓reduceIte]
 refine WayL.ctl rfl (fun _=>stepG_seq) ?_
 refine WayL.ctl rfl (fun _=>stepG_region) ?_
 simp only [List.size_toArray,List.length_cons,List.length_nil,Nat.zero_add,List.range,List.range.loop]
 refine WayL.val rfl rfl (by decide) (v:=.slice none 0 0) (fun w hp=>by go_simp) (fun _ w hp e he=>by simp [go_sem] at he) ?_
 walk_nrm
 refine WayL.ctl rfl (fun _=>stepG_region_end) ?_
 refine WayL.ctl rfl (fun _=>stepG_ret') ?_
 refine WayL.ctl (g':=G (c.finish (.slice none 0 0)) cs) rfl (fun w=>by rw [stepG_leave rfl rfl Tryz.func48 (results_tmp Tryz.results48 _ _ w) (events_results_tmp Tryz.results48 _ _)]; rfl) ?_
 refine WayL.stop fun hl3 w3 hp3 _ hlt3=>?_
 intro hsz3 hnew3 hx3 hKS3 _ hkept3 ht3 ho3 hu3
 exact hfin w3 ⟨fun e he=>hkept3 e he.1 (fun h=>h),ht3,ho3,hu3,hsz3⟩
end
end R2
namespace R2
open Go Go.Conc Go.ConcN Go.RowKit Go.Conc.Lib Go.ConcR.Gen Go.ConcN.Gen
open Go.ConcR (KK wgBlock WgAt stA smA rd wr mk Payload Aside2 DC0)
section
variable {Goal:Machine->Trace->Prop} {Shun:Nat->Prop} {c:Frame} {cs:List Frame}
set_option maxRecDepth 100000 in
theorem pic_leadsR (hG:∀ n m t m' t',runNT Tryz.prog n m t=(.next m',t')->Goal m' t'->Goal m t) {wd:Int} {ga:Option Addr} {n cap:Nat} {l0:List (Nat × Obj)} {Kc:Nat->Prop} {w:World} {Fin:World->Value->World->(Nat->Prop)->Prop}
  (hl0:∀ p ∈ l0,Kc p.1) (hp0:Hp l0 w) (hKc:∀ c,Kc c->c < w.heap.size/\¬ Shun c)
  (hrows:∀ (c0:Frame) (cs0:List Frame) (w0:World),Hp l0 w0->(∀ e,Kc e->e < w0.heap.size/\¬ Shun e)->w.heap.size<=w0.heap.size->(∀ (v:Value) (u:World) (Sh:Nat->Prop),KeepB (fun e=>e < w0.heap.size/\¬ Shun e) w0 u->Fin w0 v u Sh->Leads Tryz.prog Goal Sh (fun _=>False) (G (c0.finish v) cs0) u) ->
   Leads Tryz.prog Goal Shun (fun _=>False) (G (Frame.enter Tryz.prog 48 #[.agg #[.int .i64 wd,.slice ga n cap],.func (.func 49) #[] #[]] .normal) (c0 :: cs0)) w0)
  {Out:Value->World->(Nat->Prop)->Prop} (hFin:∀ w0 v u u2 Sh,Fin w0 v u Sh->w.heap.size<=w0.heap.size->(∀ e,e < u.heap.size->u2.heap[e]?=u.heap[e]?)->u.heap.size<=u2.heap.size->Out v u2 Sh)
  (hfin:∀ (v:Value) (u:World) (Sh:Nat->Prop),KeepB (fun e=>e < w.heap.size/\¬ Shun e) w u->Out v u Sh->Leads Tryz.prog Goal Sh (fun _=>False) (G (c.finish v) cs) u) :
  Leads Tryz.prog Goal Shun (fun _=>False) (G (Frame.enter Tryz.prog 22 #[.agg #[.int .i64 wd,.slice ga n cap]] .normal) (c :: cs)) w:=by
 have hLa:∀ (w:World) (o:Obj),(fun _:World=>True) w->(fun _:World=>True) (w.alloc o):=fun _ _ h=>h
 refine Leads.way hG (ch:=0) (K:=Kc) (S:=fun _=>False) (l:=l0) (lx:=[]) hp0 (fun p h=>.inl (hl0 p h)) (fun _ h=>by cases h) (fun _ h=>by cases h) (fun _ h=>h.elim) (fun c hc=>⟨(hKc c (hc.elim id fun x=>x.elim)).1,(hKc c (hc.elim id fun x=>x.elim)).2,fun h=>h⟩) ?_
 rw [enter_at _ Tryz.func22 rfl]
 walk_nrmf Tryz.f22
 refine WayL.ctl rfl (fun _=>stepG_seq) ?_
 refine WayL.ctl rfl (fun _=>stepG_region) ?_
 simp only [List.size_toArray,List.length_cons,List.length_nil,Nat.reduceAdd,Nat.zero_add,List.range,List.range.loop]
 refine WayL.new hLa rfl rfl (by decide) (V:=fun c=>.pointer (some ⟨c,0,none⟩)) (obj:=.cells #[.int .i64 wd,.slice ga n cap] 25) (fun w hp=>by go_simp) (fun _ w hp e he=>by simp [go_sem] at he) fun bp hK_bp hS_bp=>?_
 walk_nrm
 refine WayL.val rfl rfl (by decide) (v:=.slice none 0 0) (fun w hp=>by go_simp) (fun _ w hp e he=>by simp [go_sem] at he) ?_
 walk_nrm
 refine WayL.ctl rfl (fun _=>stepG_region_end) ?_
 refine WayL.ctl rfl (fun _=>stepG_seq) ?_
 refine WayL.ctl rfl (fun _=>stepG_region) ?_
 simp only [List.size_toArray,List.length_cons,List.length_nil,Nat.reduceAdd,Nat.zero_add,List.range,List.range.loop]
 refine WayL.val rfl rfl (by decide) (v:=.agg #[.int .i64 wd,.slice ga n cap]) (fun w hp=>?_) (fun hl w hp e he=>?_) ?_
 ·have c0:=hp.cell (List.mem_cons_self ..) 0 rfl
  have c1:=hp.cell (List.mem_cons_self ..) 1 rfl
  go_simp
 ·have c0:=hp.cell (List.mem_cons_self ..) 0 rfl
  have c1:=hp.cell (List.mem_cons_self ..) 1 rfl
  simp [go_sem, *] at he
  rcases he with rfl | rfl
  all_goals exact evs_read hl (List.mem_cons_self ..) _
 walk_nrm
 refine WayL.enter rfl rfl (by decide) (fun w=>run_call_body rfl Tryz.func48 rfl rfl) (fun w=>events_call_body rfl Tryz.func48 rfl rfl _) ?_
 walk_nrm
 refine WayL.stop fun hl1 w1 hp1 _ hlt1=>?_
 intro hsz1 hnew1 hx1 hKS1 _ hkept1 ht1 ho1 hu1
 refine hrows _ _ w1 (fun p h=>hp1 p (List.mem_cons_of_mem _ h)) (fun e he=>⟨(hKS1 e (.inl he)).1,(hKS1 e (.inl he)).2.1⟩) hsz1 fun v u Sh hk hF=>?_
 simp only [Frame.finish_at]
 walk_nrm
 refine Leads.way hG (ch:=0) (K:=fun _=>False) (S:=fun _=>False) (l:=[]) (lx:=[]) (fun _ h=>by cases h) (fun _ h=>by cases h) (fun _ h=>by cases h) (fun _ h=>by cases h) (fun _ h=>h.elim) (fun c hc=>(hc.elim id id).elim) ?_
 refine WayL.val rfl rfl (by decide) (v:=v) (fun w hp=>by go_simp) (fun _ w hp e he=>by simp [go_sem] at he) ?_
 walk_nrm
 refine WayL.ctl rfl (fun _=>stepG_region_end) ?_
 refine WayL.ctl rfl (fun _=>stepG_ret') ?_
 refine WayL.ctl (g':=G (c.finish v) cs) rfl (fun w=>by rw [stepG_leave rfl rfl Tryz.func22 (results_tmp Tryz.results22 _ _ w) (events_results_tmp Tryz.results22 _ _)]; rfl) ?_
 refine WayL.stop fun hl3 w3 hp3 _ hlt3=>?_
 intro hsz3 hnew3 hx3 hKS3 _ hkept3 ht3 ho3 hu3
 obtain ⟨a1,a2,a3,a4,a5⟩:=hk
 refine hfin v w3 Sh ⟨fun e he=>?_,ht3.trans (a2.trans ht1),ho3.trans (a3.trans ho1),hu3.trans (a4.trans hu1),by omega⟩ (hFin w1 v u w3 Sh hF hsz1 (fun e he=>hkept3 e he fun h=>h) hsz3)
 rw [hkept3 e (by have:=he.1; omega) (fun h=>h),a1 e ⟨by have:=he.1; omega,he.2⟩]
 exact hkept1 e he.1 (fun h=>h)
end
end R2
end Go.Proofs.YtdhopelplokehaaGreat
