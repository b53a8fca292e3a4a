/- Part. -/
import Derived.Test.YtefakaeblcafmaaGreatNAu
set_option maxHeartbeats 40000000
set_option maxRecDepth 100000
set_option linter.unusedVariables false
namespace Go.Proofs.YtefakaeblcafmaaGreat
variable{objC:Array Value}{Ex:Event->Prop}{FinP:Frame->World->Prop}{X:FuncId->Prop}{wd:Int}{gl gs:List (Int × Int)}{bs l l0:List (Nat × Obj)}{rest:List Nat}{M bg cap n:Nat}{Stop:Nat->(Nat->Prop)->Goroutine->World->Prop}{Snd:Nat->(Nat->Prop)->Value->World->Prop}{K Kc S S1 S2:Nat->Prop}{RowP:Nat->Value->List (Nat × Obj)->Prop}{objL:Obj}{ga:Option Addr}{w w1:World}{Live:World->Prop}
open Tryz
section
open Go Go.Conc Go.ConcN Go.RowKit Go.Conc.Lib Go.ConcR.Gen Go.ConcN.Gen
open Go.ConcR (KK wgBlock WgAt stA smA rd wr mk Payload Aside2 DC0)
section
variable{Goal:Machine->Trace->Prop}{c:Frame}{cs:List Frame}
def zqN(Goal:Machine->Trace->Prop)(c:Frame)(cs:List Frame)(wd:Int)(n M:Nat)(RowP:Nat->Value->List (Nat × Obj)->Prop)(objL:Obj)(objC:Array Value)(Shun:Nat->Prop)(w:World):Prop :=
 ∀(w1:World) (bs bc bl bf:Nat) (u2:World) (xs:Nat->Value) (bsf:Nat->List (Nat × Obj)) (Sh:Nat->Prop),w.heap.size<=w1.heap.size->(∀ e,e<w.heap.size->w1.heap[e]?=w.heap[e]?)->w1.tape=w.tape->w1.os=w.os->w1.output=w.output->w.heap.size<=bs->w.heap.size<=bc->w1.heap[bc]?=some (.cells objC 60)->¬ Shun bc->bc≠bs ->
   zcb (fun e=>e<w1.heap.size/\¬ Shun e/\e≠bs) w1 u2->w1.heap.size<=bl->u2.heap[bl]?=some objL->¬ Sh bl->(∀ k,k<M->∀ p∈bsf k,p.1≠bl)->bl≠bf->zdQ RowP M w1.heap.size u2 bf xs bsf Sh->(∀ e,Sh e->Shun e\/w1.heap.size<=e)->zaq Tryz.prog Goal Sh (fun _=>False) (G (c.finish (.tuple #[.agg #[.int .i64 wd,.slice (some ⟨bc,0,none⟩) n n,.slice (some ⟨bl,0,none⟩) M M,.slice (some ⟨bf,0,none⟩) M M],.bool true])) cs) u2
theorem ldG{main:Bool}{ch:Nat}{σ:Nat}{b:Frame}{a:Act}{k:List Item}{cs:List Frame}{ops:Array Oper}{i:Nat}{o:Oper}(ho:ops[i]?=some o)(hw:Region.wanted o (yielded ops a.tmps)=true)(hk:b.kind≠.early)(e1:o.op=.load 25 (.tmp 1))(e2:a.tmps[1]?.getD undef=.pointer (some ⟨bg,0,none⟩))(hm:(bg,.cells #[.int .i64 wd,.slice ga n cap] 25)∈l)(hn:zag Tryz.prog main Live Ex Stop Snd ch K l σ S (G (b.at (a.put o.dst (.agg #[.int .i64 wd,.slice ga n cap])) (.inRegion ops rest::k)) cs)):zag Tryz.prog main Live Ex Stop Snd ch K l σ S (G (b.at a (.inRegion ops (i::rest)::k)) cs):=by
 refine zag.val ho hw hk (v:=.agg #[.int .i64 wd,.slice ga n cap]) (fun w hp=>?_) (fun hl w hp e he=>?_) hn
 ·have c0:w.cell? ⟨bg,0,none⟩=some (.int .i64 wd):=hp.cell hm 0 rfl
  have c1:w.cell? ⟨bg,1,none⟩=some (.slice ga n cap):=hp.cell hm 1 rfl
  obtain⟨dst,op,ty,pos,aft,gd⟩:=o
  obtain rfl:op=_:=e1
  clear ho hw hn hm
  simp[go_sem, *]
 ·have c0:w.cell? ⟨bg,0,none⟩=some (.int .i64 wd):=hp.cell hm 0 rfl
  have c1:w.cell? ⟨bg,1,none⟩=some (.slice ga n cap):=hp.cell hm 1 rfl
  obtain⟨dst,op,ty,pos,aft,gd⟩:=o
  obtain rfl:op=_:=e1
  clear ho hw hn
  simp[go_sem, *] at he
  rcases he with rfl|rfl
  all_goals exact zaG hl hm _
theorem zsB(hG:zba Tryz.prog Goal)(hl0:∀ p∈l0,Kc p.1)(hfeet:ziW Goal wd ga n cap M l0 Kc RowP)(hpic:zrF Goal wd ga n cap M l0 Kc objL){Shun:Nat->Prop}(hend:zqN Goal c cs wd n M RowP objL objC Shun w){bs bc:Nat}(hp1:Hp ((bc,.cells objC 60)::(bs,.cells #[.int .i64 0,.slice none 0 0,.slice none 0 0,.slice none 0 0] 29)::(bg,.cells #[.int .i64 wd,.slice ga n cap] 25)::l0) w1)(q1:w.heap.size<=w1.heap.size)(q2:∀ d,((((False\/d=bg)\/d=bs)\/S1 d)\/S2 d)->False\/w.heap.size<=d)(q4:∀ d,Kc d\/((((False\/d=bg)\/d=bs)\/S1 d)\/S2 d)->d<w1.heap.size/\¬ Shun d/\¬ False)(q6:∀ d,d<w.heap.size->¬ False->w1.heap[d]?=w.heap[d]?)(q7:w1.tape=w.tape)(q8:w1.os=w.os)(q9:w1.output=w.output)(hb2:S2 bc/\¬ Kc bc/\¬ (((False\/bc=bg)\/bc=bs)\/S1 bc))(y0 y3 y4 y5 y6 y7 y8 y11 y13 y14:Value) :
  zaq Tryz.prog Goal Shun (fun _=>False) (G ((base 22).at ⟨#[y0,.pointer (some ⟨bg,0,none⟩),.pointer (some ⟨bs,0,none⟩),y3,y4,y5,y6,y7,y8,.agg #[.int .i64 wd,.slice (some ⟨bc,0,none⟩) n n],.agg #[.int .i64 wd,.slice ga n cap],y11,.agg #[.int .i64 wd,.slice ga n cap],y13,y14],[]⟩ [.inRegion zfR [3,5,6,7,8],.code .ret]) (c::cs)) w1 :=
 zsE hG hl0 hfeet hpic (fun p h=>hp1 p (mcm (mcm (mcm h)))) (fun e he=>⟨(q4 e (.inl he)).1,(q4 e (.inl he)).2.1⟩) (hp1 _ (mcm mcs)) (q4 bs (.inr (.inl (.inl (.inr rfl))))).2.1 (hp1 _ (mcm (mcm mcs))) (q4 bg (.inr (.inl (.inl (.inl (.inr rfl)))))).2.1 (fun u2 bl bf xs bsf Sh k1 k2 k3 k4 k5 k6 k7 k8=>hend w1 bs bc bl bf u2 xs bsf Sh q1 (fun e he=>q6 e he (fun h=>h)) q7 q8 q9 ((q2 bs (.inl (.inl (.inr rfl)))).resolve_left id) ((q2 bc (.inr hb2.1)).resolve_left id) (hp1 _ mcs) (q4 bc (.inr (.inr hb2.1))).2.1 (fun e=>by subst e;exact hb2.2.2 (.inl (.inr rfl))) k1 k2 k3 k4 k5 k6 k7 k8) y0 y3 y4 y5 y6 y7 y8 y11 y13 y14
theorem zsC(hG:zba Tryz.prog Goal)(hl0:∀ p∈l0,Kc p.1)(hfeet:ziW Goal wd ga n cap M l0 Kc RowP)(hpic:zrF Goal wd ga n cap M l0 Kc objL){Shun:Nat->Prop}(hend:zqN Goal c cs wd n M RowP objL objC Shun w){bs bc:Nat}(hp1:Hp ((bc,.cells objC 60)::(bs,.cells #[.int .i64 0,.slice none 0 0,.slice none 0 0,.slice none 0 0] 29)::(bg,.cells #[.int .i64 wd,.slice ga n cap] 25)::l0) w1)(q1:w.heap.size<=w1.heap.size)(q2:∀ d,((((False\/d=bg)\/d=bs)\/S1 d)\/S2 d)->False\/w.heap.size<=d)(q4:∀ d,Kc d\/((((False\/d=bg)\/d=bs)\/S1 d)\/S2 d)->d<w1.heap.size/\¬ Shun d/\¬ False)(q6:∀ d,d<w.heap.size->¬ False->w1.heap[d]?=w.heap[d]?)(q7:w1.tape=w.tape)(q8:w1.os=w.os)(q9:w1.output=w.output)(hb2:S2 bc/\¬ Kc bc/\¬ (((False\/bc=bg)\/bc=bs)\/S1 bc))(y0 y3 y4 y5 y6 y7 y8 y11 y12 y13 y14:Value) :
  zaq Tryz.prog Goal Shun (fun _=>False) (G ((base 22).at ⟨#[y0,.pointer (some ⟨bg,0,none⟩),.pointer (some ⟨bs,0,none⟩),y3,y4,y5,y6,y7,y8,.agg #[.int .i64 wd,.slice (some ⟨bc,0,none⟩) n n],.agg #[.int .i64 wd,.slice ga n cap],y11,y12,y13,y14],[]⟩ [.inRegion zfR [3,4,5,6,7,8],.code .ret]) (c::cs)) w1 :=
 zsF hG hl0 hfeet hpic (fun p h=>hp1 p (mcm (mcm (mcm h)))) (fun e he=>⟨(q4 e (.inl he)).1,(q4 e (.inl he)).2.1⟩) (hp1 _ (mcm mcs)) (q4 bs (.inr (.inl (.inl (.inr rfl))))).2.1 (hp1 _ (mcm (mcm mcs))) (q4 bg (.inr (.inl (.inl (.inl (.inr rfl)))))).2.1 (fun u2 bl bf xs bsf Sh k1 k2 k3 k4 k5 k6 k7 k8=>hend w1 bs bc bl bf u2 xs bsf Sh q1 (fun e he=>q6 e he (fun h=>h)) q7 q8 q9 ((q2 bs (.inl (.inl (.inr rfl)))).resolve_left id) ((q2 bc (.inr hb2.1)).resolve_left id) (hp1 _ mcs) (q4 bc (.inr (.inr hb2.1))).2.1 (fun e=>by subst e;exact hb2.2.2 (.inl (.inr rfl))) k1 k2 k3 k4 k5 k6 k7 k8) y0 y3 y4 y5 y6 y7 y8 y11 y12 y13 y14
theorem zjK{L:Program}[T:zaA L Tryz.prog][zaA L L](W:Whole L)(B:Bodies L Tryz.prog X)(hX:zk7 L X)(hf3:L.funcs[34]?=some Tryz.f34)(hx3:¬ X 34)(hfc:L.funcs[35]?=some Tryz.f35)(hxc:¬ X 35)(hG:zba Tryz.prog Goal)(hl0:∀ p∈l0,Kc p.1)(hfeet:ziW Goal wd ga n cap M l0 Kc RowP)(hpic:zrF Goal wd ga n cap M l0 Kc objL){Shun:Nat->Prop}(hp0:Hp l0 w)(hK0:∀ e,Kc e->e<w.heap.size/\¬ Shun e)(hcl:∀ w,Hp l0 w->Closed Kc w)(hga:zaj (zeA Kc) (.slice ga n cap) (.slice ga n cap))(hok:∀ w,Hp l0 w->∀ τ d,Calls L 34 #[.agg #[.int .i64 wd,.slice ga n cap]] (w.frz.tp τ d) fun e _=>e=.returned (.bool true)){zgX:World->Value->World->Prop}{zqR:Value->List (Nat × Obj)->Prop}(hPC:∀ w0 v w τ d,zgX w0 v w->zgX w0 v (w.tp τ d))(hcopy:∀ w,Hp l0 w->∀ τ d,Calls L 35 #[.agg #[.int .i64 wd,.slice ga n cap]] (w.frz.tp τ d) fun e w'=>∃ v,e=.returned v/\zgX w v w')(hQC:∀ w0 v v' R wl w₁,zgX w0 v wl->zaj R v v'->za9 w0.heap.size R wl w₁->∃ bs,zqR v' bs/\Hp bs w₁/\∀ p∈bs,zby w0.heap.size R p.1)(hRC:∀ v bs,zqR v bs->∃ bc,v=.agg #[.int .i64 wd,.slice (some ⟨bc,0,none⟩) n n]/\bs=[(bc,.cells objC 60)])(hend:zqN Goal c cs wd n M RowP objL objC Shun w) :
  zaq Tryz.prog Goal Shun (fun _=>False) (G (Frame.enter Tryz.prog 22 #[.agg #[.int .i64 wd,.slice ga n cap]] .normal) (c::cs)) w:=by
 have hLa:∀(w:World) (o:Obj),(fun _:World=>True) w->(fun _:World=>True) (w.alloc o):=fun _ _ h=>h
 refine zaq.way hG (ch:=0) (K:=Kc) (S:=fun _=>False) (l:=l0) (lx:=[]) hp0 (fun p h=>.inl (hl0 p h)) (fun _ h=>by cases h) (fun _ h=>by cases h) (fun _ h=>h.elim) (fun c hc=>⟨(hK0 c (hc.elim id fun x=>x.elim)).1,(hK0 c (hc.elim id fun x=>x.elim)).2,fun h=>h⟩) ?_
 rw[enter_at _ func22 rfl]
 walk_nrmf Tryz.f22
 refine zag.sq ?_
 refine zag.rg ?_
 simp only[rgs,Nat.reduceAdd]
 refine zag.new hLa rfl rfl qi (V:=fun c=>.pointer (some ⟨c,0,none⟩)) (obj:=.cells #[.int .i64 wd,.slice ga n cap] 25) (fun w hp=>qo) (fun _ w hp e he=>by simp[go_sem] at he) fun bg hK_bg hS_bg=>?_
 walk_nrm
 refine zag.new hLa rfl rfl qi (V:=fun c=>.pointer (some ⟨c,0,none⟩)) (obj:=.cells #[.int .i64 0,.slice none 0 0,.slice none 0 0,.slice none 0 0] 29) (fun w hp=>qo) (fun _ w hp e he=>by simp[go_sem] at he) fun bs hK_bs hS_bs=>?_
 walk_nrm
 refine zag.va (v:=.bool false) ?_
 walk_nrm
 refine zag.re ?_
 refine zag.sq ?_
 refine zag.sq ?_
 refine zag.rg ?_
 simp only[rgs,Nat.reduceAdd]
 refine ldG rfl rfl qi rfl rfl (mcm mcs) ?_
 walk_nrm
 have hcl1:∀ w,Hp ((bs,.cells #[.int .i64 0,.slice none 0 0,.slice none 0 0,.slice none 0 0] 29)::(bg,.cells #[.int .i64 wd,.slice ga n cap] 25)::l0) w->Closed Kc w:=fun w hp=>hcl w fun p h=>hp p (mcm (mcm h))
 refine zag.enter rfl rfl qi (fun w=>run_call_body rfl func34 rfl rfl) (fun w=>events_call_body rfl func34 rfl rfl _) ?_
 walk_nrm
 refine zag.callv (Kc:=Kc) (Lv:=fun _=>False) W B (fun _ _ _ _=>trivial) (fun _ _ _ h=>h.elim) hX hf3 rfl hx3 qh (v0:=.bool true) (fun _ _ h=>zcr h) (fun _ h=>h) hcl1 (zcn _ hga) (fun w hp=>hok w fun p h=>hp p (mcm (mcm h))) fun S1=>?_
 simp only[Frame.finish_at]
 walk_nrm
 refine zag.va (v:=.bool false) ?_
 walk_nrm
 refine zag.re ?_
 refine zag.ctl rfl (fun _=>stepG_cond (t:=false) rfl) ?_
 simp only[Bool.false_eq_true,↓reduceIte]
 refine zag.ctl rfl (fun _=>stepG_skip) ?_
 refine zag.sq ?_
 have hcp:∀ w,Hp ((bs,.cells #[.int .i64 0,.slice none 0 0,.slice none 0 0,.slice none 0 0] 29)::(bg,.cells #[.int .i64 wd,.slice ga n cap] 25)::l0) w->_:=fun w hp=>hcopy w fun p h=>hp p (mcm (mcm h))
 refine zag.draw (rs:=[[0,1,2,3,4,5,6,7,8],[0,1,2,4,3,5,6,7,8],[0,1,4,2,3,5,6,7,8],[0,2,1,3,4,5,6,7,8],[0,2,1,4,3,5,6,7,8],[0,2,4,1,3,5,6,7,8],[0,4,1,2,3,5,6,7,8],[0,4,2,1,3,5,6,7,8],[2,0,1,3,4,5,6,7,8],[2,0,1,4,3,5,6,7,8],[2,0,4,1,3,5,6,7,8],[2,4,0,1,3,5,6,7,8],[4,0,1,2,3,5,6,7,8],[4,0,2,1,3,5,6,7,8],[4,2,0,1,3,5,6,7,8]]) qh (fun _ h=>h) qh fun r hr=>?_
 simp only[List.mem_cons,List.not_mem_nil,or_false] at hr
 rcases hr with rfl|rfl|rfl|rfl|rfl|rfl|rfl|rfl|rfl|rfl|rfl|rfl|rfl|rfl|rfl
 all_goals
  repeat (refine ldG rfl rfl qi rfl rfl (mcm mcs) ?_;walk_nrm)
  refine zag.enter rfl rfl qi (fun w=>run_call_body rfl func35 rfl rfl) (fun w=>events_call_body rfl func35 rfl rfl _) ?_
  walk_nrm
  refine zag.callMb (Kc:=Kc) (Lv:=fun _=>False) (Post:=zgX) (Q:=zqR) W B (fun _ _ _ _=>trivial) (fun _ _ _ h=>h.elim) hX hfc rfl hxc hPC (fun _ h=>h) hcl1 (zcn _ hga) hcp hQC fun S2 v2 b2 hq2 hb2 hl2=>?_
  obtain⟨bc,rfl,rfl⟩:=hRC v2 b2 hq2
  simp only[Frame.finish_at,List.cons_append,List.nil_append]
  walk_nrm
  repeat (refine ldG rfl rfl qi rfl rfl (mcm (mcm mcs)) ?_;walk_nrm)
  first
   | exact zag.stop fun hl1 w1 hp1 _ hlt1 q1 q2 q3 q4 q5 q6 q7 q8 q9=>zsB hG hl0 hfeet hpic hend hp1 q1 q2 q4 q6 q7 q8 q9 (hb2 _ (List.mem_singleton.2 rfl)) _ _ _ _ _ _ _ _ _ _
   | exact zag.stop fun hl1 w1 hp1 _ hlt1 q1 q2 q3 q4 q5 q6 q7 q8 q9=>zsC hG hl0 hfeet hpic hend hp1 q1 q2 q4 q6 q7 q8 q9 (hb2 _ (List.mem_singleton.2 rfl)) _ _ _ _ _ _ _ _ _ _ _
end
section
variable{Goal:Machine->Trace->Prop}{c:Frame}{cs:List Frame}
theorem zlN{L:Program}[T:zaA L Tryz.prog][zaA L L](W:Whole L)(B:Bodies L Tryz.prog X)(hX:zk7 L X)(hf3:L.funcs[34]?=some Tryz.f34)(hx3:¬ X 34)(hG:zba Tryz.prog Goal)(hl0:∀ p∈l0,Kc p.1){Shun:Nat->Prop}(hp0:Hp l0 w)(hK0:∀ e,Kc e->e<w.heap.size/\¬ Shun e)(hcl:∀ w,Hp l0 w->Closed Kc w)(hga:zaj (zeA Kc) (.slice ga n cap) (.slice ga n cap))(hok:∀ w,Hp l0 w->∀ τ d,Calls L 34 #[.agg #[.int .i64 wd,.slice ga n cap]] (w.frz.tp τ d) fun e _=>e=.returned (.bool false))(hfin:∀ u:World,zcb (fun e=>e<w.heap.size/\¬ Shun e) w u->zaq Tryz.prog Goal Shun (fun _=>False) (G (c.finish (.tuple #[.agg #[.int .i64 0,.slice none 0 0,.slice none 0 0,.slice none 0 0],.bool false])) cs) u) :
  zaq Tryz.prog Goal Shun (fun _=>False) (G (Frame.enter Tryz.prog 22 #[.agg #[.int .i64 wd,.slice ga n cap]] .normal) (c::cs)) w:=by
 have hLa:∀(w:World) (o:Obj),(fun _:World=>True) w->(fun _:World=>True) (w.alloc o):=fun _ _ h=>h
 refine zaq.way hG (ch:=0) (K:=Kc) (S:=fun _=>False) (l:=l0) (lx:=[]) hp0 (fun p h=>.inl (hl0 p h)) (fun _ h=>by cases h) (fun _ h=>by cases h) (fun _ h=>h.elim) (fun c hc=>⟨(hK0 c (hc.elim id fun x=>x.elim)).1,(hK0 c (hc.elim id fun x=>x.elim)).2,fun h=>h⟩) ?_
 rw[enter_at _ func22 rfl]
 walk_nrmf Tryz.f22
 refine zag.sq ?_
 refine zag.rg ?_
 simp only[rgs,Nat.reduceAdd]
 refine zag.new hLa rfl rfl qi (V:=fun c=>.pointer (some ⟨c,0,none⟩)) (obj:=.cells #[.int .i64 wd,.slice ga n cap] 25) (fun w hp=>qo) (fun _ w hp e he=>by simp[go_sem] at he) fun bg hK_bg hS_bg=>?_
 walk_nrm
 refine zag.new hLa rfl rfl qi (V:=fun c=>.pointer (some ⟨c,0,none⟩)) (obj:=.cells #[.int .i64 0,.slice none 0 0,.slice none 0 0,.slice none 0 0] 29) (fun w hp=>qo) (fun _ w hp e he=>by simp[go_sem] at he) fun bs hK_bs hS_bs=>?_
 walk_nrm
 refine zag.va (v:=.bool false) ?_
 walk_nrm
 refine zag.re ?_
 refine zag.sq ?_
 refine zag.sq ?_
 refine zag.rg ?_
 simp only[rgs,Nat.reduceAdd]
 refine ldG rfl rfl qi rfl rfl (mcm mcs) ?_
 walk_nrm
 have hcl1:∀ w,Hp ((bs,.cells #[.int .i64 0,.slice none 0 0,.slice none 0 0,.slice none 0 0] 29)::(bg,.cells #[.int .i64 wd,.slice ga n cap] 25)::l0) w->Closed Kc w:=fun w hp=>hcl w fun p h=>hp p (mcm (mcm h))
 refine zag.enter rfl rfl qi (fun w=>run_call_body rfl func34 rfl rfl) (fun w=>events_call_body rfl func34 rfl rfl _) ?_
 walk_nrm
 refine zag.callv (Kc:=Kc) (Lv:=fun _=>False) W B (fun _ _ _ _=>trivial) (fun _ _ _ h=>h.elim) hX hf3 rfl hx3 qh (v0:=.bool false) (fun _ _ h=>zcr h) (fun _ h=>h) hcl1 (zcn _ hga) (fun w hp=>hok w fun p h=>hp p (mcm (mcm h))) fun S1=>?_
 simp only[Frame.finish_at]
 walk_nrm
 refine zag.va (v:=.bool true) ?_
 walk_nrm
 refine zag.re ?_
 refine zag.ctl rfl (fun _=>stepG_cond (t:=true) rfl) ?_
 simp only[↓reduceIte]
 refine zag.sq ?_
 refine zag.rg ?_
 simp only[rgs,Nat.reduceAdd]
 refine zag.va (v:=.agg #[.int .i64 0,.slice none 0 0,.slice none 0 0,.slice none 0 0]) ?_
 walk_nrm
 refine zag.put (l':=[(bs,.cells #[.int .i64 0,.slice none 0 0,.slice none 0 0,.slice none 0 0] 29)]) (c:=bs) (obj:=.cells #[.int .i64 0,.slice none 0 0,.slice none 0 0,.slice none 0 0] 29) rfl rfl qi (.inl (.inr rfl)) (fun _ _ _ h=>h) (fun w hp=>⟨_,zhs (ty:=29) (cells:=#[.int .i64 0,.slice none 0 0,.slice none 0 0,.slice none 0 0]) rfl rfl rfl (hp.at mcs) zdg rfl qm,(zaB (hp.at mcs)).1,(zaB (hp.at mcs)).2⟩) (fun _ w hp e he=>?_) (fun p hp=>?_) ?_
 ·obtain⟨q,rfl⟩:=zkk (ty:=29) (cells:=#[.int .i64 0,.slice none 0 0,.slice none 0 0,.slice none 0 0]) rfl rfl rfl (hp.at mcs) zdg rfl qm e he
  exact Or.inl ⟨_,_,rfl,Or.inl (.inl (.inr rfl))⟩
 ·rcases List.mem_cons.1 hp with rfl|hp
  ·exact .inl rfl
  ·cases hp
 walk_nrm
 refine zag.va (v:=.bool false) ?_
 walk_nrm
 refine zag.re ?_
 refine zag.ctl rfl (fun _=>stepG_ret') ?_
 refine zag.leave (v:=.tuple #[.agg #[.int .i64 0,.slice none 0 0,.slice none 0 0,.slice none 0 0],.bool false]) rfl rfl func22 (fun w hp=>?_) (fun hl w hp e he=>?_) ?_
 ·have c0:=hp.cell mcs 0 rfl
  have c1:=hp.cell mcs 1 rfl
  have c2:=hp.cell mcs 2 rfl
  have c3:=hp.cell mcs 3 rfl
  simp[results,results22,go_sem,c0,c1,c2,c3]
 ·have c0:=hp.cell mcs 0 rfl
  have c1:=hp.cell mcs 1 rfl
  have c2:=hp.cell mcs 2 rfl
  have c3:=hp.cell mcs 3 rfl
  simp[results,results22,go_sem,c0,c1,c2,c3] at he
  rcases he with rfl|rfl|rfl|rfl
  all_goals exact zaG hl mcs _
 refine zag.stop fun hl3 w3 hp3 _ hlt3=>?_
 intro hsz3 hnew3 hx3 hKS3 _ hkept3 ht3 ho3 hu3
 exact hfin w3 ⟨fun e he=>hkept3 e he.1 (fun h=>h),ht3,ho3,hu3,hsz3⟩
end
def zrx(wd:Int)(gl:List (Int × Int)):Nat->Value->List (Nat × Obj)->Prop:=fun k x bs =>
 (x=.slice none 0 0/\Sp.zar wd gl (k:Int)=[]/\bs=[])\/∃ b C,x=.slice (some ⟨b,0,none⟩) (Sp.zar wd gl (k:Int)).length C/\0<(Sp.zar wd gl (k:Int)).length/\(Sp.zar wd gl (k:Int)).length<=C/\C<=maxLen/\bs=[(b,.cells (zgl (Sp.zar wd gl (k:Int)) C) 3)]
theorem zrx.slice{k:Nat}{x:Value}(h:zrx wd gl k x bs):∃ xa xn xc,x=.slice xa xn xc:=by
 rcases h with ⟨e,_⟩|⟨b,C,e,_⟩
 ·exact⟨_,_,_,e⟩
 ·exact⟨_,_,_,e⟩
def zqP(wd:Int)(gl:List (Int × Int)):Nat->World->Value->World->Prop:=fun k w0 v wl=>zdN wl w0.heap.size 3 v (Sp.zar wd gl (k:Int))
theorem ziU(xs:List Int)(C:Nat):∀ i (h:i<(zgl xs C).size),∃ n,(zgl xs C)[i]=.int .i64 n:=by
 intro i h
 unfold zgl at h ⊢
 rw[Array.getElem_append]
 split
 ·rename_i h'
  simp[zeb]
 ·simp
theorem zrg(k:Nat)(w0:World)(v v':Value)(R:BR)(wl w₁:World)(hp:zqP wd gl k w0 v wl)(hv:zaj R v v')(hw:za9 w0.heap.size R wl w₁):∃ bs,zrx wd gl k v' bs/\Hp bs w₁/\∀ p∈bs,zby w0.heap.size R p.1:=by
 rcases hp with ⟨rfl,he⟩|⟨g,C,rfl,hg,h1,h2,h3,hc⟩
 ·cases hv with
  | nilSlice _ _=>exact⟨[],.inl ⟨rfl,he,rfl⟩,(fun p hp=>by cases hp),(fun p hp=>by cases hp)⟩
 ·obtain⟨⟨c,o,s⟩,rfl,had⟩:=zaj.slice_at hv qg
  ·skip
   obtain⟨q1,q2,q3⟩:=had
   simp only at q1 q2 q3
   subst q2
   subst q3
   obtain⟨ob,ob',e1,e2,ho⟩:=hw.blk g c q1
   rw[hc] at e1
   cases e1
   cases ho with
   | cells hr _ hf =>
    have hf':=hf qg
    subst hf'
    have e:=zjm hr.1 hr.2 (ziU _ _)
    subst e
    exact⟨_,.inr ⟨c,C,rfl,h1,h2,h3,rfl⟩,fun p hp=>by simp at hp;subst hp;exact e2,fun p hp=>by simp at hp;subst hp;exact⟨g,q1,hg⟩⟩
   | other hj _=>cases hj
def zgX(wd:Int)(gl:List (Int × Int)):World->Value->World->Prop:=fun w0 v wl=>∃ g,v=.agg #[.int .i64 wd,.slice (some ⟨g,0,none⟩) gl.length gl.length]/\w0.heap.size<=g/\wl.heap[g]?=some (.cells (Sp.flat gl).toArray 60)
def zqR(wd:Int)(gl:List (Int × Int)):Value->List (Nat × Obj)->Prop:=fun v bs=>∃ b,v=.agg #[.int .i64 wd,.slice (some ⟨b,0,none⟩) gl.length gl.length]/\bs=[(b,.cells (Sp.flat gl).toArray 60)]
theorem zh0(gl:List (Int × Int)):∀ i (h:i<(Sp.flat gl).toArray.size),∃ n,(Sp.flat gl).toArray[i]=.int .i64 n:=by
 intro i h
 have hl:=Sp.ze2 gl
 simp at h
 have hi:i / 2<gl.length:=qg
 obtain⟨h1,h2⟩:=Sp.zhc gl (i / 2) hi
 have e:i=i / 2 * 2\/i=i / 2 * 2+1:=qg
 rcases e with e|e
 ·rw[<- e] at h1
  rw[List.getElem?_eq_getElem h] at h1
  exact⟨_,by simpa using Option.some.inj h1⟩
 ·rw[<- e] at h2
  rw[List.getElem?_eq_getElem h] at h2
  exact⟨_,by simpa using Option.some.inj h2⟩
theorem zfH{B g:Nat}(h:Sp.Own w B (.slice (some ⟨g,0,none⟩) gl.length gl.length) gl):B<=g/\w.heap[g]?=some (.cells (Sp.flat gl).toArray 60):=by
 rcases h.2 with ⟨q,_⟩|⟨g',cap,cur,q,hB,hg,_,_,hs,ht⟩
 ·simp at q
 ·simp only[Value.slice.injEq,Option.some.injEq,Addr.mk.injEq,and_true,true_and] at q
  obtain⟨rfl,rfl⟩:=q
  refine⟨hB,?_⟩
  rw[hg]
  have e:cur.toList=Sp.flat gl:=by
   rw[<- ht,List.take_of_length_le (by simp[hs])]
  rw[<- e]
theorem zoT(hpos:0<gl.length)(w0:World)(v v':Value)(R:BR)(wl w₁:World)(hp:zgX wd gl w0 v wl)(hv:zaj R v v')(hw:za9 w0.heap.size R wl w₁):∃ bs,zqR wd gl v' bs/\Hp bs w₁/\∀ p∈bs,zby w0.heap.size R p.1:=by
 obtain⟨g,rfl,hg,hc⟩:=hp
 cases hv with
 | agg h1 h2 =>
  rename_i cc'
  have hs:cc'.size=2:=by rw[<- h1];rfl
  have q0:=h2 0 qk qg
  have q1:=h2 1 qk qg
  have e0:=zcG q0
  obtain⟨b,e1,hb⟩:∃ b,cc'[1]' qg=.slice (some ⟨b,0,none⟩) gl.length gl.length/\R g b:=by
   have q1':zaj R (.slice (some ⟨g,0,none⟩) gl.length gl.length) (cc'[1]' qg):=q1
   revert q1'
   generalize cc'[1]' qg=z
   intro q1'
   obtain⟨⟨c,o,s⟩,rfl,r1,r2,r3⟩:=zaj.slice_at q1' hpos
   simp only at r1 r2 r3
   subst r2
   subst r3
   exact⟨c,rfl,r1⟩
  obtain⟨ob,ob',f1,f2,ho⟩:=hw.blk g b hb
  rw[hc] at f1
  cases f1
  cases ho with
  | cells hr _ hf =>
   have hf':=hf qg
   subst hf'
   have e:=zjm hr.1 hr.2 (zh0 _)
   subst e
   refine⟨_,⟨b,congrArg Value.agg (Array.ext (by simp[hs]) fun i hi1 hi2=>?_),rfl⟩,fun p hp=>by simp at hp;subst hp;exact f2,fun p hp=>by simp at hp;subst hp;exact⟨g,hb,hg⟩⟩
   have:i=0\/i=1:=by simp at hi2;omega
   rcases this with rfl|rfl
   ·exact e0
   ·exact e1
  | other hj _=>cases hj
section
variable{Goal:Machine->Trace->Prop}{Shun:Nat->Prop}{c:Frame}{cs:List Frame}
theorem zo3(hG:zba Tryz.prog Goal){W H:Nat}(hok:Sp.okG (W:Int) gs=true)(hW:1<=W/\W<=5)(hH:1<=H/\H<=5)(el:gs.length=W * H)(hHd:gs.length / W=H)(hHI:(gs.length:Int) / (W:Int)=(H:Int))(hl0:∀ p∈l0,Kc p.1)(hcl:∀ w,Hp l0 w->Closed Kc w)(hKl:∀ c,Kc c->∃ p∈l0,p.1=c)(hga:zaj (zeA Kc) (.slice ga gs.length cap) (.slice ga gs.length cap))(hC:∀ w,Hp l0 w->∀ τ d,Sp.zaf (w.frz.tp τ d) ga gs)(w:World)(hp0:Hp l0 w)(hKc:∀ c,Kc c->c<w.heap.size/\¬ Shun c)(hfin:∀(u:World) (bo:Nat) (xs:Nat->Value) (bsf:Nat->List (Nat × Obj)),zcb (fun e=>e<w.heap.size/\¬ Shun e) w u->w.heap.size<=bo->u.heap[bo]?=some (.cells (Array.ofFn fun k:Fin (2 * (W+H))=>xs k) 26) ->
   (∀ k,k<2 * (W+H)->zrx (W:Int) gs k (xs k) (bsf k)/\Hp (bsf k) u/\∀ p∈bsf k,w.heap.size<=p.1/\p.1≠bo)->(∀ k k' p p',k<2 * (W+H)->k'<2 * (W+H)->p∈bsf k->p'∈bsf k'->p.1=p'.1->k=k') ->
   ∀ Shun':Nat->Prop,(∀ e,Shun' e->Shun e\/w.heap.size<=e)->¬ Shun' bo->(∀ k,k<2 * (W+H)->∀ p∈bsf k,¬ Shun' p.1)->zaq Tryz.prog Goal Shun' (fun _=>False) (G (c.finish (.slice (some ⟨bo,0,none⟩) (2 * (W+H)) (2 * (W+H)))) cs) u) :
  zaq Tryz.prog Goal Shun (fun _=>False) (G (Frame.enter Tryz.prog 37 #[.agg #[.int .i64 (W:Int),.slice ga gs.length cap],.func (.func 9) #[] #[]] .normal) (c::cs)) w:=by
 haveI:Payload:=⟨0⟩
 obtain⟨W1,W5⟩:=hW
 obtain⟨H1,H5⟩:=hH
 have hn25:gs.length<=25:=by rw[el];exact Nat.le_trans (Nat.mul_le_mul W5 H5) qg
 have hM:Sp.zbU (W:Int) gs=((2 * (W+H):Nat):Int):=by rw[Sp.zcw hok hHI];omega
 have hside:Sp.zbJ (W:Int) (H:Int) (gs.length:Int)=#[.int .i64 ((sF W H 0:Nat):Int),.int .i64 (W:Int),.int .i64 0,.int .i64 1,.int .i64 2,.int .i64 0,.int .i64 ((sF W H 1:Nat):Int),.int .i64 (H:Int),.int .i64 ((W:Int) - 1),.int .i64 (W:Int),.int .i64 3,.int .i64 1,.int .i64 ((sF W H 2:Nat):Int),.int .i64 (W:Int),.int .i64 ((gs.length:Int) - 1),.int .i64 (-1),.int .i64 0,.int .i64 2,.int .i64 ((sF W H 3:Nat):Int),.int .i64 (H:Int),.int .i64 ((gs.length:Int) - 1 - (W:Int)+1),.int .i64 (-(W:Int)),.int .i64 1,.int .i64 3]:=by
  simp[Sp.zbJ,sF]
 have hhas:∀(f m s o i u:Int),0<=f/\f<=100->0<=m/\m<=100->∀(k:Nat) (w:World),Calls SqN.prog 46 #[.agg #[.int .i64 f,.int .i64 m,.int .i64 s,.int .i64 o,.int .i64 i,.int .i64 u],.int .i64 k] w fun e _=>e=.returned (.bool (decide (f<=k/\(k:Int)<f+m))) :=
  fun f m s o i u h1 h2 k w=>(Sp.zez f m s o i u k h1 h2 _ rfl w).mono fun e w' h=>h.1
 refine R2.zdJ (L:=SqN.prog) (X:=fun _=>false=true) (f0:=sF W H) (e0:=sE W H) (Post:=zqP (W:Int) gs) (RowP:=zrx (W:Int) gs) (many:=2 * (W+H)) hG SqN.whole SqN.bodies (fun _ h=>by cases h) (zfx func34) (fun h=>by cases h) (zfx func60) (fun h=>by cases h) (zfx func61) (fun h=>by cases h) hl0 hcl hga
  (fun w hp τ d=>((Sp.zav (W:Int) ga cap gs _ (hC w hp τ d) qg).mono fun e w' h=>by rw[h.1,hok]))
  (fun w hp τ d=>((Sp.zcT (W:Int) ga cap gs _ (hC w hp τ d) qg).mono fun e w' h=>by rw[h.1,hM]))
  (fun w hp τ d=>((Sp.zbX W H ga gs.length cap _ ⟨W1,W5⟩ ⟨H1,H5⟩ hn25 hHd).mono fun e w' h=>by rw[h.1,hside]))
  (zfx func46) (fun h=>by cases h) (zfx func9) func9 rfl rfl (fun h=>by cases h) qh ?_ ?_ hKl ?_ ?_ ?_ ?_ ?_ ?_ ?_ ?_ ?_ ?_ ?_ ?_ ?_
  (fun k hk w hp τ d=>((Sp.zdf (W:Int) ga cap gs _ (hC w hp τ d) qg (k:Int)).mono fun e w' ⟨v,h1,h2,_,_⟩=>⟨_,h1,(by have h3:=h2;rw[show (w.frz.tp τ d).heap.size=w.heap.size from zd2 w] at h3;exact h3:zqP (W:Int) gs k w v w')⟩)) (fun _ _ _ _ _ _ h=>h) zrg (fun k x bs h=>h.slice) ?_ qg w hp0 hKc hfin
 all_goals exact zgJ
end
theorem zpK{c:Frame}{cs:List Frame}{N:Nat}{R:BR}{wl:World}{v v':Value}(hw:za9 N R (wl.tp w.tape w.drawn) w)(hv:zaj R v v')(tr:zbS SqP.prog FinP (Frame.enter SqP.prog 22 #[v] .normal) (c::cs) wl) :
  ∃ wd ga ga' m gl,v=.agg #[.int .i64 wd,.slice ga (List.length gl) m]/\v'=.agg #[.int .i64 wd,.slice ga' gl.length m]/\gl.length<4611686018427387904/\Sp.zaf wl ga gl/\zaj R (.slice ga gl.length m) (.slice ga' gl.length m):=by
 rw[enter_at _ SqP.func22 SqP.body22,SqP.ntmps22,zop] at tr
 have tr1:zbS (@Sq.prog Sq.P) FinP ((base 22).at ⟨#[v,undef,undef,undef,undef,undef,undef,undef,undef,undef,undef,undef,undef,undef,undef,undef,undef,undef,undef,undef,undef,undef],[]⟩ [.code (zi7 .skip),.code zgK]) (c::cs) wl:=tr.ctl (fun _ _=>stepG_seq)
 have hrel:∀ n m ad,v.cells[1]?=some (.slice (some ad) n m)->0<n->∃ o,wl.heap[ad.block]?=some o/\∀ x y,o≠.view x y:=by
  intro n m ad hx hn0
  have key:∀ u u',zaj R u u'->u=.slice (some ad) n m->∃ o,wl.heap[ad.block]?=some o/\∀ x y,o≠.view x y:=by
   intro u u' hu e
   subst e
   cases hu with
   | slice _ _ had =>
    obtain⟨o,o',e1,_,ho⟩:=hw.blk _ _ had.1
    refine⟨o,e1,fun x y e=>?_⟩
    subst e
    cases ho with
    | other hj _=>cases hj
   | empty _ _=>omega
  cases hv with
  | agg h1 h2 =>
   rename_i cc cc'
   have hx':cc[1]?=some (.slice (some ad) n m):=hx
   obtain⟨hl,e⟩:=gei hx'
   exact key _ _ (h2 1 hl (by rw[<- h1];exact hl)) e
  | _=>simp[Value.cells] at hx
 obtain⟨wd,ga,n,m,rfl,hn62,hcells⟩:=@zmL Sq.P _ _ _ _ _ _ _ Sq.wholeP hrel tr1
 obtain⟨ga',rfl,hgr⟩:∃ ga',v'=.agg #[.int .i64 wd,.slice ga' n m]/\zaj R (.slice ga n m) (.slice ga' n m):=by
  cases hv with
  | agg h1 h2 =>
   rename_i cc'
   have hs:cc'.size=2:=by rw[<- h1];rfl
   have q0:=h2 0 qk qg
   have q1:=h2 1 qk qg
   have e0:=zcG q0
   have e1:∃ ga',cc'[1]' qg=.slice ga' n m:=by
    have q1':zaj R (.slice ga n m) (cc'[1]' qg):=q1
    revert q1'
    generalize cc'[1]' qg=z
    intro q1'
    cases q1' with
    | slice _ _ _=>exact⟨_,rfl⟩
    | nilSlice _ _=>exact⟨_,rfl⟩
    | empty _ _=>exact⟨_,rfl⟩
   obtain⟨ga',e1⟩:=e1
   refine⟨ga',congrArg Value.agg (Array.ext (by simp[hs]) fun i hi1 hi2=>?_),by rw[<- e1];exact q1⟩
   have:i=0\/i=1:=by simp at hi2;omega
   rcases this with rfl|rfl
   ·exact e0
   ·exact e1
 obtain⟨gl,hgl,hCl⟩:=zle hcells
 subst hgl
 exact⟨wd,ga,ga',m,gl,rfl,rfl,hn62,hCl,hgr⟩
def rb(x:Value):Nat:=match x.ownBlock with|some b=>b|none=>0
theorem zqn(R:BR):zaj R (.tuple #[.agg #[.int .i64 0,.slice none 0 0,.slice none 0 0,.slice none 0 0],.bool false]) (.tuple #[.agg #[.int .i64 0,.slice none 0 0,.slice none 0 0,.slice none 0 0],.bool false]):=by
 refine .tuple rfl fun i h1 h2=>?_
 have:i=0\/i=1:=by simp at h1;omega
 rcases this with rfl|rfl
 ·refine .agg rfl fun i h1 h2=>?_
  have:i=0\/i=1\/i=2\/i=3:=by simp at h1;omega
  rcases this with rfl|rfl|rfl|rfl
  ·exact .int _ _
  ·exact .nilSlice _ _
  ·exact .nilSlice _ _
  ·exact .nilSlice _ _
 ·exact .bool _
theorem znV{R:BR}{gc bl bf gc' bl' bf':Nat}(h1:R gc gc')(h2:R bl bl')(h3:R bf bf'):zaj R (.tuple #[.agg #[.int .i64 wd,.slice (some ⟨gc,0,none⟩) n n,.slice (some ⟨bl,0,none⟩) M M,.slice (some ⟨bf,0,none⟩) M M],.bool true]) (.tuple #[.agg #[.int .i64 wd,.slice (some ⟨gc',0,none⟩) n n,.slice (some ⟨bl',0,none⟩) M M,.slice (some ⟨bf',0,none⟩) M M],.bool true]):=by
 refine .tuple rfl fun i q1 q2=>?_
 have:i=0\/i=1:=by simp at q1;omega
 rcases this with rfl|rfl
 ·refine .agg rfl fun i q1 q2=>?_
  have:i=0\/i=1\/i=2\/i=3:=by simp at q1;omega
  rcases this with rfl|rfl|rfl|rfl
  ·exact .int _ _
  ·exact .slice _ _ ⟨h1,rfl,rfl⟩
  ·exact .slice _ _ ⟨h2,rfl,rfl⟩
  ·exact .slice _ _ ⟨h3,rfl,rfl⟩
 ·exact .bool _
theorem zrj(N:Nat):XOk SqP.prog Tryz.prog (fun i=>i=22) N:=by
 intro FinP f a a' c c' cs cs' R wl w Shun gs t q sl hXf har ha hcs hw tr hB h0 hSh hN hShN hNw
 obtain rfl:f=22:=hXf
 have ha1:a.size=1:=by
  have e:zoK 22 a.size=(a.size == 1):=rfl
  rw[e] at har
  simpa using har
 obtain⟨v,rfl⟩:∃ v,a=#[v]:=⟨a[0],Array.ext (by simp[ha1]) fun i h1 h2=>by
  have:i=0:=by simp at h2;omega
  subst this
  rfl⟩
 obtain⟨v',rfl⟩:∃ v',a'=#[v']:=⟨a'[0]'(by rw[<- ha.1];exact ha1 ▸ Nat.zero_lt_one),Array.ext (by simp[<- ha.1]) fun i h1 h2=>by
  have:i=0:=by simp at h2;omega
  subst this
  rfl⟩
 have hv:zaj R v v':=ha.2 0 qk qk
 have tr0:=tr
 obtain⟨wd,ga,ga',m,gl,rfl,rfl,hn62,hCl,hgr⟩:=zpK hw hv tr
 clear tr
 have hCw:Sp.zaf w ga' gl:=zi6 (w:=wl.tp w.tape w.drawn) hw hgr (Nat.le_refl _) (show Sp.zaf (wl.tp w.tape w.drawn) ga gl from hCl)
 refine(show zaq Tryz.prog (fun M t=>∃ (n:Nat) (gs':Array Goroutine) (w':World) (sl':Option (Nat × Nat)) (t':Trace) (q':Nat->Nat) (Shun':Nat->Prop) (R':BR) (v v':Value) (wl':World),
   runNT Tryz.prog n M t=(.next (crowd gs' w' sl'),t')/\gs'[0]?=some (G (c'.finish v') cs')/\Bes Tryz.prog Shun' gs' w' t' q'/\zch SqP.prog (Frame.enter SqP.prog 22 #[.agg #[.int .i64 wd,.slice ga gl.length m]] .normal) (c::cs) wl (c.finish v) cs wl'/\R.le R'/\zaj R' v v' /\
   za9 N R' (wl'.tp w'.tape w'.drawn) w'/\(∀ b c,R' b c->¬ Shun' c)/\(∀ b c,R' b c->N<=b->N<=c)/\(∀ c,Shun' c->N<=c)/\Below N w w') Shun (fun _=>False) (G (Frame.enter Tryz.prog 22 #[.agg #[.int .i64 wd,.slice ga' gl.length m]] .normal) (c'::cs')) w from ?_) gs sl t q hB h0 (fun _ h=>h.elim)
 have hG:∀(n:Nat) (M:Machine) (t:Trace) (M':Machine) (t':Trace),runNT Tryz.prog n M t=(.next M',t')->(∃ (n:Nat) (gs':Array Goroutine) (w':World) (sl':Option (Nat × Nat)) (t'':Trace) (q':Nat->Nat) (Shun':Nat->Prop) (R':BR) (v v':Value) (wl':World),
   runNT Tryz.prog n M' t'=(.next (crowd gs' w' sl'),t'')/\gs'[0]?=some (G (c'.finish v') cs')/\Bes Tryz.prog Shun' gs' w' t'' q'/\zch SqP.prog (Frame.enter SqP.prog 22 #[.agg #[.int .i64 wd,.slice ga gl.length m]] .normal) (c::cs) wl (c.finish v) cs wl'/\R.le R'/\zaj R' v v' /\
   za9 N R' (wl'.tp w'.tape w'.drawn) w'/\(∀ b c,R' b c->¬ Shun' c)/\(∀ b c,R' b c->N<=b->N<=c)/\(∀ c,Shun' c->N<=c)/\Below N w w')->(∃ (n:Nat) (gs':Array Goroutine) (w':World) (sl':Option (Nat × Nat)) (t'':Trace) (q':Nat->Nat) (Shun':Nat->Prop) (R':BR) (v v':Value) (wl':World),
   runNT Tryz.prog n M t=(.next (crowd gs' w' sl'),t'')/\gs'[0]?=some (G (c'.finish v') cs')/\Bes Tryz.prog Shun' gs' w' t'' q'/\zch SqP.prog (Frame.enter SqP.prog 22 #[.agg #[.int .i64 wd,.slice ga gl.length m]] .normal) (c::cs) wl (c.finish v) cs wl'/\R.le R'/\zaj R' v v' /\
   za9 N R' (wl'.tp w'.tape w'.drawn) w'/\(∀ b c,R' b c->¬ Shun' c)/\(∀ b c,R' b c->N<=b->N<=c)/\(∀ c,Shun' c->N<=c)/\Below N w w'):=by
  rintro n1 M t M' t' h1 ⟨n2,gs',w',sl',t'',q',Shun',R',v,v',wl',h2,h3⟩
  exact⟨n1+n2,gs',w',sl',t'',q',Shun',R',v,v',wl',by rw[runNT_add,h1];exact h2,h3⟩
 have hKc:∀ e,rng R e->e<w.heap.size/\¬ Shun e:=fun e ⟨b,hb⟩=>⟨(hw.lt hb).2,hSh b e hb⟩
 have hcl:∀ w1,Hp (held (rng R) w) w1->Closed (rng R) w1:=fun w1 hp=>zjj (zlJ hw) hp
 have hC1:∀ w1,Hp (held (rng R) w) w1->∀ τ d,Sp.zaf (w1.frz.tp τ d) ga' gl:=fun w1 hp τ d=>by
  rcases Nat.eq_zero_or_pos gl.length with h0|hposC
  ·exact .inl (List.eq_nil_of_length_eq_zero h0)
  exact zmK hCw (fun b off e=>by
   subst e
   have hb:rng R b:=by
    obtain⟨_,_,had⟩:=zaj.slice_fst hgr hposC
    exact⟨_,had.1⟩
   have hlt:=(hKc b hb).1
   have e2:w.heap[b]?=some w.heap[b]:=Array.getElem?_eq_getElem hlt
   rw[e2]
   exact hp (b,w.heap[b]) (zbn.2 ⟨hb,e2⟩)) τ d
 have hold:∀(wl1 u:World),Below wl.heap.size wl wl1->zcb (fun e=>e<w.heap.size/\¬ Shun e) w u->∀ b e,R b e->∃ o o',wl1.heap[b]?=some o/\u.heap[e]?=some o'/\zox R (b<N) o o':=fun wl1 u hb1 hk b e hbe=>by
  obtain⟨o,o',e1,e2,ho⟩:=hw.blk b e hbe
  have hl:=hw.lt hbe
  exact⟨o,o',(hb1.block b hl.1).trans e1,(hk.1 e ⟨hl.2,hSh b e hbe⟩).trans e2,ho⟩
 have hbelow:∀ u,zcb (fun e=>e<w.heap.size/\¬ Shun e) w u->Below N w u:=fun u hk=>⟨hk.2.2.1,hk.2.1,hk.2.2.2.1,hk.2.2.2.2,fun e he=>hk.1 e ⟨qg,fun h=>by have:=hShN e h;omega⟩⟩
 have hlow:N<=wl.heap.size:=hw.low
 rcases hk:Sp.okG wd gl with _|_
 ·skip
  obtain⟨vl,wl1,⟨rfl,hb1⟩,hd⟩:=zor tr0 (Post:=fun v w'=>v=.tuple #[.agg #[.int .i64 0,.slice none 0 0,.slice none 0 0,.slice none 0 0],.bool false]/\Below wl.heap.size wl w') ((Sp.zkL wd ga m gl wl hCl hn62 hk).mono fun e w' h=>⟨_,h.1,rfl,h.2⟩)
  refine zlN (L:=SqN.prog) (X:=fun _=>false=true) SqN.whole SqN.bodies (fun _ h=>by cases h) (zfx func34) (fun h=>by cases h) hG (fun p h=>(zbn.1 h).1) (zm9 _ w) hKc hcl (zeh hgr) (fun w hp τ d=>((Sp.zav wd ga' m gl _ (hC1 w hp τ d) qg).mono fun e w' h=>by rw[h.1,hk])) ?_
  intro u hu gs1 sl1 t1 q1 hB1 h01 _
  refine⟨0,gs1,u,sl1,t1,q1,Shun,R,_,_,wl1,rfl,h01,hB1,hd,BR.le_refl R,zqn R,⟨hw.one,hold wl1 u hb1 hu,rfl,rfl,?_⟩,hSh,hN,hShN,hbelow u hu⟩
  have:=hb1.size
  show N<=wl1.heap.size
  omega
 ·skip
  obtain⟨W,H,rfl,h1,h2,h3,h4,el,hH,hHI⟩:=Sp.zfG wd gl hk
  have hM:Sp.zbU (W:Int) gl=((2 * (W+H):Nat):Int):=by rw[Sp.zcw hk hHI];omega
  have hn25:gl.length<=25:=by rw[el];exact Nat.le_trans (Nat.mul_le_mul h2 h4) qg
  have hl0:0<gl.length:=by rw[el];exact Nat.mul_pos qg qg
  have hKl:∀ e,rng R e->∃ p∈held (rng R) w,p.1=e:=fun e he=>⟨(e,w.heap[e]'(hKc e he).1),zbn.2 ⟨he,Array.getElem?_eq_getElem (hKc e he).1⟩,rfl⟩
  refine zjK (L:=SqN.prog) (X:=fun _=>false=true) SqN.whole SqN.bodies (fun _ h=>by cases h) (zfx func34) (fun h=>by cases h) (zfx func35) (fun h=>by cases h) hG (M:=2 * (W+H)) (RowP:=zrx (W:Int) gl) (fun p h=>(zbn.1 h).1)
   (fun Sh0 c0 cs0 w0 hp hK hf=>zo3 (Shun:=Sh0) hG hk ⟨h1,h2⟩ ⟨h3,h4⟩ el hH hHI (fun p h=>(zbn.1 h).1) hcl hKl (zeh hgr) hC1 w0 hp hK (fun u bo xs bsf hu hbo hc hrows hdis Sh hS hnb hnbs=>hf u bo xs bsf Sh hu ⟨hbo,hc,hrows,hdis,hnb,hnbs⟩ hS))
   (objL:=Sp.ze6 (W:Int) gl (2 * (W+H)))
   (fun Sh0 c0 cs0 w0 hp hK hf=>znG (Shun:=Sh0) (Fin:=fun w1 v u Sh=>∃ bo,v=.slice (some ⟨bo,0,none⟩) (2 * (W+H)) (2 * (W+H))/\w1.heap.size<=bo/\u.heap[bo]?=some (Sp.ze6 (W:Int) gl (2 * (W+H)))/\¬ Sh bo/\∀ e,Sh e->Sh0 e\/w1.heap.size<=e) (Out:=fun v u Sh=>∃ bo,v=.slice (some ⟨bo,0,none⟩) (2 * (W+H)) (2 * (W+H))/\w0.heap.size<=bo/\u.heap[bo]?=some (Sp.ze6 (W:Int) gl (2 * (W+H)))/\¬ Sh bo/\∀ e,Sh e->Sh0 e\/w0.heap.size<=e) hG (fun p h=>(zbn.1 h).1) hp hK
    (fun c1 cs1 w1 hp1 hK1 hsz1 hf1=>zpH (Shun:=Sh0) hG hk ⟨h1,h2⟩ ⟨h3,h4⟩ el hH hHI (fun p h=>(zbn.1 h).1) hcl hKl (zeh hgr) hC1 w1 hp1 hK1 (fun u bo hu hbo hc Sh hS hnb=>hf1 _ u Sh hu ⟨bo,rfl,hbo,hc,hnb,hS⟩))
    (fun w1 v u u2 Sh ⟨bo,e,q1,q2,q3,q4⟩ hz hk2 hs2=>⟨bo,e,Nat.le_trans hz q1,(hk2 bo (gei q2).1).trans q2,q3,fun e he=>(q4 e he).imp id (Nat.le_trans hz)⟩)
    (fun v u Sh hu ⟨bo,e,q1,q2,q3,q4⟩=>by subst e;exact hf u bo Sh hu q1 q2 q3 q4))
   (objC:=(Sp.flat gl).toArray) (zm9 _ w) hKc hcl (zeh hgr) (fun w hp τ d=>((Sp.zav (W:Int) ga' m gl _ (hC1 w hp τ d) qg).mono fun e w' h=>by rw[h.1,hk]))
   (zgX:=zgX (W:Int) gl) (zqR:=zqR (W:Int) gl) (fun _ _ _ _ _ h=>h) (fun w hp τ d=>((Sp.zeG (W:Int) ga' m gl _ (hC1 w hp τ d) qg hl0).mono fun e w' ⟨g,e1,hO,hb⟩=>⟨_,e1,g,rfl,(zd2 w ▸ (zfH hO).1:w.heap.size<=g),(zfH hO).2⟩)) (zoT hl0) (fun v bs ⟨b,e1,e2⟩=>⟨b,e1,e2⟩) ?_
  intro w1 bs bc bl bf u2 xs bsf Sh hsz hkept ht ho hu hbs hbc hCo hnc hcs hk2 hbl hLo hnl hrl hlf hF hShS gs1 sl1 t1 q1 hB1 h01 _
  have hkw:zcb (fun e=>e<w.heap.size/\¬ Shun e) w u2:=⟨fun e he=>(hk2.1 e ⟨by have:=he.1;omega,he.2,by have:=he.1;omega⟩).trans (hkept e he.1),hk2.2.1.trans ht,hk2.2.2.1.trans ho,hk2.2.2.2.1.trans hu,by have:=hk2.2.2.2.2;omega⟩
  have hbc1:=(gei hCo).1
  have hCu:u2.heap[bc]?=some (.cells (Sp.flat gl).toArray 60):=(hk2.1 bc ⟨hbc1,hnc,hcs⟩).trans hCo
  obtain⟨wl',gc,ll,lf,arrL,arrF,xl,hI,hd⟩:=zr4 (C:=fun k=>max 1 (zbI (xs k))) hCl hk hn25 hl0 hM qg (fun k hkM=>by
   rcases (hF.row k hkM).1 with ⟨e,e2,_⟩|⟨b,C,e,q1,q2,q3,_⟩
   ·rw[e,e2]
    simp[zbI,maxLen]
   ·rw[e]
    simp only[zbI]
    omega) tr0
  have hIl:=hI.lt
  have hzl:wl.heap.size<=wl'.heap.size:=hI.below.size
  have hrow:∀ k,k<2 * (W+H)->(xl k=.slice none 0 0/\xs k=.slice none 0 0)\/∃ b e C,xl k=.slice (some ⟨b,0,none⟩) (Sp.zar (W:Int) gl (k:Int)).length C/\xs k=.slice (some ⟨e,0,none⟩) (Sp.zar (W:Int) gl (k:Int)).length C/\wl'.heap[b]?=some (.cells (zgl (Sp.zar (W:Int) gl (k:Int)) C) 3)/\u2.heap[e]?=some (.cells (zgl (Sp.zar (W:Int) gl (k:Int)) C) 3)/\lf<b/\w1.heap.size<=e/\e≠bf/\e≠bl/\¬ Sh e:=by
   intro k hkM
   rcases (hF.row k hkM).1 with ⟨e,e2,_⟩|⟨b,C,e,q1,q2,q3,q4⟩
   ·rcases (hI.row k hkM).1 with ⟨f,_⟩|⟨g,cp,_,_,f,_⟩
    ·exact .inl ⟨f,e⟩
    ·rw[e2] at f;simp at f
   ·rcases (hI.row k hkM).1 with ⟨_,f⟩|⟨g,cp,f,f1,f2,f3,f4,f5⟩
    ·rw[f] at q1;simp at q1
    ·have hcp:cp=C:=by
      rcases (hI.row k hkM).2 with z|z
      ·rw[f] at z;simp at z
      ·rw[f,e] at z
       simp only[zbI] at z
       omega
     subst hcp
     have hmem:(b,Obj.cells (zgl (Sp.zar (W:Int) gl (k:Int)) cp) 3)∈bsf k:=by rw[q4];simp
     exact .inr ⟨g,b,cp,f,e,f5,(hF.row k hkM).2.1 _ hmem,hI.apart k hkM g (by rw[f];rfl),((hF.row k hkM).2.2 _ hmem).1,((hF.row k hkM).2.2 _ hmem).2,hrl k hkM _ hmem,hF.rows k hkM _ hmem⟩
  have rowL:∀ k b,k<2 * (W+H)->(xl k).ownBlock=some b->lf<b:=fun k b hkM hb=>hI.apart k hkM b hb
  have rowR:∀ k e,k<2 * (W+H)->(xs k).ownBlock=some e->w1.heap.size<=e/\e≠bf/\e≠bl/\¬ Sh e:=fun k e hkM he=>by
   rcases hrow k hkM with ⟨_,f⟩|⟨b,e',C,_,f,_,_,_,g1,g2,g3,g4⟩
   ·rw[f] at he;simp[Value.ownBlock] at he
   ·rw[f] at he
    simp[Value.ownBlock] at he
    subst he
    exact⟨g1,g2,g3,g4⟩
  have onceR:∀ k k' e,k<2 * (W+H)->k'<2 * (W+H)->(xs k).ownBlock=some e->(xs k').ownBlock=some e->k=k':=fun k k' e hkM hkM' he he'=>by
   rcases (hF.row k hkM).1 with ⟨f,_⟩|⟨b,C,f,_,_,_,f4⟩
   ·rw[f] at he;simp[Value.ownBlock] at he
   ·rcases (hF.row k' hkM').1 with ⟨f',_⟩|⟨b',C',f',_,_,_,f4'⟩
    ·rw[f'] at he';simp[Value.ownBlock] at he'
    ·rw[f] at he
     rw[f'] at he'
     simp[Value.ownBlock] at he he'
     exact hF.once k k' _ _ hkM hkM' (by rw[f4];exact List.mem_singleton.2 rfl) (by rw[f4'];exact List.mem_singleton.2 rfl) (by simp[he,he'])
  obtain⟨R',hR'⟩:∃ R':BR,R'=fun b e=>R b e\/(b=gc/\e=bc)\/(b=ll/\e=bl)\/(b=lf/\e=bf)\/∃ k,k<2 * (W+H)/\(xl k).ownBlock=some b/\(xs k).ownBlock=some e:=⟨_,rfl⟩
  have hltR:∀ {b e},R b e->b<wl.heap.size/\e<w.heap.size:=fun h=>hw.lt h
  have hbfn:=hF.new
  have hone:R'.One:=by
   rw[hR']
   refine⟨fun b e e' x y=>?_,fun b b' e x y=>?_⟩
   ·rcases x with x|⟨x1,x2⟩|⟨x1,x2⟩|⟨x1,x2⟩|⟨k,hkM,x1,x2⟩ <;> rcases y with y|⟨y1,y2⟩|⟨y1,y2⟩|⟨y1,y2⟩|⟨k',hkM',y1,y2⟩
    ·exact hw.one.1 _ _ _ x y
    all_goals first
     | omega
     | (have:=hltR x;omega)
     | (have:=hltR y;omega)
     | (have:=hltR x;have:=rowL k' b hkM' y1;omega)
     | (have:=hltR y;have:=rowL k b hkM x1;omega)
     | (have:=rowL k' b hkM' y1;omega)
     | (have:=rowL k b hkM x1;omega)
     | (have:=hI.once k k' b hkM hkM' x1 y1;subst this;rw[x2] at y2;exact Option.some.inj y2)
   ·rcases x with x|⟨x1,x2⟩|⟨x1,x2⟩|⟨x1,x2⟩|⟨k,hkM,x1,x2⟩ <;> rcases y with y|⟨y1,y2⟩|⟨y1,y2⟩|⟨y1,y2⟩|⟨k',hkM',y1,y2⟩
    ·exact hw.one.2 _ _ _ x y
    all_goals first
     | omega
     | (have:=hltR x;omega)
     | (have:=hltR y;omega)
     | (have:=hltR x;have:=rowR k' e hkM' y2;omega)
     | (have:=hltR y;have:=rowR k e hkM x2;omega)
     | (have:=rowR k' e hkM' y2;omega)
     | (have:=rowR k e hkM x2;omega)
     | (have:=onceR k k' e hkM hkM' x2 y2;subst this;rw[x1] at y1;exact Option.some.inj y1)
  have hle:R.le R':=⟨fun _ _ h=>by rw[hR'];exact Or.inl h,fun _=>hone⟩
  have inC:R' gc bc:=by rw[hR'];exact .inr (.inl ⟨rfl,rfl⟩)
  have inL:R' ll bl:=by rw[hR'];exact .inr (.inr (.inl ⟨rfl,rfl⟩))
  have inF:R' lf bf:=by rw[hR'];exact .inr (.inr (.inr (.inl ⟨rfl,rfl⟩)))
  have inR:∀ k b e,k<2 * (W+H)->(xl k).ownBlock=some b->(xs k).ownBlock=some e->R' b e:=fun k b e hkM x1 x2=>by rw[hR'];exact .inr (.inr (.inr (.inr ⟨k,hkM,x1,x2⟩)))
  have cases':∀ {b e},R' b e->R b e\/(b=gc/\e=bc)\/(b=ll/\e=bl)\/(b=lf/\e=bf)\/∃ k,k<2 * (W+H)/\(xl k).ownBlock=some b/\(xs k).ownBlock=some e:=fun h=>by rw[hR'] at h;exact h
  have hgc:=zfH hI.grid
  refine⟨0,gs1,u2,sl1,t1,q1,Sh,R',_,_,wl',rfl,h01,hB1,hd,hle,znV inC inL inF,⟨hone,?_,rfl,rfl,?_⟩,?_,?_,?_,hbelow u2 hkw⟩
  ·intro b e hbe
   rcases cases' hbe with hbe|⟨rfl,rfl⟩|⟨rfl,rfl⟩|⟨rfl,rfl⟩|⟨k,hkM,x1,x2⟩
   ·obtain⟨o,o',e1,e2,ho⟩:=hold (wl'.tp wl.tape wl.drawn) u2 hI.below hkw b e hbe
    exact⟨o,o',e1,e2,ho.mono hle⟩
   ·exact⟨_,_,hgc.2,hCu,.cells (zks (zh0 gl)) (fun h=>qg) (fun _=>rfl)⟩
   ·refine⟨_,_,hI.lights,hLo,.cells ⟨by simp[hI.sizeL],fun i hi1 hi2=>?_⟩ (fun h=>qg) (fun _=>rfl)⟩
    have hi:i<2 * (W+H):=by rw[hI.sizeL] at hi1;exact hi1
    have e1:=hI.atL i hi
    rw[Array.getElem?_eq_getElem hi1] at e1
    rw[Option.some.inj e1]
    simp only[Array.getElem_ofFn]
    exact .int _ _
   ·refine⟨_,_,hI.feet,hF.all,.cells ⟨by simp[hI.sizeF],fun i hi1 hi2=>?_⟩ (fun h=>qg) (fun _=>rfl)⟩
    have hi:i<2 * (W+H):=by rw[hI.sizeF] at hi1;exact hi1
    have e1:=hI.atF i hi
    rw[Array.getElem?_eq_getElem hi1] at e1
    rw[Option.some.inj e1]
    simp only[Array.getElem_ofFn]
    rcases hrow i hi with ⟨f1,f2⟩|⟨b,e,C,f1,f2,_⟩
    ·rw[f1,f2]
     exact .nilSlice _ _
    ·rw[f1,f2]
     exact .slice _ _ ⟨inR i b e hi (by rw[f1];rfl) (by rw[f2];rfl),rfl,rfl⟩
   ·rcases hrow k hkM with ⟨f1,_⟩|⟨b',e',C,f1,f2,f3,f4,f5,_⟩
    ·rw[f1] at x1;simp[Value.ownBlock] at x1
    ·rw[f1] at x1
     rw[f2] at x2
     simp[Value.ownBlock] at x1 x2
     subst x1
     subst x2
     exact⟨_,_,f3,f4,.cells (zks (ziU _ _)) (fun h=>qg) (fun _=>rfl)⟩
  ·show N<=wl'.heap.size
   omega
  ·intro b e hbe hs
   rcases cases' hbe with hbe|⟨rfl,rfl⟩|⟨rfl,rfl⟩|⟨rfl,rfl⟩|⟨k,hkM,x1,x2⟩
   ·rcases hShS e hs with x|x
    ·exact hSh b e hbe x
    ·have:=(hltR hbe).2
     omega
   ·rcases hShS _ hs with x|x
    ·exact hnc x
    ·omega
   ·exact hnl hs
   ·exact hF.seen hs
   ·exact(rowR k e hkM x2).2.2.2 hs
  ·intro b e hbe hb
   rcases cases' hbe with hbe|⟨rfl,rfl⟩|⟨rfl,rfl⟩|⟨rfl,rfl⟩|⟨k,hkM,x1,x2⟩
   ·exact hN b e hbe hb
   ·omega
   ·omega
   ·omega
   ·have:=(rowR k e hkM x2).1;omega
  ·intro e he
   rcases hShS e he with x|x
   ·exact hShN e x
   ·omega
