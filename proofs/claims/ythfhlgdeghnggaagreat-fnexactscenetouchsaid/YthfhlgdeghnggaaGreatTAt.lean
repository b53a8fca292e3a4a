/- Part. -/
import Derived.Test.YthfhlgdeghnggaaGreatTAk
set_option maxHeartbeats 40000000
set_option linter.unusedVariables false
namespace Go.Proofs.YthfhlgdeghnggaaGreat
variable{listed:Array Bool}{objC:Array Value}{Ex:Event->Prop}{X:FuncId->Prop}{wd:Int}{l l0:List (Nat × Obj)}{rest:List Nat}{Q:List Nat->Prop}{M bg cap fuel n:Nat}{Stop:Nat->(Nat->Prop)->Goroutine->World->Prop}{Snd:Nat->(Nat->Prop)->Value->World->Prop}{K Kc S S1 S2 Shun:Nat->Prop}{RowP:Nat->Value->List (Nat × Obj)->Prop}{objL:Obj}{ga:Option Addr}{zgw:Value->List (Nat × Obj)->Prop}{w w1:World}{Live:World->Prop}{zbW:World->Value->World->Prop}
section
open Go Go.Conc Go.ConcN Go.RowKit Go.Conc.Lib Go.ConcR.Gen Go.ConcN.Gen
open Go.ConcR (KK wgBlock WgAt stA smA rd wr mk Payload Aside2 DC0)
section
variable{Goal:Machine->Trace->Prop}{c:Frame}{cs:List Frame}
def zrj(Goal:Machine->Trace->Prop)(c:Frame)(cs:List Frame)(wd:Int)(n M:Nat)(RowP:Nat->Value->List (Nat × Obj)->Prop)(objL:Obj)(objC:Array Value)(Shun:Nat->Prop)(w:World):Prop :=
 ∀(w1:World) (bs bc bl bf:Nat) (u2:World) (xs:Nat->Value) (bsf:Nat->List (Nat × Obj)) (Sh:Nat->Prop),w.heap.size<=w1.heap.size->(∀ e,e<w.heap.size->w1.heap[e]?=w.heap[e]?)->w1.tape=w.tape->w1.os=w.os->w1.output=w.output->w.heap.size<=bs->w.heap.size<=bc->w1.heap[bc]?=some (.cells objC 48)->¬ Shun bc->bc≠bs ->
   zb6 (fun e=>e<w1.heap.size/\¬ Shun e/\e≠bs) w1 u2->w1.heap.size<=bl->u2.heap[bl]?=some objL->¬ Sh bl->(∀ k,k<M->∀ p∈bsf k,p.1≠bl)->bl≠bf->zdP RowP M w1.heap.size u2 bf xs bsf Sh->(∀ e,Sh e->Shun e\/w1.heap.size<=e)->zar Tryz.prog Goal Sh (fun _=>False) (G (c.finish (.tuple #[.agg #[.int .i64 wd,.slice (some ⟨bc,0,none⟩) n n,.slice (some ⟨bl,0,none⟩) M M,.slice (some ⟨bf,0,none⟩) M M],.bool true])) cs) u2
theorem zaf{ops:Array Oper}(i:Nat)(hr:Region.ready .any ops listed=[i])(h:zbV ops fuel (listed.setIfInBounds i true) fun r=>Q (i::r)):zbV ops (fuel+1) listed Q :=
 zcS hr (by simp) fun j hj=>by obtain rfl:=List.mem_singleton.1 hj;exact h
theorem za1{ops:Array Oper}(i j:Nat)(hr:Region.ready .any ops listed=[i,j])(h:zbV ops fuel (listed.setIfInBounds i true) fun r=>Q (i::r))(h':zbV ops fuel (listed.setIfInBounds j true) fun r=>Q (j::r)):zbV ops (fuel+1) listed Q :=
 zcS hr (by simp) fun x hx=>by
  rcases List.mem_cons.1 hx with rfl|hx
  ·exact h
  ·obtain rfl:=List.mem_singleton.1 hx;exact h'
theorem zeK{ops:Array Oper}(i j k:Nat)(hr:Region.ready .any ops listed=[i,j,k])(h:zbV ops fuel (listed.setIfInBounds i true) fun r=>Q (i::r))(h':zbV ops fuel (listed.setIfInBounds j true) fun r=>Q (j::r))(h'':zbV ops fuel (listed.setIfInBounds k true) fun r=>Q (k::r)):zbV ops (fuel+1) listed Q :=
 zcS hr (by simp) fun x hx=>by
  rcases List.mem_cons.1 hx with rfl|hx
  ·exact h
  ·rcases List.mem_cons.1 hx with rfl|hx
   ·exact h'
   ·obtain rfl:=List.mem_singleton.1 hx;exact h''
theorem ldG{main:Bool}{ch:Nat}{σ:Nat}{b:Frame}{a:Act}{k:List Item}{cs:List Frame}{ops:Array Oper}{i:Nat}{o:Oper}(ho:ops[i]?=some o)(hw:Region.wanted o (yielded ops a.tmps)=true)(hk:b.kind≠.early)(e1:o.op=.load 33 (.tmp 1))(e2:a.tmps[1]?.getD undef=.pointer (some ⟨bg,0,none⟩))(hm:(bg,.cells #[.int .i64 wd,.slice ga n cap] 33)∈l)(hn:zag Tryz.prog main Live Ex Stop Snd ch K l σ S (G (b.at (a.put o.dst (.agg #[.int .i64 wd,.slice ga n cap])) (.inRegion ops rest::k)) cs)):zag Tryz.prog main Live Ex Stop Snd ch K l σ S (G (b.at a (.inRegion ops (i::rest)::k)) cs):=by
 refine zag.val ho hw hk (v:=.agg #[.int .i64 wd,.slice ga n cap]) (fun w hp=>?_) (fun hl w hp e he=>?_) hn
 ·have c0:w.cell? ⟨bg,0,none⟩=some (.int .i64 wd):=hp.cell hm 0 rfl
  have c1:w.cell? ⟨bg,1,none⟩=some (.slice ga n cap):=hp.cell hm 1 rfl
  obtain⟨dst,op,ty,pos,aft,gd⟩:=o
  obtain rfl:op=_:=e1
  clear ho hw hn hm
  simp[go_sem, *]
 ·have c0:w.cell? ⟨bg,0,none⟩=some (.int .i64 wd):=hp.cell hm 0 rfl
  have c1:w.cell? ⟨bg,1,none⟩=some (.slice ga n cap):=hp.cell hm 1 rfl
  obtain⟨dst,op,ty,pos,aft,gd⟩:=o
  obtain rfl:op=_:=e1
  clear ho hw hn
  simp[go_sem, *] at he
  rcases he with rfl|rfl
  all_goals exact zau hl hm _
theorem zmR(hG:za9 Tryz.prog Goal)(hl0:∀ p∈l0,Kc p.1)(hfeet:zjl Goal wd ga n cap M l0 Kc RowP)(hpic:zsb Goal wd ga n cap M l0 Kc objL)(hend:zrj Goal c cs wd n M RowP objL objC Shun w){bs bc:Nat}(hp1:Hp ((bc,.cells objC 48)::(bs,.cells #[.int .i64 0,.slice none 0 0,.slice none 0 0,.slice none 0 0] 35)::(bg,.cells #[.int .i64 wd,.slice ga n cap] 33)::l0) w1)(q1:w.heap.size<=w1.heap.size)(q2:∀ d,((((False\/d=bg)\/d=bs)\/S1 d)\/S2 d)->False\/w.heap.size<=d)(q4:∀ d,Kc d\/((((False\/d=bg)\/d=bs)\/S1 d)\/S2 d)->d<w1.heap.size/\¬ Shun d/\¬ False)(q6:∀ d,d<w.heap.size->¬ False->w1.heap[d]?=w.heap[d]?)(q7:w1.tape=w.tape)(q8:w1.os=w.os)(q9:w1.output=w.output)(hb2:S2 bc/\¬ Kc bc/\¬ (((False\/bc=bg)\/bc=bs)\/S1 bc))(y0 y3 y4 y5 y6 y7 y8 y11 y13 y14:Value) :
  zar Tryz.prog Goal Shun (fun _=>False) (G ((base 54).at ⟨#[y0,.pointer (some ⟨bg,0,none⟩),.pointer (some ⟨bs,0,none⟩),y3,y4,y5,y6,y7,y8,.agg #[.int .i64 wd,.slice (some ⟨bc,0,none⟩) n n],.agg #[.int .i64 wd,.slice ga n cap],y11,.agg #[.int .i64 wd,.slice ga n cap],y13,y14],[]⟩ [.inRegion ze1 [3,5,6,7,8],.code .ret]) (c::cs)) w1 :=
 ztd hG hl0 hfeet hpic (fun p h=>hp1 p (mcm (mcm (mcm h)))) (fun e he=>⟨(q4 e (.inl he)).1,(q4 e (.inl he)).2.1⟩) (hp1 _ (mcm mcs)) (q4 bs (.inr (.inl (.inl (.inr rfl))))).2.1 (hp1 _ (mcm (mcm mcs))) (q4 bg (.inr (.inl (.inl (.inl (.inr rfl)))))).2.1 (fun u2 bl bf xs bsf Sh k1 k2 k3 k4 k5 k6 k7 k8=>hend w1 bs bc bl bf u2 xs bsf Sh q1 (fun e he=>q6 e he (fun h=>h)) q7 q8 q9 ((q2 bs (.inl (.inl (.inr rfl)))).resolve_left id) ((q2 bc (.inr hb2.1)).resolve_left id) (hp1 _ mcs) (q4 bc (.inr (.inr hb2.1))).2.1 (fun e=>by subst e;exact hb2.2.2 (.inl (.inr rfl))) k1 k2 k3 k4 k5 k6 k7 k8) y0 y3 y4 y5 y6 y7 y8 y11 y13 y14
theorem zs2(hG:za9 Tryz.prog Goal)(hl0:∀ p∈l0,Kc p.1)(hfeet:zjl Goal wd ga n cap M l0 Kc RowP)(hpic:zsb Goal wd ga n cap M l0 Kc objL)(hend:zrj Goal c cs wd n M RowP objL objC Shun w){bs bc:Nat}(hp1:Hp ((bc,.cells objC 48)::(bs,.cells #[.int .i64 0,.slice none 0 0,.slice none 0 0,.slice none 0 0] 35)::(bg,.cells #[.int .i64 wd,.slice ga n cap] 33)::l0) w1)(q1:w.heap.size<=w1.heap.size)(q2:∀ d,((((False\/d=bg)\/d=bs)\/S1 d)\/S2 d)->False\/w.heap.size<=d)(q4:∀ d,Kc d\/((((False\/d=bg)\/d=bs)\/S1 d)\/S2 d)->d<w1.heap.size/\¬ Shun d/\¬ False)(q6:∀ d,d<w.heap.size->¬ False->w1.heap[d]?=w.heap[d]?)(q7:w1.tape=w.tape)(q8:w1.os=w.os)(q9:w1.output=w.output)(hb2:S2 bc/\¬ Kc bc/\¬ (((False\/bc=bg)\/bc=bs)\/S1 bc))(y0 y3 y4 y5 y6 y7 y8 y11 y12 y13 y14:Value) :
  zar Tryz.prog Goal Shun (fun _=>False) (G ((base 54).at ⟨#[y0,.pointer (some ⟨bg,0,none⟩),.pointer (some ⟨bs,0,none⟩),y3,y4,y5,y6,y7,y8,.agg #[.int .i64 wd,.slice (some ⟨bc,0,none⟩) n n],.agg #[.int .i64 wd,.slice ga n cap],y11,y12,y13,y14],[]⟩ [.inRegion ze1 [3,4,5,6,7,8],.code .ret]) (c::cs)) w1 :=
 zte hG hl0 hfeet hpic (fun p h=>hp1 p (mcm (mcm (mcm h)))) (fun e he=>⟨(q4 e (.inl he)).1,(q4 e (.inl he)).2.1⟩) (hp1 _ (mcm mcs)) (q4 bs (.inr (.inl (.inl (.inr rfl))))).2.1 (hp1 _ (mcm (mcm mcs))) (q4 bg (.inr (.inl (.inl (.inl (.inr rfl)))))).2.1 (fun u2 bl bf xs bsf Sh k1 k2 k3 k4 k5 k6 k7 k8=>hend w1 bs bc bl bf u2 xs bsf Sh q1 (fun e he=>q6 e he (fun h=>h)) q7 q8 q9 ((q2 bs (.inl (.inl (.inr rfl)))).resolve_left id) ((q2 bc (.inr hb2.1)).resolve_left id) (hp1 _ mcs) (q4 bc (.inr (.inr hb2.1))).2.1 (fun e=>by subst e;exact hb2.2.2 (.inl (.inr rfl))) k1 k2 k3 k4 k5 k6 k7 k8) y0 y3 y4 y5 y6 y7 y8 y11 y12 y13 y14
set_option maxRecDepth 100000 in
theorem zj9{L:Program}[T:zaB L Tryz.prog][zaB L L](W:Whole L)(B:Bodies L Tryz.prog X)(hX:zji L X)(hf3:L.funcs[71]?=some Tryz.f71)(hx3:¬ X 71)(hfc:L.funcs[72]?=some Tryz.f72)(hxc:¬ X 72)(hG:za9 Tryz.prog Goal)(hl0:∀ p∈l0,Kc p.1)(hfeet:zjl Goal wd ga n cap M l0 Kc RowP)(hpic:zsb Goal wd ga n cap M l0 Kc objL)(hp0:Hp l0 w)(hK0:∀ e,Kc e->e<w.heap.size/\¬ Shun e)(hcl:∀ w,Hp l0 w->Closed Kc w)(hga:zao (zcu Kc) (.slice ga n cap) (.slice ga n cap))(hok:∀ w,Hp l0 w->∀ τ d,Calls L 71 #[.agg #[.int .i64 wd,.slice ga n cap]] (w.frz.tp τ d) fun e _=>e=.returned (.bool true))(hPC:∀ w0 v w τ d,zbW w0 v w->zbW w0 v (w.tp τ d))(hcopy:∀ w,Hp l0 w->∀ τ d,Calls L 72 #[.agg #[.int .i64 wd,.slice ga n cap]] (w.frz.tp τ d) fun e w'=>∃ v,e=.returned v/\zbW w v w')(hQC:∀ w0 v v' R wl w₁,zbW w0 v wl->zao R v v'->zbb w0.heap.size R wl w₁->∃ bs,zgw v' bs/\Hp bs w₁/\∀ p∈bs,zbC w0.heap.size R p.1)(hRC:∀ v bs,zgw v bs->∃ bc,v=.agg #[.int .i64 wd,.slice (some ⟨bc,0,none⟩) n n]/\bs=[(bc,.cells objC 48)])(hend:zrj Goal c cs wd n M RowP objL objC Shun w) :
  zar Tryz.prog Goal Shun (fun _=>False) (G (Frame.enter Tryz.prog 54 #[.agg #[.int .i64 wd,.slice ga n cap]] .normal) (c::cs)) w:=by
 have hLa:∀(w:World) (o:Obj),(fun _:World=>True) w->(fun _:World=>True) (w.alloc o):=fun _ _ h=>h
 refine zar.way hG (ch:=0) (K:=Kc) (S:=fun _=>False) (l:=l0) (lx:=[]) hp0 (fun p h=>.inl (hl0 p h)) (fun _ h=>by cases h) (fun _ h=>by cases h) (fun _ h=>h.elim) (fun c hc=>⟨(hK0 c (hc.elim id fun x=>x.elim)).1,(hK0 c (hc.elim id fun x=>x.elim)).2,fun h=>h⟩) ?_
 rw[enter_at _ Tryz.func54 rfl]
 walk_nrmf Tryz.f54
 refine zag.sq ?_
 refine zag.rg ?_
 simp only[List.size_toArray,List.length_cons,List.length_nil,Nat.reduceAdd,Nat.zero_add,List.range,List.range.loop]
 refine zag.new hLa rfl rfl (by decide) (V:=fun c=>.pointer (some ⟨c,0,none⟩)) (obj:=.cells #[.int .i64 wd,.slice ga n cap] 33) (fun w hp=>by go_simp) (fun _ w hp e he=>by simp[go_sem] at he) fun bg hK_bg hS_bg=>?_
 walk_nrm
 refine zag.new hLa rfl rfl (by decide) (V:=fun c=>.pointer (some ⟨c,0,none⟩)) (obj:=.cells #[.int .i64 0,.slice none 0 0,.slice none 0 0,.slice none 0 0] 35) (fun w hp=>by go_simp) (fun _ w hp e he=>by simp[go_sem] at he) fun bs hK_bs hS_bs=>?_
 walk_nrm
 refine zag.val rfl rfl (by decide) (v:=.bool false) (fun w hp=>by go_simp) (fun _ w hp e he=>by simp[go_sem] at he) ?_
 walk_nrm
 refine zag.re ?_
 refine zag.sq ?_
 refine zag.sq ?_
 refine zag.rg ?_
 simp only[List.size_toArray,List.length_cons,List.length_nil,Nat.reduceAdd,Nat.zero_add,List.range,List.range.loop]
 refine ldG rfl rfl (by decide) rfl rfl (mcm mcs) ?_
 walk_nrm
 have hcl1:∀ w,Hp ((bs,.cells #[.int .i64 0,.slice none 0 0,.slice none 0 0,.slice none 0 0] 35)::(bg,.cells #[.int .i64 wd,.slice ga n cap] 33)::l0) w->Closed Kc w:=fun w hp=>hcl w fun p h=>hp p (mcm (mcm h))
 refine zag.enter rfl rfl (by decide) (fun w=>run_call_body rfl Tryz.func71 rfl rfl) (fun w=>events_call_body rfl Tryz.func71 rfl rfl _) ?_
 walk_nrm
 refine zag.callv (Kc:=Kc) (Lv:=fun _=>False) W B (fun _ _ _ _=>trivial) (fun _ _ _ h=>h.elim) hX hf3 rfl hx3 (by kernel_rfl) (v0:=.bool true) (fun _ _ h=>zbw h) (fun _ h=>h) hcl1 (zax _ hga) (fun w hp=>hok w fun p h=>hp p (mcm (mcm h))) fun S1=>?_
 simp only[Frame.finish_at]
 walk_nrm
 refine zag.val rfl rfl (by decide) (v:=.bool false) (fun w hp=>by go_simp) (fun _ w hp e he=>by simp[go_sem] at he) ?_
 walk_nrm
 refine zag.re ?_
 refine zag.ctl rfl (fun _=>stepG_cond (t:=false) rfl) ?_
 simp only[Bool.false_eq_true,↓reduceIte]
 refine zag.ctl rfl (fun _=>stepG_skip) ?_
 refine zag.sq ?_
 have hcp:∀ w,Hp ((bs,.cells #[.int .i64 0,.slice none 0 0,.slice none 0 0,.slice none 0 0] 35)::(bg,.cells #[.int .i64 wd,.slice ga n cap] 33)::l0) w->_:=fun w hp=>hcopy w fun p h=>hp p (mcm (mcm h))
 refine zag.draw (by kernel_rfl) (fun _ h=>h) ?_
 refine zeK 0 2 4 (by kernel_rfl) ?_ ?_ ?_
 ·refine zeK 1 2 4 (by kernel_rfl) ?_ ?_ ?_
  ·refine za1 2 4 (by kernel_rfl) ?_ ?_
   ·refine za1 3 4 (by kernel_rfl) ?_ ?_
    ·refine zaf 4 (by kernel_rfl) ?_
     refine zaf 5 (by kernel_rfl) ?_
     refine zaf 6 (by kernel_rfl) ?_
     refine zaf 7 (by kernel_rfl) ?_
     refine zaf 8 (by kernel_rfl) ?_
     refine zaD (by kernel_rfl) ?_
     refine ldG rfl rfl (by decide) rfl rfl (mcm mcs) ?_
     walk_nrm
     refine zag.enter rfl rfl (by decide) (fun w=>run_call_body rfl Tryz.func72 rfl rfl) (fun w=>events_call_body rfl Tryz.func72 rfl rfl _) ?_
     walk_nrm
     refine zag.callMb (Kc:=Kc) (Lv:=fun _=>False) (Post:=zbW) (Q:=zgw) W B (fun _ _ _ _=>trivial) (fun _ _ _ h=>h.elim) hX hfc rfl hxc hPC (fun _ h=>h) hcl1 (zax _ hga) hcp hQC fun S2 v2 b2 hq2 hb2 hl2=>?_
     obtain⟨bc,rfl,rfl⟩:=hRC v2 b2 hq2
     simp only[Frame.finish_at,List.cons_append,List.nil_append]
     walk_nrm
     refine ldG rfl rfl (by decide) rfl rfl (mcm (mcm mcs)) ?_
     walk_nrm
     exact zag.stop fun hl1 w1 hp1 _ hlt1 q1 q2 q3 q4 q5 q6 q7 q8 q9=>zs2 hG hl0 hfeet hpic hend hp1 q1 q2 q4 q6 q7 q8 q9 (hb2 _ (List.mem_singleton.2 rfl)) _ _ _ _ _ _ _ _ _ _ _
    ·refine zaf 3 (by kernel_rfl) ?_
     refine zaf 5 (by kernel_rfl) ?_
     refine zaf 6 (by kernel_rfl) ?_
     refine zaf 7 (by kernel_rfl) ?_
     refine zaf 8 (by kernel_rfl) ?_
     refine zaD (by kernel_rfl) ?_
     refine ldG rfl rfl (by decide) rfl rfl (mcm mcs) ?_
     walk_nrm
     refine zag.enter rfl rfl (by decide) (fun w=>run_call_body rfl Tryz.func72 rfl rfl) (fun w=>events_call_body rfl Tryz.func72 rfl rfl _) ?_
     walk_nrm
     refine zag.callMb (Kc:=Kc) (Lv:=fun _=>False) (Post:=zbW) (Q:=zgw) W B (fun _ _ _ _=>trivial) (fun _ _ _ h=>h.elim) hX hfc rfl hxc hPC (fun _ h=>h) hcl1 (zax _ hga) hcp hQC fun S2 v2 b2 hq2 hb2 hl2=>?_
     obtain⟨bc,rfl,rfl⟩:=hRC v2 b2 hq2
     simp only[Frame.finish_at,List.cons_append,List.nil_append]
     walk_nrm
     refine ldG rfl rfl (by decide) rfl rfl (mcm (mcm mcs)) ?_
     walk_nrm
     refine ldG rfl rfl (by decide) rfl rfl (mcm (mcm mcs)) ?_
     walk_nrm
     exact zag.stop fun hl1 w1 hp1 _ hlt1 q1 q2 q3 q4 q5 q6 q7 q8 q9=>zmR hG hl0 hfeet hpic hend hp1 q1 q2 q4 q6 q7 q8 q9 (hb2 _ (List.mem_singleton.2 rfl)) _ _ _ _ _ _ _ _ _ _
   ·refine zaf 2 (by kernel_rfl) ?_
    refine zaf 3 (by kernel_rfl) ?_
    refine zaf 5 (by kernel_rfl) ?_
    refine zaf 6 (by kernel_rfl) ?_
    refine zaf 7 (by kernel_rfl) ?_
    refine zaf 8 (by kernel_rfl) ?_
    refine zaD (by kernel_rfl) ?_
    refine ldG rfl rfl (by decide) rfl rfl (mcm mcs) ?_
    walk_nrm
    refine zag.enter rfl rfl (by decide) (fun w=>run_call_body rfl Tryz.func72 rfl rfl) (fun w=>events_call_body rfl Tryz.func72 rfl rfl _) ?_
    walk_nrm
    refine zag.callMb (Kc:=Kc) (Lv:=fun _=>False) (Post:=zbW) (Q:=zgw) W B (fun _ _ _ _=>trivial) (fun _ _ _ h=>h.elim) hX hfc rfl hxc hPC (fun _ h=>h) hcl1 (zax _ hga) hcp hQC fun S2 v2 b2 hq2 hb2 hl2=>?_
    obtain⟨bc,rfl,rfl⟩:=hRC v2 b2 hq2
    simp only[Frame.finish_at,List.cons_append,List.nil_append]
    walk_nrm
    refine ldG rfl rfl (by decide) rfl rfl (mcm (mcm mcs)) ?_
    walk_nrm
    refine ldG rfl rfl (by decide) rfl rfl (mcm (mcm mcs)) ?_
    walk_nrm
    exact zag.stop fun hl1 w1 hp1 _ hlt1 q1 q2 q3 q4 q5 q6 q7 q8 q9=>zmR hG hl0 hfeet hpic hend hp1 q1 q2 q4 q6 q7 q8 q9 (hb2 _ (List.mem_singleton.2 rfl)) _ _ _ _ _ _ _ _ _ _
  ·refine za1 1 4 (by kernel_rfl) ?_ ?_
   ·refine za1 3 4 (by kernel_rfl) ?_ ?_
    ·refine zaf 4 (by kernel_rfl) ?_
     refine zaf 5 (by kernel_rfl) ?_
     refine zaf 6 (by kernel_rfl) ?_
     refine zaf 7 (by kernel_rfl) ?_
     refine zaf 8 (by kernel_rfl) ?_
     refine zaD (by kernel_rfl) ?_
     refine ldG rfl rfl (by decide) rfl rfl (mcm mcs) ?_
     walk_nrm
     refine ldG rfl rfl (by decide) rfl rfl (mcm mcs) ?_
     walk_nrm
     refine zag.enter rfl rfl (by decide) (fun w=>run_call_body rfl Tryz.func72 rfl rfl) (fun w=>events_call_body rfl Tryz.func72 rfl rfl _) ?_
     walk_nrm
     refine zag.callMb (Kc:=Kc) (Lv:=fun _=>False) (Post:=zbW) (Q:=zgw) W B (fun _ _ _ _=>trivial) (fun _ _ _ h=>h.elim) hX hfc rfl hxc hPC (fun _ h=>h) hcl1 (zax _ hga) hcp hQC fun S2 v2 b2 hq2 hb2 hl2=>?_
     obtain⟨bc,rfl,rfl⟩:=hRC v2 b2 hq2
     simp only[Frame.finish_at,List.cons_append,List.nil_append]
     walk_nrm
     exact zag.stop fun hl1 w1 hp1 _ hlt1 q1 q2 q3 q4 q5 q6 q7 q8 q9=>zs2 hG hl0 hfeet hpic hend hp1 q1 q2 q4 q6 q7 q8 q9 (hb2 _ (List.mem_singleton.2 rfl)) _ _ _ _ _ _ _ _ _ _ _
    ·refine zaf 3 (by kernel_rfl) ?_
     refine zaf 5 (by kernel_rfl) ?_
     refine zaf 6 (by kernel_rfl) ?_
     refine zaf 7 (by kernel_rfl) ?_
     refine zaf 8 (by kernel_rfl) ?_
     refine zaD (by kernel_rfl) ?_
     refine ldG rfl rfl (by decide) rfl rfl (mcm mcs) ?_
     walk_nrm
     refine ldG rfl rfl (by decide) rfl rfl (mcm mcs) ?_
     walk_nrm
     refine zag.enter rfl rfl (by decide) (fun w=>run_call_body rfl Tryz.func72 rfl rfl) (fun w=>events_call_body rfl Tryz.func72 rfl rfl _) ?_
     walk_nrm
     refine zag.callMb (Kc:=Kc) (Lv:=fun _=>False) (Post:=zbW) (Q:=zgw) W B (fun _ _ _ _=>trivial) (fun _ _ _ h=>h.elim) hX hfc rfl hxc hPC (fun _ h=>h) hcl1 (zax _ hga) hcp hQC fun S2 v2 b2 hq2 hb2 hl2=>?_
     obtain⟨bc,rfl,rfl⟩:=hRC v2 b2 hq2
     simp only[Frame.finish_at,List.cons_append,List.nil_append]
     walk_nrm
     refine ldG rfl rfl (by decide) rfl rfl (mcm (mcm mcs)) ?_
     walk_nrm
     exact zag.stop fun hl1 w1 hp1 _ hlt1 q1 q2 q3 q4 q5 q6 q7 q8 q9=>zmR hG hl0 hfeet hpic hend hp1 q1 q2 q4 q6 q7 q8 q9 (hb2 _ (List.mem_singleton.2 rfl)) _ _ _ _ _ _ _ _ _ _
   ·refine zaf 1 (by kernel_rfl) ?_
    refine zaf 3 (by kernel_rfl) ?_
    refine zaf 5 (by kernel_rfl) ?_
    refine zaf 6 (by kernel_rfl) ?_
    refine zaf 7 (by kernel_rfl) ?_
    refine zaf 8 (by kernel_rfl) ?_
    refine zaD (by kernel_rfl) ?_
    refine ldG rfl rfl (by decide) rfl rfl (mcm mcs) ?_
    walk_nrm
    refine ldG rfl rfl (by decide) rfl rfl (mcm mcs) ?_
    walk_nrm
    refine ldG rfl rfl (by decide) rfl rfl (mcm mcs) ?_
    walk_nrm
    refine zag.enter rfl rfl (by decide) (fun w=>run_call_body rfl Tryz.func72 rfl rfl) (fun w=>events_call_body rfl Tryz.func72 rfl rfl _) ?_
    walk_nrm
    refine zag.callMb (Kc:=Kc) (Lv:=fun _=>False) (Post:=zbW) (Q:=zgw) W B (fun _ _ _ _=>trivial) (fun _ _ _ h=>h.elim) hX hfc rfl hxc hPC (fun _ h=>h) hcl1 (zax _ hga) hcp hQC fun S2 v2 b2 hq2 hb2 hl2=>?_
    obtain⟨bc,rfl,rfl⟩:=hRC v2 b2 hq2
    simp only[Frame.finish_at,List.cons_append,List.nil_append]
    walk_nrm
    exact zag.stop fun hl1 w1 hp1 _ hlt1 q1 q2 q3 q4 q5 q6 q7 q8 q9=>zmR hG hl0 hfeet hpic hend hp1 q1 q2 q4 q6 q7 q8 q9 (hb2 _ (List.mem_singleton.2 rfl)) _ _ _ _ _ _ _ _ _ _
  ·refine za1 1 2 (by kernel_rfl) ?_ ?_
   ·refine zaf 2 (by kernel_rfl) ?_
    refine zaf 3 (by kernel_rfl) ?_
    refine zaf 5 (by kernel_rfl) ?_
    refine zaf 6 (by kernel_rfl) ?_
    refine zaf 7 (by kernel_rfl) ?_
    refine zaf 8 (by kernel_rfl) ?_
    refine zaD (by kernel_rfl) ?_
    refine ldG rfl rfl (by decide) rfl rfl (mcm mcs) ?_
    walk_nrm
    refine ldG rfl rfl (by decide) rfl rfl (mcm mcs) ?_
    walk_nrm
    refine zag.enter rfl rfl (by decide) (fun w=>run_call_body rfl Tryz.func72 rfl rfl) (fun w=>events_call_body rfl Tryz.func72 rfl rfl _) ?_
    walk_nrm
    refine zag.callMb (Kc:=Kc) (Lv:=fun _=>False) (Post:=zbW) (Q:=zgw) W B (fun _ _ _ _=>trivial) (fun _ _ _ h=>h.elim) hX hfc rfl hxc hPC (fun _ h=>h) hcl1 (zax _ hga) hcp hQC fun S2 v2 b2 hq2 hb2 hl2=>?_
    obtain⟨bc,rfl,rfl⟩:=hRC v2 b2 hq2
    simp only[Frame.finish_at,List.cons_append,List.nil_append]
    walk_nrm
    refine ldG rfl rfl (by decide) rfl rfl (mcm (mcm mcs)) ?_
    walk_nrm
    exact zag.stop fun hl1 w1 hp1 _ hlt1 q1 q2 q3 q4 q5 q6 q7 q8 q9=>zmR hG hl0 hfeet hpic hend hp1 q1 q2 q4 q6 q7 q8 q9 (hb2 _ (List.mem_singleton.2 rfl)) _ _ _ _ _ _ _ _ _ _
   ·refine zaf 1 (by kernel_rfl) ?_
    refine zaf 3 (by kernel_rfl) ?_
    refine zaf 5 (by kernel_rfl) ?_
    refine zaf 6 (by kernel_rfl) ?_
    refine zaf 7 (by kernel_rfl) ?_
    refine zaf 8 (by kernel_rfl) ?_
    refine zaD (by kernel_rfl) ?_
    refine ldG rfl rfl (by decide) rfl rfl (mcm mcs) ?_
    walk_nrm
    refine ldG rfl rfl (by decide) rfl rfl (mcm mcs) ?_
    walk_nrm
    refine ldG rfl rfl (by decide) rfl rfl (mcm mcs) ?_
    walk_nrm
    refine zag.enter rfl rfl (by decide) (fun w=>run_call_body rfl Tryz.func72 rfl rfl) (fun w=>events_call_body rfl Tryz.func72 rfl rfl _) ?_
    walk_nrm
    refine zag.callMb (Kc:=Kc) (Lv:=fun _=>False) (Post:=zbW) (Q:=zgw) W B (fun _ _ _ _=>trivial) (fun _ _ _ h=>h.elim) hX hfc rfl hxc hPC (fun _ h=>h) hcl1 (zax _ hga) hcp hQC fun S2 v2 b2 hq2 hb2 hl2=>?_
    obtain⟨bc,rfl,rfl⟩:=hRC v2 b2 hq2
    simp only[Frame.finish_at,List.cons_append,List.nil_append]
    walk_nrm
    exact zag.stop fun hl1 w1 hp1 _ hlt1 q1 q2 q3 q4 q5 q6 q7 q8 q9=>zmR hG hl0 hfeet hpic hend hp1 q1 q2 q4 q6 q7 q8 q9 (hb2 _ (List.mem_singleton.2 rfl)) _ _ _ _ _ _ _ _ _ _
 ·refine za1 0 4 (by kernel_rfl) ?_ ?_
  ·refine za1 1 4 (by kernel_rfl) ?_ ?_
   ·refine za1 3 4 (by kernel_rfl) ?_ ?_
    ·refine zaf 4 (by kernel_rfl) ?_
     refine zaf 5 (by kernel_rfl) ?_
     refine zaf 6 (by kernel_rfl) ?_
     refine zaf 7 (by kernel_rfl) ?_
     refine zaf 8 (by kernel_rfl) ?_
     refine zaD (by kernel_rfl) ?_
     refine ldG rfl rfl (by decide) rfl rfl (mcm mcs) ?_
     walk_nrm
     refine ldG rfl rfl (by decide) rfl rfl (mcm mcs) ?_
     walk_nrm
     refine zag.enter rfl rfl (by decide) (fun w=>run_call_body rfl Tryz.func72 rfl rfl) (fun w=>events_call_body rfl Tryz.func72 rfl rfl _) ?_
     walk_nrm
     refine zag.callMb (Kc:=Kc) (Lv:=fun _=>False) (Post:=zbW) (Q:=zgw) W B (fun _ _ _ _=>trivial) (fun _ _ _ h=>h.elim) hX hfc rfl hxc hPC (fun _ h=>h) hcl1 (zax _ hga) hcp hQC fun S2 v2 b2 hq2 hb2 hl2=>?_
     obtain⟨bc,rfl,rfl⟩:=hRC v2 b2 hq2
     simp only[Frame.finish_at,List.cons_append,List.nil_append]
     walk_nrm
     exact zag.stop fun hl1 w1 hp1 _ hlt1 q1 q2 q3 q4 q5 q6 q7 q8 q9=>zs2 hG hl0 hfeet hpic hend hp1 q1 q2 q4 q6 q7 q8 q9 (hb2 _ (List.mem_singleton.2 rfl)) _ _ _ _ _ _ _ _ _ _ _
    ·refine zaf 3 (by kernel_rfl) ?_
     refine zaf 5 (by kernel_rfl) ?_
     refine zaf 6 (by kernel_rfl) ?_
     refine zaf 7 (by kernel_rfl) ?_
     refine zaf 8 (by kernel_rfl) ?_
     refine zaD (by kernel_rfl) ?_
     refine ldG rfl rfl (by decide) rfl rfl (mcm mcs) ?_
     walk_nrm
     refine ldG rfl rfl (by decide) rfl rfl (mcm mcs) ?_
     walk_nrm
     refine zag.enter rfl rfl (by decide) (fun w=>run_call_body rfl Tryz.func72 rfl rfl) (fun w=>events_call_body rfl Tryz.func72 rfl rfl _) ?_
     walk_nrm
     refine zag.callMb (Kc:=Kc) (Lv:=fun _=>False) (Post:=zbW) (Q:=zgw) W B (fun _ _ _ _=>trivial) (fun _ _ _ h=>h.elim) hX hfc rfl hxc hPC (fun _ h=>h) hcl1 (zax _ hga) hcp hQC fun S2 v2 b2 hq2 hb2 hl2=>?_
     obtain⟨bc,rfl,rfl⟩:=hRC v2 b2 hq2
     simp only[Frame.finish_at,List.cons_append,List.nil_append]
     walk_nrm
     refine ldG rfl rfl (by decide) rfl rfl (mcm (mcm mcs)) ?_
     walk_nrm
     exact zag.stop fun hl1 w1 hp1 _ hlt1 q1 q2 q3 q4 q5 q6 q7 q8 q9=>zmR hG hl0 hfeet hpic hend hp1 q1 q2 q4 q6 q7 q8 q9 (hb2 _ (List.mem_singleton.2 rfl)) _ _ _ _ _ _ _ _ _ _
   ·refine zaf 1 (by kernel_rfl) ?_
    refine zaf 3 (by kernel_rfl) ?_
    refine zaf 5 (by kernel_rfl) ?_
    refine zaf 6 (by kernel_rfl) ?_
    refine zaf 7 (by kernel_rfl) ?_
    refine zaf 8 (by kernel_rfl) ?_
    refine zaD (by kernel_rfl) ?_
    refine ldG rfl rfl (by decide) rfl rfl (mcm mcs) ?_
    walk_nrm
    refine ldG rfl rfl (by decide) rfl rfl (mcm mcs) ?_
    walk_nrm
    refine ldG rfl rfl (by decide) rfl rfl (mcm mcs) ?_
    walk_nrm
    refine zag.enter rfl rfl (by decide) (fun w=>run_call_body rfl Tryz.func72 rfl rfl) (fun w=>events_call_body rfl Tryz.func72 rfl rfl _) ?_
    walk_nrm
    refine zag.callMb (Kc:=Kc) (Lv:=fun _=>False) (Post:=zbW) (Q:=zgw) W B (fun _ _ _ _=>trivial) (fun _ _ _ h=>h.elim) hX hfc rfl hxc hPC (fun _ h=>h) hcl1 (zax _ hga) hcp hQC fun S2 v2 b2 hq2 hb2 hl2=>?_
    obtain⟨bc,rfl,rfl⟩:=hRC v2 b2 hq2
    simp only[Frame.finish_at,List.cons_append,List.nil_append]
    walk_nrm
    exact zag.stop fun hl1 w1 hp1 _ hlt1 q1 q2 q3 q4 q5 q6 q7 q8 q9=>zmR hG hl0 hfeet hpic hend hp1 q1 q2 q4 q6 q7 q8 q9 (hb2 _ (List.mem_singleton.2 rfl)) _ _ _ _ _ _ _ _ _ _
  ·refine zaf 0 (by kernel_rfl) ?_
   refine zaf 1 (by kernel_rfl) ?_
   refine zaf 3 (by kernel_rfl) ?_
   refine zaf 5 (by kernel_rfl) ?_
   refine zaf 6 (by kernel_rfl) ?_
   refine zaf 7 (by kernel_rfl) ?_
   refine zaf 8 (by kernel_rfl) ?_
   refine zaD (by kernel_rfl) ?_
   refine ldG rfl rfl (by decide) rfl rfl (mcm mcs) ?_
   walk_nrm
   refine ldG rfl rfl (by decide) rfl rfl (mcm mcs) ?_
   walk_nrm
   refine ldG rfl rfl (by decide) rfl rfl (mcm mcs) ?_
   walk_nrm
   refine zag.enter rfl rfl (by decide) (fun w=>run_call_body rfl Tryz.func72 rfl rfl) (fun w=>events_call_body rfl Tryz.func72 rfl rfl _) ?_
   walk_nrm
   refine zag.callMb (Kc:=Kc) (Lv:=fun _=>False) (Post:=zbW) (Q:=zgw) W B (fun _ _ _ _=>trivial) (fun _ _ _ h=>h.elim) hX hfc rfl hxc hPC (fun _ h=>h) hcl1 (zax _ hga) hcp hQC fun S2 v2 b2 hq2 hb2 hl2=>?_
   obtain⟨bc,rfl,rfl⟩:=hRC v2 b2 hq2
   simp only[Frame.finish_at,List.cons_append,List.nil_append]
   walk_nrm
   exact zag.stop fun hl1 w1 hp1 _ hlt1 q1 q2 q3 q4 q5 q6 q7 q8 q9=>zmR hG hl0 hfeet hpic hend hp1 q1 q2 q4 q6 q7 q8 q9 (hb2 _ (List.mem_singleton.2 rfl)) _ _ _ _ _ _ _ _ _ _
 ·refine za1 0 2 (by kernel_rfl) ?_ ?_
  ·refine za1 1 2 (by kernel_rfl) ?_ ?_
   ·refine zaf 2 (by kernel_rfl) ?_
    refine zaf 3 (by kernel_rfl) ?_
    refine zaf 5 (by kernel_rfl) ?_
    refine zaf 6 (by kernel_rfl) ?_
    refine zaf 7 (by kernel_rfl) ?_
    refine zaf 8 (by kernel_rfl) ?_
    refine zaD (by kernel_rfl) ?_
    refine ldG rfl rfl (by decide) rfl rfl (mcm mcs) ?_
    walk_nrm
    refine ldG rfl rfl (by decide) rfl rfl (mcm mcs) ?_
    walk_nrm
    refine zag.enter rfl rfl (by decide) (fun w=>run_call_body rfl Tryz.func72 rfl rfl) (fun w=>events_call_body rfl Tryz.func72 rfl rfl _) ?_
    walk_nrm
    refine zag.callMb (Kc:=Kc) (Lv:=fun _=>False) (Post:=zbW) (Q:=zgw) W B (fun _ _ _ _=>trivial) (fun _ _ _ h=>h.elim) hX hfc rfl hxc hPC (fun _ h=>h) hcl1 (zax _ hga) hcp hQC fun S2 v2 b2 hq2 hb2 hl2=>?_
    obtain⟨bc,rfl,rfl⟩:=hRC v2 b2 hq2
    simp only[Frame.finish_at,List.cons_append,List.nil_append]
    walk_nrm
    refine ldG rfl rfl (by decide) rfl rfl (mcm (mcm mcs)) ?_
    walk_nrm
    exact zag.stop fun hl1 w1 hp1 _ hlt1 q1 q2 q3 q4 q5 q6 q7 q8 q9=>zmR hG hl0 hfeet hpic hend hp1 q1 q2 q4 q6 q7 q8 q9 (hb2 _ (List.mem_singleton.2 rfl)) _ _ _ _ _ _ _ _ _ _
   ·refine zaf 1 (by kernel_rfl) ?_
    refine zaf 3 (by kernel_rfl) ?_
    refine zaf 5 (by kernel_rfl) ?_
    refine zaf 6 (by kernel_rfl) ?_
    refine zaf 7 (by kernel_rfl) ?_
    refine zaf 8 (by kernel_rfl) ?_
    refine zaD (by kernel_rfl) ?_
    refine ldG rfl rfl (by decide) rfl rfl (mcm mcs) ?_
    walk_nrm
    refine ldG rfl rfl (by decide) rfl rfl (mcm mcs) ?_
    walk_nrm
    refine ldG rfl rfl (by decide) rfl rfl (mcm mcs) ?_
    walk_nrm
    refine zag.enter rfl rfl (by decide) (fun w=>run_call_body rfl Tryz.func72 rfl rfl) (fun w=>events_call_body rfl Tryz.func72 rfl rfl _) ?_
    walk_nrm
    refine zag.callMb (Kc:=Kc) (Lv:=fun _=>False) (Post:=zbW) (Q:=zgw) W B (fun _ _ _ _=>trivial) (fun _ _ _ h=>h.elim) hX hfc rfl hxc hPC (fun _ h=>h) hcl1 (zax _ hga) hcp hQC fun S2 v2 b2 hq2 hb2 hl2=>?_
    obtain⟨bc,rfl,rfl⟩:=hRC v2 b2 hq2
    simp only[Frame.finish_at,List.cons_append,List.nil_append]
    walk_nrm
    exact zag.stop fun hl1 w1 hp1 _ hlt1 q1 q2 q3 q4 q5 q6 q7 q8 q9=>zmR hG hl0 hfeet hpic hend hp1 q1 q2 q4 q6 q7 q8 q9 (hb2 _ (List.mem_singleton.2 rfl)) _ _ _ _ _ _ _ _ _ _
  ·refine zaf 0 (by kernel_rfl) ?_
   refine zaf 1 (by kernel_rfl) ?_
   refine zaf 3 (by kernel_rfl) ?_
   refine zaf 5 (by kernel_rfl) ?_
   refine zaf 6 (by kernel_rfl) ?_
   refine zaf 7 (by kernel_rfl) ?_
   refine zaf 8 (by kernel_rfl) ?_
   refine zaD (by kernel_rfl) ?_
   refine ldG rfl rfl (by decide) rfl rfl (mcm mcs) ?_
   walk_nrm
   refine ldG rfl rfl (by decide) rfl rfl (mcm mcs) ?_
   walk_nrm
   refine ldG rfl rfl (by decide) rfl rfl (mcm mcs) ?_
   walk_nrm
   refine zag.enter rfl rfl (by decide) (fun w=>run_call_body rfl Tryz.func72 rfl rfl) (fun w=>events_call_body rfl Tryz.func72 rfl rfl _) ?_
   walk_nrm
   refine zag.callMb (Kc:=Kc) (Lv:=fun _=>False) (Post:=zbW) (Q:=zgw) W B (fun _ _ _ _=>trivial) (fun _ _ _ h=>h.elim) hX hfc rfl hxc hPC (fun _ h=>h) hcl1 (zax _ hga) hcp hQC fun S2 v2 b2 hq2 hb2 hl2=>?_
   obtain⟨bc,rfl,rfl⟩:=hRC v2 b2 hq2
   simp only[Frame.finish_at,List.cons_append,List.nil_append]
   walk_nrm
   exact zag.stop fun hl1 w1 hp1 _ hlt1 q1 q2 q3 q4 q5 q6 q7 q8 q9=>zmR hG hl0 hfeet hpic hend hp1 q1 q2 q4 q6 q7 q8 q9 (hb2 _ (List.mem_singleton.2 rfl)) _ _ _ _ _ _ _ _ _ _
