/- Part. -/
import Derived.Conc.CompanyDraw
import Derived.Test.YthfhlgdeghnggaaGreatTAi
set_option maxHeartbeats 4000000
set_option linter.unusedVariables false
namespace Go.Proofs.YthfhlgdeghnggaaGreat
variable{listed:Array Bool}{f:FuncId}{X:FuncId->Prop}{wd:Int}{l0:List (Nat × Obj)}{rs:List Nat}{Q:List Nat->Prop}{bc bg bl bs cap fuel n:Nat}{bsf:Nat->List (Nat × Obj)}{Kc Lv Sh Sh0:Nat->Prop}{xs:Nat->Value}{RowP:Nat->Value->List (Nat × Obj)->Prop}{objL:Obj}{ga:Option Addr}{Out:Value->World->(Nat->Prop)->Prop}{u u0 w:World}{Post:World->Value->World->Prop}
section
open Go Go.Conc Go.ConcN Go.RowKit Go.Conc.Lib Go.ConcR.Gen Go.ConcN.Gen
open Go.ConcR (KK wgBlock WgAt stA smA rd wr mk Payload Aside2 DC0)
section
variable{Goal:Machine->Trace->Prop}{Shun:Nat->Prop}{c:Frame}{cs:List Frame}
set_option maxRecDepth 100000 in
theorem zoa(hG:za9 Tryz.prog Goal){Fin:World->Value->World->(Nat->Prop)->Prop}(hl0:∀ p∈l0,Kc p.1)(hp0:Hp l0 w)(hKc:∀ c,Kc c->c<w.heap.size/\¬ Shun c)(hrows:∀(c0:Frame) (cs0:List Frame) (w0:World),Hp l0 w0->(∀ e,Kc e->e<w0.heap.size/\¬ Shun e)->w.heap.size<=w0.heap.size->(∀(v:Value) (u:World) (Sh:Nat->Prop),zb6 (fun e=>e<w0.heap.size/\¬ Shun e) w0 u->Fin w0 v u Sh->zar Tryz.prog Goal Sh (fun _=>False) (G (c0.finish v) cs0) u) ->
   zar Tryz.prog Goal Shun (fun _=>False) (G (Frame.enter Tryz.prog 84 #[.agg #[.int .i64 wd,.slice ga n cap],.func (.func 66) #[] #[]] .normal) (c0::cs0)) w0)(hFin:∀ w0 v u u2 Sh,Fin w0 v u Sh->w.heap.size<=w0.heap.size->(∀ e,e<u.heap.size->u2.heap[e]?=u.heap[e]?)->u.heap.size<=u2.heap.size->Out v u2 Sh)(hfin:∀(v:Value) (u:World) (Sh:Nat->Prop),zb6 (fun e=>e<w.heap.size/\¬ Shun e) w u->Out v u Sh->zar Tryz.prog Goal Sh (fun _=>False) (G (c.finish v) cs) u) :
  zar Tryz.prog Goal Shun (fun _=>False) (G (Frame.enter Tryz.prog 73 #[.agg #[.int .i64 wd,.slice ga n cap]] .normal) (c::cs)) w:=by
 have hLa:∀(w:World) (o:Obj),(fun _:World=>True) w->(fun _:World=>True) (w.alloc o):=fun _ _ h=>h
 refine zar.way hG (ch:=0) (K:=Kc) (S:=fun _=>False) (l:=l0) (lx:=[]) hp0 (fun p h=>.inl (hl0 p h)) (fun _ h=>by cases h) (fun _ h=>by cases h) (fun _ h=>h.elim) (fun c hc=>⟨(hKc c (hc.elim id fun x=>x.elim)).1,(hKc c (hc.elim id fun x=>x.elim)).2,fun h=>h⟩) ?_
 rw[enter_at _ Tryz.func73 rfl]
 walk_nrmf Tryz.f73
 refine zag.sq ?_
 refine zag.rg ?_
 simp only[List.size_toArray,List.length_cons,List.length_nil,Nat.reduceAdd,Nat.zero_add,List.range,List.range.loop]
 refine zag.new hLa rfl rfl (by decide) (V:=fun c=>.pointer (some ⟨c,0,none⟩)) (obj:=.cells #[.int .i64 wd,.slice ga n cap] 33) (fun w hp=>by go_simp) (fun _ w hp e he=>by simp[go_sem] at he) fun bp hK_bp hS_bp=>?_
 walk_nrm
 refine zag.val rfl rfl (by decide) (v:=.slice none 0 0) (fun w hp=>by go_simp) (fun _ w hp e he=>by simp[go_sem] at he) ?_
 walk_nrm
 refine zag.re ?_
 refine zag.sq ?_
 refine zag.rg ?_
 simp only[List.size_toArray,List.length_cons,List.length_nil,Nat.reduceAdd,Nat.zero_add,List.range,List.range.loop]
 refine zag.val rfl rfl (by decide) (v:=.agg #[.int .i64 wd,.slice ga n cap]) (fun w hp=>?_) (fun hl w hp e he=>?_) ?_
 ·have c0:=hp.cell mcs 0 rfl
  have c1:=hp.cell mcs 1 rfl
  go_simp
 ·have c0:=hp.cell mcs 0 rfl
  have c1:=hp.cell mcs 1 rfl
  simp[go_sem, *] at he
  rcases he with rfl|rfl
  all_goals exact zau hl mcs _
 walk_nrm
 refine zag.enter rfl rfl (by decide) (fun w=>run_call_body rfl Tryz.func84 rfl rfl) (fun w=>events_call_body rfl Tryz.func84 rfl rfl _) ?_
 walk_nrm
 refine zag.stop fun hl1 w1 hp1 _ hlt1=>?_
 intro hsz1 hnew1 hx1 hKS1 _ hkept1 ht1 ho1 hu1
 refine hrows _ _ w1 (fun p h=>hp1 p (mcm h)) (fun e he=>⟨(hKS1 e (.inl he)).1,(hKS1 e (.inl he)).2.1⟩) hsz1 fun v u Sh hk hF=>?_
 simp only[Frame.finish_at]
 walk_nrm
 refine zar.way hG (ch:=0) (K:=fun _=>False) (S:=fun _=>False) (l:=[]) (lx:=[]) (fun _ h=>by cases h) (fun _ h=>by cases h) (fun _ h=>by cases h) (fun _ h=>by cases h) (fun _ h=>h.elim) (fun c hc=>(hc.elim id id).elim) ?_
 refine zag.val rfl rfl (by decide) (v:=v) (fun w hp=>by go_simp) (fun _ w hp e he=>by simp[go_sem] at he) ?_
 walk_nrm
 refine zag.re ?_
 refine zag.ctl rfl (fun _=>stepG_ret') ?_
 refine zag.ctl (g':=G (c.finish v) cs) rfl (fun w=>by rw[stepG_leave rfl rfl Tryz.func73 (results_tmp Tryz.results73 _ _ w) (events_results_tmp Tryz.results73 _ _)];rfl) ?_
 refine zag.stop fun hl3 w3 hp3 _ hlt3=>?_
 intro hsz3 hnew3 hx3 hKS3 _ hkept3 ht3 ho3 hu3
 obtain⟨a1,a2,a3,a4,a5⟩:=hk
 refine hfin v w3 Sh ⟨fun e he=>?_,ht3.trans (a2.trans ht1),ho3.trans (a3.trans ho1),hu3.trans (a4.trans hu1),by omega⟩ (hFin w1 v u w3 Sh hF hsz1 (fun e he=>hkept3 e he fun h=>h) hsz3)
 rw[hkept3 e (by have:=he.1;omega) (fun h=>h),a1 e ⟨by have:=he.1;omega,he.2⟩]
 exact hkept1 e he.1 (fun h=>h)
end
end
section
open Go Go.Conc
def zbV(ops:Array Oper):Nat->Array Bool->(List Nat->Prop)->Prop
 | 0,listed,Q=>Region.ready .any ops listed=[]/\Q []
 | fuel+1,listed,Q=>(Region.ready .any ops listed=[]->Q [])/\∀ i∈Region.ready .any ops listed,zbV ops fuel (listed.setIfInBounds i true) fun r=>Q (i::r)
theorem zia{ops:Array Oper}:∀(fuel t:Nat) (listed:Array Bool) (Q:List Nat->Prop),zbV ops fuel listed Q->Q (Region.linearise.go .any ops fuel t listed []):=by
 intro fuel
 induction fuel with
 | zero=>intro t listed Q h;simpa [Region.linearise.go] using h.2
 | succ fuel ih =>
  intro t listed Q h
  obtain⟨h₀,h₁⟩:=h
  simp only[Region.linearise.go]
  change Q (match (Region.ready .any ops listed)[t % (Region.ready .any ops listed).length]? with
   | some i=>Region.linearise.go .any ops fuel (t / (Region.ready .any ops listed).length) (listed.setIfInBounds i true) [i]
   | none=>[].reverse)
  cases hi:(Region.ready .any ops listed)[t % (Region.ready .any ops listed).length]? with
  | none =>
   have hnil:Region.ready .any ops listed=[]:=by
    cases hr:Region.ready .any ops listed with
    | nil=>rfl
    | cons x xs =>
     rw[hr] at hi
     have hlt:t % (x::xs).length<(x::xs).length:=Nat.mod_lt _ (by simp)
     simp at hi
     simp at hlt
     omega
   simpa using h₀ hnil
  | some i =>
   simp only[]
   rw[linearise_go_acc,List.reverse_singleton,List.singleton_append]
   exact ih _ _ (fun r=>Q (i::r)) (h₁ i (List.mem_of_getElem? hi))
theorem zcS{ops:Array Oper}(hr:Region.ready .any ops listed=rs)(hne:rs≠[])(h:∀ i∈rs,zbV ops fuel (listed.setIfInBounds i true) fun r=>Q (i::r)):zbV ops (fuel+1) listed Q:=by
 subst hr
 exact⟨fun e=>absurd e hne,h⟩
theorem zaD{ops:Array Oper}(hr:Region.ready .any ops listed=[])(h:Q []):zbV ops fuel listed Q:=by
 cases fuel with
 | zero=>exact⟨hr,h⟩
 | succ fuel=>exact⟨fun _=>h,fun i hi=>by rw[hr] at hi;cases hi⟩
section
variable{M:Program}{main:Bool}{Live:World->Prop}{Ex:Event->Prop}{Stop:Nat->(Nat->Prop)->Goroutine->World->Prop}{Snd:Nat->(Nat->Prop)->Value->World->Prop}{ch:Nat}{K:Nat->Prop}{l:List (Nat × Obj)}{σ:Nat}{S:Nat->Prop}{b:Frame}{a:Act}{k:List Item}{cs:List Frame}{ops:Array Oper}{id:Nat}
theorem zag.draw(hm:M.follows .mixedOrders=true)(hLd:∀ w:World,Live w->Live { w with drawn:=w.drawn+1 })(hn:zbV ops ops.size (Array.replicate ops.size false) fun r=>zag M main Live Ex Stop Snd ch K l σ S (G (b.at a (.inRegion ops r::k)) cs)):zag M main Live Ex Stop Snd ch K l σ S (G (b.at a (.code (.region id ops true)::k)) cs) :=
 fun hl w hp hL hlt=>zaZ.go rfl fun w₁ hs=>by
  have h1:=zia ops.size (w₁.tape w₁.drawn (.order b.fn id)) _ _ hn
  have e:Region.schedule (M.follows .mixedOrders) ops (w₁.tape w₁.drawn (.order b.fn id))=Region.linearise.go .any ops ops.size (w₁.tape w₁.drawn (.order b.fn id)) (Array.replicate ops.size false) []:=by
   simp only[Region.schedule,hm,Bool.true_or,if_true]
   rfl
  refine⟨_,{ w₁ with drawn:=w₁.drawn+1 },_,S,stepG_region_draw,⟨Nat.le_refl _,fun _ h=>h,fun _ h=>Or.inl h,fun _ _ _=>rfl,rfl,rfl,rfl,by simp⟩,?_⟩
  rw[e]
  exact(h1 hl w hp hL hlt).rely ⟨hs.size,hs.same,hs.tape,hs.os,hs.out,fun h=>hLd _ (hs.live h)⟩
end
section
variable{M:Program}{main:Bool}{Live:World->Prop}{Ex:Event->Prop}{Stop:Nat->(Nat->Prop)->Goroutine->World->Prop}{Snd:Nat->(Nat->Prop)->Value->World->Prop}{ch:Nat}{K:Nat->Prop}{l:List (Nat × Obj)}{σ:Nat}{S:Nat->Prop}{b c:Frame}{a:Act}{todo:List Item}{cs:List Frame}{fn:Func}{v:Value}
theorem zi7(hn:b.kind=.normal)(hd:a.defers=[])(hf:M.funcs[b.fn]?=some fn)(hr:(results fn a.tmps).run M w=.ok v w) :
  ∃ es,stepG M main (G { b.at a todo with mode:=.returning } (c::cs)) w=.go (G (c.finish v) cs) w es/\∀ e∈es,e∈(results fn a.tmps).events M w #[]:=by
 refine⟨seen M b.fn ((results fn a.tmps).events M w #[]),?_,fun e he=>mem_seen he⟩
 simp[G,stepG,unwind,doReturn,Frame.at,hn,hd,hf,hr,GStep.after]
theorem zag.leave(hn:b.kind=.normal)(hd:a.defers=[])(hf:M.funcs[b.fn]?=some fn)(hr:∀ w,Hp l w->(results fn a.tmps).run M w=.ok v w)(he:(∀ p∈l,K p.1\/S p.1)->∀ w,Hp l w->∀ e∈(results fn a.tmps).events M w #[],EvS K S e)(hN:zag M main Live Ex Stop Snd ch K l σ S (G (c.finish v) cs)):zag M main Live Ex Stop Snd ch K l σ S (G { b.at a todo with mode:=.returning } (c::cs)) :=
 fun hl w hp hL hlt=>zaZ.go rfl fun w₁ hs=>by
  obtain⟨es,h1,h2⟩:=zi7 (main:=main) (todo:=todo) (c:=c) (cs:=cs) hn hd hf (hr w₁ (hp.sees hl hs))
  exact⟨_,w₁,es,S,h1,⟨Nat.le_refl _,fun _ h=>h,fun _ h=>Or.inl h,fun _ _ _=>rfl,rfl,rfl,rfl,fun e hx=>Or.inl (he hl w₁ (hp.sees hl hs) e (h2 e hx))⟩,(hN hl w hp hL hlt).rely hs⟩
end
end
section
open Go Go.Conc Go.ConcN Go.RowKit Go.Conc.Lib Go.ConcR.Gen Go.ConcN.Gen
open Go.ConcR (KK wgBlock WgAt stA smA rd wr mk Payload Aside2 DC0)
noncomputable abbrev ze1:Array Oper:=match Tryz.f54.body with|some (.seq _ (.seq _ (.seq (.region _ o _) _)))=>o|_=>#[]
theorem zdi:(Tryz.prog.info? 35).map (·.size)=some 4:=by kernel_rfl
section
variable{Goal:Machine->Trace->Prop}{c:Frame}{cs:List Frame}
set_option maxRecDepth 100000 in
theorem scD(hG:za9 Tryz.prog Goal){M bf:Nat}(hs:u.heap[bs]?=some (.cells #[.int .i64 0,.slice none 0 0,.slice none 0 0,.slice none 0 0] 35))(hsn:¬ Sh bs)(hfin:∀ u2:World,zb6 (fun e=>e<u.heap.size/\e≠bs) u u2->zar Tryz.prog Goal Sh (fun _=>False) (G (c.finish (.tuple #[.agg #[.int .i64 wd,.slice (some ⟨bc,0,none⟩) n n,.slice (some ⟨bl,0,none⟩) M M,.slice (some ⟨bf,0,none⟩) M M],.bool true])) cs) u2)(y0 y1 y3 y4 y5 y6 y7 y8 y10 y12 y14:Value) :
  zar Tryz.prog Goal Sh (fun _=>False) (G ((base 54).at ⟨#[y0,y1,.pointer (some ⟨bs,0,none⟩),y3,y4,y5,y6,y7,y8,.agg #[.int .i64 wd,.slice (some ⟨bc,0,none⟩) n n],y10,.slice (some ⟨bl,0,none⟩) M M,y12,.slice (some ⟨bf,0,none⟩) M M,y14],[]⟩ [.inRegion ze1 [6,7,8],.code .ret]) (c::cs)) u:=by
 have hlt:=(gei hs).1
 refine zar.way hG (ch:=0) (K:=fun _=>False) (S:=fun e=>e=bs) (l:=[(bs,.cells #[.int .i64 0,.slice none 0 0,.slice none 0 0,.slice none 0 0] 35)]) (lx:=[]) (fun p h=>by simp at h;subst h;exact hs) (fun p h=>by simp at h;subst h;exact .inr rfl) (fun _ h=>by cases h) (fun _ h=>by cases h) (fun _ h=>h.elim) (fun e he=>by rcases he with he|rfl;exact he.elim;exact⟨hlt,hsn,fun h=>h⟩) ?_
 simp only[ze1,Tryz.f54]
 refine zag.val rfl rfl (by decide) (v:=.agg #[.int .i64 wd,.slice (some ⟨bc,0,none⟩) n n,.slice (some ⟨bl,0,none⟩) M M,.slice (some ⟨bf,0,none⟩) M M]) (fun w hp=>by go_simp) (fun _ w hp e he=>by simp[go_sem] at he) ?_
 walk_nrm
 refine zag.put (l':=[(bs,.cells #[.int .i64 wd,.slice (some ⟨bc,0,none⟩) n n,.slice (some ⟨bl,0,none⟩) M M,.slice (some ⟨bf,0,none⟩) M M] 35)]) (c:=bs) (obj:=.cells #[.int .i64 wd,.slice (some ⟨bc,0,none⟩) n n,.slice (some ⟨bl,0,none⟩) M M,.slice (some ⟨bf,0,none⟩) M M] 35) rfl rfl (by decide) rfl (fun _ _ _ h=>h) (fun w hp=>⟨_,zeF (ty:=35) (cells:=#[.int .i64 wd,.slice (some ⟨bc,0,none⟩) n n,.slice (some ⟨bl,0,none⟩) M M,.slice (some ⟨bf,0,none⟩) M M]) rfl rfl rfl (hp.at mcs) zdi rfl (by simp[Value.oneCell']),(zas (hp.at mcs)).1,(zas (hp.at mcs)).2⟩) (fun _ w hp e he=>?_) (fun p hp=>?_) ?_
 ·obtain⟨q,rfl⟩:=zgL (ty:=35) (cells:=#[.int .i64 wd,.slice (some ⟨bc,0,none⟩) n n,.slice (some ⟨bl,0,none⟩) M M,.slice (some ⟨bf,0,none⟩) M M]) rfl rfl rfl (hp.at mcs) zdi rfl (by simp[Value.oneCell']) e he
  exact Or.inl ⟨_,_,rfl,Or.inl rfl⟩
 ·rcases List.mem_cons.1 hp with rfl|hp
  ·exact .inl rfl
  ·cases hp
 walk_nrm
 refine zag.val rfl rfl (by decide) (v:=.bool true) (fun w hp=>by go_simp) (fun _ w hp e he=>by simp[go_sem] at he) ?_
 walk_nrm
 refine zag.re ?_
 refine zag.ctl rfl (fun _=>stepG_ret') ?_
 refine zag.leave (v:=.tuple #[.agg #[.int .i64 wd,.slice (some ⟨bc,0,none⟩) n n,.slice (some ⟨bl,0,none⟩) M M,.slice (some ⟨bf,0,none⟩) M M],.bool true]) rfl rfl Tryz.func54 (fun w hp=>?_) (fun hl w hp e he=>?_) ?_
 ·have c0:=hp.cell mcs 0 rfl
  have c1:=hp.cell mcs 1 rfl
  have c2:=hp.cell mcs 2 rfl
  have c3:=hp.cell mcs 3 rfl
  simp[results,Tryz.results54,go_sem,c0,c1,c2,c3]
 ·have c0:=hp.cell mcs 0 rfl
  have c1:=hp.cell mcs 1 rfl
  have c2:=hp.cell mcs 2 rfl
  have c3:=hp.cell mcs 3 rfl
  simp[results,Tryz.results54,go_sem,c0,c1,c2,c3] at he
  rcases he with rfl|rfl|rfl|rfl
  all_goals exact zau hl mcs _
 refine zag.stop fun hl3 w3 hp3 _ hlt3=>?_
 intro hsz3 hnew3 hx3 hKS3 _ hkept3 ht3 ho3 hu3
 exact hfin w3 ⟨fun e he=>hkept3 e he.1 he.2,ht3,ho3,hu3,hsz3⟩
end
structure zdP(RowP:Nat->Value->List (Nat × Obj)->Prop)(M B:Nat)(u:World)(bo:Nat)(xs:Nat->Value)(bsf:Nat->List (Nat × Obj))(Sh:Nat->Prop):Prop where
 new:B<=bo
 all:u.heap[bo]?=some (.cells (Array.ofFn fun k:Fin M=>xs k) 25)
 row:∀ k,k<M->RowP k (xs k) (bsf k)/\Hp (bsf k) u/\∀ p∈bsf k,B<=p.1/\p.1≠bo
 once:∀ k k' p p',k<M->k'<M->p∈bsf k->p'∈bsf k'->p.1=p'.1->k=k'
 seen:¬ Sh bo
 rows:∀ k,k<M->∀ p∈bsf k,¬ Sh p.1
def zjl(Goal:Machine->Trace->Prop)(wd:Int)(ga:Option Addr)(n cap M:Nat)(l0:List (Nat × Obj))(Kc:Nat->Prop)(RowP:Nat->Value->List (Nat × Obj)->Prop):Prop :=
 ∀(Sh0:Nat->Prop) (c0:Frame) (cs0:List Frame) (w0:World),Hp l0 w0->(∀ e,Kc e->e<w0.heap.size/\¬ Sh0 e)->(∀(u:World) (bo:Nat) (xs:Nat->Value) (bsf:Nat->List (Nat × Obj)) (Sh:Nat->Prop),zb6 (fun e=>e<w0.heap.size/\¬ Sh0 e) w0 u->zdP RowP M w0.heap.size u bo xs bsf Sh->(∀ e,Sh e->Sh0 e\/w0.heap.size<=e)->zar Tryz.prog Goal Sh (fun _=>False) (G (c0.finish (.slice (some ⟨bo,0,none⟩) M M)) cs0) u) ->
  zar Tryz.prog Goal Sh0 (fun _=>False) (G (Frame.enter Tryz.prog 74 #[.agg #[.int .i64 wd,.slice ga n cap],.func (.func 67) #[] #[]] .normal) (c0::cs0)) w0
def zsb(Goal:Machine->Trace->Prop)(wd:Int)(ga:Option Addr)(n cap M:Nat)(l0:List (Nat × Obj))(Kc:Nat->Prop)(objL:Obj):Prop :=
 ∀(Sh0:Nat->Prop) (c0:Frame) (cs0:List Frame) (w0:World),Hp l0 w0->(∀ e,Kc e->e<w0.heap.size/\¬ Sh0 e)->(∀(u:World) (bo:Nat) (Sh:Nat->Prop),zb6 (fun e=>e<w0.heap.size/\¬ Sh0 e) w0 u->w0.heap.size<=bo->u.heap[bo]?=some objL->¬ Sh bo->(∀ e,Sh e->Sh0 e\/w0.heap.size<=e)->zar Tryz.prog Goal Sh (fun _=>False) (G (c0.finish (.slice (some ⟨bo,0,none⟩) M M)) cs0) u) ->
  zar Tryz.prog Goal Sh0 (fun _=>False) (G (Frame.enter Tryz.prog 73 #[.agg #[.int .i64 wd,.slice ga n cap]] .normal) (c0::cs0)) w0
theorem zdP.mono{M B B':Nat}{u2:World}{bo:Nat}(h:zdP RowP M B u bo xs bsf Sh)(hB:B'<=B)(hk:∀ e o,B<=e->u.heap[e]?=some o->u2.heap[e]?=some o):zdP RowP M B' u2 bo xs bsf Sh :=
 ⟨by have:=h.new;omega,hk _ _ h.new h.all,fun k q=>⟨(h.row k q).1,fun p hp=>hk _ _ ((h.row k q).2.2 p hp).1 ((h.row k q).2.1 p hp),fun p hp=>⟨by have:=((h.row k q).2.2 p hp).1;omega,((h.row k q).2.2 p hp).2⟩⟩,h.once,h.seen,h.rows⟩
section
variable{Goal:Machine->Trace->Prop}{c:Frame}{cs:List Frame}
set_option maxRecDepth 100000 in
theorem ztf(hG:za9 Tryz.prog Goal){M:Nat}(hl0:∀ p∈l0,Kc p.1)(hfeet:zjl Goal wd ga n cap M l0 Kc RowP)(hp0:Hp l0 u0)(hK0:∀ e,Kc e->e<u0.heap.size/\¬ Sh0 e)(hs:u0.heap[bs]?=some (.cells #[.int .i64 0,.slice none 0 0,.slice none 0 0,.slice none 0 0] 35))(hsn:¬ Sh0 bs)(hfin:∀(u2:World) (bf:Nat) (xs:Nat->Value) (bsf:Nat->List (Nat × Obj)) (Sh:Nat->Prop),zb6 (fun e=>e<u0.heap.size/\¬ Sh0 e/\e≠bs) u0 u2->zdP RowP M u0.heap.size u2 bf xs bsf Sh->(∀ e,Sh e->Sh0 e\/u0.heap.size<=e)->zar Tryz.prog Goal Sh (fun _=>False) (G (c.finish (.tuple #[.agg #[.int .i64 wd,.slice (some ⟨bc,0,none⟩) n n,.slice (some ⟨bl,0,none⟩) M M,.slice (some ⟨bf,0,none⟩) M M],.bool true])) cs) u2)(y0 y1 y3 y4 y5 y6 y7 y8 y10 y13 y14:Value) :
  zar Tryz.prog Goal Sh0 (fun _=>False) (G ((base 54).at ⟨#[y0,y1,.pointer (some ⟨bs,0,none⟩),y3,y4,y5,y6,y7,y8,.agg #[.int .i64 wd,.slice (some ⟨bc,0,none⟩) n n],y10,.slice (some ⟨bl,0,none⟩) M M,.agg #[.int .i64 wd,.slice ga n cap],y13,y14],[]⟩ [.inRegion ze1 [5,6,7,8],.code .ret]) (c::cs)) u0:=by
 refine zar.way hG (ch:=0) (K:=Kc) (S:=fun _=>False) (l:=l0) (lx:=[]) hp0 (fun p h=>.inl (hl0 p h)) (fun _ h=>by cases h) (fun _ h=>by cases h) (fun _ h=>h.elim) (fun e he=>⟨(hK0 e (he.elim id fun x=>x.elim)).1,(hK0 e (he.elim id fun x=>x.elim)).2,fun h=>h⟩) ?_
 simp only[ze1,Tryz.f54]
 skip
 refine zag.enter rfl rfl (by decide) (fun w=>run_call_body rfl Tryz.func74 rfl rfl) (fun w=>events_call_body rfl Tryz.func74 rfl rfl _) ?_
 walk_nrm
 refine zag.stop fun hl1 w1 hp1 _ hlt1=>?_
 intro hsz1 hnew1 hx1 hKS1 _ hkept1 ht1 ho1 hu1
 have hlt:=(gei hs).1
 refine hfeet Sh0 _ _ w1 (fun p h=>hp1 p h) (fun e he=>⟨by have:=(hK0 e he).1;omega,(hK0 e he).2⟩) fun u bf xs bsf Sh hk hF hSh=>?_
 simp only[Frame.finish_at]
 walk_nrm
 obtain⟨a1,a2,a3,a4,a5⟩:=hk
 have hsu:u.heap[bs]?=some (.cells #[.int .i64 0,.slice none 0 0,.slice none 0 0,.slice none 0 0] 35):=(a1 bs ⟨by omega,hsn⟩).trans ((hkept1 bs hlt (fun h=>h)).trans hs)
 refine scD hG (wd:=wd) (n:=n) (M:=M) (bs:=bs) (bc:=bc) (bl:=bl) (bf:=bf) hsu (fun h=>by rcases hSh bs h with h|h;exact hsn h;omega) (fun u2 hk2=>?_) _ _ _ _ _ _ _ _ _ _ _
 obtain⟨b1,b2,b3,b4,b5⟩:=hk2
 have hfm:∀ e o,w1.heap.size<=e->u.heap[e]?=some o->u2.heap[e]?=some o:=fun e o q1 q2=>(b1 e ⟨(gei q2).1,by omega⟩).trans q2
 exact hfin u2 bf xs bsf Sh ⟨fun e he=>((b1 e ⟨by omega,he.2.2⟩).trans (a1 e ⟨by omega,he.2.1⟩)).trans (hkept1 e he.1 (fun h=>h)),b2.trans (a2.trans ht1),b3.trans (a3.trans ho1),b4.trans (a4.trans hu1),by omega⟩ (hF.mono hsz1 hfm) (fun e he=>(hSh e he).imp id fun h=>by omega)
set_option maxRecDepth 100000 in
theorem ztg(hG:za9 Tryz.prog Goal){M:Nat}(hl0:∀ p∈l0,Kc p.1)(hfeet:zjl Goal wd ga n cap M l0 Kc RowP)(hp0:Hp l0 u0)(hK0:∀ e,Kc e->e<u0.heap.size/\¬ Sh0 e)(hs:u0.heap[bs]?=some (.cells #[.int .i64 0,.slice none 0 0,.slice none 0 0,.slice none 0 0] 35))(hsn:¬ Sh0 bs)(hb:u0.heap[bg]?=some (.cells #[.int .i64 wd,.slice ga n cap] 33))(hbn:¬ Sh0 bg)(hfin:∀(u2:World) (bf:Nat) (xs:Nat->Value) (bsf:Nat->List (Nat × Obj)) (Sh:Nat->Prop),zb6 (fun e=>e<u0.heap.size/\¬ Sh0 e/\e≠bs) u0 u2->zdP RowP M u0.heap.size u2 bf xs bsf Sh->(∀ e,Sh e->Sh0 e\/u0.heap.size<=e)->zar Tryz.prog Goal Sh (fun _=>False) (G (c.finish (.tuple #[.agg #[.int .i64 wd,.slice (some ⟨bc,0,none⟩) n n,.slice (some ⟨bl,0,none⟩) M M,.slice (some ⟨bf,0,none⟩) M M],.bool true])) cs) u2)(y0 y3 y4 y5 y6 y7 y8 y10 y12 y13 y14:Value) :
  zar Tryz.prog Goal Sh0 (fun _=>False) (G ((base 54).at ⟨#[y0,.pointer (some ⟨bg,0,none⟩),.pointer (some ⟨bs,0,none⟩),y3,y4,y5,y6,y7,y8,.agg #[.int .i64 wd,.slice (some ⟨bc,0,none⟩) n n],y10,.slice (some ⟨bl,0,none⟩) M M,y12,y13,y14],[]⟩ [.inRegion ze1 [4,5,6,7,8],.code .ret]) (c::cs)) u0:=by
 refine zar.way hG (ch:=0) (K:=fun e=>Kc e\/e=bg) (S:=fun _=>False) (l:=(bg,.cells #[.int .i64 wd,.slice ga n cap] 33)::l0) (lx:=[]) (fun p h=>by rcases List.mem_cons.1 h with rfl|h;exact hb;exact hp0 p h) (fun p h=>by rcases List.mem_cons.1 h with rfl|h;exact .inl (.inr rfl);exact .inl (.inl (hl0 p h))) (fun _ h=>by cases h) (fun _ h=>by cases h) (fun _ h=>h.elim) (fun e he=>by rcases he with (he|rfl)|he;exact⟨(hK0 e he).1,(hK0 e he).2,fun h=>h⟩;exact⟨(gei hb).1,hbn,fun h=>h⟩;exact he.elim) ?_
 simp only[ze1,Tryz.f54]
 refine zag.val rfl rfl (by decide) (v:=.agg #[.int .i64 wd,.slice ga n cap]) (fun w hp=>?_) (fun hl w hp e he=>?_) ?_
 ·have c0:=hp.cell mcs 0 rfl
  have c1:=hp.cell mcs 1 rfl
  go_simp
 ·have c0:=hp.cell mcs 0 rfl
  have c1:=hp.cell mcs 1 rfl
  simp[go_sem, *] at he
  rcases he with rfl|rfl
  all_goals exact zau hl mcs _
 walk_nrm
 refine zag.enter rfl rfl (by decide) (fun w=>run_call_body rfl Tryz.func74 rfl rfl) (fun w=>events_call_body rfl Tryz.func74 rfl rfl _) ?_
 walk_nrm
 refine zag.stop fun hl1 w1 hp1 _ hlt1=>?_
 intro hsz1 hnew1 hx1 hKS1 _ hkept1 ht1 ho1 hu1
 have hlt:=(gei hs).1
 refine hfeet Sh0 _ _ w1 (fun p h=>hp1 p (mcm h)) (fun e he=>⟨by have:=(hK0 e he).1;omega,(hK0 e he).2⟩) fun u bf xs bsf Sh hk hF hSh=>?_
 simp only[Frame.finish_at]
 walk_nrm
 obtain⟨a1,a2,a3,a4,a5⟩:=hk
 have hsu:u.heap[bs]?=some (.cells #[.int .i64 0,.slice none 0 0,.slice none 0 0,.slice none 0 0] 35):=(a1 bs ⟨by omega,hsn⟩).trans ((hkept1 bs hlt (fun h=>h)).trans hs)
 refine scD hG (wd:=wd) (n:=n) (M:=M) (bs:=bs) (bc:=bc) (bl:=bl) (bf:=bf) hsu (fun h=>by rcases hSh bs h with h|h;exact hsn h;omega) (fun u2 hk2=>?_) _ _ _ _ _ _ _ _ _ _ _
 obtain⟨b1,b2,b3,b4,b5⟩:=hk2
 have hfm:∀ e o,w1.heap.size<=e->u.heap[e]?=some o->u2.heap[e]?=some o:=fun e o q1 q2=>(b1 e ⟨(gei q2).1,by omega⟩).trans q2
 exact hfin u2 bf xs bsf Sh ⟨fun e he=>((b1 e ⟨by omega,he.2.2⟩).trans (a1 e ⟨by omega,he.2.1⟩)).trans (hkept1 e he.1 (fun h=>h)),b2.trans (a2.trans ht1),b3.trans (a3.trans ho1),b4.trans (a4.trans hu1),by omega⟩ (hF.mono hsz1 hfm) (fun e he=>(hSh e he).imp id fun h=>by omega)
set_option maxRecDepth 100000 in
theorem ztd(hG:za9 Tryz.prog Goal){M:Nat}(hl0:∀ p∈l0,Kc p.1)(hfeet:zjl Goal wd ga n cap M l0 Kc RowP)(hpic:zsb Goal wd ga n cap M l0 Kc objL)(hp0:Hp l0 u0)(hK0:∀ e,Kc e->e<u0.heap.size/\¬ Sh0 e)(hs:u0.heap[bs]?=some (.cells #[.int .i64 0,.slice none 0 0,.slice none 0 0,.slice none 0 0] 35))(hsn:¬ Sh0 bs)(hb:u0.heap[bg]?=some (.cells #[.int .i64 wd,.slice ga n cap] 33))(hbn:¬ Sh0 bg)(hfin:∀(u2:World) (bl bf:Nat) (xs:Nat->Value) (bsf:Nat->List (Nat × Obj)) (Sh:Nat->Prop),zb6 (fun e=>e<u0.heap.size/\¬ Sh0 e/\e≠bs) u0 u2->u0.heap.size<=bl->u2.heap[bl]?=some objL->¬ Sh bl->(∀ k,k<M->∀ p∈bsf k,p.1≠bl)->bl≠bf->zdP RowP M u0.heap.size u2 bf xs bsf Sh->(∀ e,Sh e->Sh0 e\/u0.heap.size<=e)->zar Tryz.prog Goal Sh (fun _=>False) (G (c.finish (.tuple #[.agg #[.int .i64 wd,.slice (some ⟨bc,0,none⟩) n n,.slice (some ⟨bl,0,none⟩) M M,.slice (some ⟨bf,0,none⟩) M M],.bool true])) cs) u2)(y0 y3 y4 y5 y6 y7 y8 y11 y13 y14:Value) :
  zar Tryz.prog Goal Sh0 (fun _=>False) (G ((base 54).at ⟨#[y0,.pointer (some ⟨bg,0,none⟩),.pointer (some ⟨bs,0,none⟩),y3,y4,y5,y6,y7,y8,.agg #[.int .i64 wd,.slice (some ⟨bc,0,none⟩) n n],.agg #[.int .i64 wd,.slice ga n cap],y11,.agg #[.int .i64 wd,.slice ga n cap],y13,y14],[]⟩ [.inRegion ze1 [3,5,6,7,8],.code .ret]) (c::cs)) u0:=by
 refine zar.way hG (ch:=0) (K:=Kc) (S:=fun _=>False) (l:=l0) (lx:=[]) hp0 (fun p h=>.inl (hl0 p h)) (fun _ h=>by cases h) (fun _ h=>by cases h) (fun _ h=>h.elim) (fun e he=>⟨(hK0 e (he.elim id fun x=>x.elim)).1,(hK0 e (he.elim id fun x=>x.elim)).2,fun h=>h⟩) ?_
 simp only[ze1,Tryz.f54]
 refine zag.enter rfl rfl (by decide) (fun w=>run_call_body rfl Tryz.func73 rfl rfl) (fun w=>events_call_body rfl Tryz.func73 rfl rfl _) ?_
 walk_nrm
 refine zag.stop fun hl1 w1 hp1 _ hlt1=>?_
 intro hsz1 hnew1 hx1 hKS1 _ hkept1 ht1 ho1 hu1
 have hlt:=(gei hs).1
 have hbt:=(gei hb).1
 refine hpic Sh0 _ _ w1 hp1 (fun e he=>⟨by have:=(hK0 e he).1;omega,(hK0 e he).2⟩) fun u bl Sh hk hbl hLo hnl hSh=>?_
 simp only[Frame.finish_at]
 walk_nrm
 obtain⟨a1,a2,a3,a4,a5⟩:=hk
 have hkeep:∀ e o,u0.heap[e]?=some o->¬ Sh0 e->u.heap[e]?=some o/\¬ Sh e:=fun e o q1 q2=>by
  have q3:=(gei q1).1
  exact⟨(a1 e ⟨by omega,q2⟩).trans ((hkept1 e q3 (fun h=>h)).trans q1),fun h=>by rcases hSh e h with h|h;exact q2 h;omega⟩
 have hblu:=(gei hLo).1
 refine ztf hG hl0 hfeet (bl:=bl) (bc:=bc) (n:=n) (fun p h=>(hkeep p.1 p.2 (hp0 p h) (hK0 _ (hl0 p h)).2).1) (fun e he=>⟨by have:=(hK0 e he).1;omega,fun h=>by rcases hSh e h with h|h;exact(hK0 e he).2 h;have:=(hK0 e he).1;omega⟩) (hkeep bs _ hs hsn).1 (hkeep bs _ hs hsn).2 (fun u2 bf xs bsf Sh2 hk2 hF hSh2=>?_) _ _ _ _ _ _ _ _ _ _ _
 obtain⟨b1,b2,b3,b4,b5⟩:=hk2
 refine hfin u2 bl bf xs bsf Sh2 ⟨fun e he=>?_,b2.trans (a2.trans ht1),b3.trans (a3.trans ho1),b4.trans (a4.trans hu1),by omega⟩ (by omega) ((b1 bl ⟨hblu,hnl,by omega⟩).trans hLo) (fun h=>by rcases hSh2 bl h with h|h;exact hnl h;omega) (fun k hk3 p hp3 e=>by have:=((hF.row k hk3).2.2 p hp3).1;omega) (by have:=hF.new;omega) (hF.mono (by omega) (fun e o _ q=>q)) (fun e he=>by rcases hSh2 e he with h|h;(rcases hSh e h with h|h;exact .inl h;exact .inr (by omega));exact .inr (by omega))
 have h1:¬ Sh e:=fun h=>by rcases hSh e h with h|h;exact he.2.1 h;have:=he.1;omega
 exact((b1 e ⟨by have:=he.1;omega,h1,he.2.2⟩).trans (a1 e ⟨by have:=he.1;omega,he.2.1⟩)).trans (hkept1 e he.1 (fun h=>h))
set_option maxRecDepth 100000 in
theorem zte(hG:za9 Tryz.prog Goal){M:Nat}(hl0:∀ p∈l0,Kc p.1)(hfeet:zjl Goal wd ga n cap M l0 Kc RowP)(hpic:zsb Goal wd ga n cap M l0 Kc objL)(hp0:Hp l0 u0)(hK0:∀ e,Kc e->e<u0.heap.size/\¬ Sh0 e)(hs:u0.heap[bs]?=some (.cells #[.int .i64 0,.slice none 0 0,.slice none 0 0,.slice none 0 0] 35))(hsn:¬ Sh0 bs)(hb:u0.heap[bg]?=some (.cells #[.int .i64 wd,.slice ga n cap] 33))(hbn:¬ Sh0 bg)(hfin:∀(u2:World) (bl bf:Nat) (xs:Nat->Value) (bsf:Nat->List (Nat × Obj)) (Sh:Nat->Prop),zb6 (fun e=>e<u0.heap.size/\¬ Sh0 e/\e≠bs) u0 u2->u0.heap.size<=bl->u2.heap[bl]?=some objL->¬ Sh bl->(∀ k,k<M->∀ p∈bsf k,p.1≠bl)->bl≠bf->zdP RowP M u0.heap.size u2 bf xs bsf Sh->(∀ e,Sh e->Sh0 e\/u0.heap.size<=e)->zar Tryz.prog Goal Sh (fun _=>False) (G (c.finish (.tuple #[.agg #[.int .i64 wd,.slice (some ⟨bc,0,none⟩) n n,.slice (some ⟨bl,0,none⟩) M M,.slice (some ⟨bf,0,none⟩) M M],.bool true])) cs) u2)(y0 y3 y4 y5 y6 y7 y8 y11 y12 y13 y14:Value) :
  zar Tryz.prog Goal Sh0 (fun _=>False) (G ((base 54).at ⟨#[y0,.pointer (some ⟨bg,0,none⟩),.pointer (some ⟨bs,0,none⟩),y3,y4,y5,y6,y7,y8,.agg #[.int .i64 wd,.slice (some ⟨bc,0,none⟩) n n],.agg #[.int .i64 wd,.slice ga n cap],y11,y12,y13,y14],[]⟩ [.inRegion ze1 [3,4,5,6,7,8],.code .ret]) (c::cs)) u0:=by
 refine zar.way hG (ch:=0) (K:=Kc) (S:=fun _=>False) (l:=l0) (lx:=[]) hp0 (fun p h=>.inl (hl0 p h)) (fun _ h=>by cases h) (fun _ h=>by cases h) (fun _ h=>h.elim) (fun e he=>⟨(hK0 e (he.elim id fun x=>x.elim)).1,(hK0 e (he.elim id fun x=>x.elim)).2,fun h=>h⟩) ?_
 simp only[ze1,Tryz.f54]
 refine zag.enter rfl rfl (by decide) (fun w=>run_call_body rfl Tryz.func73 rfl rfl) (fun w=>events_call_body rfl Tryz.func73 rfl rfl _) ?_
 walk_nrm
 refine zag.stop fun hl1 w1 hp1 _ hlt1=>?_
 intro hsz1 hnew1 hx1 hKS1 _ hkept1 ht1 ho1 hu1
 have hlt:=(gei hs).1
 have hbt:=(gei hb).1
 refine hpic Sh0 _ _ w1 hp1 (fun e he=>⟨by have:=(hK0 e he).1;omega,(hK0 e he).2⟩) fun u bl Sh hk hbl hLo hnl hSh=>?_
 simp only[Frame.finish_at]
 walk_nrm
 obtain⟨a1,a2,a3,a4,a5⟩:=hk
 have hkeep:∀ e o,u0.heap[e]?=some o->¬ Sh0 e->u.heap[e]?=some o/\¬ Sh e:=fun e o q1 q2=>by
  have q3:=(gei q1).1
  exact⟨(a1 e ⟨by omega,q2⟩).trans ((hkept1 e q3 (fun h=>h)).trans q1),fun h=>by rcases hSh e h with h|h;exact q2 h;omega⟩
 have hblu:=(gei hLo).1
 refine ztg hG hl0 hfeet (bl:=bl) (bc:=bc) (n:=n) (fun p h=>(hkeep p.1 p.2 (hp0 p h) (hK0 _ (hl0 p h)).2).1) (fun e he=>⟨by have:=(hK0 e he).1;omega,fun h=>by rcases hSh e h with h|h;exact(hK0 e he).2 h;have:=(hK0 e he).1;omega⟩) (hkeep bs _ hs hsn).1 (hkeep bs _ hs hsn).2 (hkeep bg _ hb hbn).1 (hkeep bg _ hb hbn).2 (fun u2 bf xs bsf Sh2 hk2 hF hSh2=>?_) _ _ _ _ _ _ _ _ _ _ _
 obtain⟨b1,b2,b3,b4,b5⟩:=hk2
 refine hfin u2 bl bf xs bsf Sh2 ⟨fun e he=>?_,b2.trans (a2.trans ht1),b3.trans (a3.trans ho1),b4.trans (a4.trans hu1),by omega⟩ (by omega) ((b1 bl ⟨hblu,hnl,by omega⟩).trans hLo) (fun h=>by rcases hSh2 bl h with h|h;exact hnl h;omega) (fun k hk3 p hp3 e=>by have:=((hF.row k hk3).2.2 p hp3).1;omega) (by have:=hF.new;omega) (hF.mono (by omega) (fun e o _ q=>q)) (fun e he=>by rcases hSh2 e he with h|h;(rcases hSh e h with h|h;exact .inl h;exact .inr (by omega));exact .inr (by omega))
 have h1:¬ Sh e:=fun h=>by rcases hSh e h with h|h;exact he.2.1 h;have:=he.1;omega
 exact((b1 e ⟨by have:=he.1;omega,h1,he.2.2⟩).trans (a1 e ⟨by have:=he.1;omega,he.2.1⟩)).trans (hkept1 e he.1 (fun h=>h))
end
end
section
open Go Go.Conc
section
variable{M:Program}{main:Bool}{Live:World->Prop}{Ex:Event->Prop}{Stop:Nat->(Nat->Prop)->Goroutine->World->Prop}{Snd:Nat->(Nat->Prop)->Value->World->Prop}{ch:Nat}{K:Nat->Prop}{l:List (Nat × Obj)}{σ:Nat}{S:Nat->Prop}
theorem zag.callM{L:Program}[T:zaB L M][zaB L L](W:Whole L)(B:Bodies L M X)(hLv:∀ w w':World,(∀ c,Lv c->w'.heap[c]?=w.heap[c]?)->Live w->Live w')(hlv:∀ w c,Live w->Lv c->c<w.heap.size)(hX:zji L X){fn:Func}(hf:L.funcs[f]?=some fn)(hb:fn.body.isSome=true)(hnX:¬ X f){a:Array Value}(hP:∀ w0 v w τ d,Post w0 v w->Post w0 v (w.tp τ d))(hKc:∀ c,Kc c->K c)(hcl:∀ w,Hp l w->Closed Kc w)(ha:zaz (zcu Kc) a a)(hC:∀ w,Hp l w->∀ τ d,Calls L f a (w.frz.tp τ d) fun e w'=>∃ v,e=.returned v/\Post w v w'){c:Frame}{cs:List Frame}(hgo:∀ w0 v v' S' R wl w₁,Hp l w0->Hp l w₁->Post w0 v wl->zao R v v'->zbb w0.heap.size R wl w₁->S'=zbC w0.heap.size R->(∀ c,S' c->w0.heap.size<=c)->(∀ c,K c\/S c->c<w0.heap.size)->Live w₁->(∀ c,K c\/S c\/S' c->c<w₁.heap.size) ->
   zaZ M main Live Ex Stop Snd ch K σ (fun c=>S c\/S' c) (G (c.finish v') cs) w₁) :
  zag M main Live Ex Stop Snd ch K l σ S (G (Frame.enter M f a .normal) (c::cs)):=by
 intro hl w hp hL hlt
 refine zid (Post:=Post w) (Lv:=Lv) W B hLv hX hf hb hnX (hP w) hKc (hcl w hp) ha hlt (fun c hc=>hlv w c hL hc) (hC w hp) ?_
 rintro v' w₁ S' hs hnew ⟨R,wl,v,hv,hw,hpost,hS'⟩
 refine hgo w v v' S' R wl w₁ hp (hp.sees hl hs) hpost hv hw hS' hnew hlt (hs.live hL) fun c hc=>?_
 rcases hc with hc|hc|hc
 ·exact nll (hlt c (Or.inl hc)) hs.size
 ·exact nll (hlt c (Or.inr hc)) hs.size
 ·rw[hS'] at hc
  obtain⟨x,hx,_⟩:=hc
  exact(hw.lt hx).2
end
theorem zag.callMb{L M:Program}{main:Bool}{Live:World->Prop}{Ex:Event->Prop}{Stop:Nat->(Nat->Prop)->Goroutine->World->Prop}{Snd:Nat->(Nat->Prop)->Value->World->Prop}{ch:Nat}{K:Nat->Prop}{l:List (Nat × Obj)}{σ:Nat}{S:Nat->Prop}[T:zaB L M][zaB L L](W:Whole L)(B:Bodies L M X)(hLv:∀ w w':World,(∀ c,Lv c->w'.heap[c]?=w.heap[c]?)->Live w->Live w')(hlv:∀ w c,Live w->Lv c->c<w.heap.size)(hX:zji L X){fn:Func}(hf:L.funcs[f]?=some fn)(hb:fn.body.isSome=true)(hnX:¬ X f){a:Array Value}(hP:∀ w0 v w τ d,Post w0 v w->Post w0 v (w.tp τ d))(hKc:∀ c,Kc c->K c)(hcl:∀ w,Hp l w->Closed Kc w)(ha:zaz (zcu Kc) a a)(hC:∀ w,Hp l w->∀ τ d,Calls L f a (w.frz.tp τ d) fun e w'=>∃ v,e=.returned v/\Post w v w'){Q:Value->List (Nat × Obj)->Prop}(hQ:∀ w0 v v' R wl w₁,Post w0 v wl->zao R v v'->zbb w0.heap.size R wl w₁->∃ bs,Q v' bs/\Hp bs w₁/\∀ p∈bs,zbC w0.heap.size R p.1){c:Frame}{cs:List Frame}(hn:∀(S':Nat->Prop) (v':Value) (bs:List (Nat × Obj)),Q v' bs->(∀ p∈bs,S' p.1/\¬ K p.1/\¬ S p.1)->(∀ p∈l,K p.1\/S p.1)->zag M main Live Ex Stop Snd ch K (bs++l) σ (fun c=>S c\/S' c) (G (c.finish v') cs)) :
  zag M main Live Ex Stop Snd ch K l σ S (G (Frame.enter M f a .normal) (c::cs)):=by
 intro hl
 refine zag.callM (Lv:=Lv) (Kc:=Kc) W B hLv hlv hX hf hb hnX hP hKc hcl ha hC ?_ hl
 intro w0 v v' S' R wl w₁ _ hp1 hpost hv hw hS' hnew hlt hL hlt1
 obtain⟨bs,hq,hbs,hown⟩:=hQ w0 v v' R wl w₁ hpost hv hw
 have hS2:∀ p∈bs,S' p.1:=fun p h=>by rw[hS'];exact hown p h
 refine hn S' v' bs hq (fun p h=>⟨hS2 p h,fun q=>?_,fun q=>?_⟩) hl (fun p h=>?_) w₁ (fun p h=>?_) hL (fun c hc=>hlt1 c (hc.imp id fun x=>x))
 ·have h1:=hlt p.1 (.inl q);have h2:=hnew p.1 (hS2 p h);omega
 ·have h1:=hlt p.1 (.inr q);have h2:=hnew p.1 (hS2 p h);omega
 ·rcases List.mem_append.1 h with h|h
  ·exact .inr (.inr (hS2 p h))
  ·exact(hl p h).imp id .inl
 ·rcases List.mem_append.1 h with h|h
  ·exact hbs p h
  ·exact hp1 p h
