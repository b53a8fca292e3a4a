/- Part. -/
import Derived.Laws.Tables
import Derived.Conc.SmallLaws
import Derived.Laws.MakeOwn
import Derived.Test.YthfhlgdeghnggaaGreatEAd
namespace Go.Proofs.YthfhlgdeghnggaaGreat
variable{gs:Array Goroutine}{args:Array Operand}{ats:Array TypeId}{arr buf cells old:Array Value}{blocking tm:Bool}{fn:Func}{f:FuncId}{X:FuncId->Prop}{a₂:Goroutine}{lx:List (Nat × Obj)}{c cap id n r s:Nat}{zz:Nat × Nat}{q:Nat->Nat}{V:Nat->Value}{B Kc Lv:Np}{obj:Obj}{z z1 z2:Operand}{sl:Option (Nat × Nat)}{e t:TypeId}{v0:Value}{w₁:World}
section
open Go Go.Conc
theorem zbv(w:World)(o:Obj):(w.alloc o).heap[w.heap.size]?=some o/\∀ r,r<w.heap.size->(w.alloc o).heap[r]?=w.heap[r]?:=by
 have e:(w.alloc o).heap=w.heap.push o:=rfl
 rw[e]
 exact⟨qm,fun r h=>by rw[Array.getElem?_push_lt h,Array.getElem?_eq_getElem h]⟩
def Hp(l:List (Nat × Obj))(w:World):Prop:=∀ p∈l,w.heap[p.1]?=some p.2
theorem Hp.at{l:List (Nat × Obj)}{w:World}(h:Hp l w){o:Obj}(hc:(c,o)∈l):w.heap[c]?=some o:=h (c,o) hc
theorem Hp.same{l:List (Nat × Obj)}{w:World}(h:Hp l w)(hs:∀ p∈l,w₁.heap[p.1]?=w.heap[p.1]?):Hp l w₁:=fun p hp=>(hs p hp).trans (h p hp)
theorem Hp.cell{l:List (Nat × Obj)}{w:World}(h:Hp l w){z:Nat × Nat}(hc:(c,.cells arr t z)∈l)(i:Nat){v:Value}(hv:arr[i]?=some v):w.cell? (O c i)=some v:=by
 simp[World.cell?,h.at hc,hv]
theorem Hp.thaw{l:List (Nat × Obj)}{w:World}(h:Hp l w)(hc:(c,.cells arr t)∈l)(i:Nat):w.frozen? (O c i)=false:=by
 simp[World.frozen?,h.at hc]
theorem zaM{K S:Np}{l:List (Nat × Obj)}(hl:∀ p∈l,K p.1\/S p.1){o:Obj}(hc:(c,o)∈l)(i:Nat):EvS K S ⟨.cell (O c i),false,false⟩ :=
 Or.inl ⟨_,_,rfl,(hl _ hc).symm.imp id fun h=>⟨h,rfl⟩⟩
theorem Hp.new{l:List (Nat × Obj)}{w:World}(h:Hp l w)(o:Obj):Hp ((w.heap.size,o)::l) (w.alloc o):=by
 intro p hp
 rcases List.mem_cons.1 hp with rfl|hp
 ·exact(zbv w o).1
 ·have e:=h p hp
  exact((zbv w o).2 p.1 (gei e).1).trans e
theorem zpo{P:Program}{a:Act}{w:World}{o:Oper}{x:Operand}(h3:o.op=.call { callee:=.value x,args,argTypes:=ats })(hx:a.eval x=.func (.func f) #[] #[])(hf:P.funcs[f]?=some fn)(h0:(fn.name == "runtime.NumGoroutine")=false)(hb:fn.body.isSome=true):(execOp a.eval o).run P w=.ok (.enter f (args.map a.eval)) w:=by
 have h1:¬ fn.name= "runtime.NumGoroutine":=by simpa using h0
 have h2:¬ fn.body=none:=fun e=>by rw[e] at hb;cases hb
 unfold execOp
 simp[h3,resolve,Deferred.ofValue,invoke,callFunc,hf,h1,h2,hx]
theorem ziS{P:Program}{a:Act}{w:World}{o:Oper}{x:Operand}(h3:o.op=.call { callee:=.value x,args,argTypes:=ats })(hx:a.eval x=.func (.func f) #[] #[])(hf:P.funcs[f]?=some fn)(h0:(fn.name == "runtime.NumGoroutine")=false)(hb:fn.body.isSome=true)(es:Array Event):(execOp a.eval o).events P w es=es:=by
 have h1:¬ fn.name= "runtime.NumGoroutine":=by simpa using h0
 have h2:¬ fn.body=none:=fun e=>by rw[e] at hb;cases hb
 unfold execOp
 simp[h3,resolve,Deferred.ofValue,invoke,callFunc,hf,h1,h2,hx]
section
variable(M:Program)(main:Bool)(Live:Wq)(Ex:Event->Prop)(Stop:Nat->Np->Goroutine->Wq)(Snd:Nat->Np->Value->Wq)(ch:Nat)(K:Np)
def zah(l:List (Nat × Obj))(σ:Nat)(S:Np)(g:Goroutine):Prop :=
 (∀ p∈l,K p.1\/S p.1)->∀ w,Hp l w->Live w->(∀ c,K c\/S c->c<w.heap.size)->za5 M main Live Ex Stop Snd ch K σ S g w
end
section
variable{M:Program}{main:Bool}{Live:Wq}{Ex:Event->Prop}{Stop:Nat->Np->Goroutine->Wq}{Snd:Nat->Np->Value->Wq}{ch:Nat}{K:Np}{l l':List (Nat × Obj)}{σ:Nat}{S:Np}{g g':Goroutine}{b:Frame}{a:Act}{k:List Item}{cs:List Frame}{ops:Array Oper}{i:Nat}{rest:List Nat}{o:Oper}
theorem Hp.sees{w:World}(h:Hp l w)(hl:∀ p∈l,K p.1\/S p.1)(hs:zaW Live K S w w₁):Hp l w₁:=h.same fun p hp=>hs.same p.1 (hl p hp)
theorem zah.ctl(hr:g.status=.running)(h:∀ w,stepG M main g w=.go g' w #[])(hn:zah M main Live Ex Stop Snd ch K l σ S g'):zah M main Live Ex Stop Snd ch K l σ S g :=
 fun hl w hp hL h0=>za5.ctl hr h (hn hl w hp hL h0)
theorem zah.sq{x y:Code}(hn:zah M main Live Ex Stop Snd ch K l σ S (G (b.at a (.code x::.code y::k)) cs)):zah M main Live Ex Stop Snd ch K l σ S (G (b.at a (.code (.seq x y)::k)) cs) :=
 zah.ctl rfl (fun _=>stepG_seq) hn
theorem zah.rg(hn:zah M main Live Ex Stop Snd ch K l σ S (G (b.at a (.inRegion ops (List.range ops.size)::k)) cs)):zah M main Live Ex Stop Snd ch K l σ S (G (b.at a (.code (.region id ops false)::k)) cs) :=
 zah.ctl rfl (fun _=>stepG_region) hn
theorem zah.re(hn:zah M main Live Ex Stop Snd ch K l σ S (G (b.at a k) cs)):zah M main Live Ex Stop Snd ch K l σ S (G (b.at a (.inRegion ops []::k)) cs) :=
 zah.ctl rfl (fun _=>stepG_region_end) hn
theorem zah.val(ho:ops[i]?=some o)(hw:Region.wanted o (yielded ops a.tmps)=true)(hk:b.kind≠.early){v:Value}(hr:∀ w,Hp l w->(execOp a.eval o).run M w=.ok (.value v) w)(he:(∀ p∈l,K p.1\/S p.1)->∀ w,Hp l w->∀ e∈(execOp a.eval o).events M w #[],EvS K S e)(hn:zah M main Live Ex Stop Snd ch K l σ S (G (b.at (a.put o.dst v) (.inRegion ops rest::k)) cs)):zah M main Live Ex Stop Snd ch K l σ S (G (b.at a (.inRegion ops (i::rest)::k)) cs) :=
 fun hl w hp hL h0=>za5.go rfl fun w₁ hs =>
  ⟨_,w₁,_,S,stepG_value ho hw hk (hr w₁ (hp.sees hl hs)),⟨Nat.le_refl _,fun _ h=>h,fun _ h=>Or.inl h,fun _ _ _=>rfl,rfl,rfl,rfl,fun e hx=>Or.inl (he hl w₁ (hp.sees hl hs) e (mem_listed hx))⟩,(hn hl w hp hL h0).rely hs⟩
theorem zah.new(h2:∀ w o,Live w->Live (w.alloc o))(ho:ops[i]?=some o)(hw:Region.wanted o (yielded ops a.tmps)=true)(hk:b.kind≠.early)(hr:∀ w,Hp l w->(execOp a.eval o).run M w=.ok (.value (V w.heap.size)) (w.alloc obj))(he:(∀ p∈l,K p.1\/S p.1)->∀ w,Hp l w->∀ e∈(execOp a.eval o).events M w #[],EvS K (fun c=>S c\/c=w.heap.size) e)(hn:∀ c,¬ K c->¬ S c->zah M main Live Ex Stop Snd ch K ((c,obj)::l) σ (fun d=>S d\/d=c) (G (b.at (a.put o.dst (V c)) (.inRegion ops rest::k)) cs)):zah M main Live Ex Stop Snd ch K l σ S (G (b.at a (.inRegion ops (i::rest)::k)) cs):=by
 intro hl w hp hL h3
 refine za5.go rfl fun w₁ hs=>?_
 have h1:=hp.sees hl hs
 have h0:∀ c,K c\/S c->c<w₁.heap.size:=fun c hc=>nll (h3 c hc) hs.size
 have h4:(w₁.alloc obj).heap.size=w₁.heap.size+1:=qm
 refine⟨_,w₁.alloc obj,_,fun d=>S d\/d=w₁.heap.size,stepG_value ho hw hk (hr w₁ h1),⟨qg,fun _ h=>Or.inl h,fun c h=>h.imp id fun e=>⟨qg,qg⟩,fun c hc _=>(zbv w₁ obj).2 c hc,rfl,rfl,rfl,fun e hx=>Or.inl (he hl w₁ h1 e (mem_listed hx))⟩,?_⟩
 refine hn w₁.heap.size (fun h=>Nat.lt_irrefl _ (h0 _ (Or.inl h))) (fun h=>Nat.lt_irrefl _ (h0 _ (Or.inr h))) (fun p hp'=>?_) _ (h1.new obj) (h2 _ _ (hs.live hL)) (fun c hc=>?_)
 ·rcases List.mem_cons.1 hp' with rfl|hp'
  ·exact Or.inr (Or.inr rfl)
  ·exact(hl p hp').imp id Or.inl
 ·rw[h4]
  rcases hc with hc|hc|hc
  ·have:=h0 c (Or.inl hc);omega
  ·have:=h0 c (Or.inr hc);omega
  ·omega
theorem zah.put(ho:ops[i]?=some o)(hw:Region.wanted o (yielded ops a.tmps)=true)(hk:b.kind≠.early)(hc:S c)(h4:∀ w w',(∀ d,d≠c->w'.heap[d]?=w.heap[d]?)->Live w->Live w')(hr:∀ w,Hp l w->∃ w',(execOp a.eval o).run M w=.ok .skip w'/\Aside c w w'/\w'.heap[c]?=some obj)(he:(∀ p∈l,K p.1\/S p.1)->∀ w,Hp l w->∀ e∈(execOp a.eval o).events M w #[],EvS K S e)(hl':∀ p∈l',p=(c,obj)\/(p∈l/\p.1≠c))(hn:zah M main Live Ex Stop Snd ch K l' σ S (G (b.at (a.put o.dst undef) (.inRegion ops rest::k)) cs)):zah M main Live Ex Stop Snd ch K l σ S (G (b.at a (.inRegion ops (i::rest)::k)) cs):=by
 intro hl w hp hL h5
 refine za5.go rfl fun w₁ hs=>?_
 have h0:=hp.sees hl hs
 obtain⟨w',h1,h2,h3⟩:=hr w₁ h0
 refine⟨_,w',_,S,stepG_none ho hw hk h1,⟨Nat.le_of_eq h2.size.symm,fun _ h=>h,fun _ h=>Or.inl h,fun d _ hd=>h2.block d (by rintro rfl;exact hd hc),h2.tape,h2.os,h2.output,fun e hx=>Or.inl (he hl w₁ h0 e (mem_listed hx))⟩,?_⟩
 refine hn (fun p hp'=>?_) w' (fun p hp'=>?_) (h4 _ _ h2.block (hs.live hL)) (fun d hd=>?_)
 ·rcases hl' p hp' with rfl|⟨h,_⟩
  ·exact Or.inr hc
  ·exact hl p h
 ·rcases hl' p hp' with rfl|⟨h,h'⟩
  ·exact h3
  ·exact(h2.block _ h').trans (h0 p h)
 ·rw[h2.size]
  exact nll (h5 d hd) hs.size
theorem zah.enter(ho:ops[i]?=some o)(hw:Region.wanted o (yielded ops a.tmps)=true)(hk:b.kind≠.early){args:Array Value}(hr:∀ w,(execOp a.eval o).run M w=.ok (.enter f args) w)(he:∀ w,(execOp a.eval o).events M w #[]=#[])(hn:zah M main Live Ex Stop Snd ch K l σ S (G (Frame.enter M f args .normal) (b.at a (.inRegion ops (i::rest)::k)::cs))):zah M main Live Ex Stop Snd ch K l σ S (G (b.at a (.inRegion ops (i::rest)::k)) cs) :=
 zah.ctl rfl (fun w=>by rw[stepG_enter ho hw hk (hr w)];unfold listed;rw[he w,seen_none]) hn
theorem zah.send(ho:ops[i]?=some o)(hd:o.dst=none)(hw:Region.wanted o (yielded ops a.tmps)=true)(hk:b.kind≠.early){v z:Value}(hr:∀ w,(execOp a.eval o).run M w=.ok (.comm #[⟨.chan (some ch),some v,z⟩] true .send) w)(he:∀ w,(execOp a.eval o).events M w #[]=#[])(S':Np)(hS:∀ c,S' c->S c)(hs:∀ w,Hp l w->Snd σ (fun c=>S c/\¬ S' c) v w)(hl':(∀ p∈l,K p.1\/S p.1)->∀ p∈l',p∈l/\(K p.1\/S' p.1))(hn:zah M main Live Ex Stop Snd ch K l' (σ+1) S' (G (b.at a (.inRegion ops rest::k)) cs)):zah M main Live Ex Stop Snd ch K l σ S (G (b.at a (.inRegion ops (i::rest)::k)) cs):=by
 intro hl w hp hL h0
 refine za5.step rfl fun w₁ h₁=>Or.inr ⟨G (b.at a (.inRegion ops (i::rest)::k)) cs,v,z,S',?_,hS,hs w₁ (hp.sees hl h₁),?_⟩
 ·rw[stepG_comm ho hw hk (hr w₁)]
  unfold listed
  rw[he w₁,seen_none]
 ·have e:(G (b.at a (.inRegion ops (i::rest)::k)) cs).finishComm M #[⟨.chan (some ch),some v,z⟩] .send 0 undef false=G (b.at a (.inRegion ops rest::k)) cs:=by
   simp only[Goroutine.finishComm,G,Frame.finish_at,ho,Option.bind_some,hd,Act.put]
  rw[e]
  exact hn (fun p h=>(hl' hl p h).2) w₁ (fun p h=>hp.sees hl h₁ p (hl' hl p h).1) (h₁.live hL) (fun c hc=>nll (h0 c (hc.imp id (hS c))) h₁.size)
end
section
variable{L M:Program}{main:Bool}{Live:Wq}{Ex:Event->Prop}{Stop:Nat->Np->Goroutine->Wq}{Snd:Nat->Np->Value->Wq}{ch:Nat}{K:Np}{l:List (Nat × Obj)}{σ:Nat}{S:Np}
theorem zah.call[T:zaF L M][zaF L L](W:Whole L)(B:Bodies L M X)(h4:∀ w w':World,(∀ c,Lv c->w'.heap[c]?=w.heap[c]?)->Live w->Live w')(h5:∀ w c,Live w->Lv c->c<w.heap.size)(hX:zmk L X)(hf:L.funcs[f]?=some fn)(hb:fn.body.isSome=true)(h6:¬ X f)(h2:zcJ fn=true){a:Array Value}{Post:World->Value->Wq}(hP:∀ w0 v w τ d,Post w0 v w->Post w0 v (w.tp τ d))(h7:∀ c,Kc c->K c)(h8:∀ w,Hp l w->Closed Kc w)(ha:zay (zcN Kc) a a)(hC:∀ w,Hp l w->∀ τ d,Calls L f a (w.frz.tp τ d) fun e w'=>∃ v,e=.returned v/\Post w v w'){c:Frame}{cs:List Frame}(h9:∀ w0 v v' S' R wl w₁,Hp l w0->Hp l w₁->Post w0 v wl->zaj R v v'->zbh w0.heap.size R wl w₁->S'=zbI w0.heap.size R->(∀ c,S' c->w0.heap.size<=c)->(∀ c,K c\/S c->c<w0.heap.size)->Live w₁->(∀ c,K c\/S c\/S' c->c<w₁.heap.size) ->
   za5 M main Live Ex Stop Snd ch K σ (fun c=>S c\/S' c) (G (c.finish v') cs) w₁) :
  zah M main Live Ex Stop Snd ch K l σ S (G (Frame.enter M f a .normal) (c::cs)):=by
 intro hl w hp hL h0
 refine zqo (Lv:=Lv) W B h4 hX hf hb h6 h2 (hP w) h7 (h8 w hp) ha h0 (fun c hc=>h5 w c hL hc) (hC w hp) ?_
 rintro v' w₁ S' hs h3 ⟨R,wl,v,hv,hw,h1,hS'⟩
 refine h9 w v v' S' R wl w₁ hp (hp.sees hl hs) h1 hv hw hS' h3 h0 (hs.live hL) fun c hc=>?_
 rcases hc with hc|hc|hc
 ·exact nll (h0 c (Or.inl hc)) hs.size
 ·exact nll (h0 c (Or.inr hc)) hs.size
 ·rw[hS'] at hc
  obtain⟨x,hx,_⟩:=hc
  exact(hw.lt hx).2
theorem zah.callv[T:zaF L M][zaF L L](W:Whole L)(B:Bodies L M X)(h2:∀ w w':World,(∀ c,Lv c->w'.heap[c]?=w.heap[c]?)->Live w->Live w')(h3:∀ w c,Live w->Lv c->c<w.heap.size)(hX:zmk L X)(hf:L.funcs[f]?=some fn)(hb:fn.body.isSome=true)(h4:¬ X f)(h0:zcJ fn=true){a:Array Value}(h5:∀ R v',zaj R v0 v'->v'=v0)(h6:∀ c,Kc c->K c)(h7:∀ w,Hp l w->Closed Kc w)(ha:zay (zcN Kc) a a)(hC:∀ w,Hp l w->∀ τ d,Calls L f a (w.frz.tp τ d) fun e _=>e=.returned v0){c:Frame}{cs:List Frame}(hn:∀ S':Np,zah M main Live Ex Stop Snd ch K l σ (fun c=>S c\/S' c) (G (c.finish v0) cs)) :
  zah M main Live Ex Stop Snd ch K l σ S (G (Frame.enter M f a .normal) (c::cs)):=by
 intro hl
 refine zah.call (Lv:=Lv) (Kc:=Kc) W B h2 h3 hX hf hb h4 h0 (Post:=fun _ v _=>v=v0) (fun _ _ _ _ _ h=>h) h6 h7 ha (fun w hp τ d=>?_) ?_ hl
 ·obtain h:=hC w hp τ d
  intro cs
  obtain⟨e,w',fr,he,h1⟩:=h cs
  exact⟨e,w',fr,⟨v0,he,rfl⟩,h1⟩
 ·rintro w0 v v' S' R wl w₁ _ h8 rfl hv _ _ _ _ hL h9
  rw[h5 R v' hv]
  exact hn S' (fun p h=>(hl p h).imp id Or.inl) w₁ h8 hL fun c hc=>h9 c (by rcases hc with h|h|h;exact .inl h;exact .inr (.inl h);exact .inr (.inr h))
end
end
section
open Go Go.Conc Go.ConcN
open Go.ConcR (KK wgBlock WgAt stA smA Payload)
section
variable{P:Program}{w w':World}{a a':Goroutine}
theorem znX{Shun:Np}{t:Trace}(hB:Bes P Shun gs w t q)(h0:gs[0]?=some a)(h8:a.status=.running){V:Nat->World}(h9:∀ d,w.heap.size<=(V d).heap.size)(h7:∀ d,stepG P true a (w.at d)=.go a' (V d) #[]) :
  ∃ (n:Nat) (gs':Array Goroutine) (d:Nat) (sl':Option (Nat × Nat)) (t':Trace) (q':Nat->Nat),runNT P n (crowd gs w sl) t=(.next (crowd gs' (V d) sl'),t')/\gs'.size=gs.size /\
   gs'[0]?=some a'/\Bes P Shun gs' (V d) t' q'/\∀ c,Unt c t->Unt c t':=by
 obtain⟨n,gs1,d1,sl1,sl2,t1,q1,d,h1,h2,h3,h4,h5,h6⟩:=zfh (sumTo gs.size q) gs w sl t q rfl hB h0 h8
 have hr:=runT_crowd_go (P:=P) (sl:=sl2) (i:=0) h3 (show stepG P (0 == 0) a (w.at d)=_ from h7 d)
 have hE:MemOp.ofEvents 0 a.frame.fn a.frame.place #[]=#[]:=rfl
 rw[hE] at hr
 have he:=zeu h1 (h5.trans hr)
 refine⟨n+1,_,d,sl2,_,q1,he,by simp[h2],get_map_set_same _ _ _ h4.pos,?_,fun c hc=>by rw[Array.append_empty];exact h6 c hc⟩
 refine Bes.still (w:=w.at d1) h4 qm (fun i hi=>?_) (h9 d) fun op hop=>?_
 ·rw[get_map_set _ _ _ _ qg]
  cases hx:gs1[i]? with
  | none=>rfl
  | some x=>rw[Option.map_some,woken_quitsD (h4.lv.old i x hi hx)]
 ·simp at hop
end
abbrev zbj(P:Program)(Goal:Machine->Trace->Prop):Prop:=∀ n m t m' t',runNT P n m t=(.next m',t')->Goal m' t'->Goal m t
section
variable(P:Program)(Goal:Machine->Trace->Prop)(Shun U:Np)
def zau(g:Goroutine)(w:World):Prop:=∀(gs:Array Goroutine) (sl:Option (Nat × Nat)) (t:Trace) (q:Nat->Nat),Bes P Shun gs w t q->gs[0]?=some g->(∀ c,U c->Unt c t)->Goal (crowd gs w sl) t
end
section
variable{P:Program}{Goal:Machine->Trace->Prop}{Shun U:Np}{g g':Goroutine}{w:World}
theorem zau.way(hG:zbj P Goal){ch:Nat}{K S:Np}{l:List (Nat × Obj)}(hp:Hp l w)(hl:∀ p∈l,K p.1\/S p.1)(hx:Hp lx w)(h8:∀ p∈lx,¬ S p.1)(hU:∀ c,U c->c<w.heap.size)(h7:∀ c,K c\/S c->c<w.heap.size/\¬ Shun c/\¬ U c)(h:zah P true (fun _=>True) (fun _=>False) (fun _ S' g w'=>w.heap.size<=w'.heap.size->(∀ c,S' c->S c\/w.heap.size<=c)->Hp lx w'->(∀ c,K c\/S' c->c<w'.heap.size/\¬ Shun c/\¬ U c)->(∀ c,U c->c<w'.heap.size)->(∀ c,c<w.heap.size->¬ S c->w'.heap[c]?=w.heap[c]?)->w'.tape=w.tape->w'.os=w.os->w'.output=w.output->zau P Goal Shun U g w') (fun _ _ _ _=>False) ch K l 0 S g):zau P Goal Shun U g w:=by
 intro gs sl t q hB h0 hu
 obtain⟨r,hw⟩:=h hl w hp trivial fun c hc=>(h7 c hc).1
 obtain⟨n,gs',a',w',sl',t',q',S',h1,h2,h3,h4,h5,h6⟩:=zhy r (sumTo gs.size q) gs g w sl t q S 0 rfl h0 hB (fun c hc=>⟨(h7 c hc).1,(h7 c hc).2.1⟩) hw
 have hKS':∀ c,K c\/S' c->c<w'.heap.size/\¬ Shun c/\¬ U c:=fun c hc=>by
  have h9:=h6.size
  rcases hc with hc|hc
  ·have:=h7 c (.inl hc);exact⟨qg,this.2⟩
  ·rcases h6.new c hc with hc|hc
   ·have:=h7 c (.inr hc);exact⟨qg,this.2⟩
   ·exact⟨hc.2,fun x=>by have:=hB.shl c x;omega,fun x=>by have:=hU c x;omega⟩
 refine hG n _ _ _ _ h1 (h4 w' (zaW.refl w') h6.size (fun c hc=>(h6.new c hc).imp id fun x=>x.1) (hx.same fun p hp=>h6.kept p.1 (gei (hx p hp)).1 (h8 p hp)) hKS' (fun c hc=>nll (hU c hc) h6.size) h6.kept h6.tape h6.os h6.out gs' sl' t' q' h5 h3 fun c hc=>h6.unt c (hu c hc) (fun x=>(h7 c (.inl x)).2.2 hc) fun x=>(hKS' c (.inr x)).2.2 hc)
theorem zau.quiet(hG:zbj P Goal){U':Np}(h7:g.status=.running){V:Nat->World}(h8:∀ d,w.heap.size<=(V d).heap.size)(h6:∀ d,stepG P true g (w.at d)=.go g' (V d) #[])(hU:∀ c,U' c->U c\/w.heap.size<=c)(h:∀ d,zau P Goal Shun U' g' (V d)):zau P Goal Shun U g w:=by
 intro gs sl t q hB h0 hu
 obtain⟨n,gs',d,sl',t',q',h1,h2,h3,h4,h5⟩:=znX (sl:=sl) hB h0 h7 h8 h6
 refine hG n _ _ _ _ h1 (h d gs' sl' t' q' h4 h3 fun c hc=>h5 c ?_)
 rcases hU c hc with x|x
 ·exact hu c x
 ·exact znE hB.low x
end
def zbP(j0:Nat)(f:Nat->Nat):Nat->Nat:=fun i=>if i<j0 then 0 else f (i - j0)
theorem zdG{j0 i:Nat}(f:Nat->Nat)(h:i<j0):zbP j0 f i=0:=if_pos h
theorem za6(j0 i:Nat)(f:Nat->Nat):zbP j0 f (j0+i)=f i:=by
 unfold zbP
 rw[if_neg qg,Nat.add_sub_cancel_left]
theorem zma(j0:Nat)(f e:Nat->Nat):∀ m,sumTo (j0+m) (fun i=>zbP j0 e i - zbP j0 f i)=sumTo m (fun i=>e i - f i)
 | 0=>by
  have:∀ k,k<=j0->sumTo k (fun i=>zbP j0 e i - zbP j0 f i)=0:=by
   intro k
   induction k with
   | zero=>exact fun _=>rfl
   | succ k ih=>intro hk;simp only[sumTo,ih qg,zdG e (show k<j0 by omega),zdG f (show k<j0 by omega)]
  exact this j0 (Nat.le_refl _)
 | m+1=>by
  show sumTo (j0+m) _+_=sumTo m _+_
  have h1:=za6 j0 m e
  have h2:=za6 j0 m f
  rw[zma j0 f e m]
  show _+(zbP j0 e (j0+m) - zbP j0 f (j0+m))=_
  rw[h1,h2]
section
variable[Payload]{P:Program}{Goal:Machine->Trace->Prop}{Shun U:Np}{g:Goroutine}{w:World}{ty:TypeId}{Wg ch:Nat}{Snd:Nat->Np->Value->Wq}{K S:Np}{Post Anch:Np->St}
theorem zau.phase(hG:zbj P Goal)(hf:zdV Snd){m:Nat}(hL:1<=m)(hM:m<2147483648){f0 e0:Nat->Nat}(hR:Rng m f0 e0)(hk:sumTo m (fun i=>e0 i - f0 i)<=cap)(hw:WgAt ty Wg w 0 0)(hc:w.heap[ch]?=some (.chan cap #[] false s r tm))(hp:Wg≠ch)(hU:U Wg)(hq:∀ c,S c->¬ K c)(hy:∀ c,K c\/S c->c<w.heap.size/\c≠Wg/\c≠ch/\¬ Shun c)(hz:∀ K S g w,Anch K S g w->g.status=.running)(hA:∀ K S g w,Anch K S g w->WX P ty Wg ch K (MW1 P ty Wg ch Post Anch K) S g w)(hD:∀ j0,zcc P ty Wg ch Snd (j0+m) (zbP j0 f0) (zbP j0 e0) Anch m K S g w)(h9:∀(a:Goroutine) (w':World) (Kf Sf:Np) (cap':Nat) (buf:Array Value) (s' r':Nat) (tm':Bool) (GG:Nat->Np),Post Kf Sf a w'->w'.heap[ch]?=some (.chan cap' buf false s' r' tm') ->
   (∀ x∈buf,∃ i k,i<m/\f0 i<=k/\k<e0 i/\Snd k (GG k) x w')->(∀ i k,i<m->f0 i<=k->k<e0 i->∃ x∈buf,Snd k (GG k) x w') ->
   (∀ c,Kf c\/Sf c->c<w'.heap.size/\c≠Wg/\c≠ch)->(∀ i k c,i<m->f0 i<=k->k<e0 i->GG k c->c<w'.heap.size/\c≠Wg/\c≠ch/\¬ Shun c/\¬ Kf c/\¬ Sf c) ->
   (∀ i k i' k' c,i<m->f0 i<=k->k<e0 i->i'<m->f0 i'<=k'->k'<e0 i'->GG k c->GG k' c->k=k')->zau P Goal (fun c=>c=Wg\/Shun c) (fun _=>False) a w'):zau P Goal Shun U g w:=by
 intro gs sl t q hB h0 hu
 obtain⟨j0,hj⟩:∃ j0,gs.size=j0+1:=⟨gs.size - 1,by have:=hB.pos;omega⟩
 have hR':Rng (j0+m) (zbP j0 f0) (zbP j0 e0):=by
  intro i i' k hi hi' h1 h2 h3 h4
  have hE:j0<=i:=Nat.le_of_not_lt fun h=>by rw[zdG e0 h] at h2;omega
  have hi0':j0<=i':=Nat.le_of_not_lt fun h=>by rw[zdG e0 h] at h4;omega
  obtain⟨x,rfl⟩:=Nat.exists_eq_add_of_le hE
  obtain⟨y,rfl⟩:=Nat.exists_eq_add_of_le hi0'
  rw[za6] at h1 h2 h3 h4
  rw[hR x y k qg qg h1 h2 h3 h4]
 have hT:=zk5 (ty:=ty) (Wg:=Wg) (ch:=ch) (Snd:=Snd) (n:=j0+m) (fst:=zbP j0 f0) (fin:=zbP j0 e0) (K0:=K) (S0:=S) hB hj qg (fun i hi=>by rw[zdG f0 hi,zdG e0 hi]) hc (by rw[zma];exact hk) hw hp (hu Wg hU) hq hy
 obtain⟨r0,he⟩:∃ r0,m=r0+1:=⟨m - 1,qg⟩
 have hs:=hD j0
 rw[he] at hs
 obtain⟨rk,hs⟩:=hs
 have hF:(fun c=>(0:Nat)=0/\K c)=K:=by funext c;simp
 have hJ:(fun c=>(0:Nat)=0/\S c)=S:=by funext c;simp
 have hK:∀ k,Go.ConcN.Vc k (fun i=>⟨1,q (i+1),Deaf t (i+1)⟩)=0:=by
  intro k
  induction k with
  | zero=>rfl
  | succ k ih=>show Go.ConcN.Vc k _+_=0;rw[ih];rfl
 obtain⟨μ,hI⟩:∃ μ,MInv P ty Wg ch j0 Shun Snd (j0+m) (zbP j0 f0) (zbP j0 e0) Post Anch μ (crowd gs w sl) t:=by
  refine⟨_,gs,w,sl,j0,_,_,_,_,_,_,_,.sp r0 5,rk,0,g,0,0,rfl,h0,?_,hT,hw,?_,rfl⟩
  ·rw[hF,hJ]
   have h1:j0+m - (r0+1)=j0:=qg
   have h2:zdM P ty Wg ch Snd (j0+m) (zbP j0 f0) (zbP j0 e0) Post Anch K S (.sp r0 5) (j0+m - (r0+1)) rk 0 g w:=.skd qg (by rw[he];exact hs)
   rw[h1] at h2
   exact h2
  ·have:=Go.ConcN.Mode.opn (j:=j0) (D:=fun i=>⟨1,q (i+1),Deaf t (i+1)⟩) (tag:=.sp r0 5) trivial (fun i _=>Or.inr (Or.inr (Or.inr rfl))) (fun vs e=>by cases e)
   rw[hK] at this
   simpa [Go.ConcN.pend] using this
 obtain⟨n1,m',t',h1,gs',w',sl',D,ρ,Kf,Sf,Gf,σ,GG,a,rfl,h2,h3,h4,h5,h6,h7⟩:=zmV hf hR' qg hz hA _ _ _ hI
 have hB':=zj4 h4 h6 h7
 obtain⟨cap',buf,s',r',tm',c1,c2,c3,c4⟩:=h4.chan
 have hσ:∀ i,i<j0+m->σ i=zbP j0 e0 i:=fun i hi=>by
  obtain⟨x,_,hx⟩:=h4.wk i hi
  have:=h6 i hi
  generalize D i=di at hx this
  generalize ρ i=ri at hx
  cases hx with
  | work _=>cases this
  | lib q1 _ _ _ _=>simp only at this;omega
  | quit q1 _=>exact q1
 have rng:∀ i k,i<m->f0 i<=k->k<e0 i->zbP j0 f0 (j0+i)<=k/\k<σ (j0+i):=fun i k a b c=>by rw[hσ _ qg,za6,za6];exact⟨b,c⟩
 refine hG n1 _ _ _ _ h1 (h9 a w' (Kf 0) (Sf 0) cap' buf s' r' tm' GG h3 c1 (fun x hx=>?_) (fun i k a b c=>?_) (fun c hc=>?_) (fun i k c a b d hc=>?_) (fun i k i' k' c a b d a' b' d' x y=>?_) gs' sl' t' _ hB' h2 fun _ h=>h.elim)
 ·obtain⟨i,k,x1,x2,x3,x4,x5⟩:=c3 x hx
  obtain⟨y,rfl⟩:=Nat.exists_eq_add_of_le x1
  rw[za6] at x3
  rw[hσ _ x2,za6] at x4
  exact⟨y,k,qg,x3,x4,x5⟩
 ·exact c4 (j0+i) k qg qg (rng i k a b c).1 (rng i k a b c).2
 ·exact h4.lt 0 c (hc.imp id Or.inl)
 ·have hg:=h4.gg (j0+i) k c qg qg (rng i k a b d).1 (rng i k a b d).2 hc
  have hl:=h4.lt (j0+i+1) c (Or.inr (Or.inr hg))
  have h8:ziB Sf Gf (j0+i+1) (.cell (O c 0)):=Or.inr hg
  refine⟨hl.1,hl.2.1,hl.2.2,fun hx=>?_,fun hx=>?_,fun hx=>?_⟩
  ·exact h4.ap.ownSh _ _ h8 ⟨_,rfl,Or.inr hx⟩
  ·exact h4.ap.ownRd _ 0 _ h8 hx
  ·have:=h4.ap.own _ 0 _ h8 (Or.inl hx)
   omega
 ·exact h4.ggd (j0+i) (j0+i') k k' c qg qg (rng i k a b d).1 (rng i k a b d).2 qg qg (rng i' k' a' b' d').1 (rng i' k' a' b' d').2 x y
end
end
section
open Go Go.Conc
section
variable(M:Program)(main:Bool)(Live:Wq)(Ex:Event->Prop)(Stop:Nat->Np->Goroutine->Wq)(Snd:Nat->Np->Value->Wq)(ch:Nat)(K:Np)(Q:Wq)
def za7(l:List (Nat × Obj))(σ:Nat)(S:Np)(g:Goroutine):Prop :=
 (∀ p∈l,K p.1\/S p.1)->∀ w,Hp l w->Live w->Q w->(∀ c,K c\/S c->c<w.heap.size)->za5 M main Live Ex Stop Snd ch K σ S g w
end
section
variable{M:Program}{main:Bool}{Live:Wq}{Ex:Event->Prop}{Stop:Nat->Np->Goroutine->Wq}{Snd:Nat->Np->Value->Wq}{ch:Nat}{K:Np}{Q:Wq}{l l':List (Nat × Obj)}{σ:Nat}{S:Np}{g g':Goroutine}{b:Frame}{a:Act}{k:List Item}{cs:List Frame}{ops:Array Oper}{i:Nat}{rest:List Nat}{o:Oper}
theorem za7.ctl(hr:g.status=.running)(h:∀ w,stepG M main g w=.go g' w #[])(hn:za7 M main Live Ex Stop Snd ch K Q l σ S g'):za7 M main Live Ex Stop Snd ch K Q l σ S g :=
 fun hl w hp hL hq h0=>za5.ctl hr h (hn hl w hp hL hq h0)
theorem za7.sq{x y:Code}(hn:za7 M main Live Ex Stop Snd ch K Q l σ S (G (b.at a (.code x::.code y::k)) cs)):za7 M main Live Ex Stop Snd ch K Q l σ S (G (b.at a (.code (.seq x y)::k)) cs) :=
 za7.ctl rfl (fun _=>stepG_seq) hn
theorem za7.rg(hn:za7 M main Live Ex Stop Snd ch K Q l σ S (G (b.at a (.inRegion ops (List.range ops.size)::k)) cs)):za7 M main Live Ex Stop Snd ch K Q l σ S (G (b.at a (.code (.region id ops false)::k)) cs) :=
 za7.ctl rfl (fun _=>stepG_region) hn
theorem za7.re(hn:za7 M main Live Ex Stop Snd ch K Q l σ S (G (b.at a k) cs)):za7 M main Live Ex Stop Snd ch K Q l σ S (G (b.at a (.inRegion ops []::k)) cs) :=
 za7.ctl rfl (fun _=>stepG_region_end) hn
theorem za7.val(ho:ops[i]?=some o)(hw:Region.wanted o (yielded ops a.tmps)=true)(hk:b.kind≠.early){v:Value}(hr:∀ w,Hp l w->(execOp a.eval o).run M w=.ok (.value v) w)(he:(∀ p∈l,K p.1\/S p.1)->∀ w,Hp l w->∀ e∈(execOp a.eval o).events M w #[],EvS K S e)(hn:za7 M main Live Ex Stop Snd ch K Q l σ S (G (b.at (a.put o.dst v) (.inRegion ops rest::k)) cs)):za7 M main Live Ex Stop Snd ch K Q l σ S (G (b.at a (.inRegion ops (i::rest)::k)) cs) :=
 fun hl w hp hL hq h0=>za5.go rfl fun w₁ hs =>
  ⟨_,w₁,_,S,stepG_value ho hw hk (hr w₁ (hp.sees hl hs)),⟨Nat.le_refl _,fun _ h=>h,fun _ h=>Or.inl h,fun _ _ _=>rfl,rfl,rfl,rfl,fun e hx=>Or.inl (he hl w₁ (hp.sees hl hs) e (mem_listed hx))⟩,(hn hl w hp hL hq h0).rely hs⟩
theorem za7.new(hQ:zlh B Q)(h2:∀ c,B c->K c)(h3:∀ w c,Live w->Lv c->c<w.heap.size)(h4:∀ w o,Live w->Live (w.alloc o))(ho:ops[i]?=some o)(hw:Region.wanted o (yielded ops a.tmps)=true)(hk:b.kind≠.early)(hr:∀ w,Hp l w->(execOp a.eval o).run M w=.ok (.value (V w.heap.size)) (w.alloc obj))(he:(∀ p∈l,K p.1\/S p.1)->∀ w,Hp l w->∀ e∈(execOp a.eval o).events M w #[],EvS K (fun c=>S c\/c=w.heap.size) e)(hn:∀ c,¬ K c->¬ S c->¬ Lv c->(∀ p∈l,p.1≠c)->za7 M main Live Ex Stop Snd ch K Q ((c,obj)::l) σ (fun d=>S d\/d=c) (G (b.at (a.put o.dst (V c)) (.inRegion ops rest::k)) cs)):za7 M main Live Ex Stop Snd ch K Q l σ S (G (b.at a (.inRegion ops (i::rest)::k)) cs):=by
 intro hl w hp hL hq h5
 refine za5.go rfl fun w₁ hs=>?_
 have h1:=hp.sees hl hs
 have h0:∀ c,K c\/S c->c<w₁.heap.size:=fun c hc=>nll (h5 c hc) hs.size
 have h6:(w₁.alloc obj).heap.size=w₁.heap.size+1:=qm
 refine⟨_,w₁.alloc obj,_,fun d=>S d\/d=w₁.heap.size,stepG_value ho hw hk (hr w₁ h1),⟨qg,fun _ h=>Or.inl h,fun c h=>h.imp id fun e=>⟨qg,qg⟩,fun c hc _=>(zbv w₁ obj).2 c hc,rfl,rfl,rfl,fun e hx=>Or.inl (he hl w₁ h1 e (mem_listed hx))⟩,?_⟩
 refine hn w₁.heap.size (fun h=>Nat.lt_irrefl _ (h0 _ (Or.inl h))) (fun h=>Nat.lt_irrefl _ (h0 _ (Or.inr h))) (fun h=>Nat.lt_irrefl _ (h3 w₁ _ (hs.live hL) h)) (fun p hp' e=>Nat.lt_irrefl _ (by have:=h0 _ (hl p hp');rw[e] at this;exact this)) (fun p hp'=>?_) _ (h1.new obj) (h4 _ _ (hs.live hL)) (hQ _ _ qg (fun c hc=>(zbv w₁ obj).2 c (h0 c (.inl (h2 c hc)))) rfl rfl rfl (hQ _ _ hs.size (fun c hc=>hs.same c (.inl (h2 c hc))) hs.tape hs.os hs.out hq)) (fun c hc=>?_)
 ·rcases List.mem_cons.1 hp' with rfl|hp'
  ·exact Or.inr (Or.inr rfl)
  ·exact(hl p hp').imp id Or.inl
 ·rw[h6]
  rcases hc with hc|hc|hc
  ·have:=h0 c (Or.inl hc);omega
  ·have:=h0 c (Or.inr hc);omega
  ·omega
theorem za7.put(hQ:zlh B Q)(h4:∀ c,B c->K c)(ho:ops[i]?=some o)(hw:Region.wanted o (yielded ops a.tmps)=true)(hk:b.kind≠.early)(hc:S c)(h5:¬ B c)(h6:∀ w w',(∀ d,d≠c->w'.heap[d]?=w.heap[d]?)->Live w->Live w')(hr:∀ w,Hp l w->∃ w',(execOp a.eval o).run M w=.ok .skip w'/\Aside c w w'/\w'.heap[c]?=some obj)(he:(∀ p∈l,K p.1\/S p.1)->∀ w,Hp l w->∀ e∈(execOp a.eval o).events M w #[],EvS K S e)(hl':∀ p∈l',p=(c,obj)\/(p∈l/\p.1≠c))(hn:za7 M main Live Ex Stop Snd ch K Q l' σ S (G (b.at (a.put o.dst undef) (.inRegion ops rest::k)) cs)):za7 M main Live Ex Stop Snd ch K Q l σ S (G (b.at a (.inRegion ops (i::rest)::k)) cs):=by
 intro hl w hp hL hq h7
 refine za5.go rfl fun w₁ hs=>?_
 have h0:=hp.sees hl hs
 obtain⟨w',h1,h2,h3⟩:=hr w₁ h0
 refine⟨_,w',_,S,stepG_none ho hw hk h1,⟨Nat.le_of_eq h2.size.symm,fun _ h=>h,fun _ h=>Or.inl h,fun d _ hd=>h2.block d (by rintro rfl;exact hd hc),h2.tape,h2.os,h2.output,fun e hx=>Or.inl (he hl w₁ h0 e (mem_listed hx))⟩,?_⟩
 refine hn (fun p hp'=>?_) w' (fun p hp'=>?_) (h6 _ _ h2.block (hs.live hL)) (hQ _ _ (Nat.le_of_eq h2.size.symm) (fun d hd=>h2.block d (by rintro rfl;exact h5 hd)) h2.tape h2.os h2.output (hQ _ _ hs.size (fun c hc=>hs.same c (.inl (h4 c hc))) hs.tape hs.os hs.out hq)) (fun d hd=>?_)
 ·rcases hl' p hp' with rfl|⟨h,_⟩
  ·exact Or.inr hc
  ·exact hl p h
 ·rcases hl' p hp' with rfl|⟨h,h'⟩
  ·exact h3
  ·exact(h2.block _ h').trans (h0 p h)
 ·rw[h2.size]
  exact nll (h7 d hd) hs.size
theorem za7.stop(hQ:zlh B Q)(h0:∀ c,B c->K c)(h:(∀ p∈l,K p.1\/S p.1)->∀ w,Hp l w->Live w->Q w->(∀ c,K c\/S c->c<w.heap.size)->Stop σ S g w):za7 M main Live Ex Stop Snd ch K Q l σ S g :=
 fun hl _ hp hL hq h1=>za5.stop fun w₁ hs=>h hl w₁ (hp.sees hl hs) (hs.live hL) (hQ _ _ hs.size (fun c hc=>hs.same c (.inl (h0 c hc))) hs.tape hs.os hs.out hq) (fun c hc=>nll (h1 c hc) hs.size)
theorem za7.enter(ho:ops[i]?=some o)(hw:Region.wanted o (yielded ops a.tmps)=true)(hk:b.kind≠.early){args:Array Value}(hr:∀ w,(execOp a.eval o).run M w=.ok (.enter f args) w)(he:∀ w,(execOp a.eval o).events M w #[]=#[])(hn:za7 M main Live Ex Stop Snd ch K Q l σ S (G (Frame.enter M f args .normal) (b.at a (.inRegion ops (i::rest)::k)::cs))):za7 M main Live Ex Stop Snd ch K Q l σ S (G (b.at a (.inRegion ops (i::rest)::k)) cs) :=
 za7.ctl rfl (fun w=>by rw[stepG_enter ho hw hk (hr w)];unfold listed;rw[he w,seen_none]) hn
def zqe(Q:Wq)(l:List (Nat × Obj))(A:Np)(w:World):Prop:=Q w/\Hp l w/\∀ c,A c->c<w.heap.size
theorem zhT{A:Np}(hQ:zlh B Q):zlh (fun c=>B c\/∃ p∈l,p.1=c) (zqe Q l A) :=
 fun _ _ hs hb ht ho hu ⟨h1,h2,h3⟩=>⟨hQ _ _ hs (fun c hc=>hb c (.inl hc)) ht ho hu h1,h2.same fun p hp=>hb p.1 (.inr ⟨p,hp,rfl⟩),fun c hc=>nll (h3 c hc) hs⟩
end
section
variable{P:Program}{o:Oper}{a:Act}{w:World}{ty:TypeId}{x y:Operand}{g:Nat}
theorem zcF{t:TypeId}:∀(vs:List Value) (i:Nat) (cur:Array Value) (w:World) (es:Array Event),w.heap[g]?=some (.cells cur t (0,0))->i+vs.length<=cur.size->(∀ v∈vs,v.oneCell'=true) ->
  ∀ e∈(storeCells (O g 0) vs i).events P w es,e∈es\/∃ j,e=⟨.cell (O g j),true,false⟩
 | [],_,_,_,_,_,_,_,e,he=>Or.inl (by simpa [storeCells] using he)
 | v::rest,i,cur,w,es,hg,hl,h1,e,he=>by
  have hi:i<cur.size:=by simp at hl;omega
  have h2:((O g 0):Addr).add i=(O g i):=by unfold Addr.add;split <;> simp_all
  have h0:w.cell? (O g i)=some cur[i]:=by simp[World.cell?,hg,hi]
  have h3:w.frozen? (O g i)=false:=by simp[World.frozen?,hg]
  have h4:(store (((O g 0):Addr).add i) v).run P w=.ok () (w.setRow g (cur.setIfInBounds i v)):=by
   rw[h2,_root_.Go.run_store P w _ v _ (h1 v qm),h0]
   simp[h3,setCell_eq_setRow w g i cur t (0,0) v hg]
  have h5:(store (((O g 0):Addr).add i) v).events P w es=es.push ⟨.cell (O g i),true,false⟩:=by
   rw[h2,_root_.Go.events_store P w es _ v _ (h1 v qm),h0]
   simp[h3]
   rfl
  simp only[storeCells,Sem.events_bind,h4,h5,Result.evThen_ok] at he
  rcases zcF rest (i+1) (cur.setIfInBounds i v) _ _ (setRow_heap w g cur _ t _ hg) (by simp at hl ⊢;omega) (fun x hx=>h1 x (by simp[hx])) e he with q|q
  ·rcases Array.mem_push.1 q with q|rfl
   ·exact Or.inl q
   ·exact Or.inr ⟨i,rfl⟩
  ·exact Or.inr q
theorem zaH(hg:w.heap[g]?=some (.cells old t (0,0))):Aside g w (w.setRow g cells)/\(w.setRow g cells).heap[g]?=some (.cells cells t):=by
 refine⟨⟨rfl,rfl,rfl,qm,fun k hk=>?_⟩,setRow_heap w g old cells t (0,0) hg⟩
 unfold World.setRow
 simp only[Array.getElem?_modify,Ne.symm hk,if_false]
theorem zif(ho:o.op=.store ty x y)(hx:a.eval x=.pointer (xA g))(hy:a.eval y=.agg cells)(hg:w.heap[g]?=some (.cells old t (0,0)))(hi:(P.info? ty).map (·.size)=some cells.size)(hold:old.size=cells.size)(h1:cells.all (·.oneCell')=true):(execOp a.eval o).run P w=.ok .skip (w.setRow g cells):=by
 unfold execOp
 simp only[ho,hx,hy,Instr.storeAt,Instr.sureAddr,Sem.run_bind,Sem.run_pure,Result.andThen_ok,run_storeVar_row w g t ty old cells hg hi hold h1]
theorem zlB(ho:o.op=.store ty x y)(hx:a.eval x=.pointer (xA g))(hy:a.eval y=.agg cells)(hg:w.heap[g]?=some (.cells old t (0,0)))(hi:(P.info? ty).map (·.size)=some cells.size)(hold:old.size=cells.size)(h1:cells.all (·.oneCell')=true):∀ e∈(execOp a.eval o).events P w #[],∃ j,e=⟨.cell (O g j),true,false⟩:=by
 intro e he
 cases hq:P.info? ty with
 | none=>simp[hq] at hi
 | some i =>
  have hs:cells.size=i.size:=by simp[hq] at hi;omega
  unfold execOp at he
  simp[ho,hx,hy,Instr.storeAt,Instr.sureAddr,storeVar,Go.sizeOf,typeInfo,hq,Value.cells,hs] at he
  rcases zcF cells.toList 0 old w #[] hg qn (fun v hv=>(Array.all_eq_true_iff_forall_mem.1 h1) v (by simpa using hv)) e (by simpa using he) with q|q
  ·simp at q
  ·exact q
theorem zsL{main:Bool}{b:Frame}{k:List Item}{cs:List Frame}{ops:Array Oper}{i:Nat}{rest:List Nat}{cap:Array Value}(ho:ops[i]?=some o)(hw:Region.wanted o (yielded ops a.tmps)=true)(hk:b.kind≠.early)(h0:o.op=.go { callee:=.value z,args:=#[],argTypes:=ats })(hz:a.eval z=.func (.func f) #[] cap) :
  stepG P main (G (b.at a (.inRegion ops (i::rest)::k)) cs) w=.spawn (G (b.at (a.put o.dst undef) (.inRegion ops rest::k)) cs) (born P { target:=.fn (.func f) cap,args:=#[] }) w #[]:=by
 have hr:(execOp a.eval o).run P w=.ok (.spawn { target:=.fn (.func f) cap,args:=#[] }) w:=by
  unfold execOp
  simp[h0,resolve,Deferred.ofValue,hz]
 have he:(execOp a.eval o).events P w #[]=#[]:=by
  unfold execOp
  simp[h0,resolve,Deferred.ofValue,hz]
 rw[stepG_spawn ho hw hk hr rfl]
 unfold listed
 rw[he,seen_none]
end
section
open Go.ConcN
open Go.ConcR (KK WgAt stA smA)
variable{P:Program}{ty:TypeId}{Wg ch:Nat}{K S:Np}{g:Goroutine}{w:World}{Post Post' Anch Anch':Np->St}
theorem zcz{Stop Stop':St}(hs:∀ S g w,Stop S g w->Stop' S g w)(h:WX P ty Wg ch K Stop S g w):WX P ty Wg ch K Stop' S g w:=by
 obtain⟨r,h⟩:=h
 have:∀(r:Rk) {σ:Nat} {S:Np} {g:Goroutine} {w:World},Way P true (zal ty Wg ch) (ExE Wg true) (fun _ S g w=>Stop S g w) (fun _ _ _ _=>False) ch K r σ S g w->Way P true (zal ty Wg ch) (ExE Wg true) (fun _ S g w=>Stop' S g w) (fun _ _ _ _=>False) ch K r σ S g w:=by
  intro r
  induction r with
  | z=>exact fun h w₁ h₁=>hs _ _ _ (h w₁ h₁)
  | s f ih =>
   intro σ S g w h
   rcases h with h|⟨hr,h⟩
   ·exact Or.inl fun w₁ h₁=>hs _ _ _ (h w₁ h₁)
   ·refine Or.inr ⟨hr,fun w₁ h₁=>?_⟩
    rcases h w₁ h₁ with ⟨g',w',es,S',a,b,c⟩|⟨_,_,_,_,_,_,q,_⟩
    ·exact Or.inl ⟨g',w',es,S',a,b,ih w₁ c⟩
    ·exact q.elim
 exact⟨r,this r h⟩
theorem zq6(hA:∀ K S g w,Anch K S g w->Anch' K S g w)(h:MKd P ty Wg ch Anch K S g w):MKd P ty Wg ch Anch' K S g w :=
 let ⟨a,g',b,c⟩:=h;⟨a,g',b,zcz (hA K) c⟩
theorem zoQ(hP:∀ K S g w,Post K S g w->Post' K S g w)(h:zt7 P Wg Post K S g w):zt7 P Wg Post' K S g w :=
 let ⟨a,g',b,c⟩:=h;⟨a,g',b,hP _ _ _ _ c⟩
theorem zlK(hP:∀ K S g w,Post K S g w->Post' K S g w)(h:MKe P ty Wg ch Post K S g w):MKe P ty Wg ch Post' K S g w :=
 let ⟨a,g',b,c⟩:=h;⟨a,g',b,zcz (fun _ _ _ x=>zoQ hP x) c⟩
theorem zra(hP:∀ K S g w,Post K S g w->Post' K S g w)(h:MW4 P ty Wg ch Post K S g w):MW4 P ty Wg ch Post' K S g w :=
 ⟨h.1,fun hw=>let ⟨g',b,c⟩:=h.2 hw;⟨g',b,zcz (fun _ _ _ x=>zlK hP x) c⟩⟩
theorem zq9(hP:∀ K S g w,Post K S g w->Post' K S g w)(h:MW3 P ty Wg ch Post K S g w):MW3 P ty Wg ch Post' K S g w :=
 ⟨h.1,h.2.1,h.2.2.1,fun hw=>let ⟨g',b,c⟩:=h.2.2.2 hw;⟨g',b,zcz (fun _ _ _ x=>zra hP x) c⟩⟩
theorem zq8(hP:∀ K S g w,Post K S g w->Post' K S g w)(hA:∀ K S g w,Anch K S g w->Anch' K S g w){vs:Nat}(h:MW2 P ty Wg ch Post Anch K vs S g w):MW2 P ty Wg ch Post' Anch' K vs S g w :=
 ⟨h.1,fun v hv hw=>⟨fun e=>let ⟨g',b,c⟩:=(h.2 v hv hw).1 e;⟨g',b,zcz (fun _ _ _ x=>zq9 hP x) c⟩,fun e=>let ⟨g',b,c⟩:=(h.2 v hv hw).2 e;⟨g',b,zcz (hA K) c⟩⟩⟩
theorem zq7(hP:∀ K S g w,Post K S g w->Post' K S g w)(hA:∀ K S g w,Anch K S g w->Anch' K S g w)(h:MW1 P ty Wg ch Post Anch K S g w):MW1 P ty Wg ch Post' Anch' K S g w :=
 ⟨h.1,fun v hv hw=>let ⟨g',b,c,d⟩:=h.2 v hv hw;⟨g',b,fun e=>zcz (fun _ _ _ x=>zlK hP x) (c e),fun e=>zcz (fun _ _ _ x=>zq8 hP hA x) (d e)⟩⟩
end
end
section
open Go Go.Conc Go.ConcN
open Go.ConcR (KK wgBlock WgAt stA smA Payload DC0)
section
variable{M:Program}{main:Bool}{Live:Wq}{Ex:Event->Prop}{Stop:Nat->Np->Goroutine->Wq}{Snd:Nat->Np->Value->Wq}{ch:Nat}{K:Np}{l:List (Nat × Obj)}{σ:Nat}{S:Np}{g g1:Goroutine}
theorem zah.stop(h:(∀ p∈l,K p.1\/S p.1)->∀ w,Hp l w->Live w->(∀ c,K c\/S c->c<w.heap.size)->Stop σ S g w):zah M main Live Ex Stop Snd ch K l σ S g :=
 fun hl _ hp hL h0=>za5.stop fun w₁ hs=>h hl w₁ (hp.sees hl hs) (hs.live hL) (fun c hc=>nll (h0 c hc) hs.size)
theorem zah.goes(hn:zah M main Live Ex Stop Snd ch K l σ S g1):∀(m:Nat) {g:Goroutine} {w0:World},Goes M main (RLv fun _=>True) DC0 (fun g _=>g=g1) m g w0->zah M main Live Ex Stop Snd ch K l σ S g
 | 0,g,w0,h=>by
  have:=h w0 fun x=>x
  subst this
  exact hn
 | m+1,g,w0,h=>by
  rcases h with h|⟨hr,h⟩
  ·have:=h w0 fun x=>x
   subst this
   exact hn
  ·intro hl w hp hL h0
   refine za5.go hr fun w₁ hs=>?_
   have:=h w₁ fun x=>x
   cases hg:stepG M main g w₁ with
   | go g' w' es =>
    rw[hg,goes_go] at this
    obtain⟨⟨rfl,rfl⟩,h3⟩:=this
    exact⟨g',w',#[],S,rfl,Does.none w',(zah.goes hn m h3 hl w hp hL h0).rely hs⟩
   | _=>rw[hg] at this;exact this.elim
end
theorem zef(P:Program)(b:Frame)(a:Act)(ops:Array Oper)(i:Nat)(rest:List Nat)(k:List Item)(cs:List Frame)(cases:Array CommCase)(shape:CommShape)(j:Int)(v:Value)(ok:Bool) :
  (G (b.at a (.inRegion ops (i::rest)::k)) cs).finishComm P cases shape j v ok=G (b.at (a.put ((ops[i]?).bind (·.dst)) (commResult cases shape j v ok)) (.inRegion ops rest::k)) cs:=by
 simp only[Goroutine.finishComm,G,Frame.finish_at]
section
variable{P:Program}{Goal:Machine->Trace->Prop}{Shun U:Np}{g g':Goroutine}{w:World}
theorem zau.close(hG:zbj P Goal)(h5:g.status=.running){ch:Nat}(hc:w.heap[ch]?=some (.chan cap buf false s r tm))(h2:∀ d,stepG P true g (w.at d)=.go g' ((w.at d).setChan ch cap buf true s r tm) (closeEvents ch))(h:∀ d,zau P Goal Shun (fun _=>False) g' ((w.at d).setChan ch cap buf true s r tm)):zau P Goal Shun (fun _=>False) g w:=by
 intro gs sl t q hB h0 _
 obtain⟨n,gs',d,sl',t',q',h1,_,h3,h4⟩:=znW (sl:=sl) hB h0 h5 hc h2
 exact hG n _ _ _ _ h1 (h d gs' sl' t' q' h4 h3 fun _ x=>x.elim)
theorem zau.recv(hG:zbj P Goal)(h6:g.status=.running){ch:Nat}{z:Value}{shape:CommShape}{cl:Bool}(hc:w.heap[ch]?=some (.chan cap buf cl s r tm))(h2:0<buf.size)(h5:∀ d,stepG P true g (w.at d)=.comm a₂ #[rcase ch z] blocking shape (w.at d) #[])(h:∀ d,zau P Goal Shun (fun _=>False) (a₂.finishComm P #[rcase ch z] shape 0 (buf.getD 0 undef) true) ((w.at d).setChan ch cap (buf.extract 1 buf.size) cl s (r+1) tm)):zau P Goal Shun (fun _=>False) g w:=by
 intro gs sl t q hB h0 _
 obtain⟨n,gs',d,sl',t',q',h1,_,h3,h4⟩:=zqn (sl:=sl) hB h0 h6 h5 hc h2
 exact hG n _ _ _ _ h1 (h d gs' sl' t' q' h4 h3 fun _ x=>x.elim)
theorem zau.recvNone(hG:zbj P Goal)(h5:g.status=.running){ch:Nat}{z:Value}{shape:CommShape}(hc:w.heap[ch]?=some (.chan cap #[] true s r tm))(h2:∀ d,stepG P true g (w.at d)=.comm a₂ #[rcase ch z] blocking shape (w.at d) #[])(h:∀ d,zau P Goal Shun (fun _=>False) (a₂.finishComm P #[rcase ch z] shape 0 z false) (w.at d)):zau P Goal Shun (fun _=>False) g w:=by
 intro gs sl t q hB h0 _
 obtain⟨n,gs',d,sl',t',q',h1,_,h3,h4⟩:=zfE (sl:=sl) hB h0 h5 h2 hc
 exact hG n _ _ _ _ h1 (h d gs' sl' t' q' h4 h3 fun _ x=>x.elim)
end
section
variable{P:Program}{o:Oper}{a:Act}{w:World}{ty:TypeId}{x y:Operand}{g:Nat}
theorem zlW{v:Value}{i:Nat}(ho:o.op=.store ty x y)(hx:a.eval x=.pointer (some (O g i)))(hy:a.eval y=v)(hv:v.cells=#[v])(h3:v.oneCell'=true)(hg:w.heap[g]?=some (.cells old t (0,0)))(hi:(P.info? ty).map (·.size)=some 1)(hold:i<old.size) :
  (execOp a.eval o).run P w=.ok .skip (w.setRow g (old.setIfInBounds i v)):=by
 have h0:w.cell? (O g i)=some old[i]:=by simp[World.cell?,hg,hold]
 have h1:w.frozen? (O g i)=false:=by simp[World.frozen?,hg]
 have h2:((O g i):Addr).add 0=(O g i):=by unfold Addr.add;split <;> simp_all
 have h4:(store ((O g i):Addr) v).run P w=.ok () (w.setRow g (old.setIfInBounds i v)):=by
  rw[_root_.Go.run_store P w _ v _ h3,h0]
  simp[h1,setCell_eq_setRow w g i old t (0,0) v hg]
 cases hq:P.info? ty with
 | none=>simp[hq] at hi
 | some j =>
  have hs:j.size=1:=by simpa [hq] using hi
  unfold execOp
  simp[ho,hx,hy,Instr.storeAt,Instr.sureAddr,storeVar,Go.sizeOf,typeInfo,hq,hv,hs,storeCells,h2,h4]
theorem zol{v:Value}{i:Nat}(ho:o.op=.store ty x y)(hx:a.eval x=.pointer (some (O g i)))(hy:a.eval y=v)(hv:v.cells=#[v])(h3:v.oneCell'=true)(hg:w.heap[g]?=some (.cells old t (0,0)))(hi:(P.info? ty).map (·.size)=some 1)(hold:i<old.size) :
  ∀ e∈(execOp a.eval o).events P w #[],∃ j,e=⟨.cell (O g j),true,false⟩:=by
 intro e he
 have h0:w.cell? (O g i)=some old[i]:=by simp[World.cell?,hg,hold]
 have h1:w.frozen? (O g i)=false:=by simp[World.frozen?,hg]
 have h2:((O g i):Addr).add 0=(O g i):=by unfold Addr.add;split <;> simp_all
 have h4:(store ((O g i):Addr) v).events P w #[]=#[⟨.cell (O g i),true,false⟩]:=by
  rw[_root_.Go.events_store P w #[] _ v _ h3,h0]
  simp[h1]
 cases hq:P.info? ty with
 | none=>simp[hq] at hi
 | some j =>
  have hs:j.size=1:=by simpa [hq] using hi
  unfold execOp at he
  simp[ho,hx,hy,Instr.storeAt,Instr.sureAddr,storeVar,Go.sizeOf,typeInfo,hq,hv,hs,storeCells,h2,h4] at he
  exact⟨i,he⟩
theorem ze7{main:Bool}{b:Frame}{k:List Item}{cs:List Frame}{ops:Array Oper}{i:Nat}{rest:List Nat}{v:Value}{w':World}(ho:ops[i]?=some o)(hw:Region.wanted o (yielded ops a.tmps)=true)(hk:b.kind≠.early)(hr:(execOp a.eval o).run P w=.ok (.value v) w')(he:(execOp a.eval o).events P w #[]=#[]):stepG P main (G (b.at a (.inRegion ops (i::rest)::k)) cs) w=.go (G (b.at (a.put o.dst v) (.inRegion ops rest::k)) cs) w' #[]:=by
 rw[stepG_value ho hw hk hr]
 unfold listed
 rw[he,seen_none]
theorem zlV{dir:ChanDir}{j:TypeInfo}(h0:o.op=.makeChan ty z)(hz:a.eval z=J n)(ht:P.underlying ty=some (.chan dir e))(hi:P.info? e=some j)(h3:(n:Int)<=9223372036854775807)(hb:(j.bytes:Int) * n<=281474976710544) :
  (execOp a.eval o).run P w=.ok (.value (.chan (some w.heap.size))) (w.alloc (.chan n #[] false 0 0 false))/\(execOp a.eval o).events P w #[]=#[]:=by
 have h1:=run_makeChan (w:=w) ht hi .i64 n h3 hb
 have h2:=events_makeChan (w:=w) (es:=#[]) ht hi .i64 n h3 hb
 constructor
 ·unfold execOp
  simp[h0,hz,h1]
 ·unfold execOp
  simp[h0,hz,h2]
theorem ztQ{j:TypeInfo}{z:Value}(h0:o.op=.makeSlice ty z1 z2)(h1:a.eval z1=J n)(h2:a.eval z2=J n)(ht:P.underlying ty=some (.slice e))(hi:P.info? e=some j)(hz:j.zero=some z)(hb:(j.bytes:Int) * n<=281474976710656)(h3:(n:Int)<=9223372036854775807) :
  (execOp a.eval o).run P w=.ok (.value (.slice (xA w.heap.size) n n)) (w.alloc (.cells (madeCells z.cells (n * j.size)) e)):=by
 have h:=run_make (P:=P) w ty e j z ht hi hz .i64 .i64 n n qg (Int.le_refl _) hb h3
 simp only[Int.toNat_natCast] at h
 unfold execOp
 simp[h0,h1,h2,h]
theorem zur{j:TypeInfo}{z:Value}(h3:o.op=.makeSlice ty z1 z2)(h1:a.eval z1=J n)(h2:a.eval z2=J n)(ht:P.underlying ty=some (.slice e))(hi:P.info? e=some j)(hz:j.zero=some z)(hb:(j.bytes:Int) * n<=281474976710656)(h4:(n:Int)<=9223372036854775807)(h0:¬ (n * j.bytes > roomBytes)) :
  (execOp a.eval o).events P w #[]=#[]:=by
 have wl:IntKind.i64.wrap (n:Int)=n:=by rw[IntKind.wrap_i64];omega
 have n1:¬ (n:Int)<0:=qg
 have n2:¬ (281474976710656<(j.bytes:Int) * n):=qg
 unfold execOp
 by_cases hn:n * j.size=0
 ·simp[h3,h1,h2,Instr.makeSlice,run_underlying ht,asInt,asIntOf,typeInfo,hi,Go.sizeOf,wl,n1,n2,hn,newRow,askRoom,h0]
 ·simp[h3,h1,h2,Instr.makeSlice,run_underlying ht,asInt,asIntOf,typeInfo,hi,Go.sizeOf,zeroValue,hz,wl,n1,n2,newRow,askRoom,h0]
theorem Hp.on{l:List (Nat × Obj)}{w:World}(h:Hp l w)(d:Nat):Hp l (w.at d):=h
end
end
section
open Go Go.Conc
variable{L M:Program}
def zcd{α:Type}(P:Program)(s:Sem α):Prop:=∀(w:World) (τ:Nat->Question->Nat) (d:Nat),s.run P (w.tp τ d)=match s.run P w with|.ok v w1=>.ok v (w1.tp τ d)|.halt h w1=>.halt h (w1.tp τ d)
theorem zbp{α:Type}{P:Program}(x:α):zcd P (pure x):=fun _ _ _=>rfl
theorem zbf{α β:Type}{P:Program}{s:Sem α}{f:α->Sem β}(h:zcd P s)(hf:∀ x,zcd P (f x)):zcd P (s >>= f):=by
 intro w τ d
 rw[Sem.run_bind,Sem.run_bind,h w τ d]
 cases s.run P w with
 | ok v w1=>exact hf v w1 τ d
 | halt h w1=>rfl
theorem zgF{α:Type}{P:Program}(t:String):zcd P (stuck t:Sem α):=fun _ _ _=>rfl
theorem zmd{P:Program}(a:Addr):zcd P (load a):=by
 intro w τ d
 rw[_root_.Go.run_load,_root_.Go.run_load]
 have e1:(w.tp τ d).cell? a=w.cell? a:=rfl
 have e2:(w.tp τ d).farLoad P a (Mode.plain == .atomic)=w.farLoad P a (Mode.plain == .atomic):=rfl
 rw[e1,e2]
 cases w.cell? a with
 | some v=>rfl
 | none =>
  cases w.farLoad P a (Mode.plain == .atomic) with
  | ok x=>rfl
  | error h=>rfl
theorem zgD{P:Program}:zcd P program:=fun _ _ _=>rfl
theorem zjT{P:Program}(t:TypeId):zcd P (typeInfo t):=by
 unfold typeInfo
 refine zbf zgD fun x=>?_
 cases x.info? t with
 | some i=>exact zbp i
 | none=>exact zgF _
theorem zgY{P:Program}(t:TypeId):zcd P (underlying t):=by
 unfold underlying
 refine zbf zgD fun x=>?_
 cases x.underlying t with
 | some i=>exact zbp i
 | none=>exact zgF _
theorem zpZ{P:Program}(t:TypeId):zcd P (isAgg t):=by
 unfold isAgg
 refine zbf (zgY t) fun x=>?_
 cases x <;> exact zbp _
theorem zeG{P:Program}(a:Addr):∀(n i:Nat) (acc:Array Value),zcd P (loadCellsFrom a i n acc)
 | 0,_,_=>zbp _
 | n+1,i,_=>zbf (zmd _) fun _=>zeG a n (i+1) _
theorem zk9{P:Program}(t:TypeId)(a:Addr):zcd P (loadVar t a):=by
 unfold loadVar
 refine zbf (zpZ t) fun x=>?_
 cases x with
 | false=>exact zmd a
 | true=>exact zbf (zbf (zjT t) fun _=>zbp _) fun n=>zbf (zeG a n 0 #[]) fun _=>zbp _
theorem znB{P:Program}(v:Value):zcd P (asAddr v):=by
 unfold asAddr
 split
 ·exact zbp _
 ·exact fun _ _ _=>rfl
 ·exact zgF _
theorem zgE{P:Program}(fn:Func)(t:Array Value):zcd P (results fn t):=by
 unfold results
 rw[Array.mapM_eq_mapM_toList,<- bind_pure_comp]
 refine zbf (zbf ?_ fun _=>zbp _) fun _=>zbp _
 induction fn.results.toList with
 | nil=>rw[List.mapM_nil];exact zbp _
 | cons x l ih =>
  rw[List.mapM_cons]
  refine zbf ?_ fun _=>zbf ih fun _=>zbp _
  cases x with
  | tmp i=>exact zbp _
  | cell a ty=>exact zbf (znB _) fun _=>zk9 ty _
def NoW{α:Type}(P:Program)(s:Sem α):Prop:=∀(w:World) (v:α) (w1:World),s.run P w=.ok v w1->w1=w
theorem zbo{α:Type}{P:Program}(x:α):NoW P (pure x):=fun w v w1 h=>by
 have e:(pure x:Sem α).run P w=.ok x w:=rfl
 rw[e] at h
 exact(Result.ok.inj h).2.symm
theorem zbd{α β:Type}{P:Program}{s:Sem α}{f:α->Sem β}(h:NoW P s)(hf:∀ x,NoW P (f x)):NoW P (s >>= f):=by
 intro w v w1 e
 rw[Sem.run_bind] at e
 cases hs:s.run P w with
 | ok x w2 =>
  rw[hs] at e
  obtain rfl:=h w x w2 hs
  exact hf x _ v w1 e
 | halt q w2=>rw[hs] at e;cases e
theorem zfo{α:Type}{P:Program}{s:Sem α}(h:∀ w,∃ q,s.run P w=.halt q w):NoW P s:=fun w v w1 e=>by
 obtain⟨q,hq⟩:=h w
 rw[hq] at e
 cases e
theorem zlL{P:Program}(a:Addr):NoW P (load a):=by
 intro w v w1 e
 rw[_root_.Go.run_load] at e
 cases hc:w.cell? a with
 | some x=>rw[hc] at e;exact(Result.ok.inj e).2.symm
 | none =>
  rw[hc] at e
  cases hf:w.farLoad P a (Mode.plain == .atomic) with
  | ok x=>simp only[hf] at e;exact(Result.ok.inj e).2.symm
  | error h=>simp only[hf] at e;cases e
theorem zf6{P:Program}:NoW P program:=fun w v w1 h=>by
 have e:(program:Sem Program).run P w=.ok P w:=rfl
 rw[e] at h
 exact(Result.ok.inj h).2.symm
theorem zjo{P:Program}(t:TypeId):NoW P (typeInfo t):=by
 unfold typeInfo
 refine zbd zf6 fun x=>?_
 cases x.info? t with
 | some i=>exact zbo i
 | none=>exact zfo fun _=>⟨_,rfl⟩
theorem zoY{P:Program}(t:TypeId):NoW P (isAgg t):=by
 unfold isAgg underlying
 refine zbd (zbd zf6 fun x=>?_) fun x=>?_
 ·cases x.underlying t with
  | some i=>exact zbo i
  | none=>exact zfo fun _=>⟨_,rfl⟩
 ·cases x <;> exact zbo _
theorem zep{P:Program}(a:Addr):∀(n i:Nat) (acc:Array Value),NoW P (loadCellsFrom a i n acc)
 | 0,_,_=>zbo _
 | n+1,i,_=>zbd (zlL _) fun _=>zep a n (i+1) _
theorem zkG{P:Program}(t:TypeId)(a:Addr):NoW P (loadVar t a):=by
 unfold loadVar
 refine zbd (zoY t) fun x=>?_
 cases x with
 | false=>exact zlL a
 | true=>exact zbd (zbd (zjo t) fun _=>zbo _) fun n=>zbd (zep a n 0 #[]) fun _=>zbo _
theorem zmN{P:Program}(v:Value):NoW P (asAddr v):=by
 unfold asAddr
 split
 ·exact zbo _
 ·exact zfo fun _=>⟨_,rfl⟩
 ·exact zfo fun _=>⟨_,rfl⟩
theorem zkH{P:Program}(fn:Func)(t:Array Value):NoW P (results fn t):=by
 unfold results
 rw[Array.mapM_eq_mapM_toList,<- bind_pure_comp]
 refine zbd (zbd ?_ fun _=>zbo _) fun _=>zbo _
 induction fn.results.toList with
 | nil=>rw[List.mapM_nil];exact zbo _
 | cons x l ih =>
  rw[List.mapM_cons]
  refine zbd ?_ fun _=>zbd ih fun _=>zbo _
  cases x with
  | tmp i=>exact zbo _
  | cell a ty=>exact zbd (zmN _) fun _=>zkG ty _
def zts(L:Program)(f:FuncId)(Post:Value->Wq)(fr:Frame)(w:World):Prop:=fr.fn=f/\∃ fn v,L.funcs[f]?=some fn/\(results fn fr.tmps).run L w=.ok v w/\∀ τ d,Post v (w.tp τ d)
theorem zts.tp{Post:Value->Wq}:∀ fr w τ d,zts L f Post fr w->zts L f Post fr (w.tp τ d):=fun _ w τ d ⟨h1,fn,v,h2,h3,h4⟩ =>
 ⟨h1,fn,v,h2,by rw[zgE fn _ w τ d,h3],fun τ' d'=>h4 τ' d'⟩
theorem zgT{a:Array Value}{w:World}{Post:Value->Wq}(hP:∀ v w τ d,Post v w->Post v (w.tp τ d))(hC:∀ τ d,Calls L f a (w.tp τ d) fun e w'=>∃ v,e=.returned v/\Post v w'):Good L (zts L f Post) (Frame.enter L f a .normal) [] w:=by
 intro τ d
 obtain⟨e,w',fr,⟨v,rfl,hv⟩,hc,h0,hl⟩:=hC τ d [zaR L]
 obtain⟨n,hn⟩:=hc
 obtain⟨h1,h2,h3,fn',hf',hr⟩:=hl
 rw[h0] at hf'
 exact⟨n,fr,w',hn,h1,h0,fn',v,hf',hr,fun τ d=>hP _ _ _ _ hv⟩
section
variable{main:Bool}{Live:Wq}{Ex:Event->Prop}{Snd:Nat->Np->Value->Wq}{ch:Nat}
theorem ziH[T:zaF L M][zaF L L](W:Whole L)(B:Bodies L M X){Stop:Nat->Np->Goroutine->Wq}{K S₀:Np}(hK:∀ w w':World,(∀ c,Lv c->w'.heap[c]?=w.heap[c]?)->Live w->Live w')(hX:zmk L X)(hf:L.funcs[f]?=some fn)(hb:fn.body.isSome=true)(hs:¬ X f){a:Array Value}{w:World}{Post:Value->Wq}(hP:∀ v w τ d,Post v w->Post v (w.tp τ d))(h3:∀ c,Kc c->K c)(h8:Closed Kc w)(ha:zay (zcN Kc) a a)(hL:∀ c,K c\/S₀ c->c<w.heap.size)(hN:∀ c,Lv c->c<w.heap.size)(hC:∀ τ d,Calls L f a (w.frz.tp τ d) fun e w'=>∃ v,e=.returned v/\Post v w'){c:Frame}{cs:List Frame}{σ:Nat}(hQ:∀ v' w₁ S',zaW Live K S₀ w w₁->(∀ c,S' c->w.heap.size<=c)->(∃ R wl v,zaj R v v'/\zbh w.heap.size R wl w₁/\Post v wl/\S'=zbI w.heap.size R)->za5 M main Live Ex Stop Snd ch K σ (fun c=>S₀ c\/S' c) (G (c.finish v') cs) w₁) :
  za5 M main Live Ex Stop Snd ch K σ S₀ (G (Frame.enter M f a .normal) (c::cs)) w:=by
 have h5:zgQ L (zcN Kc) (Frame.enter L f a .normal) (Frame.enter M f a .normal):=zed B hf hb hs ha
 have h6:=zox h8
 have hG:=zgT hP hC
 have hT:=zdx W (zts.tp (L:=L) (f:=f) (Post:=Post)) hG ⟨_,_,_,[],_,h5,.nil,h6⟩
 have h0:=zgI (M:=M) (main:=main) (Live:=Live) (Ex:=Ex) (Snd:=fun _ _ _ _=>False) (ch:=ch) (rest:=c::cs) (σ:=σ) (K:=Kc) B W.zero hT h5 .nil (w:=w) (by
  have e:w.frz.tp w.tape w.drawn=w.frz:=rfl
  rw[e]
  exact h6) (zi5 h8).symm
 rw[zlO h8] at h0
 obtain⟨r,h0⟩:=h0
 have h4:=za5.frame (K:=K) (S₀:=S₀) h3 (fun _ _ _ _ q=>q) hK w hN r h0 (zaW.refl w) hL (fun c q=>q.elim)
 have e0:(fun c=>S₀ c\/(fun _=>False) c)=S₀:=by
  funext c
  simp
 rw[e0] at h4
 obtain⟨r2,h4⟩:=h4
 refine(za5.sends (Snd2:=Snd) (fun _ _ _ _ q=>q.elim) r2 h4).then ?_
 rintro σ₁ S₁ g w₁ ⟨S',rfl,⟨rfl,hU⟩,hk,hD⟩
 rcases hU with ⟨R,fr,fr',wl,rfl,hm,hV,h9,rfl,hg,hF⟩|⟨R,f',a1,a2,cs1,cs2,wl,hY,rfl,_,_,_,_,_,hZ⟩
 ·obtain⟨ho,t,rfl,ht⟩:=hV
  obtain⟨rfl,fn1,v,h7,hE,hl⟩:=hF wl.tape wl.drawn
  rw[hf] at h7
  cases h7
  have hM:=B.same fr.fn fn hf hb hs
  refine za5.go rfl fun w₂ hu=>?_
  have hw:zaW Live K S₀ w w₂:=hk.trans (hu.mono fun c hc=>hc.imp id Or.inl)
  have hy:zbh w.heap.size R (wl.tp w₂.tape w₂.drawn) w₂:=by
   refine⟨h9.one,fun b c hj=>?_,rfl,rfl,h9.low⟩
   obtain⟨o,o',e1,e2,p0⟩:=h9.blk b c hj
   refine⟨o,o',e1,?_,p0⟩
   rw[hu.same c ?_]
   ·exact e2
   ·by_cases q:w.heap.size<=b
    ·exact Or.inr (Or.inr ⟨b,hj,q⟩)
    ·refine Or.inl (h3 c ?_)
     rw[hg]
     exact⟨b,hj,qg⟩
  have hp:(results fn fr.tmps).run L (wl.tp w₂.tape w₂.drawn)=.ok v (wl.tp w₂.tape w₂.drawn):=by
   have:=zgE (P:=L) fn fr.tmps (wl.tp wl.tape wl.drawn) w₂.tape w₂.drawn
   rw[hE] at this
   exact this
  obtain⟨R',v',w3,es,hJ,h2,hv,p1,_⟩:=zil (zeW (low:=⟨w.heap.size⟩) (L:=L) (M:=M) (fn':=fn) rfl ht) hy hp
  have hz:=hJ #[]
  rw[Sem.runT_eq] at hz
  obtain⟨hA,hr2⟩:=Prod.mk.inj hz
  obtain rfl:=zkH fn t w₂ v' w3 hA
  have hd:=h2.does (Ex:=Ex) hy p1
  have hq:stepG M main (G { fr with tmps:=t } (c::cs)) w3=.go (G (c.finish v') cs) w3 (seen M fr.fn ((results fn t).events M w3 #[])++#[]):=by
   rw[zbn _ _ _ _ _ (show ({ fr with tmps:=t }:Frame).mode=.returning from hm)]
   simp only[unwind,ho.defers,hm,hM,Sem.runT_eq,doReturn,ho.kind,hA]
   rfl
  refine⟨_,w3,_,fun c=>S₀ c\/zbI w.heap.size R' c,hq,⟨Nat.le_refl _,fun c hc=>hc.imp id (hd.sub c),fun c hc=>?_,fun _ _ _=>rfl,rfl,rfl,rfl,fun e he=>?_⟩,?_⟩
  ·rcases hc with hc|hc
   ·exact Or.inl (Or.inl hc)
   ·exact(hd.new c hc).imp Or.inr id
  ·rw[Array.append_empty] at he
   have p5:e∈es:=by
    have:=mem_seen he
    rw[hr2] at this
    simpa using this
   rcases hd.evs e p5 with (⟨x,wr,rfl,q⟩|⟨x,wr,rfl,q⟩|rfl)|q
   ·refine Or.inl (Or.inl ⟨x,wr,rfl,?_⟩)
    rcases q with q|q
    ·exact Or.inl (Or.inr q)
    ·exact Or.inr ⟨h3 _ (by rw[hg];exact q.1),q.2⟩
   ·exact Or.inl (Or.inr (Or.inl ⟨x,wr,rfl,q.elim (fun q=>Or.inl (Or.inr q)) (fun q=>Or.inr ⟨h3 _ (by rw[hg];exact q.1),q.2⟩)⟩))
   ·exact Or.inl (Or.inr (Or.inr rfl))
   ·exact Or.inr q
  ·refine hQ v' w3 _ hw (fun c hc=>?_) ⟨R',_,v,hv,h2.rel,hl w3.tape w3.drawn,rfl⟩
   rcases hd.new c hc with q|q
   ·exact hD c q
   ·have:=hw.size
    omega
 ·exfalso
  obtain⟨tx,p6⟩:=hX f' hY
  cases hZ with
  | fin h1 _ _=>cases h1
  | step _ _ F C V h1 _ =>
   obtain⟨⟨es,e⟩,_⟩:=h1 wl.tape wl.drawn
   rw[zeC _ _ _ _ _ rfl] at e
   have p7:(Frame.enter L f' a1 .normal).todo=[.code (.refuse tx)]:=by unfold Frame.enter;dsimp only;rw[p6]
   simp only[stepG.exec,p7] at e
   cases e
theorem zah.callw{Stop:Nat->Np->Goroutine->Wq}{K:Np}{l:List (Nat × Obj)}{σ:Nat}{S:Np}[T:zaF L M][zaF L L](W:Whole L)(B:Bodies L M X)(h2:∀ w w':World,(∀ c,Lv c->w'.heap[c]?=w.heap[c]?)->Live w->Live w')(h3:∀ w c,Live w->Lv c->c<w.heap.size)(hX:zmk L X)(hf:L.funcs[f]?=some fn)(hb:fn.body.isSome=true)(h4:¬ X f){a:Array Value}(h5:∀ R v',zaj R v0 v'->v'=v0)(h6:∀ c,Kc c->K c)(h7:∀ w,Hp l w->Closed Kc w)(ha:zay (zcN Kc) a a)(hC:∀ w,Hp l w->∀ τ d,Calls L f a (w.frz.tp τ d) fun e _=>e=.returned v0){c:Frame}{cs:List Frame}(hn:∀ S':Np,zah M main Live Ex Stop Snd ch K l σ (fun c=>S c\/S' c) (G (c.finish v0) cs)) :
  zah M main Live Ex Stop Snd ch K l σ S (G (Frame.enter M f a .normal) (c::cs)):=by
 intro hl w hp hL h0
 refine ziH (Post:=fun v _=>v=v0) (Lv:=Lv) W B h2 hX hf hb h4 (fun _ _ _ _ h=>h) h6 (h7 w hp) ha h0 (fun c hc=>h3 w c hL hc) (fun τ d cs=>?_) ?_
 ·obtain⟨e,w',fr,he,h1⟩:=hC w hp τ d cs
  exact⟨e,w',fr,⟨v0,he,rfl⟩,h1⟩
 ·rintro v' w₁ S' hs h8 ⟨R,wl,v,hv,hw,rfl,hS'⟩
  rw[h5 R v' hv]
  refine hn S' (fun p h=>(hl p h).imp id Or.inl) w₁ (hp.sees hl hs) (hs.live hL) fun c hc=>?_
  rcases hc with hc|hc|hc
  ·exact nll (h0 c (Or.inl hc)) hs.size
  ·exact nll (h0 c (Or.inr hc)) hs.size
  ·rw[hS'] at hc
   obtain⟨x,hx,_⟩:=hc
   exact(hw.lt hx).2
end
end
section
open Go Go.Conc
section
variable{L:Program}{FinP:Frame->Wq}{b:Frame}{a:Act}{k:List Item}{cs:List Frame}{w w':World}{ops:Array Oper}{i:Nat}{rest:List Nat}{o:Oper}
theorem zb5.ctl{fr fr1:Frame}(t:zb5 L FinP fr cs w)(h:∀ cs w,stepG L true (G fr cs) w=.go (G fr1 cs) w #[]):zb5 L FinP fr1 cs w:=t.child (h (cs++[zaR L]) (w.tp w.tape w.drawn))
theorem zb5.ran(t:zb5 L FinP (b.at a (.inRegion ops (i::rest)::k)) cs w)(W:Whole L)(ho:ops[i]?=some o)(hw:Region.wanted o (yielded ops a.tmps)=true):∃ x w',(execOp a.eval o).run L w=.ok x w':=by
 cases t with
 | fin h1 _ _=>cases h1
 | step _ _ F C V h3 _ =>
  obtain⟨⟨es,e⟩,h0⟩:=h3 w.tape w.drawn
  have h2:w.tp w.tape w.drawn=w:=rfl
  rw[h2,stepG_oper ho hw] at e
  exact ziF W.toBodies e h0
theorem zb5.value(t:zb5 L FinP (b.at a (.inRegion ops (i::rest)::k)) cs w)(ho:ops[i]?=some o)(hw:Region.wanted o (yielded ops a.tmps)=true)(hk:b.kind≠.early){v:Value}(hr:(execOp a.eval o).run L w=.ok (.value v) w') :
  zb5 L FinP (b.at (a.put o.dst v) (.inRegion ops rest::k)) cs w':=t.child (τ:=w.tape) (d:=w.drawn) (stepG_value ho hw hk hr)
theorem zb5.cond{c:Operand}{x y:Code}(t:zb5 L FinP (b.at a (.code (.cond c x y)::k)) cs w):∃ q,a.eval c=.bool q/\zb5 L FinP (b.at a (.code (if q then x else y)::k)) cs w:=by
 cases he:a.eval c with
 | bool q=>exact⟨q,rfl,t.ctl fun cs w=>stepG_cond he⟩
 | _ =>
  exfalso
  cases t with
  | fin h1 _ _=>cases h1
  | step _ _ F C V h3 _ =>
   obtain⟨⟨es,e⟩,h0⟩:=h3 w.tape w.drawn
   have h':(b.at a (.code (.cond c x y)::k)).eval c=a.eval c:=Frame.eval_at b a _ c
   rw[he] at h'
   simp only[Frame.at] at h'
   simp[G,stepG,stepG.exec,Frame.at,h'] at e
theorem zb5.refuse{s:String}(t:zb5 L FinP (b.at a (.code (.refuse s)::k)) cs w):False:=by
 cases t with
 | fin h1 _ _=>cases h1
 | step _ _ F C V h3 _ =>
  obtain⟨⟨es,e⟩,_⟩:=h3 w.tape w.drawn
  simp[G,stepG,stepG.exec,Frame.at] at e
end
section
variable{L:Program}{w w':World}{x v:Value}{ty:TypeId}
theorem zsS(h:(binOp .mul ty x (J 0)).run L w=.ok v w'):∃ n,x=J n:=by
 cases x with
 | int kd n =>
  by_cases q:kd=.i64
  ·exact⟨n,by rw[q]⟩
  ·exfalso
   simp[binOp,q] at h
 | _=>exfalso;simp[binOp] at h
theorem zhN{o:Oper}{a:Act}{r:Next}{rt:TypeId}(h0:o.op=.binOp .mul ty z (.const (J 0)) rt)(h:(execOp a.eval o).run L w=.ok r w'):∃ n,a.eval z=J n:=by
 unfold execOp at h
 simp only[h0] at h
 rw[Sem.run_bind] at h
 cases hb:(do eqGuard .mul ty z (.const (J 0)) (a.eval z) (a.eval (.const (J 0)));binOp .mul ty (a.eval z) (a.eval (.const (J 0)))).run L w with
 | ok v w1 =>
  rw[Sem.run_bind] at hb
  cases hg:(eqGuard .mul ty z (.const (J 0)) (a.eval z) (a.eval (.const (J 0)))).run L w with
  | ok u w2=>rw[hg] at hb;exact zsS hb
  | halt q w2=>rw[hg] at hb;cases hb
 | halt q w1=>rw[hb] at h;cases h
theorem zda{b i:Nat}{c:Array Value}{z:Nat × Nat}(h:w.heap[b]?=some (.cells c t z)):w.cell? (O b i)=c[i]?:=by simp[World.cell?,h]
theorem zoP{b i:Nat}{c:Array Value}{z:Nat × Nat}(hb:w.heap[b]?=some (.cells c t z))(h:(load (O b i)).run L w=.ok v w'):c[i]?=some v/\w'=w:=by
 rw[_root_.Go.run_load,zda hb] at h
 cases hc:c[i]? with
 | some x=>rw[hc] at h;obtain⟨rfl,rfl⟩:=Result.ok.inj h;exact⟨rfl,rfl⟩
 | none =>
  exfalso
  rw[hc] at h
  simp[World.farLoad,hb] at h
theorem zee{o:Oper}{a:Act}{r:Next}{b i:Nat}{c:Array Value}(h0:o.op=.load ty z)(hz:a.eval z=.pointer (some (O b i)))(h1:(isAgg ty).run L w=.ok false w)(hb:w.heap[b]?=some (.cells c t zz))(h:(execOp a.eval o).run L w=.ok r w') :
  ∃ y,c[i]?=some y:=by
 unfold execOp at h
 simp only[h0,hz] at h
 rw[Sem.run_bind] at h
 cases hl:(Instr.loadAt ty (.pointer (some (O b i)))).run L w with
 | ok y w1 =>
  unfold Instr.loadAt loadVar at hl
  simp only[Instr.sureAddr,Sem.run_bind,Sem.run_pure,Result.andThen_ok,h1] at hl
  exact⟨y,(zoP hb hl).1⟩
 | halt q w1=>rw[hl] at h;cases h
theorem zqC{o:Oper}{a:Act}{r:Next}(h0:o.op=.call { callee:=.builtin .len,args:=#[z],argTypes:=#[ty] })(hu:L.underlying ty=some (.slice e))(h:(execOp a.eval o).run L w=.ok r w'):∃ p n m,a.eval z=.slice p n m:=by
 cases hz:a.eval z with
 | slice p n m=>exact⟨p,n,m,rfl⟩
 | _ =>
  exfalso
  unfold execOp at h
  simp[h0,resolve,invoke,hz,builtin,Builtin.len_,run_underlying hu] at h
theorem zmz{o:Oper}{a:Act}{r:Next}{q:Nat}(h0:o.op=.store ty z1 z2)(hs:(Go.sizeOf ty).run L w=.ok q w)(hz:∃ p,a.eval z1=.pointer (some p))(h:(execOp a.eval o).run L w=.ok r w'):(a.eval z2).cells.size=q:=by
 obtain⟨p,hp⟩:=hz
 apply Classical.byContradiction
 intro h1
 unfold execOp at h
 simp[h0,hp,Instr.storeAt,Instr.sureAddr,storeVar,hs,h1] at h
