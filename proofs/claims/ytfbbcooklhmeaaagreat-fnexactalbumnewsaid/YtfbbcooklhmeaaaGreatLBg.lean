/- Of the proof: Ek, El, Em -/
import Derived.Conc.CompanyDraw
import Derived.Test.YtfbbcooklhmeaaaGreatLAh
namespace Go.Proofs.YtfbbcooklhmeaaaGreat
variable {listed:Array Bool} {f:FuncId} {X:FuncId->Prop} {rs:List Nat} {Q:List Nat->Prop} {fuel:Nat} {Kc Lv:Nat->Prop} {Post:World->Value->World->Prop}
section
open Go Go.Conc
def zbT (ops:Array Oper):Nat->Array Bool->(List Nat->Prop)->Prop
 | 0,listed,Q=>Region.ready .any ops listed=[]/\Q []
 | fuel + 1,listed,Q=>(Region.ready .any ops listed=[]->Q [])/\∀ i ∈ Region.ready .any ops listed,zbT ops fuel (listed.setIfInBounds i true) fun r=>Q (i :: r)
theorem zhB {ops:Array Oper}:∀ (fuel t:Nat) (listed:Array Bool) (Q:List Nat->Prop),zbT ops fuel listed Q->Q (Region.linearise.go .any ops fuel t listed []):=by
 intro fuel
 induction fuel with
 | zero=>intro t listed Q h; simpa [Region.linearise.go] using h.2
 | succ fuel ih =>
  intro t listed Q h
  obtain ⟨h₀,h₁⟩:=h
  simp only [Region.linearise.go]
  change Q (match (Region.ready .any ops listed)[t % (Region.ready .any ops listed).length]? with
   | some i=>Region.linearise.go .any ops fuel (t / (Region.ready .any ops listed).length) (listed.setIfInBounds i true) [i]
   | none=>[].reverse)
  cases hi:(Region.ready .any ops listed)[t % (Region.ready .any ops listed).length]? with
  | none =>
   have hnil:Region.ready .any ops listed=[]:=by
    cases hr:Region.ready .any ops listed with
    | nil=>rfl
    | cons x xs =>
     rw [hr] at hi
     have hlt:t % (x :: xs).length < (x :: xs).length:=Nat.mod_lt _ (by simp)
     simp at hi
     simp at hlt
     omega
   simpa using h₀ hnil
  | some i =>
   simp only []
   rw [linearise_go_acc,List.reverse_singleton,List.singleton_append]
   exact ih _ _ (fun r=>Q (i :: r)) (h₁ i (List.mem_of_getElem? hi))
theorem zcG {ops:Array Oper} (hr:Region.ready .any ops listed=rs) (hne:rs ≠ []) (h:∀ i ∈ rs,zbT ops fuel (listed.setIfInBounds i true) fun r=>Q (i :: r)):zbT ops (fuel + 1) listed Q:=by
 subst hr
 exact ⟨fun e=>absurd e hne,h⟩
theorem zaD {ops:Array Oper} (hr:Region.ready .any ops listed=[]) (h:Q []):zbT ops fuel listed Q:=by
 cases fuel with
 | zero=>exact ⟨hr,h⟩
 | succ fuel=>exact ⟨fun _=>h,fun i hi=>by rw [hr] at hi; cases hi⟩
section
variable {M:Program} {main:Bool} {Live:World->Prop} {Ex:Event->Prop} {Stop:Nat->(Nat->Prop)->Goroutine->World->Prop} {Snd:Nat->(Nat->Prop)->Value->World->Prop} {ch:Nat} {K:Nat->Prop}
 {l:List (Nat × Obj)} {σ:Nat} {S:Nat->Prop} {b:Frame} {a:Act} {k:List Item} {cs:List Frame} {ops:Array Oper} {id:Nat}
theorem zag.draw (hm:M.follows .mixedOrders=true) (hLd:∀ w:World,Live w->Live { w with drawn:=w.drawn + 1 })
  (hn:zbT ops ops.size (Array.replicate ops.size false) fun r=>zag M main Live Ex Stop Snd ch K l σ S (G (b.at a (.inRegion ops r :: k)) cs)):zag M main Live Ex Stop Snd ch K l σ S (G (b.at a (.code (.region id ops true) :: k)) cs) :=
 fun hl w hp hL hlt=>zaW.go rfl fun w₁ hs=>by
  have h1:=zhB ops.size (w₁.tape w₁.drawn (.order b.fn id)) _ _ hn
  have e:Region.schedule (M.follows .mixedOrders) ops (w₁.tape w₁.drawn (.order b.fn id))=Region.linearise.go .any ops ops.size (w₁.tape w₁.drawn (.order b.fn id)) (Array.replicate ops.size false) []:=by
   simp only [Region.schedule,hm,Bool.true_or,if_true]
   rfl
  refine ⟨_,{ w₁ with drawn:=w₁.drawn + 1 },_,S,stepG_region_draw,⟨Nat.le_refl _,fun _ h=>h,fun _ h=>Or.inl h,fun _ _ _=>rfl,rfl,rfl,rfl,by simp⟩,?_⟩
  rw [e]
  exact (h1 hl w hp hL hlt).rely ⟨hs.size,hs.same,hs.tape,hs.os,hs.out,fun h=>hLd _ (hs.live h)⟩
end
section
variable {M:Program} {main:Bool} {Live:World->Prop} {Ex:Event->Prop} {Stop:Nat->(Nat->Prop)->Goroutine->World->Prop} {Snd:Nat->(Nat->Prop)->Value->World->Prop} {ch:Nat} {K:Nat->Prop}
 {l:List (Nat × Obj)} {σ:Nat} {S:Nat->Prop} {b c:Frame} {a:Act} {todo:List Item} {cs:List Frame} {fn:Func} {v:Value}
theorem zix {w:World} (hn:b.kind=.normal) (hd:a.defers=[]) (hf:M.funcs[b.fn]?=some fn) (hr:(results fn a.tmps).run M w=.ok v w) :
  ∃ es,stepG M main (G { b.at a todo with mode:=.returning } (c :: cs)) w=.go (G (c.finish v) cs) w es/\∀ e ∈ es,e ∈ (results fn a.tmps).events M w #[]:=by
 refine ⟨seen M b.fn ((results fn a.tmps).events M w #[]),?_,fun e he=>mem_seen he⟩
 simp [G,stepG,unwind,doReturn,Frame.at,hn,hd,hf,hr,GStep.after]
theorem zag.leave (hn:b.kind=.normal) (hd:a.defers=[]) (hf:M.funcs[b.fn]?=some fn) (hr:∀ w,Hp l w->(results fn a.tmps).run M w=.ok v w) (he:(∀ p ∈ l,K p.1\/S p.1)->∀ w,Hp l w->∀ e ∈ (results fn a.tmps).events M w #[],EvS K S e)
  (hN:zag M main Live Ex Stop Snd ch K l σ S (G (c.finish v) cs)):zag M main Live Ex Stop Snd ch K l σ S (G { b.at a todo with mode:=.returning } (c :: cs)) :=
 fun hl w hp hL hlt=>zaW.go rfl fun w₁ hs=>by
  obtain ⟨es,h1,h2⟩:=zix (main:=main) (todo:=todo) (c:=c) (cs:=cs) hn hd hf (hr w₁ (hp.sees hl hs))
  exact ⟨_,w₁,es,S,h1,⟨Nat.le_refl _,fun _ h=>h,fun _ h=>Or.inl h,fun _ _ _=>rfl,rfl,rfl,rfl,fun e hx=>Or.inl (he hl w₁ (hp.sees hl hs) e (h2 e hx))⟩,(hN hl w hp hL hlt).rely hs⟩
end
section
variable {M:Program} {main:Bool} {Live:World->Prop} {Ex:Event->Prop} {Stop:Nat->(Nat->Prop)->Goroutine->World->Prop} {Snd:Nat->(Nat->Prop)->Value->World->Prop} {ch:Nat} {K:Nat->Prop} {l:List (Nat × Obj)} {σ:Nat} {S:Nat->Prop}
theorem zag.callM {L:Program} [T:zaB L M] [zaB L L] (W:Whole L) (B:Bodies L M X) (hLv:∀ w w':World,(∀ c,Lv c->w'.heap[c]?=w.heap[c]?)->Live w->Live w') (hlv:∀ w c,Live w->Lv c->c < w.heap.size)
  (hX:∀ f,X f->∃ t,((L.funcs[f]?).bind (·.body)).getD (.refuse "unsupported: a function without a Go body is entered")=.refuse t)
  {fn:Func} (hf:L.funcs[f]?=some fn) (hb:fn.body.isSome=true) (hnX:¬ X f) {a:Array Value} (hP:∀ w0 v w τ d,Post w0 v w->Post w0 v (w.tp τ d))
  (hKc:∀ c,Kc c->K c) (hcl:∀ w,Hp l w->Closed Kc w) (ha:zaz (zdw Kc) a a)
  (hC:∀ w,Hp l w->∀ τ d,Calls L f a (w.frz.tp τ d) fun e w'=>∃ v,e=.returned v/\Post w v w') {c:Frame} {cs:List Frame}
  (hgo:∀ w0 v v' S' R wl w₁,Hp l w0->Hp l w₁->Post w0 v wl->zao R v v'->za8 w0.heap.size R wl w₁->S'=zbz w0.heap.size R->(∀ c,S' c->w0.heap.size<=c)->(∀ c,K c\/S c->c < w0.heap.size)->Live w₁->(∀ c,K c\/S c\/S' c->c < w₁.heap.size) ->
   zaW M main Live Ex Stop Snd ch K σ (fun c=>S c\/S' c) (G (c.finish v') cs) w₁) :
  zag M main Live Ex Stop Snd ch K l σ S (G (Frame.enter M f a .normal) (c :: cs)):=by
 intro hl w hp hL hlt
 refine zhE (Post:=Post w) (Lv:=Lv) W B hLv hX hf hb hnX (hP w) hKc (hcl w hp) ha hlt (fun c hc=>hlv w c hL hc) (hC w hp) ?_
 rintro v' w₁ S' hs hnew ⟨R,wl,v,hv,hw,hpost,hS'⟩
 refine hgo w v v' S' R wl w₁ hp (hp.sees hl hs) hpost hv hw hS' hnew hlt (hs.live hL) fun c hc=>?_
 rcases hc with hc | hc | hc
 ·exact nll (hlt c (Or.inl hc)) hs.size
 ·exact nll (hlt c (Or.inr hc)) hs.size
 ·rw [hS'] at hc
  obtain ⟨x,hx,_⟩:=hc
  exact (hw.lt hx).2
end
theorem zag.callMb {L M:Program} {main:Bool} {Live:World->Prop} {Ex:Event->Prop} {Stop:Nat->(Nat->Prop)->Goroutine->World->Prop} {Snd:Nat->(Nat->Prop)->Value->World->Prop} {ch:Nat} {K:Nat->Prop} {l:List (Nat × Obj)} {σ:Nat} {S:Nat->Prop}
  [T:zaB L M] [zaB L L] (W:Whole L) (B:Bodies L M X) (hLv:∀ w w':World,(∀ c,Lv c->w'.heap[c]?=w.heap[c]?)->Live w->Live w') (hlv:∀ w c,Live w->Lv c->c < w.heap.size)
  (hX:∀ f,X f->∃ t,((L.funcs[f]?).bind (·.body)).getD (.refuse "unsupported: a function without a Go body is entered")=.refuse t)
  {fn:Func} (hf:L.funcs[f]?=some fn) (hb:fn.body.isSome=true) (hnX:¬ X f) {a:Array Value} (hP:∀ w0 v w τ d,Post w0 v w->Post w0 v (w.tp τ d))
  (hKc:∀ c,Kc c->K c) (hcl:∀ w,Hp l w->Closed Kc w) (ha:zaz (zdw Kc) a a)
  (hC:∀ w,Hp l w->∀ τ d,Calls L f a (w.frz.tp τ d) fun e w'=>∃ v,e=.returned v/\Post w v w') {Q:Value->List (Nat × Obj)->Prop}
  (hQ:∀ w0 v v' R wl w₁,Post w0 v wl->zao R v v'->za8 w0.heap.size R wl w₁->∃ bs,Q v' bs/\Hp bs w₁/\∀ p ∈ bs,zbz w0.heap.size R p.1) {c:Frame} {cs:List Frame}
  (hn:∀ (S':Nat->Prop) (v':Value) (bs:List (Nat × Obj)),Q v' bs->(∀ p ∈ bs,S' p.1/\¬ K p.1/\¬ S p.1)->(∀ p ∈ l,K p.1\/S p.1)->zag M main Live Ex Stop Snd ch K (bs ++ l) σ (fun c=>S c\/S' c) (G (c.finish v') cs)) :
  zag M main Live Ex Stop Snd ch K l σ S (G (Frame.enter M f a .normal) (c :: cs)):=by
 intro hl
 refine zag.callM (Lv:=Lv) (Kc:=Kc) W B hLv hlv hX hf hb hnX hP hKc hcl ha hC ?_ hl
 intro w0 v v' S' R wl w₁ _ hp1 hpost hv hw hS' hnew hlt hL hlt1
 obtain ⟨bs,hq,hbs,hown⟩:=hQ w0 v v' R wl w₁ hpost hv hw
 have hS2:∀ p ∈ bs,S' p.1:=fun p h=>by rw [hS']; exact hown p h
 refine hn S' v' bs hq (fun p h=>⟨hS2 p h,fun q=>?_,fun q=>?_⟩) hl (fun p h=>?_) w₁ (fun p h=>?_) hL (fun c hc=>hlt1 c (hc.imp id fun x=>x))
 ·have h1:=hlt p.1 (.inl q); have h2:=hnew p.1 (hS2 p h); omega
 ·have h1:=hlt p.1 (.inr q); have h2:=hnew p.1 (hS2 p h); omega
 ·rcases List.mem_append.1 h with h | h
  ·exact .inr (.inr (hS2 p h))
  ·exact (hl p h).imp id .inl
 ·rcases List.mem_append.1 h with h | h
  ·exact hbs p h
  ·exact hp1 p h
end
end Go.Proofs.YtfbbcooklhmeaaaGreat
