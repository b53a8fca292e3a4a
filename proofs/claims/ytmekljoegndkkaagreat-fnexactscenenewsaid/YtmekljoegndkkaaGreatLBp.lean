/- Of the proof: Em -/
import Derived.Test.YtmekljoegndkkaaGreatLBh
namespace Go.Proofs.YtmekljoegndkkaaGreat
variable {a:Array Value} {c:Frame} {fn:Func} {f:FuncId} {X:FuncId->Prop} {cs:List Frame} {Kc Lv:Nat->Prop} {Q:Value->List (Nat × Obj)->Prop} {Post:World->Value->World->Prop}
section
open Go Go.Conc
section
variable {M:Program} {main:Bool} {Live:World->Prop} {Ex:Event->Prop} {Stop:Nat->(Nat->Prop)->Goroutine->World->Prop} {Snd:Nat->(Nat->Prop)->Value->World->Prop} {ch:Nat} {K:Nat->Prop} {l:List (Nat × Obj)} {σ:Nat} {S:Nat->Prop}
theorem zag.callM {L:Program} [T:zaC L M] [zaC L L] (W:Whole L) (B:Bodies L M X) (hLv:∀ w w':World,(∀ c,Lv c->w'.heap[c]?=w.heap[c]?)->Live w->Live w') (hlv:∀ w c,Live w->Lv c->c < w.heap.size)
  (hX:∀ f,X f->∃ t,((L.funcs[f]?).bind (·.body)).getD (.refuse "unsupported: a function without a Go body is entered")=.refuse t)
  (hf:L.funcs[f]?=some fn) (hb:fn.body.isSome=true) (hnX:¬ X f) (hP:∀ w0 v w τ d,Post w0 v w->Post w0 v (w.tp τ d))
  (hKc:∀ c,Kc c->K c) (hcl:∀ w,Hp l w->Closed Kc w) (ha:zaA (zdD Kc) a a)
  (hC:∀ w,Hp l w->∀ τ d,Calls L f a (w.frz.tp τ d) fun e w'=>∃ v,e=.returned v/\Post w v w') 
  (hgo:∀ w0 v v' S' R wl w₁,Hp l w0->Hp l w₁->Post w0 v wl->zaq R v v'->zbc w0.heap.size R wl w₁->S'=zbE w0.heap.size R->(∀ c,S' c->w0.heap.size<=c)->(∀ c,K c\/S c->c < w0.heap.size)->Live w₁->(∀ c,K c\/S c\/S' c->c < w₁.heap.size) ->
   zaX M main Live Ex Stop Snd ch K σ (fun c=>S c\/S' c) (G (c.finish v') cs) w₁) :
  zag M main Live Ex Stop Snd ch K l σ S (G (Frame.enter M f a .normal) (c :: cs)):=by
 intro hl w hp hL hlt
 refine zhA (Post:=Post w) (Lv:=Lv) W B hLv hX hf hb hnX (hP w) hKc (hcl w hp) ha hlt (fun c hc=>hlv w c hL hc) (hC w hp) ?_
 rintro v' w₁ S' hs hnew ⟨R,wl,v,hv,hw,hpost,hS'⟩
 refine hgo w v v' S' R wl w₁ hp (hp.sees hl hs) hpost hv hw hS' hnew hlt (hs.live hL) fun c hc=>?_
 rcases hc with hc | hc | hc
 ·exact nll (hlt c (Or.inl hc)) hs.size
 ·exact nll (hlt c (Or.inr hc)) hs.size
 ·rw [hS'] at hc
  obtain ⟨x,hx,_⟩:=hc
  exact (hw.lt hx).2
end
theorem zag.callMb {L M:Program} {main:Bool} {Live:World->Prop} {Ex:Event->Prop} {Stop:Nat->(Nat->Prop)->Goroutine->World->Prop} {Snd:Nat->(Nat->Prop)->Value->World->Prop} {ch:Nat} {K:Nat->Prop} {l:List (Nat × Obj)} {σ:Nat} {S:Nat->Prop}
  [T:zaC L M] [zaC L L] (W:Whole L) (B:Bodies L M X) (hLv:∀ w w':World,(∀ c,Lv c->w'.heap[c]?=w.heap[c]?)->Live w->Live w') (hlv:∀ w c,Live w->Lv c->c < w.heap.size)
  (hX:∀ f,X f->∃ t,((L.funcs[f]?).bind (·.body)).getD (.refuse "unsupported: a function without a Go body is entered")=.refuse t)
  (hf:L.funcs[f]?=some fn) (hb:fn.body.isSome=true) (hnX:¬ X f) (hP:∀ w0 v w τ d,Post w0 v w->Post w0 v (w.tp τ d))
  (hKc:∀ c,Kc c->K c) (hcl:∀ w,Hp l w->Closed Kc w) (ha:zaA (zdD Kc) a a)
  (hC:∀ w,Hp l w->∀ τ d,Calls L f a (w.frz.tp τ d) fun e w'=>∃ v,e=.returned v/\Post w v w') 
  (hQ:∀ w0 v v' R wl w₁,Post w0 v wl->zaq R v v'->zbc w0.heap.size R wl w₁->∃ bs,Q v' bs/\Hp bs w₁/\∀ p ∈ bs,zbE w0.heap.size R p.1) 
  (hn:∀ (S':Nat->Prop) (v':Value) (bs:List (Nat × Obj)),Q v' bs->(∀ p ∈ bs,S' p.1/\¬ K p.1/\¬ S p.1)->(∀ p ∈ l,K p.1\/S p.1)->zag M main Live Ex Stop Snd ch K (bs ++ l) σ (fun c=>S c\/S' c) (G (c.finish v') cs)) :
  zag M main Live Ex Stop Snd ch K l σ S (G (Frame.enter M f a .normal) (c :: cs)):=by
 intro hl
 refine zag.callM (Lv:=Lv) (Kc:=Kc) W B hLv hlv hX hf hb hnX hP hKc hcl ha hC ?_ hl
 intro w0 v v' S' R wl w₁ _ hp1 hpost hv hw hS' hnew hlt hL hlt1
 obtain ⟨bs,hq,hbs,hown⟩:=hQ w0 v v' R wl w₁ hpost hv hw
 have hS2:∀ p ∈ bs,S' p.1:=fun p h=>by rw [hS']; exact hown p h
 refine hn S' v' bs hq (fun p h=>⟨hS2 p h,fun q=>?_,fun q=>?_⟩) hl (fun p h=>?_) w₁ (fun p h=>?_) hL (fun c hc=>hlt1 c (hc.imp id fun x=>x))
 ·have h1:=hlt p.1 (.inl q); have h2:=hnew p.1 (hS2 p h); omega
 ·have h1:=hlt p.1 (.inr q); have h2:=hnew p.1 (hS2 p h); omega
 ·rcases List.mem_append.1 h with h | h
  ·exact .inr (.inr (hS2 p h))
  ·exact (hl p h).imp id .inl
 ·rcases List.mem_append.1 h with h | h
  ·exact hbs p h
  ·exact hp1 p h
end
end Go.Proofs.YtmekljoegndkkaaGreat
