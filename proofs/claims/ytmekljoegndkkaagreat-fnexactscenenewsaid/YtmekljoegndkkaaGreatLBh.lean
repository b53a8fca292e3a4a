/- Of the proof: Ek, El -/
import Derived.Conc.CompanyDraw
import Derived.Test.YtmekljoegndkkaaGreatLAh
namespace Go.Proofs.YtmekljoegndkkaaGreat
variable {listed:Array Bool} {rs:List Nat} {Q:List Nat->Prop} {fuel:Nat}
section
open Go Go.Conc
def zbZ (ops:Array Oper):Nat->Array Bool->(List Nat->Prop)->Prop
 | 0,listed,Q=>Region.ready .any ops listed=[]/\Q []
 | fuel + 1,listed,Q=>(Region.ready .any ops listed=[]->Q [])/\∀ i ∈ Region.ready .any ops listed,zbZ ops fuel (listed.setIfInBounds i true) fun r=>Q (i :: r)
theorem zhx {ops:Array Oper}:∀ (fuel t:Nat) (listed:Array Bool) (Q:List Nat->Prop),zbZ ops fuel listed Q->Q (Region.linearise.go .any ops fuel t listed []):=by
 intro fuel
 induction fuel with
 | zero=>intro t listed Q h; simpa [Region.linearise.go] using h.2
 | succ fuel ih =>
  intro t listed Q h
  obtain ⟨h₀,h₁⟩:=h
  simp only [Region.linearise.go]
  change Q (match (Region.ready .any ops listed)[t % (Region.ready .any ops listed).length]? with
   | some i=>Region.linearise.go .any ops fuel (t / (Region.ready .any ops listed).length) (listed.setIfInBounds i true) [i]
   | none=>[].reverse)
  cases hi:(Region.ready .any ops listed)[t % (Region.ready .any ops listed).length]? with
  | none =>
   have hnil:Region.ready .any ops listed=[]:=by
    cases hr:Region.ready .any ops listed with
    | nil=>rfl
    | cons x xs =>
     rw [hr] at hi
     have hlt:t % (x :: xs).length < (x :: xs).length:=Nat.mod_lt _ (by simp)
     simp at hi
     simp at hlt
     omega
   simpa using h₀ hnil
  | some i =>
   simp only []
   rw [linearise_go_acc,List.reverse_singleton,List.singleton_append]
   exact ih _ _ (fun r=>Q (i :: r)) (h₁ i (List.mem_of_getElem? hi))
theorem zcO {ops:Array Oper} (hr:Region.ready .any ops listed=rs) (hne:rs ≠ []) (h:∀ i ∈ rs,zbZ ops fuel (listed.setIfInBounds i true) fun r=>Q (i :: r)):zbZ ops (fuel + 1) listed Q:=by
 subst hr
 exact ⟨fun e=>absurd e hne,h⟩
theorem zaE {ops:Array Oper} (hr:Region.ready .any ops listed=[]) (h:Q []):zbZ ops fuel listed Q:=by
 cases fuel with
 | zero=>exact ⟨hr,h⟩
 | succ fuel=>exact ⟨fun _=>h,fun i hi=>by rw [hr] at hi; cases hi⟩
section
variable {M:Program} {main:Bool} {Live:World->Prop} {Ex:Event->Prop} {Stop:Nat->(Nat->Prop)->Goroutine->World->Prop} {Snd:Nat->(Nat->Prop)->Value->World->Prop} {ch:Nat} {K:Nat->Prop}
 {l:List (Nat × Obj)} {σ:Nat} {S:Nat->Prop} {b:Frame} {a:Act} {k:List Item} {cs:List Frame} {ops:Array Oper} {id:Nat}
theorem zag.draw (hm:M.follows .mixedOrders=true) (hLd:∀ w:World,Live w->Live { w with drawn:=w.drawn + 1 })
  (hn:zbZ ops ops.size (Array.replicate ops.size false) fun r=>zag M main Live Ex Stop Snd ch K l σ S (G (b.at a (.inRegion ops r :: k)) cs)):zag M main Live Ex Stop Snd ch K l σ S (G (b.at a (.code (.region id ops true) :: k)) cs) :=
 fun hl w hp hL hlt=>zaX.go rfl fun w₁ hs=>by
  have h1:=zhx ops.size (w₁.tape w₁.drawn (.order b.fn id)) _ _ hn
  have e:Region.schedule (M.follows .mixedOrders) ops (w₁.tape w₁.drawn (.order b.fn id))=Region.linearise.go .any ops ops.size (w₁.tape w₁.drawn (.order b.fn id)) (Array.replicate ops.size false) []:=by
   simp only [Region.schedule,hm,Bool.true_or,if_true]
   rfl
  refine ⟨_,{ w₁ with drawn:=w₁.drawn + 1 },_,S,stepG_region_draw,⟨Nat.le_refl _,fun _ h=>h,fun _ h=>Or.inl h,fun _ _ _=>rfl,rfl,rfl,rfl,by simp⟩,?_⟩
  rw [e]
  exact (h1 hl w hp hL hlt).rely ⟨hs.size,hs.same,hs.tape,hs.os,hs.out,fun h=>hLd _ (hs.live h)⟩
end
section
variable {M:Program} {main:Bool} {Live:World->Prop} {Ex:Event->Prop} {Stop:Nat->(Nat->Prop)->Goroutine->World->Prop} {Snd:Nat->(Nat->Prop)->Value->World->Prop} {ch:Nat} {K:Nat->Prop}
 {l:List (Nat × Obj)} {σ:Nat} {S:Nat->Prop} {b c:Frame} {a:Act} {todo:List Item} {cs:List Frame} {fn:Func} {v:Value}
theorem zit {w:World} (hn:b.kind=.normal) (hd:a.defers=[]) (hf:M.funcs[b.fn]?=some fn) (hr:(results fn a.tmps).run M w=.ok v w) :
  ∃ es,stepG M main (G { b.at a todo with mode:=.returning } (c :: cs)) w=.go (G (c.finish v) cs) w es/\∀ e ∈ es,e ∈ (results fn a.tmps).events M w #[]:=by
 refine ⟨seen M b.fn ((results fn a.tmps).events M w #[]),?_,fun e he=>mem_seen he⟩
 simp [G,stepG,unwind,doReturn,Frame.at,hn,hd,hf,hr,GStep.after]
theorem zag.leave (hn:b.kind=.normal) (hd:a.defers=[]) (hf:M.funcs[b.fn]?=some fn) (hr:∀ w,Hp l w->(results fn a.tmps).run M w=.ok v w) (he:(∀ p ∈ l,K p.1\/S p.1)->∀ w,Hp l w->∀ e ∈ (results fn a.tmps).events M w #[],EvS K S e)
  (hN:zag M main Live Ex Stop Snd ch K l σ S (G (c.finish v) cs)):zag M main Live Ex Stop Snd ch K l σ S (G { b.at a todo with mode:=.returning } (c :: cs)) :=
 fun hl w hp hL hlt=>zaX.go rfl fun w₁ hs=>by
  obtain ⟨es,h1,h2⟩:=zit (main:=main) (todo:=todo) (c:=c) (cs:=cs) hn hd hf (hr w₁ (hp.sees hl hs))
  exact ⟨_,w₁,es,S,h1,⟨Nat.le_refl _,fun _ h=>h,fun _ h=>Or.inl h,fun _ _ _=>rfl,rfl,rfl,rfl,fun e hx=>Or.inl (he hl w₁ (hp.sees hl hs) e (h2 e hx))⟩,(hN hl w hp hL hlt).rely hs⟩
end
end
end Go.Proofs.YtmekljoegndkkaaGreat
