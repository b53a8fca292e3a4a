/- Part. -/
import Derived.Below
import Derived.Conc.Token
import Derived.Test.YthfhlgdeghnggaaGreatEAb
namespace Go.Proofs.YthfhlgdeghnggaaGreat
variable{buf:Array Value}{blocking tm:Bool}{e:Event}{fr fr1:Frame}{Main:Frame->List Frame->Wq}{FinP:Frame->Wq}{fn:FuncId}{X:FuncId->Prop}{a₂ g:Goroutine}{cs cs1:List Frame}{B c cap r s:Nat}{Stop:Nat->Np->Goroutine->Wq}{z:Value}{w1:World}
section
open Go Go.Conc Go.ConcN
open Go.ConcR (KK wgBlock WgAt stA smA rd wr mk Payload Aside2 DC0 Bk g_of_ofEvents ofEvent_mk)
def ShB(Shun:Np):Loc->Prop:=fun l=>∃ a,l=.cell a/\Shun a.block
structure Bes(P:Program)(Shun:Np)(gs:Array Goroutine)(w:World)(t:Trace)(q:Nat->Nat):Prop where
 pos:0<gs.size
 lv:Leavers P t gs q
 clean:∀ said,¬ Race said t
 know:∀ p a,touchAt t p=some a->¬ ShB Shun a.loc->Knows t 0 p
 over:t.HandedOver
 hears:Deaf t 0=0
 low:∀ op∈t,op.act.low w.heap.size
 shl:∀ c,Shun c->c<w.heap.size
 atom:∀ p a,touchAt t p=some a->a.kind=.atomic->ShB Shun a.loc\/t.g? p=some 0
 quiet:Quiet (ShB Shun) t
 gsz:∀(i:Nat) (op:MemOp),t[i]?=some op->op.g<gs.size
theorem Bes.past{P:Program}{Shun:Np}{gs:Array Goroutine}{w:World}{t:Trace}{q:Nat->Nat}(h:Bes P Shun gs w t q):Past (ShB Shun) w.heap.size t:=by
 refine⟨h.clean,fun i a ha _=>?_,h.over,h.hears,h.low⟩
 by_cases hs:ShB Shun a.loc
 ·obtain⟨x,hx,h0⟩:=touch_of ha
  have hq:=h.quiet i x a hx h0 hs
  cases hk:a.kind with
  | plain=>exact absurd hk hq.1
  | said =>
   have:=knows_own hx
   rw[hq.2 hk] at this
   exact Or.inl this
  | atomic=>exact Or.inr ⟨hs,rfl⟩
 ·exact Or.inl (h.know i a ha hs)
def Unt(c:Nat)(t:Trace):Prop:=(∀ p a,touchAt t p=some a->∀ b,a.loc=.cell b->b.block≠c)/\NoRelease (stA c) t
theorem znE{t:Trace}(h:∀ op∈t,op.act.low B)(hB:B<=c):Unt c t:=by
 refine⟨fun p a ha b e=>?_,fun i hi=>?_⟩
 ·obtain⟨x,hx,h0⟩:=touch_of ha
  have:=zf4 (h x (Array.mem_of_getElem? hx)) h0
  rw[e] at this
  have:b.block<B:=this
  omega
 ·obtain⟨x,hx,e⟩:=Option.map_eq_some_iff.1 hi
  have:=h x (Array.mem_of_getElem? hx)
  rw[e] at this
  have:c<B:=this
  omega
section
variable{P:Program}{ty:TypeId}{Wg ch j0:Nat}{Shun:Np}[Payload]{Snd:Nat->Np->Value->Wq}{n:Nat}{fst fin:Nat->Nat}{Post Anch:Np->St}{gs:Array Goroutine}{w w':World}{sl:Option (Nat × Nat)}{j:Nat}{t:Trace}{D:Nat->WD}{ρ:Nat->Rk}{K S G:Nat->Np}{σ:Nat->Nat}{GG:Nat->Np}
theorem Sit.quits{K S:Np}{σ e:Nat}{d:WD}{r:Rk}(h:Sit P ty Wg ch Snd K S σ e d r g w)(hd:d.stage=1):QuitsD P d.fuel d.deaf g:=by
 cases h with
 | work h=>simp at hd
 | lib h1 _ _ _ h=>simp only at hd;omega
 | quit _ h=>exact h
theorem zj4(h:zd5 P ty Wg ch j0 Shun Snd n fst fin n gs w t D ρ K S G σ GG 0)(hq:AllQuit n D)(ha:∃ q,t.act? q=some (.mark (.acquire (stA Wg)))/\t.g? q=some 0/\t.heard q/\∀ i,j0<=i->i<n->∃ r,RelBy (stA Wg) t (i+1) r/\r<q) :
  Bes P (fun c=>c=Wg\/Shun c) gs w t (fun i=>(D (i - 1)).fuel):=by
 obtain⟨q,q1,q2,q3,q4⟩:=ha
 have edge:∀ i,j0<=i->i<n->∃ r,RelBy (stA Wg) t (i+1) r/\HappensBefore t r q:=fun i a b=>by
  obtain⟨r,hr,h1⟩:=q4 i a b
  exact⟨r,hr,.single (.inr ⟨.marked h1 (.inr hr.act) q1 (fun k _ _=>h.tr.norel k),hr.heard,q3⟩)⟩
 have back:∀ i p,j0<=i->i<n->t.g? p=some (i+1)->t.counts p->HappensBefore t p q:=by
  intro i p a b hg hc
  obtain⟨r,hr,he⟩:=edge i a b
  have h4:p<=r:=Nat.le_of_not_lt fun h0=>hr.after p h0 hg hc
  rcases Nat.lt_or_ge p r with h0|h5
  ·exact .trans (.single (.inl ⟨h0,_,hg,hr.g⟩)) he
  ·obtain rfl:p=r:=qg
   exact he
 refine⟨by rw[h.size];omega,⟨fun i g hi hg=>?_,fun i hi=>?_⟩,h.ct.nr,fun p a ha hs=>?_,fun p g hg hne hc=>?_,h.deaf0,h.tr.low,fun c hc=>?_,h.tr.atom,h.ct.quiet,fun i op hi=>by have:=h.ct.gs i op hi;rw[h.size];omega⟩
 ·obtain⟨i',rfl⟩:∃ i',i=i'+1:=⟨i - 1,qg⟩
  have h0:i'<n:=by have:=(gei hg).1;rw[h.size] at this;omega
  obtain⟨g',hg',hs'⟩:=h.wk i' h0
  rw[hg] at hg'
  cases hg'
  rw[h.deafW i' h0]
  exact hs'.quits (hq i' h0)
 ·obtain⟨i',rfl⟩:∃ i',i=i'+1:=⟨i - 1,by rw[h.size] at hi;omega⟩
  exact h.above i' (by rw[h.size] at hi;omega)
 ·rcases h.tr.know p a ha hs with x|⟨i,a1,a2,a3,a4⟩
  ·exact x
  ·have h2:a.kind≠.atomic:=fun e=>(h.tr.atom p a ha e).elim hs fun q=>by rw[a3] at q;cases q
   have hc:t.counts p:=⟨a,ha,a4,Or.inl h2⟩
   have hb:=back i p a1 a2 a3 hc
   obtain⟨y,hy,h3⟩:=Option.map_eq_some_iff.1 q2
   exact⟨q,y,hy,h3,Or.inr hb⟩
 ·rcases h.tr.over p g hg hne hc with x|⟨i,a1,a2,a3⟩
  ·exact x
  ·exact⟨q,q2,back i p a1 a2 (by rw[hg,a3]) hc⟩
 ·rcases hc with rfl|hc
  ·exact h.lv.1
  ·exact h.shl c hc
theorem zk5{q:Nat->Nat}{K0 S0:Np}{st sm:Int}(h:Bes P Shun gs w t q)(hj:gs.size=j0+1)(hn:j0<=n)(hf:∀ i,i<j0->fst i=fin i)(hc:w.heap[ch]?=some (.chan cap #[] false s r tm))(h3:sumTo n (fun i=>fin i - fst i)<=cap)(h2:WgAt ty Wg w st sm)(h1:Wg≠ch)(hu:Unt Wg t)(h4:∀ c,S0 c->¬ K0 c)(h0:∀ c,K0 c\/S0 c->c<w.heap.size/\c≠Wg/\c≠ch/\¬ Shun c) :
  zd5 P ty Wg ch j0 Shun Snd n fst fin j0 gs w t (fun i=>⟨1,q (i+1),Deaf t (i+1)⟩) (fun i=>ofNat (q (i+1))) (fun k c=>k=0/\K0 c) (fun k c=>k=0/\S0 c) (fun _ _=>False) fst (fun _ _=>False) 0:=by
 have hW:Wg<w.heap.size:=(gei (show w.heap[Wg]?=some (wgBlock ty st sm) from h2)).1
 have hC:ch<w.heap.size:=(gei hc).1
 have locF:∀ {A:Np} {l:Loc},(∀ c,¬ A c)->¬ zkw A l:=by
  intro A l hA
  cases l with
  | cell a=>exact hA _
  | obj a=>exact hA _
  | _=>exact fun q=>q
 refine⟨hj,⟨Nat.le_refl _,hn⟩,fun _ _=>rfl,fun _ _=>rfl,fun k c hk q=>?_,fun i hi=>?_,?_,?_,⟨h.low,fun p a ha hk=>?_,hu.2,fun p g hg h1 hc=>Or.inl (h.over p g hg h1 hc),fun p a ha hs=>Or.inl (h.know p a ha fun ⟨x,e,y⟩=>hs ⟨x,e,Or.inr y⟩)⟩,fun k c q=>?_,fun _ _ _ q=>q,h.shl,⟨⟨_,_,h2⟩,_,_,_,_,_,hc⟩,⟨hW,hC,h1⟩,h.hears,fun _ _=>rfl,fun i hi=>h.lv.above (i+1) (by rw[hj];omega),fun i a b=>qg,⟨cap,#[],s,r,tm,hc,by simpa using h3,fun x hx=>by simp at hx,fun i m a b=>qg⟩,fun _ _=>Nat.le_refl _,fun i m c a b=>qg,fun i i' m m' c a b=>qg⟩
 ·rcases q with q|q|q
  ·omega
  ·omega
  ·exact q
 ·obtain⟨g,hg⟩:∃ g,gs[i+1]?=some g:=⟨_,Array.getElem?_eq_getElem (by rw[hj];omega)⟩
  exact⟨g,hg,.quit (hf i hi) (h.lv.old (i+1) g qg hg)⟩
 ·refine Apart.ofBlocks (fun k k' c a b=>?_) (fun k k' c a b=>?_) (fun k c a=>?_)
  ·rcases a with a|a
   ·rcases b with b|b
    ·omega
    ·exact b.elim
   ·exact a.elim
  ·rcases a with a|a
   ·exact h4 c a.2 b.2
   ·exact a
  ·rcases a with a|a|a
   ·exact⟨(h0 c (Or.inr a.2)).2.1,(h0 c (Or.inr a.2)).2.2.2⟩
   ·exact a.elim
   ·exact⟨(h0 c (Or.inl a.2)).2.1,(h0 c (Or.inl a.2)).2.2.2⟩
 ·refine⟨fun i op x hi hx hs=>?_,fun k k1 _ l hl=>?_,fun k k1 _ l hl=>?_,fun l hs _ p a ha e=>h.know p a ha (fun ⟨x,e1,y⟩=>hs ⟨x,by rw[<- e];exact e1,Or.inr y⟩),fun l hs _ p a ha e _=>h.know p a ha (fun ⟨x,e1,y⟩=>hs ⟨x,by rw[<- e];exact e1,Or.inr y⟩),h.clean,fun i op hi=>by have:=h.gsz i op hi;omega⟩
  ·obtain⟨y,e,z⟩:=hs
   rcases z with z|z
   ·exact absurd z (hu.1 i x (by rw[touchAt_of hi];exact hx) y e)
   ·exact h.quiet i op x hi hx ⟨y,e,z⟩
  ·exact absurd hl (locF fun c q=>by rcases q with q|q;omega;exact q)
  ·exact absurd hl (locF fun c q=>qg)
 ·exact(h.atom p a ha hk).imp (fun ⟨x,e,y⟩=>⟨x,e,Or.inr y⟩) id
 ·rcases q with q|q|q
  ·exact⟨(h0 c (Or.inl q.2)).1,(h0 c (Or.inl q.2)).2.1,(h0 c (Or.inl q.2)).2.2.1⟩
  ·exact⟨(h0 c (Or.inr q.2)).1,(h0 c (Or.inr q.2)).2.1,(h0 c (Or.inr q.2)).2.2.1⟩
  ·exact q.elim
end
section
variable{P:Program}{Shun:Np}{gs:Array Goroutine}{w w':World}{sl:Option (Nat × Nat)}{t:Trace}{q:Nat->Nat}{K S S':Np}{a a':Goroutine}{es:Array Event}
theorem zmy(h:EvS K S e)(h0:∀ c,K c\/S c->c<B/\¬ Shun c):EvL (ShB Shun) B e:=by
 refine⟨fun x hx hs=>?_,h.idle.1,h.idle.2.1,h.low fun c hc=>(h0 c hc).1⟩
 obtain⟨b,e1,e2⟩:=hs
 have:=(h.act.1 x hx).2
 rw[e1] at this
 rcases this with z|⟨z,_⟩
 ·exact absurd e2 (h0 _ (Or.inr z)).2
 ·exact absurd e2 (h0 _ (Or.inl z)).2
theorem zjn(h:EvS K S e)(h0:∀ c,K c\/S c->¬ Shun c){x:Touch}(hx:(MemAct.ofEvent e).touch?=some x):¬ ShB Shun x.loc:=by
 rintro⟨b,e1,e2⟩
 have:=(h.act.1 x hx).2
 rw[e1] at this
 rcases this with z|⟨z,_⟩
 ·exact h0 _ (Or.inr z) e2
 ·exact h0 _ (Or.inl z) e2
theorem Bes.at(h:Bes P Shun gs w t q)(d:Nat):Bes P Shun gs (w.at d) t q:=⟨h.pos,h.lv,h.clean,h.know,h.over,h.hears,h.low,h.shl,h.atom,h.quiet,h.gsz⟩
theorem Bes.own(h:Bes P Shun gs w t q){pos:String}(hD:Does (fun _=>False) K S S' w w' es)(h4:∀ c,K c\/S' c->c<w'.heap.size/\¬ Shun c) :
  Bes P Shun ((gs.map (woken P a a' w')).setIfInBounds 0 a') w' (t++MemOp.ofEvents 0 fn pos es) q:=by
 have h1:∀ e∈es,EvS K S' e:=fun e he=>(hD.evs e he).elim id fun x=>x.elim
 have hP:=(h.past.mono hD.size).own (fn:=fn) (pos:=pos) (es:=es) fun e he=>zmy (h1 e he) h4
 have h2:((gs.map (woken P a a' w')).setIfInBounds 0 a').size=gs.size:=qm
 refine⟨by rw[h2];exact h.pos,⟨fun j x hj hx=>?_,fun j hj=>?_⟩,hP.clean,fun p b hb hs=>?_,hP.over,hP.hears,hP.seen,fun c hc=>nll (h.shl c hc) hD.size,fun p b hb hk=>?_,h.quiet.app fun op hop x hx hs=>?_,fun i op hi=>?_⟩
 ·have h5:0≠j:=qg
  rw[Array.getElem?_setIfInBounds_ne h5,Array.getElem?_map] at hx
  obtain⟨y,hy,rfl⟩:=Option.map_eq_some_iff.1 hx
  have hq:=h.lv.old j y hj hy
  rw[woken_quitsD hq,Deaf_other t qg _ g_of_ofEvents]
  exact hq
 ·rw[h2] at hj
  rw[Deaf_other t (g':=0) (by have:=h.pos;omega) _ g_of_ofEvents]
  exact h.lv.above j hj
 ·obtain⟨x,hx,h0⟩:=touch_of hb
  rcases getElem?_append_cases hx with ⟨_,hx'⟩|⟨_,h3⟩
  ·exact(h.know p b (by rw[touchAt_of hx'];exact h0) hs).app _
  ·have:=knows_own hx
   rw[g_of_ofEvents x h3] at this
   exact this
 ·obtain⟨x,hx,h0⟩:=touch_of hb
  rcases getElem?_append_cases hx with ⟨hi,hx'⟩|⟨_,h3⟩
  ·exact(h.atom p b (by rw[touchAt_of hx'];exact h0) hk).imp id fun q=>by rw[g?_old hi];exact q
  ·obtain⟨e,he,rfl⟩:=Go.Conc.mem_ofEvents h3
   have:=((h1 e he).act.1 b h0).1
   rw[this] at hk
   cases hk
 ·obtain⟨e,he,rfl⟩:=Go.Conc.mem_ofEvents hop
  exact absurd hs (zjn (h1 e he) (fun c hc=>(h4 c hc).2) hx)
 ·rw[h2]
  rcases getElem?_append_cases hi with ⟨_,hi'⟩|⟨_,h6⟩
  ·exact h.gsz i op hi'
  ·rw[g_of_ofEvents op h6];exact h.pos
theorem Bes.slip(h:Bes P Shun gs w t q){i k:Nat}{g':Goroutine}{pos:String}(h7:0<i)(h4:i<gs.size)(hm:∀ e∈es,e.mute=true)(hq':QuitsD P k (deafBehind (Deaf t i) es) g') :
  Bes P Shun ((gs.map (woken P g g' w)).setIfInBounds i g') w (t++MemOp.ofEvents i fn pos es) (upd q i k):=by
 have hP:=h.past.mute (g:=i) qg (fn:=fn) (pos:=pos) hm
 have h1:((gs.map (woken P g g' w)).setIfInBounds i g').size=gs.size:=qm
 have no:∀ op∈MemOp.ofEvents i fn pos es,op.act.touch?=none:=fun op h2=>by obtain⟨e,he,rfl⟩:=Go.Conc.mem_ofEvents h2;exact touch_mute (hm e he)
 refine⟨by rw[h1];exact h.pos,⟨fun j x hj hx=>?_,fun j hj=>?_⟩,hP.clean,fun p b hb hs=>?_,hP.over,hP.hears,hP.seen,h.shl,fun p b hb hk=>?_,h.quiet.app fun op h2 x hx hs=>(by rw[no op h2] at hx;cases hx),fun i' op hi=>?_⟩
 ·by_cases hji:i=j
  ·subst hji
   rw[Array.getElem?_setIfInBounds_self_of_lt (by simpa using h4)] at hx
   obtain rfl:=Option.some.inj hx
   rw[upd_same,Deaf_own]
   exact hq'
  ·rw[Array.getElem?_setIfInBounds_ne hji,Array.getElem?_map] at hx
   obtain⟨y,hy,rfl⟩:=Option.map_eq_some_iff.1 hx
   have h5:=h.lv.old j y hj hy
   rw[woken_quitsD h5,upd_ne q k (Ne.symm hji),Deaf_other t hji _ g_of_ofEvents]
   exact h5
 ·rw[h1] at hj
  rw[Deaf_other t (g':=i) qg _ g_of_ofEvents]
  exact h.lv.above j hj
 ·obtain⟨x,hx,h0⟩:=touch_of hb
  rcases getElem?_append_cases hx with ⟨_,hx'⟩|⟨_,h3⟩
  ·exact(h.know p b (by rw[touchAt_of hx'];exact h0) hs).app _
  ·rw[no x h3] at h0;cases h0
 ·obtain⟨x,hx,h0⟩:=touch_of hb
  rcases getElem?_append_cases hx with ⟨hi,hx'⟩|⟨_,h3⟩
  ·exact(h.atom p b (by rw[touchAt_of hx'];exact h0) hk).imp id fun q=>by rw[g?_old hi];exact q
  ·rw[no x h3] at h0;cases h0
 ·rw[h1]
  rcases getElem?_append_cases hi with ⟨_,hi'⟩|⟨_,h6⟩
  ·exact h.gsz i' op hi'
  ·rw[g_of_ofEvents op h6];exact h4
theorem Unt.app{u:Trace}(h:Unt c t)(h1:∀ op∈u,∀ x,op.act.touch?=some x->∀ b,x.loc=.cell b->b.block≠c)(h2:∀ op∈u,op.act≠.mark (.release (stA c))):Unt c (t++u):=by
 refine⟨fun p x hx b e=>?_,h.2.app h2⟩
 obtain⟨y,hy,h0⟩:=touch_of hx
 rcases getElem?_append_cases hy with ⟨_,hy'⟩|⟨_,h3⟩
 ·exact h.1 p x (by rw[touchAt_of hy'];exact h0) b e
 ·exact h1 y h3 x h0 b e
theorem Unt.evs{pos:String}(h:Unt c t)(h0:∀ e∈es,EvS K S e)(hc:¬ K c/\¬ S c):Unt c (t++MemOp.ofEvents 0 fn pos es):=by
 refine h.app (fun op h1 x hx b e=>?_) (norel_of fun e he=>(h0 e he).idle.2.2 _)
 obtain⟨e',he,rfl⟩:=Go.Conc.mem_ofEvents h1
 have:=((h0 e' he).act.1 x hx).2
 rw[e] at this
 rintro rfl
 rcases this with z|⟨z,_⟩
 ·exact hc.2 z
 ·exact hc.1 z
theorem Unt.mute{i:Nat}{pos:String}(h:Unt c t)(hm:∀ e∈es,e.mute=true):Unt c (t++MemOp.ofEvents i fn pos es):=by
 refine h.app (fun op h0 x hx=>?_) (norel_of fun e he q=>?_)
 ·obtain⟨e',he,rfl⟩:=Go.Conc.mem_ofEvents h0
  rw[show (MemAct.ofEvent e').touch?=none from touch_mute (hm e' he)] at hx
  cases hx
 ·have:=hm e he
  obtain⟨l,wr,sy⟩:=e
  cases q
  simp[Event.mute] at this
end
section
variable{P:Program}{Shun:Np}{ch:Nat}
structure zb4(K S S':Np)(w w':World)(t t':Trace):Prop where
 size:w.heap.size<=w'.heap.size
 sub:∀ c,S c->S' c
 new:∀ c,S' c->S c\/(w.heap.size<=c/\c<w'.heap.size)
 kept:∀ c,c<w.heap.size->¬ S c->w'.heap[c]?=w.heap[c]?
 tape:w'.tape=w.tape
 os:w'.os=w.os
 out:w'.output=w.output
 unt:∀ c,Unt c t->¬ K c->¬ S' c->Unt c t'
theorem zb4.refl{K S:Np}(w:World)(t:Trace):zb4 K S S w w t t:=⟨Nat.le_refl _,fun _ h=>h,fun _ h=>Or.inl h,fun _ _ _=>rfl,rfl,rfl,rfl,fun _ h _ _=>h⟩
theorem zb4.trans{K S S' S'':Np}{w w' w'':World}{t t' t'':Trace}(h:zb4 K S S' w w' t t')(k:zb4 K S' S'' w' w'' t' t''):zb4 K S S'' w w'' t t'':=by
 refine⟨Nat.le_trans h.size k.size,fun c q=>k.sub c (h.sub c q),fun c q=>?_,fun c q r=>?_,k.tape.trans h.tape,k.os.trans h.os,k.out.trans h.out,fun c q r s=>k.unt c (h.unt c q r fun x=>s (k.sub c x)) r s⟩
 ·have:=h.size;have:=k.size
  rcases k.new c q with q|q
  ·rcases h.new c q with q|q
   ·exact Or.inl q
   ·exact Or.inr ⟨q.1,qg⟩
  ·exact Or.inr ⟨qg,q.2⟩
 ·have:=h.size
  refine(k.kept c qg fun x=>?_).trans (h.kept c q r)
  rcases h.new c x with x|x
  ·exact r x
  ·omega
theorem zhy{K:Np} :∀(r:Rk) (M:Nat) (gs:Array Goroutine) (a:Goroutine) (w:World) (sl:Option (Nat × Nat)) (t:Trace) (q:Nat->Nat) (S:Np) (σ:Nat),sumTo gs.size q=M->gs[0]?=some a->Bes P Shun gs w t q ->
   (∀ c,K c\/S c->c<w.heap.size/\¬ Shun c)->Way P true (fun _=>True) (fun _=>False) Stop (fun _ _ _ _=>False) ch K r σ S a w ->
   ∃ (N:Nat) (gs':Array Goroutine) (a':Goroutine) (w':World) (sl':Option (Nat × Nat)) (t':Trace) (q':Nat->Nat) (S':Np),
    runNT P N (crowd gs w sl) t=(.next (crowd gs' w' sl'),t')/\gs'.size=gs.size/\gs'[0]?=some a'/\(∀ w₁,zaW (fun _=>True) K S' w' w₁->Stop σ S' a' w₁)/\Bes P Shun gs' w' t' q'/\zb4 K S S' w w' t t':=by
 intro r
 induction r with
 | z=>exact fun M gs a w sl t q S σ _ h0 hB _ hW=>⟨0,gs,a,w,sl,t,q,S,rfl,rfl,h0,hW,hB,zb4.refl w t⟩
 | s f ihr =>
  intro M
  induction M using Nat.strongRecOn with
  | _ M ih =>
   intro gs a w sl t q S σ hM h0 hB h4 hW
   rcases hW with hk|⟨h2,h6⟩
   ·exact⟨0,gs,a,w,sl,t,q,S,rfl,rfl,h0,hk,hB,zb4.refl w t⟩
   have hu:∀ g∈gs,awake g:=by
    intro g hg
    obtain⟨i,hi,rfl⟩:=Array.mem_iff_getElem.1 hg
    rcases Nat.eq_zero_or_pos i with rfl|h3
    ·have:gs[0]=a:=by simpa [Array.getElem?_eq_getElem hi] using h0
     rw[this];exact awake_of (.inl h2)
    ·exact awake_of ((hB.lv.old i _ h3 (Array.getElem?_eq_getElem hi)).status.elim .inl fun x=>.inr (.inr x))
   obtain⟨i,g,d,sl',hi,hg,hl⟩:=crowd_pick (P:=P) (w:=w) (sl:=sl) hu ⟨0,a,h0,h2⟩
   have h7:zaW (fun _=>True) K S w (w.at d):=⟨Nat.le_refl _,fun _ _=>rfl,rfl,rfl,rfl,fun _=>trivial⟩
   rcases Nat.eq_zero_or_pos i with rfl|h3
   ·obtain rfl:g=a:=by rw[h0] at hi;exact(Option.some.inj hi).symm
    rcases h6 (w.at d) h7 with ⟨a',w',es,S',hw,hD,hW'⟩|⟨_,_,_,_,_,_,x,_⟩
    ·have h1:=runT_crowd_go (P:=P) (sl:=sl') (i:=0) hi (show stepG P (0 == 0) g (w.at d)=_ from hw)
     have h5:((gs.map (woken P g a' w')).setIfInBounds 0 a').size=gs.size:=qm
     have hlt':∀ c,K c\/S' c->c<w'.heap.size/\¬ Shun c:=by
      have hp:w.heap.size<=w'.heap.size:=hD.size
      rintro c (x|x)
      ·exact⟨nll (h4 c (Or.inl x)).1 hp,(h4 c (Or.inl x)).2⟩
      ·rcases hD.new c x with x|x
       ·exact⟨nll (h4 c (Or.inr x)).1 hp,(h4 c (Or.inr x)).2⟩
       ·refine⟨x.2,fun y=>?_⟩
        have:=hB.shl c y
        have:=x.1
        have e:(w.at d).heap.size=w.heap.size:=rfl
        omega
     have hB':=(hB.at d).own (a:=g) (a':=a') (fn:=g.frame.fn) (pos:=g.frame.place) hD hlt'
     obtain⟨N,gs',a'',w'',sl'',t',q',S'',hr,hs',h0',hS,h9,hj⟩:=ihr (w.at d) (sumTo gs.size q) ((gs.map (woken P g a' w')).setIfInBounds 0 a') a' w' sl' (t++MemOp.ofEvents 0 g.frame.fn g.frame.place es) q S' σ (by rw[h5]) (get_map_set_same _ _ _ hB.pos) hB' hlt' hW'
     refine⟨N+1,gs',a'',w'',sl'',t',q',S'',by rw[runNT_succ_next (hl.trans h1)];exact hr,hs'.trans h5,h0',hS,h9,zb4.trans ⟨hD.size,hD.sub,hD.new,hD.kept,hD.tape,hD.os,hD.out,fun c u k s=>u.evs (fun e he=>(hD.evs e he).elim id fun x=>x.elim) ⟨k,s⟩⟩ hj⟩
    ·exact x.elim
   ·have hq:=hB.lv.old i g h3 hi
    have hy:(i == 0)=false:=qn
    have h8:i<gs.size:=(gei hi).1
    cases hqi:q i with
    | zero=>rw[hqi] at hq;rw[hq.1] at hg;cases hg
    | succ k =>
     rw[hqi] at hq
     rcases hq with ⟨hf,_⟩|⟨_,g',es,hm,hs,hq'⟩
     ·rw[hf] at hg;cases hg
     have h1:=runT_crowd_go (P:=P) (sl:=sl') (i:=i) hi (by rw[hy];exact hs (w.at d))
     have h5:((gs.map (woken P g g' (w.at d))).setIfInBounds i g').size=gs.size:=qm
     have hA:sumTo gs.size (upd q i k)+(k+1)=sumTo gs.size q+k:=by
      have:=sumTo_upd q k id h8
      simpa [hqi] using this
     have hB':=(hB.at d).slip (g:=g) (fn:=g.frame.fn) (pos:=g.frame.place) h3 h8 hm hq'
     obtain⟨N,gs',a'',w'',sl'',t',q',S'',hr,hs',h0',hS,h9,hj⟩:=ih (sumTo gs.size (upd q i k)) qg ((gs.map (woken P g g' (w.at d))).setIfInBounds i g') a (w.at d) sl' (t++MemOp.ofEvents i g.frame.fn g.frame.place es) (upd q i k) S σ (by rw[h5])
      (by
       have hz:i≠0:=qg
       rw[Array.getElem?_setIfInBounds_ne hz,Array.getElem?_map,h0]
       simp[woken_run h2]) hB' h4 (Way.rely (r:=.s f) (Or.inr ⟨h2,h6⟩) h7)
     exact⟨N+1,gs',a'',w'',sl'',t',q',S'',by rw[runNT_succ_next (hl.trans h1)];exact hr,hs'.trans h5,h0',hS,h9,zb4.trans (w':=w.at d) ⟨Nat.le_refl w.heap.size,fun _ x=>x,fun _ x=>Or.inl x,fun _ _ _=>rfl,rfl,rfl,rfl,fun c u _ _=>u.mute hm⟩ hj⟩
end
end
section
open Go Go.Conc
variable{L M:Program}
inductive zcB(L:Program):Frame->List Frame->World->Frame->List Frame->Wq
 | refl {fr:Frame} {cs:List Frame} {w:World}:zcB L fr cs w fr cs w
 | step {fr fr1 fr2:Frame} {cs cs1 cs2:List Frame} {w w1 w2:World} (τ:Nat->Question->Nat) (d:Nat) (es:Array Event):stepG L true (G fr (cs++[zaR L])) (w.tp τ d)=.go (G fr1 (cs1++[zaR L])) w1 es->zcB L fr1 cs1 w1 fr2 cs2 w2->zcB L fr cs w fr2 cs2 w2
theorem zsr(h:G fr cs=G fr1 cs1):fr=fr1/\cs=cs1:=by
 simp only[G,Goroutine.mk.injEq] at h
 exact⟨h.1,h.2.1⟩
theorem zhR{w:World}{es:Array Event}(h1:fr.mode=.returning)(hS:zmh L fr [] w)(h:stepG L true (G fr [zaR L]) w=.go (G fr1 (cs1++[zaR L])) w1 es):False:=by
 obtain⟨N,R,frp,csp,wp,hf,_,_⟩:=hS
 obtain⟨fn,h4,_⟩:=hf.1.fnok
 have h2:=hf.1.defers
 have h3:=hf.1.kind
 have e:stepG L true (G fr [zaR L]) w=unwind L true fr [zaR L] none w:=zbn _ _ _ _ _ h1
 simp only[unwind,h2,h1,h4,Sem.runT_eq] at e
 cases hr:(results fn fr.tmps).run L w with
 | halt hh w2 =>
  rw[hr] at e
  rw[h] at e
  cases hh <;> cases e
 | ok v w2 =>
  rw[hr] at e
  simp only[doReturn,h3] at e
  rw[h] at e
  have e':=GStep.go.inj e
  have hc:=(zsr (e'.1.trans (show _=G ((zaR L).finish v) [] from rfl))).2
  simp at hc
theorem zb5.child{w:World}{τ:Nat->Question->Nat}{d:Nat}{es:Array Event}(h:zb5 L FinP fr cs w)(e:stepG L true (G fr (cs++[zaR L])) (w.tp τ d)=.go (G fr1 (cs1++[zaR L])) w1 es):zb5 L FinP fr1 cs1 w1:=by
 cases h with
 | fin h1 h2 h3=>exact(zhR h1 (h3.tp τ d) e).elim
 | step h1 h2 F C V h3 h4 =>
  obtain⟨⟨es',e'⟩,_⟩:=h3 τ d
  rw[e] at e'
  obtain⟨a,b,_⟩:=GStep.go.inj e'
  obtain⟨a1,a2⟩:=zsr a
  have a3:=List.append_cancel_right a2
  rw[a1,a3,b]
  exact h4 τ d
theorem zb5.desc{w:World}(h:zb5 L FinP fr cs w)(k:zcB L fr cs w fr1 cs1 w1):zb5 L FinP fr1 cs1 w1:=by
 induction k with
 | refl=>exact h
 | step τ d es e _ ih=>exact ih (h.child e)
theorem zcB.trans{fr2:Frame}{cs2:List Frame}{w w2:World}(h:zcB L fr cs w fr1 cs1 w1)(k:zcB L fr1 cs1 w1 fr2 cs2 w2):zcB L fr cs w fr2 cs2 w2:=by
 induction h with
 | refl=>exact k
 | step τ d es e _ ih=>exact .step τ d es e (ih k)
theorem zrM(h:∀ fr cs w,zb5 L FinP fr cs w->(∀ τ d es fr1 cs1 w1 fr2 cs2 w2,stepG L true (G fr (cs++[zaR L])) (w.tp τ d)=.go (G fr1 (cs1++[zaR L])) w1 es->zcB L fr1 cs1 w1 fr2 cs2 w2->Main fr2 cs2 w2)->Main fr cs w){w:World}(t:zb5 L FinP fr cs w):Main fr cs w:=by
 have key:∀ fr2 cs2 w2,zcB L fr cs w fr2 cs2 w2->Main fr2 cs2 w2:=by
  induction t with
  | fin h1 h2 h3 =>
   intro fr2 cs2 w2 k
   cases k with
   | refl=>exact h _ _ _ (.fin h1 h2 h3) fun τ d es fr1 cs1 w1 fr2 cs2 w2 e _=>(zhR h1 (h3.tp τ d) e).elim
   | step τ d es e _=>exact(zhR h1 (h3.tp τ d) e).elim
  | @step fr cs w h1 h2 F C V h3 h4 ih =>
   have below:∀ τ d es fr1 cs1 w1 fr2 cs2 w2,stepG L true (G fr (cs++[zaR L])) (w.tp τ d)=.go (G fr1 (cs1++[zaR L])) w1 es->zcB L fr1 cs1 w1 fr2 cs2 w2->Main fr2 cs2 w2:=by
    intro τ d es fr1 cs1 w1 fr2 cs2 w2 e k
    obtain⟨⟨es',e'⟩,_⟩:=h3 τ d
    rw[e] at e'
    obtain⟨a,b,_⟩:=GStep.go.inj e'
    obtain⟨a1,a2⟩:=zsr a
    have a3:=List.append_cancel_right a2
    rw[a1,a3,b] at k
    exact ih τ d _ _ _ k
   intro fr2 cs2 w2 k
   cases k with
   | refl=>exact h _ _ _ (.step h1 h2 F C V h3 h4) below
   | step τ d es e k=>exact below τ d es _ _ _ _ _ _ e k
 exact key _ _ _ .refl
theorem zbq{FinP:Frame->Wq}:∀(n:Nat) {fr fr':Frame} {cs cs':List Frame} {w w':World},zb5 L FinP fr cs w->runN L n (lone fr (cs++[zaR L]) w)=.next (lone fr' (cs'++[zaR L]) w')->zcB L fr cs w fr' cs' w'
 | 0,fr,fr',cs,cs',w,w',_,h=>by
  simp only[runN] at h
  obtain⟨rfl,hc,rfl⟩:=zcj h
  rw[List.append_cancel_right hc]
  exact .refl
 | n+1,fr,fr',cs,cs',w,w',t,h=>by
  cases t with
  | fin h1 h2 h3 =>
   obtain⟨N,R,frp,csp,wp,hf,_,_⟩:=h3
   obtain⟨fn,h4,_⟩:=hf.1.fnok
   have d2:=hf.1.defers
   have d3:=hf.1.kind
   have e:stepG L true (G fr [zaR L]) w=unwind L true fr [zaR L] none w:=zbn _ _ _ _ _ h1
   simp only[unwind,d2,h1,h4,Sem.runT_eq] at e
   rw[List.nil_append] at h
   cases hr:(results fn fr.tmps).run L w with
   | halt hh w2 =>
    rw[hr] at e
    cases hh <;> (rw[zcl e] at h;cases h)
   | ok v w2 =>
    rw[hr] at e
    simp only[doReturn,d3] at e
    have e':stepG L true (G fr [zaR L]) w=.go (G ((zaR L).finish v) []) w2 (seen L fr.fn ((results fn fr.tmps).events L w #[])++#[]):=e
    rw[zct e'] at h
    cases n with
    | zero=>obtain⟨_,hc,_⟩:=zcj h;simp at hc
    | succ n =>
     have e2:stepG L true (G ((zaR L).finish v) []) w2=.ended (.stuck ("no extern row "++ "fmt's door") (((zaR L).finish v).pos L)) w2:=by
      have hm:((zaR L).finish v).mode=.run:=rfl
      rw[zeC _ _ _ _ _ hm]
      have ht:((zaR L).finish v).todo=[.extern "fmt's door" (#[].push v)]:=rfl
      simp only[stepG.exec,ht,zsc,Option.elim_none]
     rw[zcl e2] at h
     cases h
  | step h1 h2 F C V h3 h4 =>
   obtain⟨⟨es,e⟩,_⟩:=h3 w.tape w.drawn
   rw[zis rfl rfl] at e
   rw[zct e] at h
   exact .step w.tape w.drawn es (by rw[zis rfl rfl];exact e) (zbq n (h4 _ _) h)
theorem zp0{f:FuncId}{a:Array Value}{c:Frame}{w:World}{Post:Value->Wq}(t:zb5 L FinP (Frame.enter L f a .normal) (c::cs) w)(hC:Calls L f a w fun e w'=>∃ v,e=.returned v/\Post v w'):∃ v w',Post v w'/\zcB L (Frame.enter L f a .normal) (c::cs) w (c.finish v) cs w':=by
 obtain⟨e,w',fr,⟨v,rfl,hv⟩,⟨n,hn⟩,_,hl⟩:=hC (c::cs++[zaR L])
 have d1:=zbq (cs':=c::cs) n t hn
 have hs:step L (lone fr (c::(cs++[zaR L])) w')=.next (lone (c.finish v) (cs++[zaR L]) w'):=step_leave_returned hl
 have t1:=t.desc d1
 refine⟨v,w',hv,d1.trans (zbq 1 t1 ?_)⟩
 simp only[runN,List.cons_append,hs]
end
section
open Go Go.Conc Go.ConcN
open Go.ConcR (stA g_of_ofEvents)
open Go.RowKit
variable{L M:Program}
def XOk(L M:Program)(X:FuncId->Prop)(N:Nat):Prop :=
 ∀(FinP:Frame->Wq) (f:FuncId) (a a':Array Value) (c c':Frame) (cs cs':List Frame) (R:BR) (wl w:World) (Shun:Np) (gs:Array Goroutine) (t:Trace) (q:Nat->Nat) (sl:Option (Nat × Nat)),
  X f->zqk f a.size=true->zay R a a'->zco L R (c::cs) (c'::cs')->zbh N R (wl.tp w.tape w.drawn) w->zb5 L FinP (Frame.enter L f a .normal) (c::cs) wl->Bes M Shun gs w t q->gs[0]?=some (G (Frame.enter M f a' .normal) (c'::cs')) ->
  (∀ b c,R b c->¬ Shun c)->(∀ b c,R b c->N<=b->N<=c)->(∀ c,Shun c->N<=c)->N<=w.heap.size ->
  ∃ (n:Nat) (gs':Array Goroutine) (w':World) (sl':Option (Nat × Nat)) (t':Trace) (q':Nat->Nat) (Shun':Np) (R':BR) (v v':Value) (wl':World),
   runNT M n (crowd gs w sl) t=(.next (crowd gs' w' sl'),t')/\gs'[0]?=some (G (c'.finish v') cs')/\Bes M Shun' gs' w' t' q'/\zcB L (Frame.enter L f a .normal) (c::cs) wl (c.finish v) cs wl'/\R.le R'/\zaj R' v v' /\
   zbh N R' (wl'.tp w'.tape w'.drawn) w'/\(∀ b c,R' b c->¬ Shun' c)/\(∀ b c,R' b c->N<=b->N<=c)/\(∀ c,Shun' c->N<=c)/\Below N w w'
def Node(L M:Program)(X:FuncId->Prop)(N:Nat)(fr:Frame)(cs:List Frame)(wl:World)(R:BR)(B0:Nat):Nat->Np->Goroutine->Wq:=fun _ S g w =>
 ∃ R' τ d es fr1 cs1 w1,stepG L true (G fr (cs++[zaR L])) (wl.tp τ d)=.go (G fr1 (cs1++[zaR L])) w1 es/\(∀ b c,R' b c->R b c\/(N<=b/\B0<=c))/\zbh N R' (w1.tp w.tape w.drawn) w/\S=zbI N R' /\
  ∃ fr1' cs1',g=G fr1' cs1'/\zr2 L M X R' fr1 fr1' cs1 cs1'
theorem zgQ.modeEq{R:BR}{fr':Frame}(h:zgQ L R fr fr'):fr'.mode=fr.mode/\fr'.defers=fr.defers/\fr'.kind=fr.kind/\fr'.fn=fr.fn:=by
 obtain⟨_,t,rfl,_⟩:=h
 exact⟨rfl,rfl,rfl,rfl⟩
theorem zqA{fn:Func}(h1:fr.mode=.returning)(h2:fr.defers=[])(h3:fr.kind=.normal)(h4:M.funcs[fr.fn]?=some fn)(hr:zcJ fn=true)(hi:M.inits.idxOf? fr.fn=none)(w:World):stepG M true (G fr []) w=.ended (.done (zc5 fn fr.tmps)) w #[]:=by
 have e:stepG M true (G fr []) w=unwind M true fr [] none w:=zbn _ _ _ _ _ h1
 rw[e]
 simp only[unwind,h2,h1,h4,Sem.runT_eq,zdm hr]
 have e2:(pure (zc5 fn fr.tmps):Sem Value).run M w=.ok (zc5 fn fr.tmps) w:=rfl
 have e3:(pure (zc5 fn fr.tmps):Sem Value).events M w #[]=#[]:=rfl
 rw[e2,e3]
 simp only[doReturn,h3,hi]
 rfl
open Classical in
theorem zq0[T:zaF L M](B:Bodies L M X)(hz:zbt L){N:Nat}(hX:XOk L M X N){w0:World}{Post:Value->Wq}(hT:∀(R:BR) (fr fr':Frame) (wl w:World),zgQ L R fr fr'->(∀ τ d,FinP fr (wl.tp τ d))->Below N w0 w->∃ fn,M.funcs[fr'.fn]?=some fn/\zcJ fn=true/\M.inits.idxOf? fr'.fn=none/\Post (zc5 fn fr'.tmps) w){wl:World}(tr:zb5 L FinP fr cs wl) :
  ∀(R:BR) (fr':Frame) (cs':List Frame) (w:World) (Shun:Np) (gs:Array Goroutine) (t:Trace) (q:Nat->Nat) (sl:Option (Nat × Nat)),zgQ L R fr fr'->zco L R cs cs'->zbh N R (wl.tp w.tape w.drawn) w->Bes M Shun gs w t q->gs[0]?=some (G fr' cs') ->
   (∀ b c,R b c->¬ Shun c)->(∀ b c,R b c->N<=b->N<=c)->(∀ c,Shun c->N<=c)->N<=w.heap.size->Below N w0 w ->
   ∃ n last o w' t',runNT M (n+1) (crowd gs w sl) t=(.ended o w',t')/\runN M n (crowd gs w sl)=.next last/\step M last=.ended o w'/\Go.Conc.Good M Post last o w' t':=by
 refine zrM (Main:=fun fr cs wl=>∀(R:BR) (fr':Frame) (cs':List Frame) (w:World) (Shun:Np) (gs:Array Goroutine) (t:Trace) (q:Nat->Nat) (sl:Option (Nat × Nat)),zgQ L R fr fr'->zco L R cs cs'->zbh N R (wl.tp w.tape w.drawn) w->Bes M Shun gs w t q->gs[0]?=some (G fr' cs') ->
   (∀ b c,R b c->¬ Shun c)->(∀ b c,R b c->N<=b->N<=c)->(∀ c,Shun c->N<=c)->N<=w.heap.size->Below N w0 w ->
   ∃ n last o w' t',runNT M (n+1) (crowd gs w sl) t=(.ended o w',t')/\runN M n (crowd gs w sl)=.next last/\step M last=.ended o w'/\Go.Conc.Good M Post last o w' t') ?_ tr
 intro fr cs wl tr below R fr' cs' w Shun gs t q sl hf hD hw hB h0 hp hN hj p0 hK
 cases tr with
 | fin h1 h2 h3 =>
  cases hD
  obtain⟨m1,m2,m3,m4⟩:=hf.modeEq
  refine beside_ends (Shun:=ShB Shun) (B:=w.heap.size) (D:=fun _ _ _=>False) (n:=0) (fun _ _ _ h=>h.elim) h0 hB.lv hB.past ?_
  rintro w₁ ⟨d,rfl⟩
  obtain⟨fn,p1,hU,p5,hq⟩:=hT R fr fr' wl (w.at d) hf h2 ⟨hK.os,hK.tape,hK.output,hK.size,hK.block⟩
  exact⟨rfl,_,_,zqA (by rw[m1];exact h1) (by rw[m2];exact hf.1.defers) (by rw[m3];exact hf.1.kind) p1 hU p5 _,qm,hq⟩
 | step hne hS F C V h3 h4 =>
  have hV:Way M true (fun _=>True) (fun _=>False) (Node L M X N fr cs wl R w.heap.size) (fun _ _ _ _=>False) 0 (zdh N R) (.s fun _=>.z) 0 (zbI N R) (G fr' cs') w:=by
   refine Or.inr ⟨rfl,fun w₁ hs=>Or.inl ?_⟩
   have h8:=hw.sees hs
   rw[ztf] at h8
   obtain⟨⟨es,e⟩,hm⟩:=h3 w₁.tape w₁.drawn
   obtain⟨R',fr1',cs1,cs1',w1',es',p6,hM,h5,_⟩:=ziq (rest:=[]) B hz true hf hD h8 e hm hne
   have hC:C w₁.tape w₁.drawn=cs1:=List.append_cancel_right p6
   rw[List.append_nil,List.append_nil] at hM
   have h7:zbh N R' ((V w₁.tape w₁.drawn).tp w1'.tape w1'.drawn) w1':=by
    rw[zis h5.went.rel.tape h5.went.rel.drawn]
    exact h5.went.rel
   refine⟨_,w1',es',zbI N R',hM,h5.went.does h8 h5.evs,fun w₂ hE=>?_⟩
   refine⟨R',w₁.tape,w₁.drawn,es,_,_,_,e,fun b c p7=>?_,?_,rfl,fr1',cs1',rfl,by rw[hC];exact h5.after⟩
   ·rcases h5.went.new b c p7 with x|⟨x,y⟩
    ·exact Or.inl x
    ·exact Or.inr ⟨Nat.le_trans h8.low x,Nat.le_trans hs.size y⟩
   ·rw[<- h5.went.keptSame h8.low] at hE
    have:=h7.sees hE
    rw[ztf] at this
    exact this
  have p8:∀ c,zdh N R c\/zbI N R c->c<w.heap.size/\¬ Shun c:=by
   rintro c (⟨b,x,_⟩|⟨b,x,_⟩)
   ·exact⟨(hw.lt x).2,hp b c x⟩
   ·exact⟨(hw.lt x).2,hp b c x⟩
  obtain⟨n1,gs1,a1,w1,sl1,t1,q1,S1,p9,pk,hF,hu,hG,h6⟩:=zhy (P:=M) (Shun:=Shun) (.s fun _=>.z) (sumTo gs.size q) gs (G fr' cs') w sl t q (zbI N R) 0 rfl h0 hB p8 hV
  obtain⟨R',τ,d,es,fr1,cs1,wl1,e,hk,h7,rfl,fr1',cs1',rfl,hg⟩:=hu w1 (zaW.refl w1)
  have hJ:Below N w w1:=⟨h6.os,h6.tape,h6.out,h6.size,fun c hc=>h6.kept c qg fun ⟨b,x,y⟩=>by have:=hN b c x y;omega⟩
  have hl:∀ b c,R' b c->¬ Shun c:=fun b c x y=>by
   rcases hk b c x with z|⟨_,z⟩
   ·exact hp b c z y
   ·have:=hB.shl c y;omega
  have hL:∀ b c,R' b c->N<=b->N<=c:=fun b c x y=>by
   rcases hk b c x with z|⟨_,z⟩
   ·exact hN b c z y
   ·omega
  have h9:N<=w1.heap.size:=Nat.le_trans p0 h6.size
  have join:∀ {n2:Nat} {m2:Machine} {t2:Trace},runNT M n2 (crowd gs1 w1 sl1) t1=(.next m2,t2)->(∃ n last o w' t',runNT M (n+1) m2 t2=(.ended o w',t')/\runN M n m2=.next last/\step M last=.ended o w'/\Go.Conc.Good M Post last o w' t') ->
    ∃ n last o w' t',runNT M (n+1) (crowd gs w sl) t=(.ended o w',t')/\runN M n (crowd gs w sl)=.next last/\step M last=.ended o w'/\Go.Conc.Good M Post last o w' t':=by
   rintro n2 m2 t2 hr2 ⟨n,last,o,w',t',e1,e2,e3,e4⟩
   have hr:runNT M (n1+n2) (crowd gs w sl) t=(.next m2,t2):=by rw[runNT_add,p9];exact hr2
   refine⟨n1+n2+n,last,o,w',t',?_,?_,e3,e4⟩
   ·rw[Nat.add_assoc,runNT_add,hr];exact e1
   ·rw[runN_add,<- runNT_fst M _ _ t,hr];exact e2
  rcases hg with ⟨pa,he⟩|⟨f,a,a',pb,pc,rfl,rfl,ha,he,_,hY⟩
  ·refine join (n2:=0) rfl ?_
   exact below τ d es _ _ _ _ _ _ e .refl R' fr1' cs1' w1 Shun gs1 t1 q1 sl1 pa he h7 hG hF hl hL hj h9 (hK.trans hJ)
  ·cases he with
   | nil=>exact absurd rfl hY
   | @cons c c' cs1 cs1' hc hcm hcs2 =>
    have tr1:=(zb5.step hne hS F C V h3 h4:zb5 L FinP fr cs wl).child e
    obtain⟨n2,gs2,w2,sl2,t2,q2,Shun2,R2,v,v',wl2,hr2,pd,pe,pf,hP,hv,hy,hZ,pg,hA,hQ⟩:=hX FinP f a a' c c' cs1 cs1' R' wl1 w1 Shun gs1 t1 q1 sl1 pb pc ha (.cons hc hcm hcs2) h7 tr1 hG hF hl hL hj h9
    refine join hr2 ?_
    have pi:zgQ L R2 (c.finish v) (c'.finish v'):=by
     obtain⟨ho,tt,rfl,pj⟩:=hc.mono hP
     exact zb0 ho pj hv
    exact below τ d es _ _ _ _ _ _ e pf R2 (c'.finish v') cs1' w2 Shun2 gs2 t2 q2 sl2 pi (hcs2.mono hP) hy pe pd hZ pg hA (Nat.le_trans h9 hQ.size) ((hK.trans hJ).trans hQ)
end
section
open Go Go.Conc Go.ConcN
open Go.ConcR (stA g_of_ofEvents)
section
variable{P:Program}{Shun:Np}{w w':World}{a a':Goroutine}
theorem zfh:∀(M:Nat) (gs:Array Goroutine) (w:World) (sl:Option (Nat × Nat)) (t:Trace) (q:Nat->Nat),sumTo gs.size q=M->Bes P Shun gs w t q->gs[0]?=some a->a.status=.running ->
  ∃ (n:Nat) (gs':Array Goroutine) (d1:Nat) (sl' sl'':Option (Nat × Nat)) (t':Trace) (q':Nat->Nat) (d:Nat),runNT P n (crowd gs w sl) t=(.next (crowd gs' (w.at d1) sl'),t')/\gs'.size=gs.size/\gs'[0]?=some a/\Bes P Shun gs' (w.at d1) t' q' /\
   stepT P (crowd gs' (w.at d1) sl')=runT P (crowd gs' (w.at d) sl'') 0/\∀ c,Unt c t->Unt c t':=by
 intro M
 induction M using Nat.strongRecOn with
 | _ M ih =>
  intro gs w sl t q hM hB h0 h7
  have hp:∀ g∈gs,awake g:=by
   intro g hg
   obtain⟨i,hi,rfl⟩:=Array.mem_iff_getElem.1 hg
   rcases Nat.eq_zero_or_pos i with rfl|h8
   ·have:gs[0]=a:=by simpa [Array.getElem?_eq_getElem hi] using h0
    rw[this];exact awake_of (.inl h7)
   ·exact awake_of ((hB.lv.old i _ h8 (Array.getElem?_eq_getElem hi)).status.elim .inl fun x=>.inr (.inr x))
  obtain⟨i,g,d,sl',hi,hg,hj⟩:=crowd_pick (P:=P) (w:=w) (sl:=sl) hp ⟨0,a,h0,h7⟩
  rcases Nat.eq_zero_or_pos i with rfl|h8
  ·exact⟨0,gs,w.drawn,sl,sl',t,q,d,rfl,rfl,h0,hB,hj,fun _ h=>h⟩
  ·have hq:=hB.lv.old i g h8 hi
   have hs:(i == 0)=false:=qn
   have h9:i<gs.size:=(gei hi).1
   cases hqi:q i with
   | zero=>rw[hqi] at hq;rw[hq.1] at hg;cases hg
   | succ k =>
    rw[hqi] at hq
    rcases hq with ⟨hf,_⟩|⟨_,g',es,hm,hl,hq'⟩
    ·rw[hf] at hg;cases hg
    have he:=runT_crowd_go (P:=P) (sl:=sl') (i:=i) hi (by rw[hs];exact hl (w.at d))
    have hk:((gs.map (woken P g g' (w.at d))).setIfInBounds i g').size=gs.size:=qm
    have hw:sumTo gs.size (upd q i k)+(k+1)=sumTo gs.size q+k:=by
     have:=sumTo_upd q k id h9
     simpa [hqi] using this
    have hB':=(hB.at d).slip (g:=g) (fn:=g.frame.fn) (pos:=g.frame.place) h8 h9 hm hq'
    obtain⟨n,gs',d1,sl1,sl2,t',q',d2,h1,h2,h3,h4,h5,h6⟩:=ih (sumTo gs.size (upd q i k)) qg ((gs.map (woken P g g' (w.at d))).setIfInBounds i g') (w.at d) sl' (t++MemOp.ofEvents i g.frame.fn g.frame.place es) (upd q i k) (by rw[hk]) hB'
     (by
      have hu:i≠0:=qg
      rw[Array.getElem?_setIfInBounds_ne hu,Array.getElem?_map,h0]
      simp[woken_run h7]) h7
    exact⟨n+1,gs',d1,sl1,sl2,t',q',d2,by rw[runNT_succ_next (hj.trans he)];exact h1,h2.trans hk,h3,h4,h5,fun c u=>h6 c (u.mute hm)⟩
theorem zeu{n:Nat}{m m₁ m₂:Machine}{t t₁:Trace}{ops:Array MemOp}(h:runNT P n m t=(.next m₁,t₁))(hs:stepT P m₁=(.next m₂,ops)):runNT P (n+1) m t=(.next m₂,t₁++ops):=by
 rw[runNT_add,h];simp only[runNT,hs]
theorem Bes.still{gs gs':Array Goroutine}{t u:Trace}{q:Nat->Nat}(h:Bes P Shun gs w t q)(hs:gs'.size=gs.size)(ho:∀ i,0<i->gs'[i]?=gs[i]?)(hB:w.heap.size<=w'.heap.size)(hu:∀ op∈u,op.g=0/\(∀ b,op.act.touch?=some b->¬ ShB Shun b.loc)/\op.act.low w'.heap.size/\op.act≠.mark .disable/\op.act≠.mark .enable):Bes P Shun gs' w' (t++u) q:=by
 have hP:=(h.past.mono hB).app0 (u:=u) (fun op h0=>(hu op h0).1) (fun op h0 b hb hS=>absurd hS ((hu op h0).2.1 b hb)) (Deaf_still t 0 u fun op h0=>(hu op h0).2.2.2) (fun op h0=>(hu op h0).2.2.1)
 refine⟨by rw[hs];exact h.pos,⟨fun j x hj hx=>?_,fun j hj=>?_⟩,hP.clean,fun p b hb hn=>?_,hP.over,hP.hears,hP.seen,fun c hc=>nll (h.shl c hc) hB,fun p b hb hk=>?_,h.quiet.app fun op h0 x hx hs=>absurd hs ((hu op h0).2.1 x hx),fun i op hi=>?_⟩
 ·rw[Deaf_other t (g':=0) qg u fun op h0=>(hu op h0).1]
  exact h.lv.old j x hj (by rw[<- ho j hj];exact hx)
 ·rw[hs] at hj
  rw[Deaf_other t (g':=0) (by have:=h.pos;omega) u fun op h0=>(hu op h0).1]
  exact h.lv.above j hj
 ·obtain⟨x,hx,h1⟩:=touch_of hb
  rcases getElem?_append_cases hx with ⟨_,hx'⟩|⟨_,h2⟩
  ·exact(h.know p b (by rw[touchAt_of hx'];exact h1) hn).app _
  ·have:=knows_own hx
   rw[(hu x h2).1] at this
   exact this
 ·obtain⟨x,hx,h1⟩:=touch_of hb
  rcases getElem?_append_cases hx with ⟨hi,hx'⟩|⟨_,h2⟩
  ·exact(h.atom p b (by rw[touchAt_of hx'];exact h1) hk).imp id fun q=>by rw[g?_old hi];exact q
  ·exact Or.inr (by simp only[Trace.g?,hx,Option.map_some,(hu x h2).1])
 ·rw[hs]
  rcases getElem?_append_cases hi with ⟨_,hi'⟩|⟨_,h3⟩
  ·exact h.gsz i op hi'
  ·rw[(hu op h3).1];exact h.pos
theorem zqn{gs:Array Goroutine}{sl:Option (Nat × Nat)}{t:Trace}{q:Nat->Nat}(hB:Bes P Shun gs w t q)(h0:gs[0]?=some a)(h9:a.status=.running){ch:Nat}{shape:CommShape}(h7:∀ d,stepG P true a (w.at d)=.comm a₂ #[rcase ch z] blocking shape (w.at d) #[]){cl:Bool}(hc:w.heap[ch]?=some (.chan cap buf cl s r tm))(h8:0<buf.size) :
  ∃ (n:Nat) (gs':Array Goroutine) (d:Nat) (sl':Option (Nat × Nat)) (t':Trace) (q':Nat->Nat),runNT P n (crowd gs w sl) t=(.next (crowd gs' ((w.at d).setChan ch cap (buf.extract 1 buf.size) cl s (r+1) tm) sl'),t')/\gs'.size=gs.size /\
   gs'[0]?=some (a₂.finishComm P #[rcase ch z] shape 0 (buf.getD 0 undef) true)/\Bes P Shun gs' ((w.at d).setChan ch cap (buf.extract 1 buf.size) cl s (r+1) tm) t' q':=by
 obtain⟨n,gs1,d1,sl1,sl2,t1,q1,d,h1,h2,h3,h4,h5,_⟩:=zfh (sumTo gs.size q) gs w sl t q rfl hB h0 h9
 have he:ch<w.heap.size:=(gei hc).1
 have hp:partners (gs1.setIfInBounds 0 ph) ch true=[]:=by
  refine partners_nil fun k x hx=>?_
  rcases getElem?_stand gs1 0 k x hx with ⟨_,rfl⟩|⟨hk,hx⟩
  ·exact offersAt_ph _ _
  ·exact offersAt_of_not_blocked (by rcases (h4.lv.old k x qg hx).status with z|z <;> rw[z] <;> simp) _ _
 have hr:=crowd_recv_buf (P:=P) (sl:=sl2) (i:=0) (g₂:=a₂) (c:=ch) (z:=z) (w₁:=w.at d) h3 (by simpa using h7 d) hc h8 hp
 have hE:MemOp.ofEvents 0 a.frame.fn a.frame.place #[]=#[]:=rfl
 rw[hE,Array.empty_append] at hr
 have hf:=zeu h1 (h5.trans hr)
 refine⟨n+1,_,d,sl2,_,q1,hf,by simp[h2],by simp[h2,hB.pos],?_⟩
 refine Bes.still (w:=w.at d1) h4 qm (fun i hi=>Array.getElem?_setIfInBounds_ne qg) (by simp[World.setChan,World.at]) fun op hop=>?_
 have h6:ch<((w.at d).setChan ch cap (buf.extract 1 buf.size) cl s (r+1) tm).heap.size:=by simpa [World.setChan,World.at] using he
 have:op={ g:=0,fn:=a₂.frame.fn,pos:=a₂.frame.place,act:=.recv ch r cap }\/op={ g:=0,fn:=a₂.frame.fn,pos:=a₂.frame.place,act:=.recvDone ch r }:=by simpa using hop
 rcases this with rfl|rfl
 ·exact⟨rfl,(fun _ hb=>by cases hb),h6,qm,qm⟩
 ·exact⟨rfl,(fun _ hb=>by cases hb),h6,qm,qm⟩
theorem zfE{gs:Array Goroutine}{sl:Option (Nat × Nat)}{t:Trace}{q:Nat->Nat}(hB:Bes P Shun gs w t q)(h0:gs[0]?=some a)(h7:a.status=.running){ch:Nat}{shape:CommShape}(h6:∀ d,stepG P true a (w.at d)=.comm a₂ #[rcase ch z] blocking shape (w.at d) #[])(hc:w.heap[ch]?=some (.chan cap #[] true s r tm)) :
  ∃ (n:Nat) (gs':Array Goroutine) (d:Nat) (sl':Option (Nat × Nat)) (t':Trace) (q':Nat->Nat),runNT P n (crowd gs w sl) t=(.next (crowd gs' (w.at d) sl'),t')/\gs'.size=gs.size /\
   gs'[0]?=some (a₂.finishComm P #[rcase ch z] shape 0 z false)/\Bes P Shun gs' (w.at d) t' q':=by
 obtain⟨n,gs1,d1,sl1,sl2,t1,q1,d,h1,h2,h3,h4,h5,_⟩:=zfh (sumTo gs.size q) gs w sl t q rfl hB h0 h7
 have h8:ch<w.heap.size:=(gei hc).1
 have hp:partners (gs1.setIfInBounds 0 ph) ch true=[]:=by
  refine partners_nil fun k x hx=>?_
  rcases getElem?_stand gs1 0 k x hx with ⟨_,rfl⟩|⟨hk,hx⟩
  ·exact offersAt_ph _ _
  ·exact offersAt_of_not_blocked (by rcases (h4.lv.old k x qg hx).status with z|z <;> rw[z] <;> simp) _ _
 have hr:=crowd_recv_closed (P:=P) (sl:=sl2) (i:=0) (g₂:=a₂) (c:=ch) (z:=z) (w₁:=w.at d) h3 (by simpa using h6 d) hc hp
 have hE:MemOp.ofEvents 0 a.frame.fn a.frame.place #[]=#[]:=rfl
 rw[hE,Array.empty_append] at hr
 have h9:=zeu h1 (h5.trans hr)
 refine⟨n+1,_,d,sl2,_,q1,h9,by simp[h2],by simp[h2,hB.pos],?_⟩
 refine Bes.still (w:=w.at d1) h4 qm (fun i hi=>Array.getElem?_setIfInBounds_ne qg) (by simp[World.at]) fun op hop=>?_
 have:op={ g:=0,fn:=a₂.frame.fn,pos:=a₂.frame.place,act:=.recvClosed ch }:=by simpa using hop
 subst this
 exact⟨rfl,(fun _ hb=>by cases hb),h8,qm,qm⟩
theorem znW{gs:Array Goroutine}{sl:Option (Nat × Nat)}{t:Trace}{q:Nat->Nat}(hB:Bes P Shun gs w t q)(h0:gs[0]?=some a)(h8:a.status=.running){ch:Nat}(hc:w.heap[ch]?=some (.chan cap buf false s r tm))(h7:∀ d,stepG P true a (w.at d)=.go a' ((w.at d).setChan ch cap buf true s r tm) (closeEvents ch)) :
  ∃ (n:Nat) (gs':Array Goroutine) (d:Nat) (sl':Option (Nat × Nat)) (t':Trace) (q':Nat->Nat),runNT P n (crowd gs w sl) t=(.next (crowd gs' ((w.at d).setChan ch cap buf true s r tm) sl'),t')/\gs'.size=gs.size /\
   gs'[0]?=some a'/\Bes P Shun gs' ((w.at d).setChan ch cap buf true s r tm) t' q':=by
 obtain⟨n,gs1,d1,sl1,sl2,t1,q1,d,h1,h2,h3,h4,h5,_⟩:=zfh (sumTo gs.size q) gs w sl t q rfl hB h0 h8
 have h9:ch<w.heap.size:=(gei hc).1
 have hr:=runT_crowd_go (P:=P) (sl:=sl2) (i:=0) h3 (show stepG P (0 == 0) a (w.at d)=_ from h7 d)
 have hf:=zeu h1 (h5.trans hr)
 refine⟨n+1,_,d,sl2,_,q1,hf,by simp[h2],get_map_set_same _ _ _ h4.pos,?_⟩
 refine Bes.still (w:=w.at d1) h4 qm (fun i hi=>?_) (by simp[World.setChan,World.at]) fun op hop=>?_
 ·rw[get_map_set _ _ _ _ qg]
  cases hx:gs1[i]? with
  | none=>rfl
  | some x=>rw[Option.map_some,woken_quitsD (h4.lv.old i x hi hx)]
 ·obtain⟨e,he,rfl⟩:=Go.Conc.mem_ofEvents hop
  have:e=⟨.obj ch,false,true⟩\/e=⟨.obj ch,true,true⟩:=by simpa [closeEvents] using he
  have h6:ch<((w.at d).setChan ch cap buf true s r tm).heap.size:=by simpa [World.setChan,World.at] using h9
  rcases this with rfl|rfl
  ·refine⟨rfl,fun b hb=>?_,h6,by simp[MemAct.ofEvent],by simp[MemAct.ofEvent]⟩
   simp only[MemAct.ofEvent,MemAct.touch?,Option.some.injEq] at hb
   subst hb
   rintro⟨a,e,_⟩
   cases e
  ·exact⟨rfl,(fun _ hb=>by cases hb),h6,by simp[MemAct.ofEvent],by simp[MemAct.ofEvent]⟩
end
end
section
open Go Go.Conc Go.ConcN
open Go.RowKit
variable{L M:Program}
theorem zsz(P:Program)(a:Goroutine)(w:World):Bes P (fun _=>False) #[a] w #[] (fun _=>0):=by
 refine⟨qm,leavers_one P a,past_nil.clean,fun p x hx=>?_,past_nil.over,rfl,qm,fun _ h=>h.elim,fun p x hx=>?_,fun i op x hi=>by simp at hi,fun i op hi=>by simp at hi⟩
 ·simp[touchAt,Trace.act?] at hx
 ·simp[touchAt,Trace.act?] at hx
