/- Part. -/
import Derived.Conc.CrowdStepC
import Derived.Conc.CrowdComm
import Derived.Conc.CrowdRun
import Derived.Conc.Beside
import Derived.Conc.CrowdStepC2
import Derived.Test.YthfhlgdeghnggaaGreatEAa
set_option maxHeartbeats 1600000
namespace Go.Proofs.YthfhlgdeghnggaaGreat
variable{buf:Array Value}{main:Bool}{e:Event}{Ex:Event->Prop}{fn:FuncId}{g g' h:Goroutine}{c i k:Nat}{Stop:Nat->Np->Goroutine->Wq}{S':Np}{pos:String}{w₁:World}{Live:Wq}
section
open Go Go.Conc Go.ConcN
open Go.ConcR (KK wgBlock WgAt stA smA rd wr mk Payload Aside2 DC0 Bk g_of_ofEvents)
def ofNat:Nat->Rk
 | 0=>.z
 | n+1=>.s fun _=>ofNat n
theorem zjy(w:World)(n:Nat):Rlt (ofNat n) (ofNat (n+1)):=⟨_,w,rfl,rfl⟩
def zkw(A:Np):Loc->Prop
 | .cell a=>A a.block
 | .obj r=>A r
 | _=>False
def ziB(S G:Nat->Np)(k:Nat):Loc->Prop:=zkw fun c=>S k c\/G k c
def RdL(K:Nat->Np)(k:Nat):Loc->Prop:=zkw (K k)
abbrev NoL:Nat->Loc->Prop:=fun _ _=>False
section
variable(P:Program)(ty:TypeId)(Wg ch:Nat)(Shun:Np)[Payload]
def zal(w:World):Prop:=WgLive ty Wg w/\∃ cap buf s r tm,w.heap[ch]?=some (.chan cap buf false s r tm)
def ShA:Loc->Prop:=fun l=>∃ a,l=.cell a/\(a.block=Wg\/Shun a.block)
def ExE(main:Bool)(e:Event):Prop :=
 (∀ x,(MemAct.ofEvent e).touch?=some x->ShN Wg x.loc/\x.kind≠.plain/\(main=false->x.kind≠.said))/\e.loc≠.mark .disable/\e.loc≠.mark .enable/\e.loc≠.mark (.release (stA Wg))/\(MemAct.ofEvent e).low (Wg+1)
def zmg(K:Np)(e σ:Nat)(S:Np)(g:Goroutine)(w:World):Prop:=σ=e/\∃ C v,(K C\/S C)/\AtR0 P ty Wg C 0 0 1 v g w
variable(Snd:Nat->Np->Value->Wq)
inductive Sit(K S:Np)(σ e:Nat):WD->Rk->Goroutine->Wq
 | work {r:Rk} {g:Goroutine} {w:World}:Way P false (zal ty Wg ch) (ExE Wg false) (zmg P ty Wg K e) Snd ch K r σ S g w->Sit K S σ e ⟨7,0,0⟩ r g w
 | lib {s m d C:Nat} {v:Value} {g:Goroutine} {w:World}:2<=s->s<=6->(K C\/S C)->σ=e->WSit P ty Wg C 0 NoL NoL 0 1 v s m d g w->Sit K S σ e ⟨s,m,d⟩ (ofNat m) g w
 | quit {q d:Nat} {g:Goroutine} {w:World}:σ=e->QuitsD P q d g->Sit K S σ e ⟨1,q,d⟩ (ofNat q) g w
end
section
variable{P:Program}{ty:TypeId}{Wg ch:Nat}{Shun:Np}[Payload]{Snd:Nat->Np->Value->Wq}
theorem zdH{K S:Np}{C:Nat}{w:World}(hC:K C\/S C)(h:zaW (zal ty Wg ch) K S w w₁)(hl:zal ty Wg ch w):RW ty Wg C 0 0 (1 - 1) w w₁:=by
 have e:=h.same C hC
 refine⟨fun b hb=>qg,fun _=>(h.live hl).1,fun ⟨cs,hc,hn⟩=>⟨cs,by rw[e];exact hc,hn⟩,cell_of_block e _⟩
theorem Sit.rely{K S:Np}{σ e:Nat}{d:WD}{r:Rk}{w:World}(h:Sit P ty Wg ch Snd K S σ e d r g w)(hs:zaW (zal ty Wg ch) K S w w₁)(hl:zal ty Wg ch w):Sit P ty Wg ch Snd K S σ e d r g w₁:=by
 cases h with
 | work h=>exact .work (h.rely hs)
 | lib h1 h2 hC hσ h=>exact .lib h1 h2 hC hσ (h.rely (zdH hC hs hl))
 | quit hσ h=>exact .quit hσ h
omit [Payload] in
theorem zd3{K S:Np}{r:Rk}{σ:Nat}{w:World}(h0:∀ σ S g w,Stop σ S g w->g.status=.running)(h:Way P main Live Ex Stop Snd ch K r σ S g w):g.status=.running:=by
 cases r with
 | z=>exact h0 _ _ _ _ (h w (zaW.refl w))
 | s f =>
  rcases h with h|⟨h,_⟩
  ·exact h0 _ _ _ _ (h w (zaW.refl w))
  ·exact h
theorem Sit.status{K S:Np}{σ e:Nat}{d:WD}{r:Rk}{w:World}(h:Sit P ty Wg ch Snd K S σ e d r g w):g.status=.running\/g.status=.finished:=by
 cases h with
 | work h=>exact Or.inl (zd3 (fun _ _ _ _ ⟨_,_,_,_,x⟩=>x.1) h)
 | lib _ _ _ _ h=>exact h.status
 | quit _ h=>exact h.status
theorem Sit.running{K S:Np}{σ e:Nat}{d:WD}{r:Rk}{w:World}(h:Sit P ty Wg ch Snd K S σ e d r g w)(hd:d.stage≠1):g.status=.running:=by
 cases h with
 | work h=>exact zd3 (fun _ _ _ _ ⟨_,_,_,_,x⟩=>x.1) h
 | lib h1 h2 _ _ h=>exact h.running_of qg
 | quit _ h=>exact absurd rfl hd
theorem Sit.woken{K S:Np}{σ e:Nat}{d:WD}{r:Rk}{g:Goroutine}{w:World}(h:Sit P ty Wg ch Snd K S σ e d r g w)(a a':Goroutine)(w':World):woken P a a' w' g=g:=by
 unfold Go.Conc.woken
 split
 ·exact again_running _ h.status
 ·rfl
theorem Sit.mono{K S:Np}{σ e:Nat}{d:WD}{r:Rk}{w:World}(h:Sit P ty Wg ch Snd K S σ e d r g w)(he:S'=S):Sit P ty Wg ch Snd K S' σ e d r g w:=by rw[he];exact h
end
section
variable(Wg j0:Nat)(Shun:Np)
structure Tr(j B:Nat)(t:Trace):Prop where
 low:∀ op∈t,op.act.low B
 atom:∀ p a,touchAt t p=some a->a.kind=.atomic->ShA Wg Shun a.loc\/t.g? p=some 0
 norel:NoRelease (stA Wg) t
 over:∀ p g,t.g? p=some g->g≠0->t.counts p->(∃ q,t.g? q=some 0/\HappensBefore t p q)\/∃ i,j0<=i/\i<j/\g=i+1
 know:∀ p a,touchAt t p=some a->¬ ShA Wg Shun a.loc->Knows t 0 p\/∃ i,j0<=i/\i<j/\t.g? p=some (i+1)/\a.loc.isMemory=true
end
section
variable(P:Program)(ty:TypeId)(Wg ch j0:Nat)(Shun:Np)[Payload](Snd:Nat->Np->Value->Wq)(n:Nat)(fst fin:Nat->Nat)
structure zd5(j:Nat)(gs:Array Goroutine)(w:World)(t:Trace)(D:Nat->WD)(ρ:Nat->Rk)(K S G:Nat->Np)(σ:Nat->Nat)(GG:Nat->Np)(d0:Nat):Prop where
 size:gs.size=j+1
 old:j0<=j/\j<=n
 fresh:∀ i,j<=i->σ i=fst i
 oldq:∀ i,i<j0->(D i).stage=1
 naught:∀ k c,j<k->¬ (K k c\/S k c\/G k c)
 wk:∀ i,i<j->∃ g,gs[i+1]?=some g/\Sit P ty Wg ch Snd (K (i+1)) (S (i+1)) (σ i) (fin i) (D i) (ρ i) g w
 ap:Apart (ShA Wg Shun) (ziB S G) (RdL K)
 ct:CT (ShA Wg Shun) (ziB S G) (RdL K) t j
 tr:Tr Wg j0 Shun j w.heap.size t
 lt:∀ k c,K k c\/S k c\/G k c->c<w.heap.size/\c≠Wg/\c≠ch
 sg:∀ k c,S k c->¬ G k c
 shl:∀ c,Shun c->c<w.heap.size
 live:zal ty Wg ch w
 lv:Wg<w.heap.size/\ch<w.heap.size/\Wg≠ch
 deaf0:Deaf t 0=d0
 deafW:∀ i,i<j->Deaf t (i+1)=(D i).deaf
 above:∀ i,j<=i->Deaf t (i+1)=0
 rel:∀ i,j0<=i->i<j->(D i).stage<=6->∃ r,RelBy (stA Wg) t (i+1) r
 chan:∃ cap buf s r tm,w.heap[ch]?=some (.chan cap buf false s r tm)/\buf.size+sumTo n (fun i=>fin i - σ i)<=cap /\
  (∀ x∈buf,∃ i n,j0<=i/\i<j/\fst i<=n/\n<σ i/\Snd n (GG n) x w)/\(∀ i n,j0<=i->i<j->fst i<=n->n<σ i->∃ x∈buf,Snd n (GG n) x w)
 bnd:∀ i,i<j->fst i<=σ i
 gg:∀ i n c,j0<=i->i<j->fst i<=n->n<σ i->GG n c->G (i+1) c
 ggd:∀ i i' n n' c,j0<=i->i<j->fst i<=n->n<σ i->j0<=i'->i'<j->fst i'<=n'->n'<σ i'->GG n c->GG n' c->n=n'
end
theorem zf4{B:Nat}{x:MemAct}(h:x.low B){a:Touch}(ha:x.touch?=some a):a.loc.low B:=by
 cases x with
 | access e=>simp only[MemAct.touch?,Option.some.injEq] at ha;subst ha;exact h
 | mark m =>
  cases m <;> simp only[MemAct.touch?] at ha <;> first|(cases ha;done)|(simp only[Option.some.injEq] at ha;subst ha;exact h)|(cases ha;exact h)
 | _=>simp[MemAct.touch?] at ha
theorem CT.grow{Sh:Loc->Prop}{Own Own' Rd:Nat->Loc->Prop}{t:Trace}{j:Nat}(h:CT Sh Own Rd t j)(h1:∀ k l,Own k l->Own' k l)(h2:∀ k l,Own' k l->Own k l\/∀ p a,touchAt t p=some a->a.loc≠l):CT Sh Own' Rd t j:=by
 refine⟨h.quiet,fun k k1 kj l hl=>?_,h.rd,fun l hs hk=>h.free l hs fun k k1 kj=>⟨fun q=>(hk k k1 kj).1 (h1 k l q),(hk k k1 kj).2⟩,fun l hs hk=>h.mine l hs fun k k1 kj q=>hk k k1 kj (h1 k l q),h.nr,h.gs⟩
 rcases h2 k l hl with q|q
 ·exact h.own k k1 kj l q
 ·exact fun p a ha e=>absurd e (q p a ha)
section
variable{Wg j0:Nat}{Shun:Np}{j B B':Nat}{t u:Trace}
theorem Tr.app(h:Tr Wg j0 Shun j B t)(hB:B<=B')(hu:∀ op∈u,op.g=k)(hk:k=0\/(∃ i,j0<=i/\i<j/\k=i+1/\∀ op∈u,∀ a,op.act.touch?=some a->a.loc.isMemory=true)\/∀ op∈u,op.act.touch?=none)(h5:∀ op∈u,op.act.low B')(h6:∀ op∈u,∀ a,op.act.touch?=some a->a.kind=.atomic->ShA Wg Shun a.loc)(h7:∀ op∈u,op.act≠.mark (.release (stA Wg))):Tr Wg j0 Shun j B' (t++u):=by
 refine⟨fun op h8=>?_,fun p a ha hk'=>?_,h.norel.app h7,fun p g hg hg0 hc=>?_,fun p a ha hs=>?_⟩
 ·rcases Array.mem_append.1 h8 with q|q
  ·exact MemAct.low_mono hB (h.low op q)
  ·exact h5 op q
 ·obtain⟨x,hx,h0⟩:=touch_of ha
  rcases getElem?_append_cases hx with ⟨hi,hx'⟩|⟨_,h1⟩
  ·exact(h.atom p a (by rw[touchAt_of hx'];exact h0) hk').imp id fun q=>by rw[g?_old hi];exact q
  ·exact Or.inl (h6 x h1 a h0 hk')
 ·rcases Nat.lt_or_ge p t.size with hp|hp
  ·rcases h.over p g (by rw[<- g?_old (u:=u) hp];exact hg) hg0 ((counts_old hp).1 hc) with ⟨q,hq,hb⟩|q
   ·exact Or.inl ⟨q,by
     obtain⟨x,hx,_⟩:=Option.map_eq_some_iff.1 hq
     rw[g?_old (lt_size_of_getElem? hx)]
     exact hq,hb_app u hb⟩
   ·exact Or.inr q
  ·obtain⟨op,ho,h9⟩:=Option.map_eq_some_iff.1 hg
   rcases getElem?_append_cases ho with ⟨he,_⟩|⟨_,h3⟩
   ·omega
   ·have h4:g=k:=by rw[<- h9];exact hu op h3
    rcases hk with rfl|⟨i,a1,a2,a3,_⟩|h2
    ·exact absurd h4 hg0
    ·exact Or.inr ⟨i,a1,a2,by rw[h4];exact a3⟩
    ·exfalso
     obtain⟨x,hx,_⟩:=hc
     simp only[Trace.act?,ho,Option.map_some,Option.bind_some,h2 op h3] at hx
     cases hx
 ·obtain⟨x,hx,h0⟩:=touch_of ha
  rcases getElem?_append_cases hx with ⟨hi,hx'⟩|⟨_,h1⟩
  ·rcases h.know p a (by rw[touchAt_of hx'];exact h0) hs with q|⟨i,a1,a2,a3,a4⟩
   ·exact Or.inl (q.app u)
   ·exact Or.inr ⟨i,a1,a2,by rw[g?_old hi];exact a3,a4⟩
  ·rcases hk with rfl|⟨i,a1,a2,a3,a4⟩|h2
   ·exact Or.inl (by have:=knows_own hx;rw[hu x h1] at this;exact this)
   ·exact Or.inr ⟨i,a1,a2,by simp only[Trace.g?,hx,Option.map_some,hu x h1,a3],a4 x h1 a h0⟩
   ·rw[h2 x h1] at h0;cases h0
end
section
variable{Wg:Nat}{Shun:Np}{K S G:Nat->Np}
theorem Apart.blocks(h:Apart (ShA Wg Shun) (ziB S G) (RdL K)):(∀ k k' c,S k c\/G k c->S k' c\/G k' c->k=k')/\(∀ k k' c,S k c\/G k c->¬ K k' c)/\∀ k c,S k c\/G k c\/K k c->c≠Wg/\¬ Shun c:=by
 refine⟨fun k k' c a b=>h.own k k' (.obj c) a b,fun k k' c a b=>h.ownRd k k' (.obj c) a b,fun k c hc=>?_⟩
 have key:¬ ShA Wg Shun (.cell (O c 0)):=by
  rcases hc with q|q|q
  ·exact h.ownSh k (.cell (O c 0)) (Or.inl q)
  ·exact h.ownSh k (.cell (O c 0)) (Or.inr q)
  ·exact h.rdSh k (.cell (O c 0)) q
 exact⟨fun e=>key ⟨_,rfl,Or.inl e⟩,fun e=>key ⟨_,rfl,Or.inr e⟩⟩
theorem Apart.ofBlocks(h1:∀ k k' c,S k c\/G k c->S k' c\/G k' c->k=k')(h2:∀ k k' c,S k c\/G k c->¬ K k' c)(h3:∀ k c,S k c\/G k c\/K k c->c≠Wg/\¬ Shun c):Apart (ShA Wg Shun) (ziB S G) (RdL K):=by
 refine⟨fun k k' l a b=>?_,fun k k' l a b=>?_,fun k l a=>?_,fun k l a=>?_⟩
 ·cases l with
  | cell x=>exact h1 k k' _ a b
  | obj x=>exact h1 k k' _ a b
  | _=>exact a.elim
 ·cases l with
  | cell x=>exact h2 k k' _ a b
  | obj x=>exact h2 k k' _ a b
  | _=>exact a.elim
 ·rintro⟨x,rfl,e⟩
  have:=h3 k x.block (by rcases a with q|q;exact Or.inl q;exact Or.inr (Or.inl q))
  rcases e with e|e
  ·exact this.1 e
  ·exact this.2 e
 ·rintro⟨x,rfl,e⟩
  have:=h3 k x.block (Or.inr (Or.inr a))
  rcases e with e|e
  ·exact this.1 e
  ·exact this.2 e
theorem Apart.grow(h:Apart (ShA Wg Shun) (ziB S G) (RdL K)){B:Nat}(lt:∀ k c,K k c\/S k c\/G k c->c<B)(shl:∀ c,Shun c->c<B)(hW:Wg<B)(hn:∀ c,S' c->S i c\/B<=c):Apart (ShA Wg Shun) (ziB (upd S i S') G) (RdL K):=by
 obtain⟨h1,h2,h3⟩:=Apart.blocks h
 have cut:∀ k c,upd S i S' k c->S k c\/(k=i/\B<=c):=by
  intro k c hc
  by_cases e:k=i
  ·subst e;rw[upd_same] at hc;exact(hn c hc).imp id fun q=>⟨rfl,q⟩
  ·rw[upd_ne S _ e] at hc;exact Or.inl hc
 refine Apart.ofBlocks (fun k k' c a b=>?_) (fun k k' c a b=>?_) (fun k c a=>?_)
 ·have a':(S k c\/G k c)\/(k=i/\B<=c):=by rcases a with a|a;exact(cut k c a).imp Or.inl id;exact Or.inl (Or.inr a)
  have b':(S k' c\/G k' c)\/(k'=i/\B<=c):=by rcases b with b|b;exact(cut k' c b).imp Or.inl id;exact Or.inl (Or.inr b)
  rcases a' with a'|⟨rfl,a'⟩ <;> rcases b' with b'|⟨rfl,b'⟩
  ·exact h1 k k' c a' b'
  ·have:=lt k c (Or.inr a');omega
  ·have:=lt k' c (Or.inr b');omega
  ·rfl
 ·rcases a with a|a
  ·rcases cut k c a with a|⟨_,a⟩
   ·exact h2 k k' c (Or.inl a) b
   ·have:=lt k' c (Or.inl b);omega
  ·exact h2 k k' c (Or.inr a) b
 ·rcases a with a|a
  ·rcases cut k c a with a|⟨_,a⟩
   ·exact h3 k c (Or.inl a)
   ·exact⟨qg,fun q=>by have:=shl c q;omega⟩
  ·exact h3 k c (Or.inr a)
end
def zdV(Snd:Nat->Np->Value->Wq):Prop:=∀ n A v w w₁,(∀ c,A c->w₁.heap[c]?=w.heap[c]?)->Snd n A v w->Snd n A v w₁
def OkE(Wg:Nat)(K S:Np)(e:Event):Prop :=
 EvS K S e\/((∀ x,(MemAct.ofEvent e).touch?=some x->ShN Wg x.loc/\x.kind≠.plain/\x.kind≠.said)/\e.loc≠.mark (.release (stA Wg))/\(MemAct.ofEvent e).low (Wg+1))
theorem EvS.act{K S:Np}(h:EvS K S e):(∀ x,(MemAct.ofEvent e).touch?=some x->x.kind=.plain/\(zkw S x.loc\/(zkw K x.loc/\x.write=false)))/\(∀ m,e.loc=.mark m->m=.noRoom):=by
 rcases h with ⟨a,wr,rfl,h⟩|⟨r,wr,rfl,h⟩|rfl
 ·refine⟨fun x hx=>?_,fun m hm=>by cases hm⟩
  have e:MemAct.ofEvent ⟨.cell a,wr,false⟩=.access ⟨.cell a,wr,false⟩:=rfl
  rw[e] at hx
  simp only[MemAct.touch?,Option.some.injEq] at hx
  subst hx
  exact⟨rfl,h⟩
 ·refine⟨fun x hx=>?_,fun m hm=>by cases hm⟩
  have e:MemAct.ofEvent ⟨.obj r,wr,false⟩=.access ⟨.obj r,wr,false⟩:=by cases wr <;> rfl
  rw[e] at hx
  simp only[MemAct.touch?,Option.some.injEq] at hx
  subst hx
  exact⟨rfl,h⟩
 ·refine⟨fun x hx=>?_,fun m hm=>by cases hm;rfl⟩
  have e:MemAct.ofEvent ⟨.mark .noRoom,false,true⟩=.mark .noRoom:=rfl
  rw[e] at hx
  simp[MemAct.touch?] at hx
theorem EvS.low{K S:Np}{B:Nat}(h:EvS K S e)(hB:∀ c,K c\/S c->c<B):(MemAct.ofEvent e).low B:=by
 rcases h with ⟨a,wr,rfl,h⟩|⟨r,wr,rfl,h⟩|rfl
 ·have:a.block<B:=by rcases h with h|⟨h,_⟩;exact hB _ (Or.inr h);exact hB _ (Or.inl h)
  exact this
 ·have e:MemAct.ofEvent ⟨.obj r,wr,false⟩=.access ⟨.obj r,wr,false⟩:=by cases wr <;> rfl
  rw[e]
  show r<B
  rcases h with h|⟨h,_⟩
  ·exact hB _ (Or.inr h)
  ·exact hB _ (Or.inl h)
 ·trivial
theorem EvS.idle{K S:Np}(h:EvS K S e):e.loc≠.mark .disable/\e.loc≠.mark .enable/\∀ a,e.loc≠.mark (.release a) :=
 ⟨fun q=>(by have:=h.act.2 _ q;cases this),fun q=>(by have:=h.act.2 _ q;cases this),fun a q=>(by have:=h.act.2 _ q;cases this)⟩
section
variable{P:Program}{ty:TypeId}{Wg ch j0:Nat}{Shun:Np}[Payload]{Snd:Nat->Np->Value->Wq}{n:Nat}{fst fin:Nat->Nat}{j:Nat}{gs:Array Goroutine}{w w':World}{t:Trace}{D:Nat->WD}{ρ:Nat->Rk}{K S G:Nat->Np}{σ:Nat->Nat}{GG:Nat->Np}{d0:Nat}
omit [Payload] in
theorem zmR{es:Array Event}(h:∀ e∈es,OkE Wg (K k) S' e):∀ op∈MemOp.ofEvents k fn pos es,OkW (ShA Wg Shun) (ziB (upd S k S') G) (RdL K) k op:=by
 intro op h0
 obtain⟨e,he,rfl⟩:=Go.Conc.mem_ofEvents h0
 refine⟨rfl,fun x hx=>?_⟩
 rcases h e he with q|⟨q,_⟩
 ·rcases (q.act.1 x hx).2 with q|q
  ·refine Or.inr (Or.inl ?_)
   cases hl:x.loc with
   | cell a=>rw[hl] at q;exact Or.inl (by rw[upd_same];exact q)
   | obj r=>rw[hl] at q;exact Or.inl (by rw[upd_same];exact q)
   | _=>rw[hl] at q;exact q.elim
  ·exact Or.inr (Or.inr q)
 ·obtain⟨⟨a,e1,e2⟩,h2,h3⟩:=q x hx
  exact Or.inl ⟨⟨a,e1,Or.inl e2⟩,h2,h3⟩
theorem zd5.stepW(h:zd5 P ty Wg ch j0 Shun Snd n fst fin j gs w t D ρ K S G σ GG d0)(hf:zdV Snd)(hi:i<j){es:Array Event}{d':WD}{r':Rk}(h4:w.heap.size<=w'.heap.size)(hg:∀ c,S (i+1) c->S' c)(h6:∀ c,S' c->S (i+1) c\/(w.heap.size<=c/\c<w'.heap.size))(h5:∀ c,c<w.heap.size->¬ S (i+1) c->c≠Wg->w'.heap[c]?=w.heap[c]?)(hj:w'.tape=w.tape)(hw:w'.os=w.os)(hs:w'.output=w.output)(h9:WgLive ty Wg w')(hs':Sit P ty Wg ch Snd (K (i+1)) S' (σ i) (fin i) d' r' g' w')(h8:∀ e∈es,OkE Wg (K (i+1)) S' e)(hold:i<j0->d'.stage=1/\∀ e∈es,(MemAct.ofEvent e).touch?=none)(hp:deafBehind (D i).deaf es=d'.deaf)(hu:j0<=i->d'.stage<=6->∃ r,RelBy (stA Wg) (t++MemOp.ofEvents (i+1) fn pos es) (i+1) r) :
  zd5 P ty Wg ch j0 Shun Snd n fst fin j ((gs.map (woken P g g' w')).setIfInBounds (i+1) g') w' (t++MemOp.ofEvents (i+1) fn pos es) (upd D i d') (upd ρ i r') K (upd S (i+1) S') G σ GG d0:=by
 obtain⟨b1,b2,b3⟩:=Apart.blocks h.ap
 have ltN:∀ k c,K k c\/S k c\/G k c->c<w.heap.size:=fun k c q=>(h.lt k c q).1
 have ap':=Apart.grow (i:=i+1) h.ap ltN h.shl h.lv.1 (S':=S') fun c q=>(h6 c q).imp id fun x=>x.1
 have lowS:∀ c,K (i+1) c\/S' c->c<w'.heap.size:=by
  rintro c (q|q)
  ·have:=ltN (i+1) c (Or.inl q);omega
  ·rcases h6 c q with q|q
   ·have:=ltN (i+1) c (Or.inr (Or.inl q));omega
   ·exact q.2
 have sees:∀ i',i'≠i->zaW (zal ty Wg ch) (K (i'+1)) (S (i'+1)) w w':=by
  intro i' e
  refine⟨h4,fun c hc=>?_,hj,hw,hs,fun hl=>⟨h9,?_⟩⟩
  ·refine h5 c (ltN (i'+1) c (by rcases hc with q|q;exact Or.inl q;exact Or.inr (Or.inl q))) (fun q=>?_) (b3 (i'+1) c (by rcases hc with q|q;exact Or.inr (Or.inr q);exact Or.inl q)).1
   rcases hc with x|x
   ·exact b2 _ _ c (Or.inl q) x
   ·have:=b1 _ _ c (Or.inl q) (Or.inl x);omega
  ·obtain⟨cap,buf,s,r,tm,hc⟩:=hl.2
   exact⟨cap,buf,s,r,tm,by rw[h5 ch h.lv.2.1 (fun q=>(h.lt _ _ (Or.inr (Or.inl q))).2.2 rfl) (Ne.symm h.lv.2.2)];exact hc⟩
 have chs:w'.heap[ch]?=w.heap[ch]?:=h5 ch h.lv.2.1 (fun q=>(h.lt _ _ (Or.inr (Or.inl q))).2.2 rfl) (Ne.symm h.lv.2.2)
 have gks:∀ i' c,G (i'+1) c->w'.heap[c]?=w.heap[c]?:=by
  intro i' c q
  refine h5 c (ltN _ c (Or.inr (Or.inr q))) (fun x=>?_) (b3 _ c (Or.inr (Or.inl q))).1
  have:=b1 _ _ c (Or.inl x) (Or.inr q)
  rw[<- this] at q
  exact h.sg _ c x q
 refine⟨by simp[h.size],h.old,h.fresh,fun i' hi'=>?_,fun k c hk=>?_,fun i' hi'=>?_,ap',?_,?_,fun k c q=>?_,fun k c q=>?_,fun c q=>nll (h.shl c q) h4,⟨h9,?_⟩,⟨nll h.lv.1 h4,nll h.lv.2.1 h4,h.lv.2.2⟩,?_,fun i' hi'=>?_,fun i' hi'=>?_,fun i' h0 hi' hst=>?_,?_,h.bnd,h.gg,h.ggd⟩
 ·by_cases e:i'=i
  ·subst e;rw[upd_same];exact(hold hi').1
  ·rw[upd_ne D _ e];exact h.oldq i' hi'
 ·rw[upd_ne S _ qg];exact h.naught k c hk
 ·by_cases e:i'=i
  ·subst e
   refine⟨g',get_map_set_same _ _ _ (by rw[h.size];omega),?_⟩
   rw[upd_same,upd_same,upd_same]
   exact hs'
  ·obtain⟨x,hx,hq⟩:=h.wk i' hi'
   refine⟨x,by rw[get_map_set _ _ _ _ qg,hx,Option.map_some,hq.woken],?_⟩
   rw[upd_ne D _ e,upd_ne ρ _ e,upd_ne S _ qg]
   exact hq.rely (sees i' e) h.live
 ·refine CT.appW ap' ?_ qg qg (zmR h8)
  refine CT.grow h.ct (fun k l q=>?_) (fun k l q=>?_)
  ·cases l with
   | cell a=>exact q.imp (fun x=>by by_cases e:k=i+1;subst e;rw[upd_same];exact hg _ x;rw[upd_ne S _ e];exact x) id
   | obj a=>exact q.imp (fun x=>by by_cases e:k=i+1;subst e;rw[upd_same];exact hg _ x;rw[upd_ne S _ e];exact x) id
   | _=>exact q.elim
  ·by_cases e:k=i+1
   ·subst e
    have key:∀ c,upd S (i+1) S' (i+1) c\/G (i+1) c->(S (i+1) c\/G (i+1) c)\/w.heap.size<=c:=by
     rintro c (x|x)
     ·rw[upd_same] at x;exact(h6 c x).imp Or.inl fun y=>y.1
     ·exact Or.inl (Or.inr x)
    have key2:∀ l:Loc,¬ l.low w.heap.size->∀ p a,touchAt t p=some a->a.loc≠l:=by
     intro l hl p a ha e
     obtain⟨x,hx,hz⟩:=touch_of ha
     exact hl (e ▸ zf4 (h.tr.low x (Array.mem_of_getElem? hx)) hz)
    cases l with
    | cell a =>
     rcases key _ q with x|x
     ·exact Or.inl x
     ·exact Or.inr (key2 _ (by simp only[Loc.low];omega))
    | obj a =>
     rcases key _ q with x|x
     ·exact Or.inl x
     ·exact Or.inr (key2 _ (by simp only[Loc.low];omega))
    | _=>exact q.elim
   ·refine Or.inl ?_
    cases l with
    | cell a=>exact q.imp (fun x=>by rw[upd_ne S _ e] at x;exact x) id
    | obj a=>exact q.imp (fun x=>by rw[upd_ne S _ e] at x;exact x) id
    | _=>exact q.elim
 ·refine h.tr.app h4 (k:=i+1) g_of_ofEvents ?_ (fun op h7=>?_) (fun op h7 a ha hk=>?_) (norel_of fun e he=>?_)
  ·by_cases q:i<j0
   ·refine Or.inr (Or.inr fun op h7=>?_)
    obtain⟨e,he,rfl⟩:=Go.Conc.mem_ofEvents h7
    exact(hold q).2 e he
   ·refine Or.inr (Or.inl ⟨i,qg,hi,rfl,fun op h7 a ha=>?_⟩)
    obtain⟨e,he,rfl⟩:=Go.Conc.mem_ofEvents h7
    rcases h8 e he with z|⟨z,_⟩
    ·have:=(z.act.1 a ha).2
     cases hl:a.loc with
     | cell _=>rfl
     | obj _=>rfl
     | _ =>
      rw[hl] at this
      rcases this with x|⟨x,_⟩
      ·exact x.elim
      ·exact x.elim
    ·obtain⟨⟨x,e1,_⟩,_⟩:=z a ha
     rw[e1]
     rfl
  ·obtain⟨e,he,rfl⟩:=Go.Conc.mem_ofEvents h7
   rcases h8 e he with q|⟨_,_,q⟩
   ·exact q.low lowS
   ·exact MemAct.low_mono (by have:=h.lv.1;omega) q
  ·obtain⟨e,he,rfl⟩:=Go.Conc.mem_ofEvents h7
   rcases h8 e he with q|⟨q,_⟩
   ·have:=(q.act.1 a ha).1
    rw[this] at hk;cases hk
   ·obtain⟨⟨x,e1,e2⟩,_⟩:=q a ha
    exact⟨x,e1,Or.inl e2⟩
  ·rcases h8 e he with q|⟨_,q,_⟩
   ·exact q.idle.2.2 _
   ·exact q
 ·by_cases e:k=i+1
  ·subst e
   rw[upd_same] at q
   rcases q with q|q|q
   ·exact⟨nll (ltN _ c (Or.inl q)) h4,(h.lt _ c (Or.inl q)).2⟩
   ·rcases h6 c q with q|q
    ·exact⟨nll (ltN _ c (Or.inr (Or.inl q))) h4,(h.lt _ c (Or.inr (Or.inl q))).2⟩
    ·have:=h.lv
     exact⟨q.2,qg,qg⟩
   ·exact⟨nll (ltN _ c (Or.inr (Or.inr q))) h4,(h.lt _ c (Or.inr (Or.inr q))).2⟩
  ·rw[upd_ne S _ e] at q
   exact⟨nll (ltN k c q) h4,(h.lt k c q).2⟩
 ·by_cases e:k=i+1
  ·subst e
   rw[upd_same] at q
   rcases h6 c q with q|q
   ·exact h.sg _ c q
   ·exact fun x=>by have:=ltN _ c (Or.inr (Or.inr x));omega
  ·rw[upd_ne S _ e] at q
   exact h.sg k c q
 ·obtain⟨cap,buf,s,r,tm,hc⟩:=h.live.2
  exact⟨cap,buf,s,r,tm,by rw[chs];exact hc⟩
 ·rw[Deaf_other t qg _ g_of_ofEvents,h.deaf0]
 ·by_cases e:i'=i
  ·subst e;rw[Deaf_own,h.deafW i' hi',upd_same];exact hp
  ·rw[Deaf_other t qg _ g_of_ofEvents,h.deafW i' hi',upd_ne D _ e]
 ·rw[Deaf_other t qg _ g_of_ofEvents,h.above i' hi']
 ·by_cases e:i'=i
  ·subst e;rw[upd_same] at hst;exact hu h0 hst
  ·rw[upd_ne D _ e] at hst
   obtain⟨r,hr⟩:=h.rel i' h0 hi' hst
   exact⟨r,hr.appOther g_of_ofEvents qg⟩
 ·obtain⟨cap,buf,s,r,tm,hc,h1,h2,h3⟩:=h.chan
  refine⟨cap,buf,s,r,tm,by rw[chs];exact hc,h1,fun x hx=>?_,fun i' n a b c d=>?_⟩
  ·obtain⟨i',n,x1,x2,x3,x4,x5⟩:=h2 x hx
   exact⟨i',n,x1,x2,x3,x4,hf _ _ _ _ _ (fun c q=>gks i' c (h.gg i' n c x1 x2 x3 x4 q)) x5⟩
  ·obtain⟨x,hx,hy⟩:=h3 i' n a b c d
   exact⟨x,hx,hf _ _ _ _ _ (fun c' q=>gks i' c' (h.gg i' n c' a b c d q)) hy⟩
end
def ztt(Wg:Nat)(K S:Np)(e:Event):Prop :=
 EvS K S e\/((∀ x,(MemAct.ofEvent e).touch?=some x->ShN Wg x.loc/\x.kind≠.plain)/\e.loc≠.mark (.release (stA Wg))/\(MemAct.ofEvent e).low (Wg+1))
section
variable{P:Program}{ty:TypeId}{Wg ch j0:Nat}{Shun:Np}[Payload]{Snd:Nat->Np->Value->Wq}{n:Nat}{fst fin:Nat->Nat}{j:Nat}{gs:Array Goroutine}{w w':World}{t:Trace}{D:Nat->WD}{ρ:Nat->Rk}{K S G:Nat->Np}{σ:Nat->Nat}{GG:Nat->Np}{d0:Nat}
omit [Payload] in
theorem zmO{es:Array Event}(A:Apart (ShA Wg Shun) (ziB (upd S 0 S') G) (RdL K))(h:∀ e∈es,ztt Wg (K 0) S' e):∀ op∈MemOp.ofEvents 0 fn pos es,Ok0 (ShA Wg Shun) (ziB (upd S 0 S') G) (RdL K) j op:=by
 intro op h0
 obtain⟨e,he,rfl⟩:=Go.Conc.mem_ofEvents h0
 refine⟨rfl,fun x hx=>?_⟩
 rcases h e he with q|⟨q,_⟩
 ·refine Or.inr ?_
  rcases (q.act.1 x hx).2 with q|⟨q,hw⟩
  ·have ho:ziB (upd S 0 S') G 0 x.loc:=by
    cases hl:x.loc with
    | cell a=>rw[hl] at q;exact Or.inl (by rw[upd_same];exact q)
    | obj r=>rw[hl] at q;exact Or.inl (by rw[upd_same];exact q)
    | _=>rw[hl] at q;exact q.elim
   exact⟨A.ownSh _ _ ho,fun k k1 _ y=>by have:=A.own _ _ _ ho y;omega,fun _ k _ _ y=>A.ownRd _ _ _ ho y⟩
  ·exact⟨A.rdSh 0 _ q,fun k _ _ y=>A.ownRd _ _ _ y q,fun y=>by rw[hw] at y;cases y⟩
 ·obtain⟨⟨a,e1,e2⟩,h2⟩:=q x hx
  exact Or.inl ⟨⟨a,e1,Or.inl e2⟩,h2⟩
theorem zd5.step0(h:zd5 P ty Wg ch j0 Shun Snd n fst fin j gs w t D ρ K S G σ GG d0)(h9:zdV Snd){es:Array Event}(h4:w.heap.size<=w'.heap.size)(hf:∀ c,S 0 c->S' c)(h6:∀ c,S' c->S 0 c\/(w.heap.size<=c/\c<w'.heap.size))(h5:∀ c,c<w.heap.size->¬ S 0 c->c≠Wg->w'.heap[c]?=w.heap[c]?)(hj:w'.tape=w.tape)(hs:w'.os=w.os)(hq:w'.output=w.output)(h7:WgLive ty Wg w')(h8:∀ e∈es,ztt Wg (K 0) S' e) :
  zd5 P ty Wg ch j0 Shun Snd n fst fin j ((gs.map (woken P g g' w')).setIfInBounds 0 g') w' (t++MemOp.ofEvents 0 fn pos es) D ρ K (upd S 0 S') G σ GG (deafBehind d0 es):=by
 obtain⟨b1,b2,b3⟩:=Apart.blocks h.ap
 have ltN:∀ k c,K k c\/S k c\/G k c->c<w.heap.size:=fun k c q=>(h.lt k c q).1
 have ap':=Apart.grow (i:=0) h.ap ltN h.shl h.lv.1 (S':=S') fun c q=>(h6 c q).imp id fun x=>x.1
 have lowS:∀ c,K 0 c\/S' c->c<w'.heap.size:=by
  rintro c (q|q)
  ·have:=ltN 0 c (Or.inl q);omega
  ·rcases h6 c q with q|q
   ·have:=ltN 0 c (Or.inr (Or.inl q));omega
   ·exact q.2
 have sees:∀ i',zaW (zal ty Wg ch) (K (i'+1)) (S (i'+1)) w w':=by
  intro i'
  refine⟨h4,fun c hc=>?_,hj,hs,hq,fun hl=>⟨h7,?_⟩⟩
  ·refine h5 c (ltN (i'+1) c (by rcases hc with q|q;exact Or.inl q;exact Or.inr (Or.inl q))) (fun q=>?_) (b3 (i'+1) c (by rcases hc with q|q;exact Or.inr (Or.inr q);exact Or.inl q)).1
   rcases hc with x|x
   ·exact b2 _ _ c (Or.inl q) x
   ·have:=b1 _ _ c (Or.inl q) (Or.inl x);omega
  ·obtain⟨cap,buf,s,r,tm,hc⟩:=hl.2
   exact⟨cap,buf,s,r,tm,by rw[h5 ch h.lv.2.1 (fun q=>(h.lt _ _ (Or.inr (Or.inl q))).2.2 rfl) (Ne.symm h.lv.2.2)];exact hc⟩
 have chs:w'.heap[ch]?=w.heap[ch]?:=h5 ch h.lv.2.1 (fun q=>(h.lt _ _ (Or.inr (Or.inl q))).2.2 rfl) (Ne.symm h.lv.2.2)
 have gks:∀ i' c,G (i'+1) c->w'.heap[c]?=w.heap[c]?:=by
  intro i' c q
  refine h5 c (ltN _ c (Or.inr (Or.inr q))) (fun x=>?_) (b3 _ c (Or.inr (Or.inl q))).1
  have:=b1 _ _ c (Or.inl x) (Or.inr q)
  rw[<- this] at q
  exact h.sg _ c x q
 refine⟨by simp[h.size],h.old,h.fresh,h.oldq,fun k c hk=>?_,fun i' hi'=>?_,ap',?_,?_,fun k c q=>?_,fun k c q=>?_,fun c q=>nll (h.shl c q) h4,⟨h7,?_⟩,⟨nll h.lv.1 h4,nll h.lv.2.1 h4,h.lv.2.2⟩,?_,fun i' hi'=>?_,fun i' hi'=>?_,fun i' h0 hi' hst=>?_,?_,h.bnd,h.gg,h.ggd⟩
 ·rw[upd_ne S _ qg];exact h.naught k c hk
 ·obtain⟨x,hx,hp⟩:=h.wk i' hi'
  refine⟨x,by rw[get_map_set _ _ _ _ qg,hx,Option.map_some,hp.woken],?_⟩
  rw[upd_ne S _ qg]
  exact hp.rely (sees i') h.live
 ·refine CT.app0 ap' ?_ (zmO ap' h8)
  refine CT.grow h.ct (fun k l q=>?_) (fun k l q=>?_)
  ·cases l with
   | cell a=>exact q.imp (fun x=>by by_cases e:k=0;subst e;rw[upd_same];exact hf _ x;rw[upd_ne S _ e];exact x) id
   | obj a=>exact q.imp (fun x=>by by_cases e:k=0;subst e;rw[upd_same];exact hf _ x;rw[upd_ne S _ e];exact x) id
   | _=>exact q.elim
  ·by_cases e:k=0
   ·subst e
    have key:∀ c,upd S 0 S' 0 c\/G 0 c->(S 0 c\/G 0 c)\/w.heap.size<=c:=by
     rintro c (x|x)
     ·rw[upd_same] at x;exact(h6 c x).imp Or.inl fun y=>y.1
     ·exact Or.inl (Or.inr x)
    have key2:∀ l:Loc,¬ l.low w.heap.size->∀ p a,touchAt t p=some a->a.loc≠l:=by
     intro l hl p a ha e
     obtain⟨x,hx,hu⟩:=touch_of ha
     exact hl (e ▸ zf4 (h.tr.low x (Array.mem_of_getElem? hx)) hu)
    cases l with
    | cell a =>
     rcases key _ q with x|x
     ·exact Or.inl x
     ·exact Or.inr (key2 _ (by simp only[Loc.low];omega))
    | obj a =>
     rcases key _ q with x|x
     ·exact Or.inl x
     ·exact Or.inr (key2 _ (by simp only[Loc.low];omega))
    | _=>exact q.elim
   ·refine Or.inl ?_
    cases l with
    | cell a=>exact q.imp (fun x=>by rw[upd_ne S _ e] at x;exact x) id
    | obj a=>exact q.imp (fun x=>by rw[upd_ne S _ e] at x;exact x) id
    | _=>exact q.elim
 ·refine h.tr.app h4 (k:=0) g_of_ofEvents (Or.inl rfl) (fun op hg=>?_) (fun op hg a ha hk=>?_) (norel_of fun e he=>?_)
  ·obtain⟨e,he,rfl⟩:=Go.Conc.mem_ofEvents hg
   rcases h8 e he with q|⟨_,_,q⟩
   ·exact q.low lowS
   ·exact MemAct.low_mono (by have:=h.lv.1;omega) q
  ·obtain⟨e,he,rfl⟩:=Go.Conc.mem_ofEvents hg
   rcases h8 e he with q|⟨q,_⟩
   ·have:=(q.act.1 a ha).1
    rw[this] at hk;cases hk
   ·obtain⟨⟨x,e1,e2⟩,_⟩:=q a ha
    exact⟨x,e1,Or.inl e2⟩
  ·rcases h8 e he with q|⟨_,q,_⟩
   ·exact q.idle.2.2 _
   ·exact q
 ·by_cases e:k=0
  ·subst e
   rw[upd_same] at q
   rcases q with q|q|q
   ·exact⟨nll (ltN _ c (Or.inl q)) h4,(h.lt _ c (Or.inl q)).2⟩
   ·rcases h6 c q with q|q
    ·exact⟨nll (ltN _ c (Or.inr (Or.inl q))) h4,(h.lt _ c (Or.inr (Or.inl q))).2⟩
    ·have:=h.lv
     exact⟨q.2,qg,qg⟩
   ·exact⟨nll (ltN _ c (Or.inr (Or.inr q))) h4,(h.lt _ c (Or.inr (Or.inr q))).2⟩
  ·rw[upd_ne S _ e] at q
   exact⟨nll (ltN k c q) h4,(h.lt k c q).2⟩
 ·by_cases e:k=0
  ·subst e
   rw[upd_same] at q
   rcases h6 c q with q|q
   ·exact h.sg _ c q
   ·exact fun x=>by have:=ltN _ c (Or.inr (Or.inr x));omega
  ·rw[upd_ne S _ e] at q
   exact h.sg k c q
 ·obtain⟨cap,buf,s,r,tm,hc⟩:=h.live.2
  exact⟨cap,buf,s,r,tm,by rw[chs];exact hc⟩
 ·rw[Deaf_own,h.deaf0]
 ·rw[Deaf_other t qg _ g_of_ofEvents,h.deafW i' hi']
 ·rw[Deaf_other t qg _ g_of_ofEvents,h.above i' hi']
 ·obtain⟨r,hr⟩:=h.rel i' h0 hi' hst
  exact⟨r,hr.appOther g_of_ofEvents qg⟩
 ·obtain⟨cap,buf,s,r,tm,hc,h1,h2,h3⟩:=h.chan
  refine⟨cap,buf,s,r,tm,by rw[chs];exact hc,h1,fun x hx=>?_,fun i' n a b c d=>?_⟩
  ·obtain⟨i',n,x1,x2,x3,x4,x5⟩:=h2 x hx
   exact⟨i',n,x1,x2,x3,x4,h9 _ _ _ _ _ (fun c q=>gks i' c (h.gg i' n c x1 x2 x3 x4 q)) x5⟩
  ·obtain⟨x,hx,hy⟩:=h3 i' n a b c d
   exact⟨x,hx,h9 _ _ _ _ _ (fun c' q=>gks i' c' (h.gg i' n c' a b c d q)) hy⟩
end
theorem CT.congr{Sh:Loc->Prop}{Own Own' Rd Rd':Nat->Loc->Prop}{t:Trace}{j:Nat}(h:CT Sh Own Rd t j)(h1:∀ k,1<=k->k<=j->∀ l,Own' k l ↔ Own k l)(h2:∀ k,1<=k->k<=j->∀ l,Rd' k l ↔ Rd k l):CT Sh Own' Rd' t j :=
 ⟨h.quiet,fun k k1 kj l hl=>h.own k k1 kj l ((h1 k k1 kj l).1 hl),fun k k1 kj l hl=>h.rd k k1 kj l ((h2 k k1 kj l).1 hl),fun l hs hk=>h.free l hs fun k k1 kj=>⟨fun q=>(hk k k1 kj).1 ((h1 k k1 kj l).2 q),fun q=>(hk k k1 kj).2 ((h2 k k1 kj l).2 q)⟩,
  fun l hs hk=>h.mine l hs fun k k1 kj q=>hk k k1 kj ((h1 k k1 kj l).2 q),h.nr,h.gs⟩
theorem zkx{A B:Np}(h:∀ c,A c ↔ B c)(l:Loc):zkw A l ↔ zkw B l:=by
 cases l with
 | cell a=>exact h _
 | obj r=>exact h _
 | _=>exact Iff.rfl
theorem Tr.more{Wg j0:Nat}{Shun:Np}{j j' B:Nat}{t:Trace}(h:Tr Wg j0 Shun j B t)(hj:j<=j'):Tr Wg j0 Shun j' B t :=
 ⟨h.low,h.atom,h.norel,fun p g a b c=>(h.over p g a b c).imp id fun ⟨i,x,y,z⟩=>⟨i,x,qg,z⟩,fun p a x y=>(h.know p a x y).imp id fun ⟨i,x,y,z⟩=>⟨i,x,qg,z⟩⟩
section
variable{P:Program}{ty:TypeId}{Wg ch j0:Nat}{Shun:Np}[Payload]{Snd:Nat->Np->Value->Wq}{n:Nat}{fst fin:Nat->Nat}{j:Nat}{gs:Array Goroutine}{w w':World}{t:Trace}{D:Nat->WD}{ρ:Nat->Rk}{K S G:Nat->Np}{σ:Nat->Nat}{GG:Nat->Np}{d0:Nat}
omit [Payload] in
theorem zp4{K:Np}{e:Nat}(h0:∀ σ S g w,Stop σ S g w->σ=e):∀(r:Rk) {σ:Nat} {S:Np} {g:Goroutine} {w:World},Way P main Live Ex Stop Snd ch K r σ S g w->σ<=e:=by
 intro r
 induction r with
 | z=>intro σ S g w h;exact Nat.le_of_eq (h0 _ _ _ _ (h w (zaW.refl w)))
 | s f ih =>
  intro σ S g w h
  rcases h with h|⟨_,h⟩
  ·exact Nat.le_of_eq (h0 _ _ _ _ (h w (zaW.refl w)))
  ·rcases h w (zaW.refl w) with ⟨g',w',es,S',_,_,h3⟩|⟨g1,v,z,S',_,_,_,h3⟩
   ·exact ih w h3
   ·have:=ih w h3;omega
theorem Sit.bound{K S:Np}{σ e:Nat}{d:WD}{r:Rk}{w:World}(h:Sit P ty Wg ch Snd K S σ e d r g w):σ<=e:=by
 cases h with
 | work h=>exact zp4 (fun _ _ _ _ x=>x.1) _ h
 | lib _ _ _ h _=>exact Nat.le_of_eq h
 | quit h _=>exact Nat.le_of_eq h
theorem zd5.spawn(h:zd5 P ty Wg ch j0 Shun Snd n fst fin j gs w t D ρ K S G σ GG 0)(hj:j<n){a' child:Goroutine}{x y:MemOp}{Kc:Np}{rc:Rk}(hx:x.g=0/\x.act=.go (j+1))(hy:y.g=j+1/\y.act=.start)(h8:∀ c,Kc c->K 0 c\/S 0 c)(hc:Sit P ty Wg ch Snd Kc (fun _=>False) (fst j) (fin j) ⟨7,0,0⟩ rc child w) :
  zd5 P ty Wg ch j0 Shun Snd n fst fin (j+1) ((gs.setIfInBounds 0 a').push child) w (t++#[x,y]) (upd D j ⟨7,0,0⟩) (upd ρ j rc) (upd (upd K 0 fun c=>K 0 c\/S 0 c) (j+1) Kc) (upd S 0 fun _=>False) G σ GG 0:=by
 obtain⟨b1,b2,b3⟩:=Apart.blocks h.ap
 have hm:∀ op∈#[x,y],op=x\/op=y:=by intro op h4;simpa using h4
 have h7:∀ op∈#[x,y],op.act≠.mark .disable/\op.act≠.mark .enable:=by
  intro op h4
  rcases hm op h4 with rfl|rfl
  ·rw[hx.2];exact⟨qm,qm⟩
  ·rw[hy.2];exact⟨qm,qm⟩
 have cutK:∀ k c,upd (upd K 0 fun c=>K 0 c\/S 0 c) (j+1) Kc k c->K k c\/K 0 c\/S 0 c:=by
  intro k c q
  by_cases e:k=j+1
  ·subst e;rw[upd_same] at q;exact Or.inr (h8 c q)
  ·rw[upd_ne _ _ e] at q
   by_cases e0:k=0
   ·subst e0;rw[upd_same] at q;exact Or.inr q
   ·rw[upd_ne _ _ e0] at q;exact Or.inl q
 have cutS:∀ k c,upd S 0 (fun _=>False) k c->S k c/\k≠0:=by
  intro k c q
  by_cases e0:k=0
  ·subst e0;rw[upd_same] at q;exact q.elim
  ·rw[upd_ne _ _ e0] at q;exact⟨q,e0⟩
 have ap':Apart (ShA Wg Shun) (ziB (upd S 0 fun _=>False) G) (RdL (upd (upd K 0 fun c=>K 0 c\/S 0 c) (j+1) Kc)):=by
  refine Apart.ofBlocks (fun k k' c a b=>b1 k k' c (a.imp (fun q=>(cutS k c q).1) id) (b.imp (fun q=>(cutS k' c q).1) id)) (fun k k' c a b=>?_) (fun k c a=>?_)
  ·have a1:S k c\/G k c:=a.imp (fun q=>(cutS k c q).1) id
   rcases cutK k' c b with q|q|q
   ·exact b2 _ _ c a1 q
   ·exact b2 _ _ c a1 q
   ·have e:=b1 _ _ c a1 (Or.inl q)
    subst e
    rcases a with a|a
    ·exact(cutS _ c a).2 rfl
    ·exact h.sg _ c q a
  ·rcases a with a|a|a
   ·exact b3 k c (Or.inl (cutS k c a).1)
   ·exact b3 k c (Or.inr (Or.inl a))
   ·rcases cutK k c a with q|q|q
    ·exact b3 k c (Or.inr (Or.inr q))
    ·exact b3 0 c (Or.inr (Or.inr q))
    ·exact b3 0 c (Or.inl q)
 have ct':CT (ShA Wg Shun) (ziB (upd S 0 fun _=>False) G) (RdL (upd (upd K 0 fun c=>K 0 c\/S 0 c) (j+1) Kc)) t j:=by
  refine CT.congr h.ct (fun k k1 kj l=>?_) (fun k k1 kj l=>?_)
  ·unfold ziB;rw[upd_ne S _ qg]
  ·unfold RdL;rw[upd_ne _ _ qg,upd_ne _ _ qg]
 have low2:∀ op∈#[x,y],op.act.touch?=none/\op.act.low w.heap.size/\op.act≠.mark (.release (stA Wg)):=by
  intro op h4
  rcases hm op h4 with rfl|rfl
  ·rw[hx.2];exact⟨rfl,trivial,qm⟩
  ·rw[hy.2];exact⟨rfl,trivial,qm⟩
 have hS:upd S 0 (fun _=>False) (j+1)=fun _=>False:=by
  rw[upd_ne S _ qg]
  funext c
  exact propext ⟨fun q=>h.naught (j+1) c qg (Or.inr (Or.inl q)),fun q=>q.elim⟩
 refine⟨by simp[h.size],⟨by have:=h.old;omega,qg⟩,fun i hi=>h.fresh i qg,fun i hi=>by have:=h.old;rw[upd_ne D _ qg];exact h.oldq i hi,fun k c hk=>?_,fun i hi=>?_,ap',ct'.fork ap' hx hy h.deaf0,?_,fun k c q=>?_,fun k c q=>h.sg k c (cutS k c q).1,h.shl,h.live,h.lv,by rw[Deaf_still t 0 _ h7,h.deaf0],fun i hi=>?_,fun i hi=>by rw[Deaf_still t _ _ h7,h.above i qg],fun i h0 hi hs=>?_,?_,fun i hi=>?_,fun i m c a b d e=>?_,fun i i' m m' c a b d e a' b' d' e'=>?_⟩
 ·rw[upd_ne _ _ qg,upd_ne _ _ qg,upd_ne _ _ qg]
  exact h.naught k c qg
 ·rcases Nat.lt_or_ge i j with h5|h6
  ·obtain⟨g,hg,h9⟩:=h.wk i h5
   refine⟨g,?_,by rw[upd_ne D _ qg,upd_ne ρ _ qg,upd_ne _ _ qg,upd_ne _ _ qg,upd_ne _ _ qg];exact h9⟩
   rw[Array.getElem?_push_lt (by simp[h.size];omega),<- Array.getElem?_eq_getElem,Array.getElem?_setIfInBounds_ne qg]
   exact hg
  ·obtain rfl:i=j:=qg
   refine⟨child,?_,by rw[upd_same,upd_same,upd_same,hS,h.fresh i (Nat.le_refl _)];exact hc⟩
   rw[show i+1=(gs.setIfInBounds 0 a').size by simp[h.size],Array.getElem?_push_size]
 ·have e:t++#[x,y]=(t++#[x])++#[y]:=by apply Array.ext';simp
  rw[e]
  have in1:∀ op∈#[x],op∈#[x,y]:=fun op h4=>by simp at h4 ⊢;exact Or.inl h4
  have in2:∀ op∈#[y],op∈#[x,y]:=fun op h4=>by simp at h4 ⊢;exact Or.inr h4
  refine Tr.app (Tr.app (h.tr.more (Nat.le_succ j)) (Nat.le_refl _) (k:=0) (fun op h4=>by simp at h4;rw[h4];exact hx.1) (Or.inl rfl) (fun op h4=>(low2 op (in1 op h4)).2.1) (fun op h4 a ha=>by rw[(low2 op (in1 op h4)).1] at ha;cases ha) (fun op h4=>(low2 op (in1 op h4)).2.2))
   (Nat.le_refl _) (k:=j+1) (fun op h4=>by simp at h4;rw[h4];exact hy.1) (Or.inr (Or.inr fun op h4=>(low2 op (in2 op h4)).1)) (fun op h4=>(low2 op (in2 op h4)).2.1) (fun op h4 a ha=>by rw[(low2 op (in2 op h4)).1] at ha;cases ha) (fun op h4=>(low2 op (in2 op h4)).2.2)
 ·rcases q with q|q|q
  ·rcases cutK k c q with q|q|q
   ·exact h.lt k c (Or.inl q)
   ·exact h.lt 0 c (Or.inl q)
   ·exact h.lt 0 c (Or.inr (Or.inl q))
  ·exact h.lt k c (Or.inr (Or.inl (cutS k c q).1))
  ·exact h.lt k c (Or.inr (Or.inr q))
 ·rw[Deaf_still t _ _ h7]
  rcases Nat.lt_or_ge i j with h5|h6
  ·rw[h.deafW i h5,upd_ne D _ qg]
  ·obtain rfl:i=j:=qg
   rw[upd_same]
   exact h.above i (Nat.le_refl _)
 ·rcases Nat.lt_or_ge i j with h5|h6
  ·rw[upd_ne D _ qg] at hs
   obtain⟨r,hr⟩:=h.rel i h0 h5 hs
   refine⟨r,hr.appNot fun op h4=>?_⟩
   rcases hm op h4 with rfl|rfl
   ·rw[hx.1];omega
   ·rw[hy.1];omega
  ·obtain rfl:i=j:=qg
   rw[upd_same] at hs
   simp at hs
 ·obtain⟨cap,buf,s,r,tm,hc,h1,h2,h3⟩:=h.chan
  refine⟨cap,buf,s,r,tm,hc,h1,fun v hv=>?_,fun i m a b c d=>?_⟩
  ·obtain⟨i,m,x1,x2,x3⟩:=h2 v hv
   exact⟨i,m,x1,qg,x3⟩
  ·rcases Nat.lt_or_ge i j with h5|h6
   ·exact h3 i m a h5 c d
   ·have:=h.fresh i h6;omega
 ·rcases Nat.lt_or_ge i j with h5|h6
  ·exact h.bnd i h5
  ·have:=h.fresh i h6;omega
 ·rcases Nat.lt_or_ge i j with h5|h6
  ·exact h.gg i m c a h5 d e
  ·have:=h.fresh i h6;omega
 ·have l1:i<j:=by
   rcases Nat.lt_or_ge i j with h5|h6
   ·exact h5
   ·have:=h.fresh i h6;omega
  have l2:i'<j:=by
   rcases Nat.lt_or_ge i' j with h5|h6
   ·exact h5
   ·have:=h.fresh i' h6;omega
  exact h.ggd i i' m m' c a l1 d e a' l2 d' e'
end
def Rng(n:Nat)(fst fin:Nat->Nat):Prop:=∀ i i' m,i<n->i'<n->fst i<=m->m<fin i->fst i'<=m->m<fin i'->i=i'
section
variable{P:Program}{ty:TypeId}{Wg ch j0:Nat}{Shun:Np}[Payload]{Snd:Nat->Np->Value->Wq}{n:Nat}{fst fin:Nat->Nat}{j:Nat}{gs:Array Goroutine}{w w':World}{t:Trace}{D:Nat->WD}{ρ:Nat->Rk}{K S G:Nat->Np}{σ:Nat->Nat}{GG:Nat->Np}{d0:Nat}
omit [Payload] in
theorem zbA(w:World){b:Nat}(cap:Nat)(buf:Array Value)(cl:Bool)(s r:Nat)(tm:Bool)(h:b≠c):(w.setChan c cap buf cl s r tm).heap[b]?=w.heap[b]?:=by
 unfold World.setChan
 exact Array.getElem?_setIfInBounds_ne (Ne.symm h)
omit [Payload] in
theorem ze3(w:World)(cap:Nat)(buf:Array Value)(cl:Bool)(s r:Nat)(tm:Bool)(h:c<w.heap.size):(w.setChan c cap buf cl s r tm).heap[c]?=some (.chan cap buf cl s r tm):=by
 unfold World.setChan
 exact Array.getElem?_setIfInBounds_self_of_lt h
omit [Payload] in
theorem zmb{n:Nat}(hi:i<n)(h0:σ i+1<=fin i):sumTo n (fun a=>fin a - upd σ i (σ i+1) a)+1=sumTo n (fun a=>fin a - σ a):=by
 have e:(fun a=>fin a - upd σ i (σ i+1) a)=fun a=>id (upd (fun a=>fin a - σ a) i (fin i - (σ i+1)) a):=by
  funext a
  by_cases q:a=i
  ·subst q;simp only[upd_same,id]
  ·simp only[upd_ne _ _ q,id]
 have:=sumTo_upd (fun a=>fin a - σ a) (fin i - (σ i+1)) id hi
 rw[e]
 simp only[id] at this ⊢
 omega
open Classical in
theorem zd5.send(h:zd5 P ty Wg ch j0 Shun Snd n fst fin j gs w t D ρ K S G σ GG d0)(h7:zdV Snd)(hR:Rng n fst fin)(hi:i<j)(h0:j0<=i){v:Value}{r':Rk}{cap:Nat}{s r:Nat}{tm:Bool}(hc:w.heap[ch]?=some (.chan cap buf false s r tm))(h5:∀ c,S' c->S (i+1) c)(hv:Snd (σ i) (fun c=>S (i+1) c/\¬ S' c) v w)(hd:D i=⟨7,0,0⟩)(hs':Sit P ty Wg ch Snd (K (i+1)) S' (σ i+1) (fin i) ⟨7,0,0⟩ r' g' w){x y:MemOp}(hx:x={ g:=i+1,fn,pos,act:=.send ch s })(hy:y={ g:=i+1,fn,pos,act:=.sendDone ch s }) :
  zd5 P ty Wg ch j0 Shun Snd n fst fin j (gs.setIfInBounds (i+1) g') (w.setChan ch cap (buf.push v) false (s+1) r tm) (t++#[x,y]) D (upd ρ i r') K (upd S (i+1) S') (upd G (i+1) fun c=>G (i+1) c\/(S (i+1) c/\¬ S' c)) (upd σ i (σ i+1)) (upd GG (σ i) fun c=>S (i+1) c/\¬ S' c) d0:=by
 obtain⟨b1,b2,b3⟩:=Apart.blocks h.ap
 have h9:σ i+1<=fin i:=hs'.bound
 have he:=h.bnd i hi
 have h8:i<n:=by have:=h.old;omega
 have h6:=h.lv.2.1
 have sizeE:(w.setChan ch cap (buf.push v) false (s+1) r tm).heap.size=w.heap.size:=by simp[World.setChan]
 have same:∀ c,c≠ch->(w.setChan ch cap (buf.push v) false (s+1) r tm).heap[c]?=w.heap[c]?:=fun c q=>zbA w _ _ _ _ _ _ q
 have hf:WgLive ty Wg (w.setChan ch cap (buf.push v) false (s+1) r tm):=by
  obtain⟨st,sm,q⟩:=h.live.1
  exact⟨st,sm,q.of_block (same Wg h.lv.2.2)⟩
 have liveE:zal ty Wg ch (w.setChan ch cap (buf.push v) false (s+1) r tm):=⟨hf,_,_,_,_,_,ze3 w _ _ _ _ _ _ h6⟩
 have sees:∀ K1 S1:Np,(∀ c,K1 c\/S1 c->c≠ch)->zaW (zal ty Wg ch) K1 S1 w (w.setChan ch cap (buf.push v) false (s+1) r tm):=fun K1 S1 q=>⟨by rw[sizeE];exact Nat.le_refl _,fun c x=>same c (q c x),rfl,rfl,rfl,fun _=>liveE⟩
 have cutS:∀ k c,upd S (i+1) S' k c->S k c:=by
  intro k c q
  by_cases e:k=i+1
  ·subst e;rw[upd_same] at q;exact h5 c q
  ·rw[upd_ne _ _ e] at q;exact q
 have ownE:∀ k c,(upd S (i+1) S' k c\/upd G (i+1) (fun c=>G (i+1) c\/(S (i+1) c/\¬ S' c)) k c) ↔ (S k c\/G k c):=by
  intro k c
  by_cases e:k=i+1
  ·subst e
   rw[upd_same,upd_same]
   constructor
   ·rintro (q|q|q)
    ·exact Or.inl (h5 c q)
    ·exact Or.inr q
    ·exact Or.inl q.1
   ·rintro (q|q)
    ·by_cases z:S' c
     ·exact Or.inl z
     ·exact Or.inr (Or.inr ⟨q,z⟩)
    ·exact Or.inr (Or.inl q)
  ·rw[upd_ne _ _ e,upd_ne _ _ e]
 have ap':Apart (ShA Wg Shun) (ziB (upd S (i+1) S') (upd G (i+1) fun c=>G (i+1) c\/(S (i+1) c/\¬ S' c))) (RdL K):=by
  refine Apart.ofBlocks (fun k k' c a b=>b1 k k' c ((ownE k c).1 a) ((ownE k' c).1 b)) (fun k k' c a=>b2 k k' c ((ownE k c).1 a)) (fun k c a=>?_)
  rcases a with a|a|a
  ·exact b3 k c ((((ownE k c).1 (Or.inl a))).elim Or.inl fun q=>Or.inr (Or.inl q))
  ·exact b3 k c ((((ownE k c).1 (Or.inr a))).elim Or.inl fun q=>Or.inr (Or.inl q))
  ·exact b3 k c (Or.inr (Or.inr a))
 have gE:∀ k c,upd G (i+1) (fun c=>G (i+1) c\/(S (i+1) c/\¬ S' c)) k c->S k c\/G k c:=fun k c q=>(ownE k c).1 (Or.inr q)
 have gM:∀ k c,G k c->upd G (i+1) (fun c=>G (i+1) c\/(S (i+1) c/\¬ S' c)) k c:=by
  intro k c q
  by_cases e:k=i+1
  ·subst e;rw[upd_same];exact Or.inl q
  ·rw[upd_ne _ _ e];exact q
 have hm:∀ op∈#[x,y],op.g=i+1/\op.act.touch?=none/\op.act.low w.heap.size/\op.act≠.mark (.release (stA Wg))/\op.act≠.mark .disable/\op.act≠.mark .enable:=by
  intro op h4
  have:op=x\/op=y:=by simpa using h4
  rcases this with e|e
  ·rw[e,hx];exact⟨rfl,rfl,h6,qm,qm,qm⟩
  ·rw[e,hy];exact⟨rfl,rfl,h6,qm,qm,qm⟩
 have okw:∀ op∈#[x,y],OkW (ShA Wg Shun) (ziB (upd S (i+1) S') (upd G (i+1) fun c=>G (i+1) c\/(S (i+1) c/\¬ S' c))) (RdL K) (i+1) op:=fun op h4=>⟨(hm op h4).1,fun z hz=>by rw[(hm op h4).2.1] at hz;cases hz⟩
 have ct':CT (ShA Wg Shun) (ziB (upd S (i+1) S') (upd G (i+1) fun c=>G (i+1) c\/(S (i+1) c/\¬ S' c))) (RdL K) t j:=CT.congr h.ct (fun k _ _ l=>zkx (ownE k) l) (fun _ _ _ _=>Iff.rfl)
 have apartN:∀ i' m,i'<j->fst i'<=m->m<σ i'->m≠σ i:=by
  intro i' m a b c e
  by_cases q:i'=i
  ·subst q;omega
  ·obtain⟨g,_,hg⟩:=h.wk i' a
   have:=hg.bound
   exact q (hR i' i m (by have:=h.old;omega) h8 b qg qg qg)
 have cutσ:∀ i' m,fst i'<=m->m<upd σ i (σ i+1) i'->m<σ i'\/(i'=i/\m=σ i):=by
  intro i' m a b
  by_cases q:i'=i
  ·subst q;rw[upd_same] at b;rcases Nat.lt_or_ge m (σ i') with z|z;exact Or.inl z;exact Or.inr ⟨rfl,qg⟩
  ·rw[upd_ne _ _ q] at b;exact Or.inl b
 have upσ:∀ i' m,m<σ i'->m<upd σ i (σ i+1) i':=by
  intro i' m a
  by_cases q:i'=i
  ·subst q;rw[upd_same];omega
  ·rw[upd_ne _ _ q];exact a
 refine⟨by simp[h.size],h.old,fun i' hi'=>by rw[upd_ne _ _ qg];exact h.fresh i' hi',h.oldq,fun k c hk=>?_,fun i' hi'=>?_,ap',ct'.appW ap' qg qg okw,?_,fun k c q=>?_,fun k c q=>?_,fun c q=>by rw[sizeE];exact h.shl c q,liveE,by rw[sizeE];exact h.lv,?_,fun i' hi'=>?_,fun i' hi'=>?_,fun i' h0' hi' hst=>?_,?_,fun i' hi'=>?_,fun i' m c a b d e=>?_,fun i1 i2 m1 m2 c a b d e a' b' d' e' q q'=>?_⟩
 ·rw[upd_ne S _ qg,upd_ne G _ qg];exact h.naught k c hk
 ·by_cases e:i'=i
  ·subst e
   refine⟨g',by simp[h.size,hi],?_⟩
   rw[upd_same,upd_same,upd_same,hd]
   refine hs'.rely (sees _ _ fun c q=>?_) h.live
   rcases q with q|q
   ·exact(h.lt _ c (Or.inl q)).2.2
   ·exact(h.lt _ c (Or.inr (Or.inl (h5 c q)))).2.2
  ·obtain⟨z,hz,hj⟩:=h.wk i' hi'
   refine⟨z,by rw[Array.getElem?_setIfInBounds_ne qg];exact hz,?_⟩
   rw[upd_ne ρ _ e,upd_ne S _ qg,upd_ne σ _ e]
   refine hj.rely (sees _ _ fun c q=>?_) h.live
   rcases q with q|q
   ·exact(h.lt _ c (Or.inl q)).2.2
   ·exact(h.lt _ c (Or.inr (Or.inl q))).2.2
 ·refine h.tr.app (by rw[sizeE];exact Nat.le_refl _) (k:=i+1) (fun op h4=>(hm op h4).1) (Or.inr (Or.inl ⟨i,h0,hi,rfl,fun op h4 a ha=>by rw[(hm op h4).2.1] at ha;cases ha⟩)) (fun op h4=>by rw[sizeE];exact(hm op h4).2.2.1) (fun op h4 a ha=>by rw[(hm op h4).2.1] at ha;cases ha) (fun op h4=>(hm op h4).2.2.2.1)
 ·rw[sizeE]
  rcases q with q|q|q
  ·exact h.lt k c (Or.inl q)
  ·exact h.lt k c (Or.inr (Or.inl (cutS k c q)))
  ·exact h.lt k c (Or.inr (gE k c q))
 ·intro z
  by_cases e:k=i+1
  ·subst e
   rw[upd_same] at q z
   rcases z with z|z
   ·exact h.sg _ c (h5 c q) z
   ·exact z.2 q
  ·rw[upd_ne _ _ e] at q z
   exact h.sg k c q z
 ·rw[Deaf_still t _ _ (fun op h4=>(hm op h4).2.2.2.2),h.deaf0]
 ·rw[Deaf_still t _ _ (fun op h4=>(hm op h4).2.2.2.2),h.deafW i' hi']
 ·rw[Deaf_still t _ _ (fun op h4=>(hm op h4).2.2.2.2),h.above i' hi']
 ·by_cases e:i'=i
  ·subst e;rw[hd] at hst;simp at hst
  ·obtain⟨z,hz⟩:=h.rel i' h0' hi' hst
   exact⟨z,hz.appNot fun op h4=>by rw[(hm op h4).1];omega⟩
 ·obtain⟨cap2,buf2,s2,r2,tm2,hc2,h1,h2,h3⟩:=h.chan
  rw[hc] at hc2
  cases hc2
  have hl:=zmb (σ:=σ) (fin:=fin) h8 h9
  have keep:∀ i' m x,j0<=i'->i'<j->fst i'<=m->m<σ i'->Snd m (GG m) x w->Snd m (upd GG (σ i) (fun c=>S (i+1) c/\¬ S' c) m) x (w.setChan ch cap (buf.push v) false (s+1) r tm):=by
   intro i' m x a b d e hq
   rw[upd_ne _ _ (apartN i' m b d e)]
   exact h7 _ _ _ _ _ (fun c z=>same c (h.lt _ c (Or.inr (Or.inr (h.gg i' m c a b d e z)))).2.2) hq
  have newS:Snd (σ i) (upd GG (σ i) (fun c=>S (i+1) c/\¬ S' c) (σ i)) v (w.setChan ch cap (buf.push v) false (s+1) r tm):=by
   rw[upd_same]
   exact h7 _ _ _ _ _ (fun c z=>same c (h.lt _ c (Or.inr (Or.inl z.1))).2.2) hv
  refine⟨cap,buf.push v,s+1,r,tm,ze3 w _ _ _ _ _ _ h6,by rw[Array.size_push];omega,fun z hz=>?_,fun i' m a b d e=>?_⟩
  ·rcases Array.mem_push.1 hz with hz|rfl
   ·obtain⟨i',m,x1,x2,x3,x4,x5⟩:=h2 z hz
    exact⟨i',m,x1,x2,x3,upσ i' m x4,keep i' m z x1 x2 x3 x4 x5⟩
   ·exact⟨i,σ i,h0,hi,he,by rw[upd_same];omega,newS⟩
  ·rcases cutσ i' m d e with q|⟨rfl,rfl⟩
   ·obtain⟨z,hz,hq⟩:=h3 i' m a b d q
    exact⟨z,Array.mem_push.2 (Or.inl hz),keep i' m z a b d q hq⟩
   ·exact⟨v,Array.mem_push.2 (Or.inr rfl),newS⟩
 ·by_cases e:i'=i
  ·subst e;rw[upd_same];omega
  ·rw[upd_ne _ _ e];exact h.bnd i' hi'
 ·intro z
  rcases cutσ i' m d e with q|⟨rfl,rfl⟩
  ·rw[upd_ne _ _ (apartN i' m b d q)] at z
   exact gM _ c (h.gg i' m c a b d q z)
  ·rw[upd_same] at z
   rw[upd_same]
   exact Or.inr z
 ·rcases cutσ i1 m1 d e with z1|⟨rfl,rfl⟩ <;> rcases cutσ i2 m2 d' e' with z2|⟨rfl,rfl⟩
  ·rw[upd_ne _ _ (apartN i1 m1 b d z1)] at q
   rw[upd_ne _ _ (apartN i2 m2 b' d' z2)] at q'
   exact h.ggd i1 i2 m1 m2 c a b d z1 a' b' d' z2 q q'
  ·rw[upd_ne _ _ (apartN i1 m1 b d z1)] at q
   rw[upd_same] at q'
   have g1:=h.gg i1 m1 c a b d z1 q
   have:=b1 _ _ c (Or.inr g1) (Or.inl q'.1)
   rw[this] at g1
   exact absurd g1 (h.sg _ c q'.1)
  ·rw[upd_ne _ _ (apartN i2 m2 b' d' z2)] at q'
   rw[upd_same] at q
   have g1:=h.gg i2 m2 c a' b' d' z2 q'
   have:=b1 _ _ c (Or.inr g1) (Or.inl q.1)
   rw[this] at g1
   exact absurd g1 (h.sg _ c q.1)
  ·rfl
end
end
section
open Go Go.Conc Go.ConcN
open Go.ConcR (KK wgBlock WgAt stA smA rd wr mk Payload Aside2 DC0 Bk g_of_ofEvents again_blocked)
def bump:Rk->Rk
 | .z=>.s fun _=>.z
 | .s f=>.s fun w=>bump (f w)
theorem znZ(f:World->Rk)(w:World):Rlt (bump (f w)) (bump (.s f)):=⟨fun w=>bump (f w),w,rfl,rfl⟩
theorem zn0(r:Rk)(w:World):∃ x,Rlt x (bump r):=by
 cases r with
 | z=>exact⟨.z,_,w,rfl,rfl⟩
 | s f=>exact⟨bump (f w),znZ f w⟩
section
variable(P:Program)(ty:TypeId)(Wg ch:Nat)[Payload](Snd:Nat->Np->Value->Wq)(n:Nat)(fst fin:Nat->Nat)
abbrev St:=Np->Goroutine->Wq
def WM(K:Np)(Stop:St)(r:Rk)(S:Np)(g:Goroutine)(w:World):Prop :=
 Way P true (zal ty Wg ch) (ExE Wg true) (fun _ S g w=>Stop S g w) (fun _ _ _ _=>False) ch K r 0 S g w
def WX(K:Np)(Stop:St)(S:Np)(g:Goroutine)(w:World):Prop:=∃ r,WM P ty Wg ch K Stop r S g w
variable(Post:Np->St)(Anch:Np->St)(K:Np)
def zt7:St:=fun S g w=>g.status=.running/\∃ g',stepG P true g w=.go g' w #[mk (.acquire (stA Wg))]/\Post K S g' w
def MKe:St:=fun S g w=>g.status=.running/\∃ g',stepG P true g w=.go g' w #[mk .enable]/\WX P ty Wg ch K (zt7 P Wg Post K) S g' w
def MW4:St:=fun S g w=>g.status=.running/\(WgAt ty Wg w 0 0->∃ g',stepG P true g w=.go g' w #[rd (stA Wg)]/\WX P ty Wg ch K (MKe P ty Wg ch Post K) S g' w)
def MW3:St:=fun S g w=>g.status=.running/\g.offers=none /\
  ((∃ st,WgAt ty Wg w st 0)->stepG P true g w=.go { g with status:=.blocked } w #[]) /\
  (WgAt ty Wg w 0 1->∃ g',stepG P true g w=.go g' (w.setCell (smA Wg) (.int .u32 0)) (semEvents (smA Wg))/\WX P ty Wg ch K (MW4 P ty Wg ch Post K) S g' (w.setCell (smA Wg) (.int .u32 0)))
def MW2(vs:Nat):St:=fun S g w=>g.status=.running/\∀ v:Nat,v<2147483648->WgAt ty Wg w (v * KK) 0 ->
  (v=vs->∃ g',stepG P true g w=.go g' (w.setCell (stA Wg) (.int .u64 (v * KK+1))) #[rd (stA Wg),wr (stA Wg)]/\WX P ty Wg ch K (MW3 P ty Wg ch Post K) S g' (w.setCell (stA Wg) (.int .u64 (v * KK+1)))) /\
  (v≠vs->∃ g',stepG P true g w=.go g' w #[rd (stA Wg)]/\WX P ty Wg ch K (Anch K) S g' w)
def MW1:St:=fun S g w=>g.status=.running/\∀ v:Nat,v<2147483648->WgAt ty Wg w (v * KK) 0->∃ g',stepG P true g w=.go g' w #[rd (stA Wg)] /\
  (v=0->WX P ty Wg ch K (MKe P ty Wg ch Post K) S g' w)/\(v≠0->WX P ty Wg ch K (MW2 P ty Wg ch Post Anch K v) S g' w)
def MKd:St:=fun S g w=>g.status=.running/\∃ g',stepG P true g w=.go g' w #[mk .disable]/\WX P ty Wg ch K (Anch K) S g' w
variable(j:Nat)(Next:Np->St)
def MGo:St:=fun S g w=>g.status=.running/\∃ g' child Kc rc,stepG P true g w=.spawn g' child w #[]/\(∀ c,Kc c->K c\/S c)/\Sit P ty Wg ch Snd Kc (fun _=>False) (fst j) (fin j) ⟨7,0,0⟩ rc child w/\Next (fun c=>K c\/S c) (fun _=>False) g' w
def zuk:St:=fun S g w=>g.status=.running/\∃ g',stepG P true g w=.go g' w #[mk .enable]/\WX P ty Wg ch K (MGo P ty Wg ch Snd fst fin K j Next) S g' w
def MA1:St:=fun S g w=>g.status=.running/\∀ v:Nat,v<2147483647->WgAt ty Wg w (v * KK) 0 ->
  ∃ g',stepG P true g w=.go g' (w.setCell (stA Wg) (.int .u64 ((v+1) * KK))) #[rd (stA Wg),wr (stA Wg)]/\WX P ty Wg ch K (zuk P ty Wg ch Snd fst fin K j Next) S g' (w.setCell (stA Wg) (.int .u64 ((v+1) * KK)))
def znM:St:=fun S g w=>g.status=.running/\∃ g',stepG P true g w=.go g' w #[mk .disable]/\WX P ty Wg ch K (MA1 P ty Wg ch Snd fst fin K j Next) S g' w
end
section
variable(P:Program)(ty:TypeId)(Wg ch:Nat)[Payload](Snd:Nat->Np->Value->Wq)(n:Nat)(fst fin:Nat->Nat)(Post:Np->St)(Anch:Np->St)
def zcc:Nat->Np->St
 | 0,K=>fun S g w=>WX P ty Wg ch K (MKd P ty Wg ch Anch K) S g w
 | r+1,K=>fun S g w=>WX P ty Wg ch K (znM P ty Wg ch Snd fst fin K (n - (r+1)) (zcc r)) S g w
inductive zdM(K S:Np):CTag->Nat->Rk->Nat->Goroutine->Wq
 | skd {r:Nat} {rk:Rk} {g:Goroutine} {w:World}:r<n->WM P ty Wg ch K (znM P ty Wg ch Snd fst fin K (n - (r+1)) (zcc P ty Wg ch Snd n fst fin Anch r)) rk S g w->zdM K S (.sp r 5) (n - (r+1)) rk 0 g w
 | sa1 {r:Nat} {rk:Rk} {g:Goroutine} {w:World}:r<n->WM P ty Wg ch K (MA1 P ty Wg ch Snd fst fin K (n - (r+1)) (zcc P ty Wg ch Snd n fst fin Anch r)) rk S g w->zdM K S (.sp r 4) (n - (r+1)) rk 1 g w
 | ske {r:Nat} {rk:Rk} {g:Goroutine} {w:World}:r<n->WM P ty Wg ch K (zuk P ty Wg ch Snd fst fin K (n - (r+1)) (zcc P ty Wg ch Snd n fst fin Anch r)) rk S g w->zdM K S (.sp r 3) (n - (r+1)) rk 1 g w
 | sgo {r:Nat} {rk:Rk} {g:Goroutine} {w:World}:r<n->WM P ty Wg ch K (MGo P ty Wg ch Snd fst fin K (n - (r+1)) (zcc P ty Wg ch Snd n fst fin Anch r)) rk S g w->zdM K S (.sp r 2) (n - (r+1)) rk 0 g w
 | kd {rk:Rk} {g:Goroutine} {w:World}:WM P ty Wg ch K (MKd P ty Wg ch Anch K) rk S g w->zdM K S .kd n rk 0 g w
 | anch {rk:Rk} {g:Goroutine} {w:World}:WM P ty Wg ch K (Anch K) rk S g w->zdM K S .anch n rk 1 g w
 | w1 {rk:Rk} {g:Goroutine} {w:World}:WM P ty Wg ch K (MW1 P ty Wg ch Post Anch K) rk S g w->zdM K S .w1 n rk 1 g w
 | w2 {vs:Nat} {rk:Rk} {g:Goroutine} {w:World}:WM P ty Wg ch K (MW2 P ty Wg ch Post Anch K vs) rk S g w->zdM K S (.w2 vs) n rk 1 g w
 | w3 {rk:Rk} {g:Goroutine} {w:World}:WM P ty Wg ch K (MW3 P ty Wg ch Post K) rk S g w->zdM K S .w3 n (bump rk) 1 g w
 | blk {rk:Rk} {g:Goroutine} {w:World}:(∀ w₁,zaW (zal ty Wg ch) K S w w₁->MW3 P ty Wg ch Post K S g w₁)->zdM K S .blk n rk 1 { g with status:=.blocked } w
 | w4 {rk:Rk} {g:Goroutine} {w:World}:WM P ty Wg ch K (MW4 P ty Wg ch Post K) rk S g w->zdM K S .w4 n rk 1 g w
 | ke {rk:Rk} {g:Goroutine} {w:World}:WM P ty Wg ch K (MKe P ty Wg ch Post K) rk S g w->zdM K S .ke n rk 1 g w
 | acq {rk:Rk} {g:Goroutine} {w:World}:WM P ty Wg ch K (zt7 P Wg Post K) rk S g w->zdM K S .acq n rk 0 g w
end
section
variable{P:Program}{ty:TypeId}{Wg ch j0:Nat}{Shun:Np}[Payload]{Snd:Nat->Np->Value->Wq}{n:Nat}{fst fin:Nat->Nat}{Post Anch:Np->St}{K S:Np}{tag:CTag}{j:Nat}{rk:Rk}{d:Nat}{a:Goroutine}{w w':World}
omit [Payload] in
theorem WM.rely{Stop:St}{r:Rk}(h:WM P ty Wg ch K Stop r S a w)(hs:zaW (zal ty Wg ch) K S w w'):WM P ty Wg ch K Stop r S a w':=Way.rely h hs
theorem zdM.rely(h:zdM P ty Wg ch Snd n fst fin Post Anch K S tag j rk d a w)(hs:zaW (zal ty Wg ch) K S w w'):zdM P ty Wg ch Snd n fst fin Post Anch K S tag j rk d a w':=by
 cases h with
 | skd hn h=>exact .skd hn (h.rely hs)
 | sa1 hn h=>exact .sa1 hn (h.rely hs)
 | ske hn h=>exact .ske hn (h.rely hs)
 | sgo hn h=>exact .sgo hn (h.rely hs)
 | kd h=>exact .kd (h.rely hs)
 | anch h=>exact .anch (h.rely hs)
 | w1 h=>exact .w1 (h.rely hs)
 | w2 h=>exact .w2 (h.rely hs)
 | w3 h=>exact .w3 (h.rely hs)
 | blk h=>exact .blk (fun w₂ h₂=>h w₂ (hs.trans h₂))
 | w4 h=>exact .w4 (h.rely hs)
 | ke h=>exact .ke (h.rely hs)
 | acq h=>exact .acq (h.rely hs)
omit [Payload] in
theorem WM.running{Stop:St}{r:Rk}(h0:∀ S g w,Stop S g w->g.status=.running)(h:WM P ty Wg ch K Stop r S a w):a.status=.running:=zd3 (fun _ _ _ _ x=>h0 _ _ _ x) h
theorem zdM.status(h0:∀ K S g w,Anch K S g w->g.status=.running)(h:zdM P ty Wg ch Snd n fst fin Post Anch K S tag j rk d a w):(a.status=.running/\tag≠.blk)\/(a.status=.blocked/\a.offers=none/\tag=.blk):=by
 cases h with
 | skd _ h=>exact .inl ⟨h.running (fun _ _ _ x=>x.1),qm⟩
 | sa1 _ h=>exact .inl ⟨h.running (fun _ _ _ x=>x.1),qm⟩
 | ske _ h=>exact .inl ⟨h.running (fun _ _ _ x=>x.1),qm⟩
 | sgo _ h=>exact .inl ⟨h.running (fun _ _ _ x=>x.1),qm⟩
 | kd h=>exact .inl ⟨h.running (fun _ _ _ x=>x.1),qm⟩
 | anch h=>exact .inl ⟨h.running (h0 K),qm⟩
 | w1 h=>exact .inl ⟨h.running (fun _ _ _ x=>x.1),qm⟩
 | w2 h=>exact .inl ⟨h.running (fun _ _ _ x=>x.1),qm⟩
 | w3 h=>exact .inl ⟨h.running (fun _ _ _ x=>x.1),qm⟩
 | blk h=>exact .inr ⟨rfl,(h w (zaW.refl w)).2.1,rfl⟩
 | w4 h=>exact .inl ⟨h.running (fun _ _ _ x=>x.1),qm⟩
 | ke h=>exact .inl ⟨h.running (fun _ _ _ x=>x.1),qm⟩
 | acq h=>exact .inl ⟨h.running (fun _ _ _ x=>x.1),qm⟩
theorem zdM.bound(h:zdM P ty Wg ch Snd n fst fin Post Anch K S tag j rk d a w):j+pend tag<=n:=by
 cases h <;> simp only[pend] <;> (try simp) <;> omega
theorem zdM.wokenBy(h0:∀ K S g w,Anch K S g w->g.status=.running)(h:zdM P ty Wg ch Snd n fst fin Post Anch K S tag j rk d a w)(hs:zaW (zal ty Wg ch) K S w w')(g g':Goroutine) :
  ∃ tag' rk',zdM P ty Wg ch Snd n fst fin Post Anch K S tag' j rk' d (woken P g g' w' a) w'/\(tag'=tag\/(tag=.blk/\tag'=.w3))/\(mayWake P g=true->g'.status=.running->tag'≠.blk):=by
 have h':=h.rely hs
 unfold Go.Conc.woken
 split
 ·rcases h'.status h0 with ⟨hr,h4⟩|⟨_,_,rfl⟩
  ·exact⟨tag,rk,by rw[again_running _ (.inl hr)];exact h',.inl rfl,fun _ _=>h4⟩
  ·cases h' with
   | blk hb =>
    have h3:=hb w' (zaW.refl w')
    exact⟨.w3,bump .z,by rw[again_blocked h3.1 h3.2.1];exact .w3 (rk:=.z) hb,.inr ⟨rfl,rfl⟩,fun _ _=>qm⟩
 ·rename_i hc
  exact⟨tag,rk,h',.inl rfl,fun h1 h2=>absurd (by simp[h1,h2]) hc⟩
end
section
variable(P:Program)(ty:TypeId)(Wg ch j0:Nat)(Shun:Np)[Payload](Snd:Nat->Np->Value->Wq)(n:Nat)(fst fin:Nat->Nat)(Post Anch:Np->St)
def MInv(μ:Mea)(m:Machine)(t:Trace):Prop :=
 ∃ (gs:Array Goroutine) (w:World) (sl:Option (Nat × Nat)) (j:Nat) (D:Nat->WD) (ρ:Nat->Rk) (K S G:Nat->Np) (σ:Nat->Nat) (GG:Nat->Np) (tag:CTag) (rk:Rk) (d0:Nat) (a:Goroutine) (st sm:Int),
  m=crowd gs w sl/\gs[0]?=some a/\zdM P ty Wg ch Snd n fst fin Post Anch (K 0) (S 0) tag j rk d0 a w/\zd5 P ty Wg ch j0 Shun Snd n fst fin j gs w t D ρ K S G σ GG d0/\WgAt ty Wg w st sm/\Go.ConcN.Mode j D tag st sm /\
  μ=(phi n (Vc j D) tag+Ssum j D,ρ,rk)
def zjZ(m:Machine)(t:Trace):Prop :=
 ∃ (gs:Array Goroutine) (w:World) (sl:Option (Nat × Nat)) (D:Nat->WD) (ρ:Nat->Rk) (K S G:Nat->Np) (σ:Nat->Nat) (GG:Nat->Np) (a:Goroutine),
  m=crowd gs w sl/\gs[0]?=some a/\Post (K 0) (S 0) a w/\zd5 P ty Wg ch j0 Shun Snd n fst fin n gs w t D ρ K S G σ GG 0/\WgAt ty Wg w 0 0/\AllQuit n D /\
  ∃ q,t.act? q=some (.mark (.acquire (stA Wg)))/\t.g? q=some 0/\t.heard q/\∀ i,j0<=i->i<n->∃ r,RelBy (stA Wg) t (i+1) r/\r<q
end
end
section
open Go Go.Conc Go.ConcN
open Go.ConcR (KK wgBlock WgAt stA smA rd wr mk Payload Aside2 DC0 Bk g_of_ofEvents bk_of_mute ofEvent_loc_mark)
theorem zjp{Wg:Nat}{K S:Np}(h:Bk Wg e):OkE Wg K S e:=by
 refine Or.inr ?_
 rcases h with h|h|⟨a,wr,rfl,ha⟩
 ·rw[ofEvent_loc_mark h,h]
  exact⟨fun x hx=>by simp[MemAct.touch?] at hx,qm,trivial⟩
 ·rw[ofEvent_loc_mark h,h]
  exact⟨fun x hx=>by simp[MemAct.touch?] at hx,qm,trivial⟩
 ·have e:MemAct.ofEvent ⟨.cell a,wr,true⟩=.access ⟨.cell a,wr,true⟩:=rfl
  rw[e]
  refine⟨fun x hx=>?_,qm,?_⟩
  ·simp only[MemAct.touch?,Option.some.injEq] at hx
   subst hx
   exact⟨⟨a,rfl,ha⟩,qm,qm⟩
  ·show a.block<Wg+1
   omega
theorem zmP{Wg:Nat}{K S:Np}(h:Bk Wg e):ztt Wg K S e:=by
 rcases zjp (K:=K) (S:=S) h with q|⟨q1,q2,q3⟩
 ·exact Or.inl q
 ·exact Or.inr ⟨fun x hx=>⟨(q1 x hx).1,(q1 x hx).2.1⟩,q2,q3⟩
theorem zo0{Wg:Nat}{K S:Np}(h:EvS K S e\/ExE Wg false e):OkE Wg K S e :=
 h.imp id fun q=>⟨fun x hx=>⟨(q.1 x hx).1,(q.1 x hx).2.1,(q.1 x hx).2.2 rfl⟩,q.2.2.2.1,q.2.2.2.2⟩
theorem zmQ{Wg:Nat}{K S:Np}(h:EvS K S e\/ExE Wg true e):ztt Wg K S e :=
 h.imp id fun q=>⟨fun x hx=>⟨(q.1 x hx).1,(q.1 x hx).2.1⟩,q.2.2.2.1,q.2.2.2.2⟩
theorem zg6{Wg:Nat}{K S:Np}{b:Bool}{es:Array Event}(h:∀ e∈es,EvS K S e\/ExE Wg b e)(d:Nat):deafBehind d es=d :=
 deafBehind_idle (fun e he=>by
  rcases h e he with q|q
  ·exact⟨q.idle.1,q.idle.2.1⟩
  ·exact⟨q.2.1,q.2.2.1⟩) d
theorem zme{D:Nat->WD}{j0:Nat}:∀ j,(∀ i,i<j0->(D i).stage=1)->Go.ConcN.Vc j D<=j - j0
 | 0,_=>Nat.zero_le _
 | j+1,h=>by
  have ih:=zme j h
  show Go.ConcN.Vc j D+Go.ConcN.cnt (D j)<=j+1 - j0
  rcases Nat.lt_or_ge j j0 with q|q
  ·have:Go.ConcN.cnt (D j)=0:=by unfold Go.ConcN.cnt;rw[h j q];rfl
   omega
  ·have:Go.ConcN.cnt (D j)<=1:=by unfold Go.ConcN.cnt;split <;> omega
   omega
section
variable{P:Program}{ty:TypeId}{Wg ch j0:Nat}{Shun:Np}[Payload]{Snd:Nat->Np->Value->Wq}{n:Nat}{fst fin:Nat->Nat}{Post Anch:Np->St}{gs:Array Goroutine}{w w':World}{sl:Option (Nat × Nat)}{j:Nat}{t:Trace}{D:Nat->WD}{ρ:Nat->Rk}{K S G:Nat->Np}{σ:Nat->Nat}{GG:Nat->Np}{tag:CTag}{rk:Rk}{d0:Nat}{a:Goroutine}{st sm:Int}
theorem zd5.sees(h:zd5 P ty Wg ch j0 Shun Snd n fst fin j gs w t D ρ K S G σ GG d0)(h1:w.heap.size<=w'.heap.size)(h0:∀ c,c<w.heap.size->¬ S k c->c≠Wg->w'.heap[c]?=w.heap[c]?)(h2:w'.tape=w.tape)(h5:w'.os=w.os)(h4:w'.output=w.output)(h3:WgLive ty Wg w') :
  ∀ k',k'≠k->zaW (zal ty Wg ch) (K k') (S k') w w':=by
 obtain⟨b1,b2,b3⟩:=Apart.blocks h.ap
 intro k' e
 refine⟨h1,fun c hc=>?_,h2,h5,h4,fun hl=>⟨h3,?_⟩⟩
 ·refine h0 c (h.lt k' c (by rcases hc with q|q;exact Or.inl q;exact Or.inr (Or.inl q))).1 (fun q=>?_) (b3 k' c (by rcases hc with q|q;exact Or.inr (Or.inr q);exact Or.inl q)).1
  rcases hc with x|x
  ·exact b2 _ _ c (Or.inl q) x
  ·exact e (b1 _ _ c (Or.inl x) (Or.inl q))
 ·obtain⟨cap,buf,s,r,tm,hc⟩:=hl.2
  exact⟨cap,buf,s,r,tm,by rw[h0 ch h.lv.2.1 (fun q=>(h.lt _ _ (Or.inr (Or.inl q))).2.2 rfl) (Ne.symm h.lv.2.2)];exact hc⟩
omit [Payload] in
theorem zp3{ρ:Nat->Rk}{n:Nat}{r':Rk}(hi:i<n)(h:Rlt r' (ρ i)):Fam n (upd ρ i r') ρ:=⟨i,hi,by rw[upd_same];exact h,fun k hk=>upd_ne ρ _ hk⟩
theorem zkD(hk:zdV Snd)(hw:∀ K S g w,Anch K S g w->g.status=.running)(ha:gs[0]?=some a)(hy:zdM P ty Wg ch Snd n fst fin Post Anch (K 0) (S 0) tag j rk d0 a w)(h0:zd5 P ty Wg ch j0 Shun Snd n fst fin j gs w t D ρ K S G σ GG d0)(hi:i<j){es:Array Event}{d':WD}{r':Rk}{st' sm':Int}(hg:gs[i+1]?=some g)(hz:stepG P false g w=.go g' w' es)(h3:w.heap.size<=w'.heap.size)(hl:∀ c,S (i+1) c->S' c)(hp:∀ c,S' c->S (i+1) c\/(w.heap.size<=c/\c<w'.heap.size))(h4:∀ c,c<w.heap.size->¬ S (i+1) c->c≠Wg->w'.heap[c]?=w.heap[c]?)(h5:w'.tape=w.tape)(hj:w'.os=w.os)(h6:w'.output=w.output)(hs':Sit P ty Wg ch Snd (K (i+1)) S' (σ i) (fin i) d' r' g' w')(hA:∀ e∈es,OkE Wg (K (i+1)) S' e)(hold:i<j0->d'.stage=1/\∀ e∈es,(MemAct.ofEvent e).touch?=none)(h9:deafBehind (D i).deaf es=d'.deaf)(hq:j0<=i->d'.stage<=6->∃ r,RelBy (stA Wg) (t++MemOp.ofEvents (i+1) g.frame.fn g.frame.place es) (i+1) r)(h8:WgAt ty Wg w' st' sm')(he:∀ tag',(tag'=tag\/(tag=.blk/\tag'=.w3))->(mayWake P g=true->g'.status=.running->tag'≠.blk)->Go.ConcN.Mode j (upd D i d') tag' st' sm')(hD:(d'.stage<(D i).stage/\cnt d'<=cnt (D i))\/(d'.stage=(D i).stage/\Rlt r' (ρ i))) :
  ∃ m₁ ops μ',runT P (crowd gs w sl) (i+1)=(.next m₁,ops)/\zdU n μ' (phi n (Vc j D) tag+Ssum j D,ρ,rk)/\MInv P ty Wg ch j0 Shun Snd n fst fin Post Anch μ' m₁ (t++ops):=by
 have hs:=h0.sees (k:=i+1) h3 h4 h5 hj h6 ⟨_,_,h8⟩ 0 qg
 obtain⟨tag',rk',hcs',h7,hE⟩:=hy.wokenBy hw hs g g'
 have hu:=runT_crowd_go (P:=P) (sl:=sl) (i:=i+1) hg (by simpa using hz)
 have e1:=sumTo_upd D d' cnt hi
 have e2:=sumTo_upd D d' WD.stage hi
 have hf:=h0.stepW hk hi (g:=g) (fn:=g.frame.fn) (pos:=g.frame.place) h3 hl hp h4 h5 hj h6 ⟨_,_,h8⟩ hs' hA hold h9 hq
 refine⟨_,_,(phi n (Vc j (upd D i d')) tag'+Ssum j (upd D i d'),upd ρ i r',rk'),hu,?_,
  _,w',sl,j,upd D i d',upd ρ i r',K,upd S (i+1) S',G,σ,GG,tag',rk',d0,woken P g g' w' a,st',sm',rfl,by rw[get_map_set _ _ _ _ qg,ha];rfl,by rw[upd_ne S _ qg];exact hcs',hf,h8,he tag' h7 hE,rfl⟩
 rw[phi_retag n _ h7]
 simp only[Vc,Ssum] at *
 rcases hD with ⟨h1,h2⟩|⟨h1,h2⟩
 ·refine Prod.Lex.left _ _ ?_
  have:=phi_mono n (v':=sumTo j fun a=>cnt (upd D i d' a)) (v:=sumTo j fun a=>cnt (D a)) qg tag
  show phi n _ tag+_<phi n _ tag+_
  omega
 ·have ec:cnt d'=cnt (D i):=by simp only[cnt,h1]
  have ev:(sumTo j fun a=>cnt (upd D i d' a))=sumTo j fun a=>cnt (D a):=qg
  have es':(sumTo j fun a=>(upd D i d' a).stage)=sumTo j fun a=>(D a).stage:=qg
  rw[ev,es']
  exact Prod.Lex.right _ (Prod.Lex.left _ _ (zp3 (by have:=h0.old;omega) h2))
end
section
variable{P:Program}{ty:TypeId}{Wg ch j0:Nat}{Shun:Np}[Payload]{Snd:Nat->Np->Value->Wq}{n:Nat}{fst fin:Nat->Nat}{Post Anch:Np->St}{gs:Array Goroutine}{w w':World}{sl:Option (Nat × Nat)}{j:Nat}{t:Trace}{D:Nat->WD}{ρ:Nat->Rk}{K S G:Nat->Np}{σ:Nat->Nat}{GG:Nat->Np}{tag:CTag}{rk:Rk}{d0:Nat}{a:Goroutine}{st sm:Int}
omit [Payload] in
theorem zib(ho:h.offers=none)(r:Nat)(send:Bool):offersAt h r send=[]:=by
 unfold offersAt
 rw[ho]
 cases h.status <;> rfl
theorem zkC(hJ:zdV Snd)(hR:Rng n fst fin)(hN:∀ K S g w,Anch K S g w->g.status=.running)(hn:n - j0<2147483648)(ha:gs[0]?=some a)(hA:zdM P ty Wg ch Snd n fst fin Post Anch (K 0) (S 0) tag j rk d0 a w)(h7:zd5 P ty Wg ch j0 Shun Snd n fst fin j gs w t D ρ K S G σ GG d0)(h8:WgAt ty Wg w st sm)(hj:Go.ConcN.Mode j D tag st sm)(hi:i<j)(hg:gs[i+1]?=some g)(hK:g.status=.running) :
  ∃ m₁ ops μ',runT P (crowd gs w sl) (i+1)=(.next m₁,ops)/\zdU n μ' (phi n (Vc j D) tag+Ssum j D,ρ,rk)/\MInv P ty Wg ch j0 Shun Snd n fst fin Post Anch μ' m₁ (t++ops):=by
 obtain⟨g₁,hV,hs⟩:=h7.wk i hi
 obtain rfl:g=g₁:=by rw[hg] at hV;exact Option.some.inj hV
 generalize hDd:D i=dd at hs
 generalize hρr:ρ i=r at hs
 have hb:=hA.bound
 have pd:=zme j h7.oldq
 have hX:Deaf t (i+1)=dd.deaf:=by rw[h7.deafW i hi,hDd]
 have bookG:∀ {g':Goroutine} {w':World} {es:Array Event} {s' m' dd':Nat} {st' sm':Int},stepG P false g w=.go g' w' es->Aside Wg w w'->WgAt ty Wg w' st' sm'->(∀ e∈es,Bk Wg e) ->
   (∀ jx e,es[jx]?=some e->(MemAct.ofEvent e).touch?=none\/0<deafBehind dd.deaf (es.extract 0 jx))->Sit P ty Wg ch Snd (K (i+1)) (S (i+1)) (σ i) (fin i) ⟨s',m',dd'⟩ (ofNat m') g' w'->deafBehind dd.deaf es=dd'->dd.stage<=6->(i<j0->s'=1/\∀ e∈es,(MemAct.ofEvent e).touch?=none) ->
   (∀ tag',(tag'=tag\/(tag=.blk/\tag'=.w3))->(mayWake P g=true->g'.status=.running->tag'≠.blk)->Go.ConcN.Mode j (upd D i ⟨s',m',dd'⟩) tag' st' sm')->((s'<dd.stage/\cnt ⟨s',m',dd'⟩<=cnt dd)\/(s'=dd.stage/\Rlt (ofNat m') r)) ->
   ∃ m₁ ops μ',runT P (crowd gs w sl) (i+1)=(.next m₁,ops)/\zdU n μ' (phi n (Vc j D) tag+Ssum j D,ρ,rk)/\MInv P ty Wg ch j0 Shun Snd n fst fin Post Anch μ' m₁ (t++ops):=by
  intro g' w' es s' m' dd' st' sm' h5 hz hwg' hF hd hs' hQ h6 hold hmode' hT
  exact zkD hJ hN ha hA h7 hi hg h5 (Nat.le_of_eq hz.size.symm) (fun _ x=>x) (fun _ x=>Or.inl x) (fun c _ _ hc=>hz.block c hc) hz.tape hz.os hz.output hs' (fun e he=>zjp (hF e he)) hold (by rw[hDd];exact hQ)
   (fun h0 _=>let ⟨r,hr⟩:=h7.rel i h0 hi (by rw[hDd];exact h6);⟨r,hr.book hX _ _ hF hd⟩) hwg' hmode' (by rw[hDd,hρr];exact hT)
 have young:dd.stage≠1->j0<=i:=fun h=>by
  rcases Nat.lt_or_ge i j0 with q|q
  ·have:=h7.oldq i q;rw[hDd] at this;exact absurd this h
  ·exact q
 have notold:dd.stage≠1->∀ {X:Prop},i<j0->X:=fun h X q=>absurd q (Nat.not_lt.2 (young h))
 have book:∀ {g':Goroutine} {w':World} {es:Array Event} {s' m' dd':Nat} {st' sm':Int},stepG P false g w=.go g' w' es->Aside Wg w w'->WgAt ty Wg w' st' sm'->(∀ e∈es,Bk Wg e) ->
   (∀ jx e,es[jx]?=some e->(MemAct.ofEvent e).touch?=none\/0<deafBehind dd.deaf (es.extract 0 jx))->Sit P ty Wg ch Snd (K (i+1)) (S (i+1)) (σ i) (fin i) ⟨s',m',dd'⟩ (ofNat m') g' w'->deafBehind dd.deaf es=dd'->dd.stage<=6->(i<j0->s'=1/\∀ e∈es,(MemAct.ofEvent e).touch?=none) ->
   Go.ConcN.Mode j (upd D i ⟨s',m',dd'⟩) tag st' sm'->((s'<dd.stage/\cnt ⟨s',m',dd'⟩<=cnt dd)\/(s'=dd.stage/\Rlt (ofNat m') r)) ->
   ∃ m₁ ops μ',runT P (crowd gs w sl) (i+1)=(.next m₁,ops)/\zdU n μ' (phi n (Vc j D) tag+Ssum j D,ρ,rk)/\MInv P ty Wg ch j0 Shun Snd n fst fin Post Anch μ' m₁ (t++ops) :=
  fun h5 hz hwg' hF hd hs' hQ h6 hold hmode' hT=>bookG h5 hz hwg' hF hd hs' hQ h6 hold (fun _ ht _=>hmode'.retag ht) hT
 cases hs with
 | work h =>
  have y:=young qm
  have stopped:zmg P ty Wg (K (i+1)) (fin i) (σ i) (S (i+1)) g w->∃ m₁ ops μ',runT P (crowd gs w sl) (i+1)=(.next m₁,ops)/\zdU n μ' (phi n (Vc j D) tag+Ssum j D,ρ,rk)/\MInv P ty Wg ch j0 Shun Snd n fst fin Post Anch μ' m₁ (t++ops):=by
   rintro⟨hσ,C,v,hC,_,_,g',h5,m₂,hk⟩
   exact zkD hJ hN ha hA h7 hi hg h5 (Nat.le_refl _) (fun _ x=>x) (fun _ x=>Or.inl x) (fun _ _ _ _=>rfl) rfl rfl rfl (d':=⟨6,m₂,0⟩) (r':=ofNat m₂) (.lib (v:=v) qg qg hC hσ (.k1 hk))
    (by intro e he;simp at he;subst he;exact Or.inr ⟨fun x hx=>by simp[mk,MemAct.ofEvent,MemAct.touch?] at hx,by simp[mk],by simp[mk,MemAct.ofEvent,MemAct.low,stA]⟩) (notold qm) (by rw[hDd];rfl)
    (fun _ _=>⟨t.size,RelBy.new hX _ _⟩) h8 (fun _ ht _=>(hj.counted hi (by rw[hDd];decide) (.inl rfl) _ _).retag ht) (.inl ⟨by rw[hDd];show 6<7;decide,by rw[hDd];simp[cnt]⟩)
  cases r with
  | z=>exact stopped (h w (zaW.refl w))
  | s f =>
   rcases h with h|⟨_,h⟩
   ·exact stopped (h w (zaW.refl w))
   ·rcases h w (zaW.refl w) with ⟨g',w',es,S',h5,hD,hw⟩|⟨g1,v,z,S',h5,hZ,hv,hw⟩
    ·have p0:w'.heap[Wg]?=w.heap[Wg]?:=hD.kept Wg h7.lv.1 (fun q=>(h7.lt _ _ (Or.inr (Or.inl q))).2.1 rfl)
     exact zkD hJ hN ha hA h7 hi hg h5 hD.size hD.sub hD.new (fun c x y _=>hD.kept c x y) hD.tape hD.os hD.out (d':=⟨7,0,0⟩) (.work hw) (fun e he=>zo0 (hD.evs e he)) (notold qm) (by rw[hDd];exact zg6 hD.evs 0)
      (fun _ q=>by simp at q) (h8.of_block p0) (fun _ ht _=>Mode.retag (by have:=hj.same (i:=i) 0 0;rwa [hDd] at this) ht) (.inr ⟨by rw[hDd],by rw[hρr];exact⟨f,w,rfl,rfl⟩⟩)
    ·obtain⟨cap,buf,s,r,tm,hc,pb,_⟩:=h7.chan
     have hs':Sit P ty Wg ch Snd (K (i+1)) S' (σ i+1) (fin i) ⟨7,0,0⟩ (f w) (g1.finishComm P #[⟨.chan (some ch),some v,z⟩] .send 0 undef false) w:=.work hw
     have p1:=hs'.bound
     have pc:=zmb (σ:=σ) (fin:=fin) (n:=n) (i:=i) (by have:=h7.old;omega) p1
     have hp:partners (gs.setIfInBounds (i+1) ph) ch false=[]:=by
      refine partners_nil fun k x hx=>?_
      rcases getElem?_stand gs (i+1) k x hx with ⟨_,rfl⟩|⟨_,hx⟩
      ·exact offersAt_ph _ _
      ·cases k with
       | zero =>
        rw[ha] at hx
        cases hx
        rcases hA.status hN with ⟨q,_⟩|⟨_,q,_⟩
        ·exact offersAt_of_not_blocked (by rw[q];simp) _ _
        ·exact zib q _ _
       | succ k =>
        have hk:k<j:=by have:=(gei hx).1;rw[h7.size] at this;omega
        obtain⟨x',hx',p5⟩:=h7.wk k hk
        rw[hx] at hx'
        cases hx'
        exact offersAt_of_not_blocked (by rcases p5.status with q|q <;> rw[q] <;> simp) _ _
     have hrun':=crowd_send_room (P:=P) (sl:=sl) (i:=i+1) (v:=v) (z:=z) (c:=ch) hg (by rw[show ((i+1 == 0)=false) by simp];exact h5) hc qg hp
     have hM:=h7.send hJ hR hi y (fn:=g1.frame.fn) (pos:=g1.frame.place) hc hZ hv hDd hs' rfl rfl
     have hE:MemOp.ofEvents (i+1) g.frame.fn g.frame.place #[]=#[]:=rfl
     rw[hE,Array.empty_append] at hrun'
     have p6:Wg≠ch:=h7.lv.2.2
     refine⟨_,_,(phi n (Vc j D) tag+Ssum j D,upd ρ i (f w),rk),hrun',Prod.Lex.right _ (Prod.Lex.left _ _ (zp3 (by have:=h7.old;omega) (by rw[hρr];exact⟨f,w,rfl,rfl⟩))),_,_,sl,j,D,_,_,_,_,_,_,tag,rk,d0,a,st,sm,rfl,?_,?_,hM,h8.of_block (zbA w _ _ _ _ _ _ p6),hj,rfl⟩
     ·rw[Array.getElem?_setIfInBounds_ne qg];exact ha
     ·rw[upd_ne S _ qg]
      refine hA.rely ⟨by simp[World.setChan],fun c q=>zbA w _ _ _ _ _ _ (h7.lt 0 c (by rcases q with q|q;exact Or.inl q;exact Or.inr (Or.inl q))).2.2,rfl,rfl,rfl,fun _=>hM.live⟩
 | lib h2 h6 hC hσ h =>
  rename_i s m d C vv
  have y:=young (by show s≠1;omega)
  have idle:∀ {g':Goroutine} {m':Nat},stepG P false g w=.go g' w #[]->WSit P ty Wg C 0 NoL NoL 0 1 vv s m' d g' w->m'+1=m ->
    ∃ m₁ ops μ',runT P (crowd gs w sl) (i+1)=(.next m₁,ops)/\zdU n μ' (phi n (Vc j D) tag+Ssum j D,ρ,rk)/\MInv P ty Wg ch j0 Shun Snd n fst fin Post Anch μ' m₁ (t++ops):=by
   intro g' m' h5 hs' hm
   subst hm
   exact book h5 (.refl Wg w) h8 qm qm (.lib h2 h6 hC hσ hs') rfl h6 (fun q=>absurd q (Nat.not_lt.2 y)) (by have:=hj.same (i:=i) m' d;rwa [hDd] at this) (.inr ⟨rfl,zjy w m'⟩)
  have no:∀ {X:Prop},i<j0->X:=fun q=>absurd q (Nat.not_lt.2 y)
  cases h with
  | r0 h=>omega
  | k1 h =>
   rcases Goes.cases h with hu|⟨m',rfl,h9⟩
   ·obtain⟨_,g',h5,m₂,hk⟩:=hu w (RW.refl w)
    exact book h5 (.refl Wg w) h8 (by intro e he;simp at he;subst he;exact .inl rfl) (by intro jx e he;exact .inl (by have:=Array.mem_of_getElem? he;simp at this;subst this;rfl)) (.lib (v:=vv) qg qg hC hσ (.d1 hk)) rfl qm no
     (hj.counted hi (by rw[hDd];simp) (.inr rfl) _ _) (.inl ⟨qm,by simp[cnt]⟩)
   ·obtain⟨g',w',es,h5,⟨rfl,rfl⟩,hg'⟩:=h9 w (RW.refl w)
    exact idle h5 (.k1 hg') rfl
  | d1 h =>
   rcases Goes.cases h with hu|⟨m',rfl,h9⟩
   ·obtain⟨_,hP⟩:=hu w (RW.refl w)
    have p7:cnt (D i)=1:=by rw[hDd];simp[cnt]
    have pe:1<=Vc j D:=by have:=le_sumTo (f:=fun x=>cnt (D x)) hi;simp only[Vc];omega
    have bk2:∀ e∈#[rd (stA Wg),wr (stA Wg)],Bk Wg e:=by intro e he;simp at he;rcases he with rfl|rfl <;> exact bk_cell _ _ rfl
    have df2:∀ jx e,(#[rd (stA Wg),wr (stA Wg)]:Array Event)[jx]?=some e->(MemAct.ofEvent e).touch?=none\/0<deafBehind 1 ((#[rd (stA Wg),wr (stA Wg)]:Array Event).extract 0 jx):=by
     intro jx e he
     match jx,he with
     | 0,_=>exact .inr (by simp[deafBehind])
     | 1,_=>exact .inr (by simp[deafBehind,rd])
     | jx+2,he=>simp at he
    have hY:∀ q,cnt (⟨1,q,1⟩:WD)=0:=fun _=>rfl
    have opq:∀ q,OpenSt j D->OpenSt j (upd D i ⟨1,q,1⟩):=fun q h a ha=>by
     by_cases e:a=i
     ·subst e;rw[upd_same];simp
     ·rw[upd_ne D _ e];exact h a ha
    cases hj with
    | opn h1 h2 h3 =>
     obtain⟨v,hv⟩:∃ v,Vc j D+pend tag=v+1:=⟨Vc j D+pend tag - 1,qg⟩
     rw[hv] at h8
     have hU:WgAt ty Wg w (((v:Nat)+1) * KK+((0:Nat):Int)) 0:=by simpa using h8
     obtain⟨g',h5,_,hq⟩:=hP v 0 qg qg hU
     obtain⟨q,hq⟩:=hq qg
     have hv':Vc j (upd D i ⟨1,q,1⟩)+pend tag=v:=by have:=Vc_upd D (⟨1,q,1⟩:WD) hi;have:=hY q;omega
     refine book h5 (aside_setCell w (stA Wg) _) (h8.setSt _) bk2 df2 (.quit hσ hq) rfl qm no ?_ (.inl ⟨qm,by simp[cnt]⟩)
     have e:((v:Nat):Int) * KK+((0:Nat):Int)=((Vc j (upd D i ⟨1,q,1⟩)+pend tag:Nat):Int) * KK:=by rw[hv'];simp
     rw[e]
     exact .opn h1 (opq q h2) (fun vs ev=>by have:=h3 vs ev;omega)
    | reg h1 h2 h3 =>
     obtain⟨v,hv⟩:∃ v,Vc j D=v+1:=⟨Vc j D - 1,qg⟩
     rw[hv] at h8
     have hU:WgAt ty Wg w (((v:Nat)+1) * KK+((1:Nat):Int)) 0:=by simpa using h8
     obtain⟨g',h5,hl,hq⟩:=hP v 1 qg qg hU
     by_cases hv0:v=0
     ·subst hv0
      obtain⟨m₂,hk⟩:=hl ⟨rfl,rfl⟩
      refine book h5 (aside_setCell w (stA Wg) _) (h8.setSt _) bk2 df2 (.lib (v:=vv) qg qg hC hσ (.d2 hk)) rfl qm no ?_ (.inl ⟨qm,by simp[cnt]⟩)
      have hy:∀ a,a<j->a≠i->(D a).stage=1:=fun a ha e=>by
       have c0:=others_uncounted hi hv p7 a ha e
       have:=h2 a ha
       simp only[cnt] at c0
       split at c0 <;> omega
      have:=Go.ConcN.Mode.last (j:=j) (D:=upd D i ⟨4,m₂,1⟩) (tag:=tag) i h1 hi (by rw[upd_same];simp) (fun a ha e=>by rw[upd_ne D _ e];exact hy a ha e)
      rw[upd_same] at this
      simpa using this
     ·obtain⟨q,hq⟩:=hq qg
      have hv':Vc j (upd D i ⟨1,q,1⟩)=v:=by have:=Vc_upd D (⟨1,q,1⟩:WD) hi;have:=hY q;omega
      refine book h5 (aside_setCell w (stA Wg) _) (h8.setSt _) bk2 df2 (.quit hσ hq) rfl qm no ?_ (.inl ⟨qm,by simp[cnt]⟩)
      have e:((v:Nat):Int) * KK+((1:Nat):Int)=((Vc j (upd D i ⟨1,q,1⟩):Nat):Int) * KK+1:=by rw[hv'];simp
      rw[e]
      exact .reg h1 (opq q h2) qg
    | last L _ h2 h3 h4 =>
     by_cases e:i=L
     ·subst e;rw[hDd] at h3;simp at h3
     ·have:=h4 i hi e;rw[hDd] at this;simp at this
    | sema h2=>have:=h2 i hi;rw[hDd] at this;simp at this
    | fin _ h2=>have:=h2 i hi;rw[hDd] at this;simp at this
   ·obtain⟨g',w',es,h5,⟨rfl,rfl⟩,hg'⟩:=h9 w (RW.refl w)
    exact idle h5 (.d1 hg') rfl
  | d2 h =>
   rcases Goes.cases h with hu|⟨m',rfl,h9⟩
   ·obtain⟨_,hx⟩:=hu w (RW.refl w)
    obtain⟨hL,hy,rfl,rfl⟩:=hj.isLast hi (by rw[hDd];simp)
    simp only[hDd] at h8
    obtain⟨g',h5,m₂,hk⟩:=hx (by simpa using h8)
    refine book h5 (.refl Wg w) h8 (by intro e he;simp at he;subst he;exact bk_cell _ _ rfl) (by intro jx e he;match jx,he with|0,_=>exact .inr (by simp[deafBehind])|jx+1,he=>simp at he) (.lib (v:=vv) qg qg hC hσ (.d3 hk)) rfl qm no ?_ (.inl ⟨qm,by simp[cnt]⟩)
    have:=Go.ConcN.Mode.last (j:=j) (D:=upd D i ⟨3,m₂,1⟩) (tag:=tag) i hL hi (by rw[upd_same];simp) (fun a ha e=>by rw[upd_ne D _ e];exact hy a ha e)
    rw[upd_same] at this
    simpa using this
   ·obtain⟨g',w',es,h5,⟨rfl,rfl⟩,hg'⟩:=h9 w (RW.refl w)
    exact idle h5 (.d2 hg') rfl
  | d3 h =>
   rcases Goes.cases h with hu|⟨m',rfl,h9⟩
   ·obtain⟨_,hx⟩:=hu w (RW.refl w)
    obtain⟨hL,hy,rfl,rfl⟩:=hj.isLast hi (by rw[hDd];simp)
    simp only[hDd] at h8
    obtain⟨g',h5,m₂,hk⟩:=hx (by simpa using h8)
    refine book h5 (aside_setCell w (stA Wg) _) (h8.setSt 0) (by intro e he;simp at he;subst he;exact bk_cell _ _ rfl) (by intro jx e he;match jx,he with|0,_=>exact .inr (by simp[deafBehind])|jx+1,he=>simp at he) (.lib (v:=vv) qg qg hC hσ (.d4 hk)) rfl qm no ?_ (.inl ⟨qm,by simp[cnt]⟩)
    have:=Go.ConcN.Mode.last (j:=j) (D:=upd D i ⟨2,m₂,1⟩) (tag:=tag) i hL hi (by rw[upd_same];simp) (fun a ha e=>by rw[upd_ne D _ e];exact hy a ha e)
    rw[upd_same] at this
    simpa using this
   ·obtain⟨g',w',es,h5,⟨rfl,rfl⟩,hg'⟩:=h9 w (RW.refl w)
    exact idle h5 (.d3 hg') rfl
  | d4 h =>
   rcases Goes.cases h with hu|⟨m',rfl,h9⟩
   ·obtain⟨_,p8,hx⟩:=hu w (RW.refl w)
    obtain⟨hL,hy,rfl,rfl⟩:=hj.isLast hi (by rw[hDd];simp)
    simp only[hDd] at h8
    obtain⟨g',h5,q,hq⟩:=hx (by simpa using h8)
    have hrun':g'.status=.running:=by
     cases q with
     | zero=>exact absurd hq.2 qj
     | succ q=>exact hq.elim (fun x=>absurd x.2 qj) (fun x=>x.1)
    refine bookG h5 (aside_setCell w (smA Wg) _) (h8.setSm 1) (es:=semEvents (smA Wg)) ?_ ?_ (.quit hσ hq) (by simp[deafBehind,semEvents]) qm no ?_ (.inl ⟨qm,by simp[cnt]⟩)
    ·intro e he
     simp[semEvents] at he
     rcases he with rfl|rfl|rfl|rfl
     ·exact .inl rfl
     ·exact bk_cell _ _ rfl
     ·exact bk_cell _ _ rfl
     ·exact .inr (.inl rfl)
    ·intro jx e he
     match jx,he with
     | 0,he=>simp[semEvents] at he;subst he;exact .inl rfl
     | 1,_=>exact .inr (by simp[deafBehind,semEvents])
     | 2,_=>exact .inr (by simp[deafBehind,semEvents])
     | 3,he=>simp[semEvents] at he;subst he;exact .inl rfl
     | jx+4,he=>simp[semEvents] at he
    ·intro tag' ht hw
     have p9:=hw p8 hrun'
     have e3:tag'=.w3:=by
      rcases ht with rfl|⟨_,rfl⟩
      ·cases tag' <;> first|rfl|exact hL.elim|exact absurd rfl p9
      ·rfl
     subst e3
     simp only[if_true]
     exact .sema fun a ha=>by
      by_cases e:a=i
      ·subst e;rw[upd_same]
      ·rw[upd_ne D _ e];exact hy a ha e
   ·obtain⟨g',w',es,h5,⟨rfl,rfl⟩,hg'⟩:=h9 w (RW.refl w)
    exact idle h5 (.d4 hg') rfl
  | quit h=>omega
 | quit hσ h =>
  rename_i q d
  cases q with
  | zero=>rw[h.1] at hK;cases hK
  | succ q =>
   rcases h with ⟨hf,_⟩|⟨_,g',es,hG,h9,hq⟩
   ·rw[hf] at hK;cases hK
   ·have hF:∀ e∈es,Bk Wg e:=fun e he=>bk_of_mute (hG e he)
    have pa:∀ jx e,es[jx]?=some e->(MemAct.ofEvent e).touch?=none\/0<deafBehind d (es.extract 0 jx):=fun jx e he=>.inl (touch_mute (hG e (Array.mem_of_getElem? he)))
    exact book (h9 w) (.refl Wg w) h8 hF pa (.quit hσ hq) rfl qm (fun _=>⟨rfl,fun e he=>touch_mute (hG e he)⟩) (by have:=hj.same (i:=i) q (deafBehind d es);rwa [hDd] at this) (.inr ⟨rfl,zjy w q⟩)
end
end
section
open Go Go.Conc Go.ConcN
open Go.ConcR (KK wgBlock WgAt stA smA rd wr mk Payload Aside2 DC0 Bk g_of_ofEvents ofEvent_mk)
theorem ztE{n x y:Nat}{μ:Mea}{ρ ρ':Nat->Rk}{r r':Rk}(h:zdU n μ (x,ρ,r))(h0:x<y):zdU n μ (y,ρ',r'):=by
 obtain⟨m1,m2⟩:=μ
 rcases Prod.lex_def.1 h with q|⟨q,_⟩ <;> exact Prod.Lex.left _ _ (by simp only at q;omega)
section
variable{P:Program}{ty:TypeId}{Wg ch j0:Nat}{Shun:Np}[Payload]{Snd:Nat->Np->Value->Wq}{n:Nat}{fst fin:Nat->Nat}{Post Anch:Np->St}{gs:Array Goroutine}{w w':World}{sl:Option (Nat × Nat)}{j:Nat}{t:Trace}{D:Nat->WD}{ρ:Nat->Rk}{K S G:Nat->Np}{σ:Nat->Nat}{GG:Nat->Np}{tag tag':CTag}{rk rk':Rk}{d0:Nat}{a a':Goroutine}{st sm st' sm':Int}{es:Array Event}
omit [Payload] in
theorem WM.cases{K S:Np}{Stop:St}{r:Rk}(h:WM P ty Wg ch K Stop r S a w):Stop S a w\/∃ f,r=.s f/\∃ g' w' es S',stepG P true a w=.go g' w' es/\Does (ExE Wg true) K S S' w w' es/\WM P ty Wg ch K Stop (f w) S' g' w':=by
 cases r with
 | z=>exact Or.inl (h w (zaW.refl w))
 | s f =>
  rcases h with h|⟨_,h⟩
  ·exact Or.inl (h w (zaW.refl w))
  ·rcases h w (zaW.refl w) with ⟨g',w',es,S',h1,h2,h3⟩|⟨_,_,_,_,_,_,q,_⟩
   ·exact Or.inr ⟨f,rfl,g',w',es,S',h1,h2,h3⟩
   ·exact q.elim
omit [Payload] in
theorem WM.cases'{K S:Np}{Stop:St}{r:Rk}(h:WM P ty Wg ch K Stop r S a w):(∀ w₁,zaW (zal ty Wg ch) K S w w₁->Stop S a w₁)\/∃ f,r=.s f/\∃ g' w' es S',stepG P true a w=.go g' w' es/\Does (ExE Wg true) K S S' w w' es/\WM P ty Wg ch K Stop (f w) S' g' w':=by
 cases r with
 | z=>exact Or.inl h
 | s f =>
  rcases h with h|⟨_,h⟩
  ·exact Or.inl h
  ·rcases h w (zaW.refl w) with ⟨g',w',es,S',h1,h2,h3⟩|⟨_,_,_,_,_,_,q,_⟩
   ·exact Or.inr ⟨f,rfl,g',w',es,S',h1,h2,h3⟩
   ·exact q.elim
theorem zoT(h9:zdV Snd)(ha:gs[0]?=some a)(h0:zd5 P ty Wg ch j0 Shun Snd n fst fin j gs w t D ρ K S G σ GG d0)(hk:stepG P true a w=.go a' w' es)(h3:w.heap.size<=w'.heap.size)(he:∀ c,S 0 c->S' c)(hf:∀ c,S' c->S 0 c\/(w.heap.size<=c/\c<w'.heap.size))(h4:∀ c,c<w.heap.size->¬ S 0 c->c≠Wg->w'.heap[c]?=w.heap[c]?)(h5:w'.tape=w.tape)(hl:w'.os=w.os)(hg:w'.output=w.output)(hp:∀ e∈es,ztt Wg (K 0) S' e)(hcs':zdM P ty Wg ch Snd n fst fin Post Anch (K 0) S' tag' j rk' (deafBehind d0 es) a' w')(h8:WgAt ty Wg w' st' sm')(h6:Go.ConcN.Mode j D tag' st' sm')(hq:phi n (Vc j D) tag'<phi n (Vc j D) tag\/(phi n (Vc j D) tag'=phi n (Vc j D) tag/\Rlt rk' rk)) :
  ∃ m₁ ops,runT P (crowd gs w sl) 0=(.next m₁,ops)/\((∃ μ',zdU n μ' (phi n (Vc j D) tag+Ssum j D,ρ,rk)/\MInv P ty Wg ch j0 Shun Snd n fst fin Post Anch μ' m₁ (t++ops))\/zjZ P ty Wg ch j0 Shun Snd n fst fin Post m₁ (t++ops)):=by
 have hj:=runT_crowd_go (P:=P) (sl:=sl) (i:=0) ha (by simpa using hk)
 have h7:=h0.step0 h9 (g:=a) (g':=a') (fn:=a.frame.fn) (pos:=a.frame.place) h3 he hf h4 h5 hl hg ⟨_,_,h8⟩ hp
 refine⟨_,_,hj,Or.inl ⟨(phi n (Vc j D) tag'+Ssum j D,ρ,rk'),?_,_,w',sl,j,D,ρ,K,upd S 0 S',G,σ,GG,tag',rk',deafBehind d0 es,a',st',sm',rfl,get_map_set_same _ _ _ (by rw[h0.size];omega),by rw[upd_same];exact hcs',h7,h8,h6,rfl⟩⟩
 rcases hq with h|⟨h1,h2⟩
 ·exact Prod.Lex.left _ _ qg
 ·rw[h1];exact Prod.Lex.right _ (Prod.Lex.right _ h2)
theorem zfd(h2:zdV Snd)(ha:gs[0]?=some a)(h0:zd5 P ty Wg ch j0 Shun Snd n fst fin j gs w t D ρ K S G σ GG d0)(h3:WgAt ty Wg w st sm)(h1:Go.ConcN.Mode j D tag st sm)(h4:stepG P true a w=.go a' w' es)(hD:Does (ExE Wg true) (K 0) (S 0) S' w w' es)(hcs':zdM P ty Wg ch Snd n fst fin Post Anch (K 0) S' tag j rk' d0 a' w')(h5:Rlt rk' rk) :
  ∃ m₁ ops,runT P (crowd gs w sl) 0=(.next m₁,ops)/\((∃ μ',zdU n μ' (phi n (Vc j D) tag+Ssum j D,ρ,rk)/\MInv P ty Wg ch j0 Shun Snd n fst fin Post Anch μ' m₁ (t++ops))\/zjZ P ty Wg ch j0 Shun Snd n fst fin Post m₁ (t++ops)):=by
 have h6:w'.heap[Wg]?=w.heap[Wg]?:=hD.kept Wg h0.lv.1 (fun q=>(h0.lt _ _ (Or.inr (Or.inl q))).2.1 rfl)
 exact zoT h2 ha h0 h4 hD.size hD.sub hD.new (fun c x y _=>hD.kept c x y) hD.tape hD.os hD.out (fun e he=>zmQ (hD.evs e he)) (by rw[zg6 hD.evs];exact hcs') (h3.of_block h6) h1 (Or.inr ⟨rfl,h5⟩)
theorem zeS(h2:zdV Snd)(ha:gs[0]?=some a)(h3:zd5 P ty Wg ch j0 Shun Snd n fst fin j gs w t D ρ K S G σ GG d0)(h4:stepG P true a w=.go a' w' es)(h0:Aside Wg w w')(h5:WgAt ty Wg w' st' sm')(h6:∀ e∈es,Bk Wg e)(hcs':zdM P ty Wg ch Snd n fst fin Post Anch (K 0) (S 0) tag' j rk' (deafBehind d0 es) a' w')(h1:Go.ConcN.Mode j D tag' st' sm')(h7:phi n (Vc j D) tag'<phi n (Vc j D) tag\/(phi n (Vc j D) tag'=phi n (Vc j D) tag/\Rlt rk' rk)) :
  ∃ m₁ ops,runT P (crowd gs w sl) 0=(.next m₁,ops)/\((∃ μ',zdU n μ' (phi n (Vc j D) tag+Ssum j D,ρ,rk)/\MInv P ty Wg ch j0 Shun Snd n fst fin Post Anch μ' m₁ (t++ops))\/zjZ P ty Wg ch j0 Shun Snd n fst fin Post m₁ (t++ops)) :=
 zoT h2 ha h3 h4 (Nat.le_of_eq h0.size.symm) (fun _ x=>x) (fun _ x=>Or.inl x) (fun c _ _ hc=>h0.block c hc) h0.tape h0.os h0.output (fun e he=>zmP (h6 e he)) hcs' h5 h1 h7
theorem mw1(h3:zdV Snd)(hn:n - j0<2147483648)(ha:gs[0]?=some a)(h2:zd5 P ty Wg ch j0 Shun Snd n fst fin n gs w t D ρ K S G σ GG 1)(h4:WgAt ty Wg w st sm)(h1:Go.ConcN.Mode n D .w1 st sm)(h:WM P ty Wg ch (K 0) (MW1 P ty Wg ch Post Anch (K 0)) rk (S 0) a w) :
  ∃ m₁ ops,runT P (crowd gs w sl) 0=(.next m₁,ops)/\((∃ μ',zdU n μ' (phi n (Vc n D) .w1+Ssum n D,ρ,rk)/\MInv P ty Wg ch j0 Shun Snd n fst fin Post Anch μ' m₁ (t++ops))\/zjZ P ty Wg ch j0 Shun Snd n fst fin Post m₁ (t++ops)):=by
 rcases h.cases with h6|⟨f,rfl,a',w',es,S',h5,hD,hg'⟩
 ·obtain⟨_,h7⟩:=h6
  obtain⟨ho,rfl,rfl,_⟩:=h1.open_inv trivial
  have hV:=zme n h2.oldq
  obtain⟨a',h5,h0,h8⟩:=h7 (Vc n D) qg (by simpa [pend] using h4)
  by_cases hv:Vc n D=0
  ·obtain⟨r₂,hk⟩:=h0 hv
   refine zeS h3 ha h2 h5 (.refl Wg w) h4 bk_rd (tag':=.ke) (.ke hk) ?_ (.inl (by simp only[phi];omega))
   have e:((Vc n D+pend .w1:Nat):Int) * KK=0:=by rw[hv];simp[pend]
   rw[e]
   exact .fin trivial (allQuit_of ho hv)
  ·obtain⟨r₂,hk⟩:=h8 hv
   exact zeS h3 ha h2 h5 (.refl Wg w) h4 bk_rd (tag':=.w2 (Vc n D)) (.w2 hk) (h1.reopen trivial trivial rfl (fun vs e=>by cases e;omega)) (.inl (by simp only[phi];omega))
 ·exact zfd h3 ha h2 h4 h1 h5 hD (.w1 hg') ⟨f,w,rfl,rfl⟩
theorem zkB(hf:zdV Snd)(hn:n - j0<2147483648)(hG:∀ K S g w,Anch K S g w->WX P ty Wg ch K (MW1 P ty Wg ch Post Anch K) S g w)(ha:gs[0]?=some a)(hu:zdM P ty Wg ch Snd n fst fin Post Anch (K 0) (S 0) tag j rk d0 a w)(h5:zd5 P ty Wg ch j0 Shun Snd n fst fin j gs w t D ρ K S G σ GG d0)(h9:WgAt ty Wg w st sm)(h7:Go.ConcN.Mode j D tag st sm)(hE:a.status=.running) :
  ∃ m₁ ops,runT P (crowd gs w sl) 0=(.next m₁,ops)/\((∃ μ',zdU n μ' (phi n (Vc j D) tag+Ssum j D,ρ,rk)/\MInv P ty Wg ch j0 Shun Snd n fst fin Post Anch μ' m₁ (t++ops))\/zjZ P ty Wg ch j0 Shun Snd n fst fin Post m₁ (t++ops)):=by
 have hQ:=zme j h5.oldq
 generalize hK:K 0=K0 at hu
 generalize hS:S 0=S0 at hu
 cases hu with
 | skd hr h =>
  subst hK hS
  rcases h.cases with h8|⟨f,rfl,a',w',es,S',h6,hD,hg'⟩
  ·obtain⟨_,a',h6,r₂,hk⟩:=h8
   exact zeS hf ha h5 h6 (.refl Wg w) h9 bk_dis (.sa1 hr hk) (h7.reopen trivial trivial rfl qm) (.inl (by simp only[phi];omega))
  ·exact zfd hf ha h5 h9 h7 h6 hD (.skd hr hg') ⟨f,w,rfl,rfl⟩
 | sa1 hr h =>
  subst hK hS
  rename_i r
  rcases h.cases with h8|⟨f,rfl,a',w',es,S',h6,hD,hg'⟩
  ·obtain⟨_,hj⟩:=h8
   obtain⟨ho,rfl,rfl,_⟩:=h7.open_inv trivial
   obtain⟨a',h6,r₂,hk⟩:=hj (Vc (n - (r+1)) D) qg (by simpa [pend] using h9)
   refine zeS hf ha h5 h6 (aside_setCell w (stA Wg) _) (h9.setSt _) bk_rw (.ske hr hk) ?_ (.inl (by simp only[phi];omega))
   have e:(((Vc (n - (r+1)) D:Nat):Int)+1) * KK=((Vc (n - (r+1)) D+pend (.sp r 3):Nat):Int) * KK:=by simp[pend]
   rw[e]
   exact .opn trivial ho qm
  ·exact zfd hf ha h5 h9 h7 h6 hD (.sa1 hr hg') ⟨f,w,rfl,rfl⟩
 | ske hr h =>
  subst hK hS
  rcases h.cases with h8|⟨f,rfl,a',w',es,S',h6,hD,hg'⟩
  ·obtain⟨_,a',h6,r₂,hk⟩:=h8
   exact zeS hf ha h5 h6 (.refl Wg w) h9 bk_en (.sgo hr hk) (h7.reopen trivial trivial rfl qm) (.inl (by simp only[phi];omega))
  ·exact zfd hf ha h5 h9 h7 h6 hD (.ske hr hg') ⟨f,w,rfl,rfl⟩
 | sgo hr h =>
  subst hK hS
  rename_i r
  rcases h.cases with h8|⟨f,rfl,a',w',es,S',h6,hD,hg'⟩
  ·obtain⟨_,a',child,Kc,rc,hJ,hL,hM,hl⟩:=h8
   obtain⟨ho,rfl,rfl,_⟩:=h7.open_inv trivial
   have hrun':=runT_crowd_spawn (P:=P) (sl:=sl) (i:=0) ha (by simpa using hJ)
   rw[h5.size] at hrun'
   have hg:=h5.spawn qg (a':=a') (x:={ g:=0,fn:=a.frame.fn,pos:=a.frame.place,act:=.go (n - (r+1)+1) }) (y:={ g:=n - (r+1)+1,fn:=child.frame.fn,pos:=a.frame.place,act:=.start }) ⟨rfl,rfl⟩ ⟨rfl,rfl⟩ hL hM
   have eV:Vc (n - (r+1)+1) (upd D (n - (r+1)) ⟨7,0,0⟩)=Vc (n - (r+1)) D+1:=by
    simp only[Vc,sumTo,upd_same]
    rw[sumTo_upd_out D _ cnt (Nat.le_refl _)];rfl
   have eS:Ssum (n - (r+1)+1) (upd D (n - (r+1)) ⟨7,0,0⟩)=Ssum (n - (r+1)) D+7:=by
    simp only[Ssum,sumTo,upd_same]
    rw[sumTo_upd_out D _ WD.stage (Nat.le_refl _)]
   have ho':OpenSt (n - (r+1)+1) (upd D (n - (r+1)) ⟨7,0,0⟩):=fun i hi=>by
    by_cases e:i=n - (r+1)
    ·subst e;rw[upd_same];simp
    ·rw[upd_ne D _ e];exact ho i qg
   have ha':((gs.setIfInBounds 0 a').push child)[0]?=some a':=by
    rw[Array.getElem?_push_lt (by simp[h5.size]),<- Array.getElem?_eq_getElem]
    simp[h5.size]
   have eK:upd (upd K 0 fun c=>K 0 c\/S 0 c) (n - (r+1)+1) Kc 0=fun c=>K 0 c\/S 0 c:=by rw[upd_ne _ _ qg,upd_same]
   have eS0:upd S 0 (fun _=>False) 0=fun _=>False:=upd_same _ _ _
   have ej:n - (r+1)+1=n - r:=qg
   rw[ej] at hrun' hg eV eS ho' eK
   have est:∀ tag',pend tag'=0->((Vc (n - (r+1)) D+pend (.sp r 2):Nat):Int) * KK=((Vc (n - r) (upd D (n - (r+1)) ⟨7,0,0⟩)+pend tag':Nat):Int) * KK:=fun tag' hp=>by rw[eV,hp];simp[pend]
   cases r with
   | zero =>
    obtain⟨r₃,hk⟩:=hl
    simp only[Nat.sub_zero] at hrun' hg eV eS ho' est eK
    refine⟨_,_,hrun',Or.inl ⟨(phi n (Vc n (upd D (n - (0+1)) ⟨7,0,0⟩)) .kd+Ssum n (upd D (n - (0+1)) ⟨7,0,0⟩),_,r₃),Prod.Lex.left _ _ (by simp only[phi];omega),
     _,w,sl,n,_,_,_,_,_,_,_,.kd,r₃,0,a',_,_,rfl,ha',?_,hg,h9,?_,rfl⟩⟩
    ·rw[eK,eS0];exact .kd hk
    ·rw[est .kd rfl]
     exact .opn trivial ho' qm
   | succ r' =>
    obtain⟨r₃,hk⟩:=hl
    refine⟨_,_,hrun',Or.inl ⟨(phi n (Vc (n - (r'+1)) (upd D (n - (r'+1+1)) ⟨7,0,0⟩)) (.sp r' 5)+Ssum (n - (r'+1)) (upd D (n - (r'+1+1)) ⟨7,0,0⟩),_,r₃),Prod.Lex.left _ _ (by simp only[phi];omega),
     _,w,sl,n - (r'+1),_,_,_,_,_,_,_,.sp r' 5,r₃,0,a',_,_,rfl,ha',?_,hg,h9,?_,rfl⟩⟩
    ·rw[eK,eS0];exact .skd qg hk
    ·rw[est (.sp r' 5) rfl]
     exact .opn trivial ho' qm
  ·exact zfd hf ha h5 h9 h7 h6 hD (.sgo hr hg') ⟨f,w,rfl,rfl⟩
 | kd h =>
  subst hK hS
  rcases h.cases with h8|⟨f,rfl,a',w',es,S',h6,hD,hg'⟩
  ·obtain⟨_,a',h6,r₂,hk⟩:=h8
   exact zeS hf ha h5 h6 (.refl Wg w) h9 bk_dis (.anch hk) (h7.reopen trivial trivial rfl qm) (.inl (by simp only[phi];omega))
  ·exact zfd hf ha h5 h9 h7 h6 hD (.kd hg') ⟨f,w,rfl,rfl⟩
 | anch h =>
  subst hK hS
  rcases h.cases with h8|⟨f,rfl,a',w',es,S',h6,hD,hg'⟩
  ·obtain⟨r₂,hk⟩:=hG _ _ a w h8
   obtain⟨m₁,ops,h1,h2⟩:=mw1 (sl:=sl) hf hn ha h5 h9 (h7.reopen trivial trivial rfl qm) hk
   refine⟨m₁,ops,h1,h2.imp (fun ⟨μ',x,y⟩=>⟨μ',ztE x (by simp only[phi];omega),y⟩) id⟩
  ·exact zfd hf ha h5 h9 h7 h6 hD (.anch hg') ⟨f,w,rfl,rfl⟩
 | w1 h =>
  subst hK hS
  exact mw1 hf hn ha h5 h9 h7 h
 | w2 h =>
  subst hK hS
  rename_i vs
  rcases h.cases with h8|⟨f,rfl,a',w',es,S',h6,hD,hg'⟩
  ·obtain⟨_,hj⟩:=h8
   obtain⟨ho,rfl,rfl,hN⟩:=h7.open_inv trivial
   obtain⟨hT,h1⟩:=hN vs rfl
   obtain⟨hF,hw⟩:=hj (Vc n D) qg (by simpa [pend] using h9)
   by_cases e:Vc n D=vs
   ·obtain⟨a',h6,r₂,hk⟩:=hF e
    exact zeS hf ha h5 h6 (aside_setCell w (stA Wg) _) (h9.setSt _) bk_rw (.w3 hk) (.reg trivial ho qg) (.inl (by simp only[phi];omega))
   ·obtain⟨a',h6,r₂,hk⟩:=hw e
    exact zeS hf ha h5 h6 (.refl Wg w) h9 bk_rd (.anch hk) (h7.reopen trivial trivial rfl qm) (.inl (by simp only[phi];omega))
  ·exact zfd hf ha h5 h9 h7 h6 hD (.w2 hg') ⟨f,w,rfl,rfl⟩
 | @w3 r0 _ _ h =>
  subst hK hS
  rcases h.cases' with h8|⟨f,rfl,a',w',es,S',h6,hD,hg'⟩
  ·obtain⟨_,hP,hs,hz⟩:=h8 w (zaW.refl w)
   obtain⟨x,hx⟩:=zn0 r0 w
   cases h7 with
   | opn h1 _ _=>exact h1.elim
   | reg h1 h2 h3=>exact zeS hf ha h5 (hs ⟨_,h9⟩) (.refl Wg w) h9 qm (.blk (rk:=x) h8) (.reg trivial h2 h3) (.inr ⟨rfl,hx⟩)
   | last L h1 h2 h3 h4=>exact zeS hf ha h5 (hs ⟨_,h9⟩) (.refl Wg w) h9 qm (.blk (rk:=x) h8) (.last L trivial h2 h3 h4) (.inr ⟨rfl,hx⟩)
   | sema h2 =>
    obtain⟨a',h6,r₂,hk⟩:=hz h9
    exact zeS hf ha h5 h6 (aside_setCell w (smA Wg) _) (h9.setSm 0) bk_sem (.w4 hk) (.fin trivial h2) (.inl (by simp only[phi];omega))
   | fin h1 _=>exact h1.elim
  ·exact zfd hf ha h5 h9 h7 h6 hD (.w3 hg') (znZ f w)
 | blk h=>simp at hE
 | w4 h =>
  subst hK hS
  rcases h.cases with h8|⟨f,rfl,a',w',es,S',h6,hD,hg'⟩
  ·obtain⟨_,hx⟩:=h8
   obtain⟨hq,rfl,rfl⟩:=h7.fin_inv trivial
   obtain⟨a',h6,r₂,hk⟩:=hx h9
   exact zeS hf ha h5 h6 (.refl Wg w) h9 bk_rd (.ke hk) (.fin trivial hq) (.inl (by simp only[phi];omega))
  ·exact zfd hf ha h5 h9 h7 h6 hD (.w4 hg') ⟨f,w,rfl,rfl⟩
 | ke h =>
  subst hK hS
  rcases h.cases with h8|⟨f,rfl,a',w',es,S',h6,hD,hg'⟩
  ·obtain⟨_,a',h6,r₂,hk⟩:=h8
   obtain⟨hq,rfl,rfl⟩:=h7.fin_inv trivial
   exact zeS hf ha h5 h6 (.refl Wg w) h9 bk_en (.acq hk) (.fin trivial hq) (.inl (by simp only[phi];omega))
  ·exact zfd hf ha h5 h9 h7 h6 hD (.ke hg') ⟨f,w,rfl,rfl⟩
 | acq h =>
  subst hK hS
  rcases h.cases with h8|⟨f,rfl,a',w',es,S',h6,hD,hg'⟩
  ·obtain⟨_,a',h6,hA⟩:=h8
   obtain⟨hq,rfl,rfl⟩:=h7.fin_inv trivial
   have hrun':=runT_crowd_go (P:=P) (sl:=sl) (i:=0) ha (by simpa using h6)
   have hg:=h5.step0 hf (g:=a) (g':=a') (fn:=a.frame.fn) (pos:=a.frame.place) (es:=#[mk (.acquire (stA Wg))]) (S':=S 0) (Nat.le_refl _) (fun _ x=>x) (fun _ x=>Or.inl x) (fun _ _ _ _=>rfl) rfl rfl rfl ⟨_,_,h9⟩
    (by intro e he;simp at he;subst he;exact Or.inr ⟨fun x hx=>by simp[mk,MemAct.ofEvent,MemAct.touch?] at hx,by simp[mk],by simp[mk,MemAct.ofEvent,MemAct.low,stA]⟩)
   have e1:MemOp.ofEvents 0 a.frame.fn a.frame.place #[mk (.acquire (stA Wg))]=#[{ g:=0,fn:=a.frame.fn,pos:=a.frame.place,act:=.mark (.acquire (stA Wg)) }]:=by rw[ofEvents_eq];simp[ofEvent_mk]
   have hy:(t++#[({ g:=0,fn:=a.frame.fn,pos:=a.frame.place,act:=.mark (.acquire (stA Wg)) }:MemOp)])[t.size]?=some { g:=0,fn:=a.frame.fn,pos:=a.frame.place,act:=.mark (.acquire (stA Wg)) }:=qm
   refine⟨_,_,hrun',Or.inr ⟨_,w,sl,D,ρ,K,_,G,σ,GG,a',rfl,get_map_set_same _ _ _ (by rw[h5.size];omega),?_,hg,h9,hq,t.size,by rw[e1,act?_of hy],by rw[e1];simp[Trace.g?],by rw[e1];exact⟨0,by simp[Trace.g?],by rw[deaf_old (Nat.le_refl _)];exact h5.deaf0⟩,fun i h0 hi=>?_⟩⟩
   ·rw[upd_same];exact hA
   ·obtain⟨r,hr⟩:=h5.rel i h0 hi (by rw[hq i hi];omega)
    exact⟨r,hr.appOther g_of_ofEvents qg,lt_of_act? hr.act⟩
  ·exact zfd hf ha h5 h9 h7 h6 hD (.acq hg') ⟨f,w,rfl,rfl⟩
end
section
variable{P:Program}{ty:TypeId}{Wg ch j0:Nat}{Shun:Np}[Payload]{Snd:Nat->Np->Value->Wq}{n:Nat}{fst fin:Nat->Nat}{Post Anch:Np->St}{gs:Array Goroutine}{w w':World}{sl:Option (Nat × Nat)}{j:Nat}{t:Trace}{D:Nat->WD}{ρ:Nat->Rk}{K S G:Nat->Np}{σ:Nat->Nat}{GG:Nat->Np}{tag tag':CTag}{rk rk':Rk}{d0:Nat}{a a':Goroutine}{st sm st' sm':Int}{es:Array Event}
omit [Payload] in
theorem zpv(K S:Np)(w:World)(d:Nat):zaW (zal ty Wg ch) K S w (w.at d):=⟨Nat.le_refl _,fun _ _=>rfl,rfl,rfl,rfl,fun h=>h⟩
theorem zd5.at(h:zd5 P ty Wg ch j0 Shun Snd n fst fin j gs w t D ρ K S G σ GG d0)(h0:zdV Snd)(d:Nat):zd5 P ty Wg ch j0 Shun Snd n fst fin j gs (w.at d) t D ρ K S G σ GG d0:=by
 refine⟨h.size,h.old,h.fresh,h.oldq,h.naught,fun i hi=>?_,h.ap,h.ct,h.tr,h.lt,h.sg,h.shl,h.live,h.lv,h.deaf0,h.deafW,h.above,h.rel,?_,h.bnd,h.gg,h.ggd⟩
 ·obtain⟨g,hg,hs⟩:=h.wk i hi
  exact⟨g,hg,hs.rely (zpv _ _ w d) h.live⟩
 ·obtain⟨cap,buf,s,r,tm,hc,h1,h2,h3⟩:=h.chan
  refine⟨cap,buf,s,r,tm,hc,h1,fun x hx=>?_,fun i m a b c e=>?_⟩
  ·obtain⟨i,m,x1,x2,x3,x4,x5⟩:=h2 x hx
   exact⟨i,m,x1,x2,x3,x4,h0 _ _ _ w _ (fun _ _=>rfl) x5⟩
  ·obtain⟨x,hx,hy⟩:=h3 i m a b c e
   exact⟨x,hx,h0 _ _ _ w _ (fun _ _=>rfl) hy⟩
theorem zus(h6:∀ K S g w,Anch K S g w->g.status=.running)(ha:gs[0]?=some a)(h7:zdM P ty Wg ch Snd n fst fin Post Anch (K 0) (S 0) tag j rk d0 a w)(h0:zd5 P ty Wg ch j0 Shun Snd n fst fin j gs w t D ρ K S G σ GG d0)(h4:Go.ConcN.Mode j D tag st sm) :
  ∃ (i:Nat) (g:Goroutine),gs[i]?=some g/\g.status=.running:=by
 rcases h7.status h6 with ⟨hs,_⟩|⟨_,_,rfl⟩
 ·exact⟨0,a,ha,hs⟩
 ·cases h4 with
  | opn h1 _ _=>exact h1.elim
  | reg _ _ h3 =>
   obtain⟨i,hi,h5⟩:=exists_counted h3
   obtain⟨g,hg,hs⟩:=h0.wk i hi
   exact⟨i+1,g,hg,hs.running qg⟩
  | last L _ h2 h3 _ =>
   obtain⟨g,hg,hs⟩:=h0.wk L h2
   exact⟨L+1,g,hg,hs.running qg⟩
  | fin h1 _=>exact h1.elim
theorem ztD(h1:∀ K S g w,Anch K S g w->g.status=.running)(ha:gs[0]?=some a)(h2:zdM P ty Wg ch Snd n fst fin Post Anch (K 0) (S 0) tag j rk d0 a w)(h0:zd5 P ty Wg ch j0 Shun Snd n fst fin j gs w t D ρ K S G σ GG d0):∀ g∈gs,awake g:=by
 intro g hg tm
 obtain⟨i,hi⟩:=Array.mem_iff_getElem?.1 hg
 cases i with
 | zero =>
  rw[ha] at hi;cases hi
  rcases h2.status h1 with ⟨hs,_⟩|⟨hs,_⟩ <;> rw[hs] <;> simp
 | succ i =>
  have h3:i<j:=by have:=(gei hi).1;rw[h0.size] at this;omega
  obtain⟨g',hg',hs⟩:=h0.wk i h3
  rw[hi] at hg';cases hg'
  rcases hs.status with h|h <;> rw[h] <;> simp
theorem zmW(h5:zdV Snd)(hR:Rng n fst fin)(hn:n - j0<2147483648)(h7:∀ K S g w,Anch K S g w->g.status=.running)(he:∀ K S g w,Anch K S g w->WX P ty Wg ch K (MW1 P ty Wg ch Post Anch K) S g w) :
  ∀ μ m t,MInv P ty Wg ch j0 Shun Snd n fst fin Post Anch μ m t->∃ m' ops,stepT P m=(.next m',ops)/\((∃ μ',zdU n μ' μ/\MInv P ty Wg ch j0 Shun Snd n fst fin Post Anch μ' m' (t++ops))\/zjZ P ty Wg ch j0 Shun Snd n fst fin Post m' (t++ops)):=by
 rintro μ m t ⟨gs,w,sl,j,D,ρ,K,S,G,σ,GG,tag,rk,d0,a,st,sm,rfl,ha,h8,h4,hf,h0,rfl⟩
 obtain⟨i,g,d,sl',hg,h6,h9⟩:=crowd_pick (P:=P) (w:=w) (sl:=sl) (ztD h7 ha h8 h4) (zus h7 ha h8 h4 h0)
 rw[h9]
 have hcs':=h8.rely (zpv (ty:=ty) (Wg:=Wg) (ch:=ch) (K 0) (S 0) w d)
 have hcom':=h4.at h5 d
 have hwg':WgAt ty Wg (w.at d) st sm:=hf
 cases i with
 | zero =>
  rw[ha] at hg;cases hg
  exact zkB (sl:=sl') h5 hn he ha hcs' hcom' hwg' h0 h6
 | succ i =>
  have hi:i<j:=by have:=(gei hg).1;rw[h4.size] at this;omega
  obtain⟨m₁,ops,μ',h1,h2,h3⟩:=zkC (sl:=sl') h5 hR h7 hn ha hcs' hcom' hwg' h0 hi hg h6
  exact⟨m₁,ops,h1,Or.inl ⟨μ',h2,h3⟩⟩
theorem zmV(h0:zdV Snd)(hR:Rng n fst fin)(hn:n - j0<2147483648)(h3:∀ K S g w,Anch K S g w->g.status=.running)(h4:∀ K S g w,Anch K S g w->WX P ty Wg ch K (MW1 P ty Wg ch Post Anch K) S g w) :
  ∀ μ m t,MInv P ty Wg ch j0 Shun Snd n fst fin Post Anch μ m t->∃ N m' t',runNT P N m t=(.next m',t')/\zjZ P ty Wg ch j0 Shun Snd n fst fin Post m' t':=by
 intro μ
 induction μ using (ztF n).induction with
 | _ μ ih =>
  intro m t hI
  obtain⟨m',ops,hs,h|h⟩:=zmW h0 hR hn h3 h4 μ m t hI
  ·obtain⟨μ',hl,hI'⟩:=h
   obtain⟨N,m'',t'',h1,h2⟩:=ih μ' hl m' (t++ops) hI'
   exact⟨N+1,m'',t'',by rw[runNT_succ_next hs];exact h1,h2⟩
  ·exact⟨1,m',t++ops,by rw[runNT_succ_next hs];rfl,h⟩
