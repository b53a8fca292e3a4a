/- Part. -/
import Derived.Test.YtefakaeblcafmaaGreatNZz
import Derived.Calls
import Derived.Laws.Sem
import Derived.Conc.Listed
namespace Go.Proofs.YtefakaeblcafmaaGreat
variable{a a':Addr}{ps ps':Array (Nat × Value)}{es es1:Array Event}{ts:Array TypeId}{as as' c c' t':Array Value}{b:Bool}{d d':Deferred}{e:Event}{fr fr' fr1:Frame}{FinP:Frame->World->Prop}{fn':Func}{f:FuncId}{X:FuncId->Prop}{st:GoStatus}{g:Goroutine}{l l':List (Nat × Value)}{base cs cs' cs1 csx rest:List Frame}{N i n r r' σ:Nat}{Stop2:Nat->(Nat->Prop)->Goroutine->World->Prop}{Snd2:Nat->(Nat->Prop)->Value->World->Prop}{K' Lv S S₀:Nat->Prop}{o o':Obj}{ρ ρ':Operand->Value}{hi hi' lo lo' mx mx':Option Value}{P:Program}{m name:String}{s t:TypeId}{k k' u v v' x x' y y':Value}{Post:Value->World->Prop}{w w' w1 w1' w2 w₁:World}
section
open Go
def xAr(f:Nat):Option Nat:=([(22,1)]:List (Nat × Nat)).lookup f
def zoK(f n:Nat):Bool:=match xAr f with
 | none=>true
 | some k=>n == k
def zeR:Bool:=false
theorem zdT{f:Nat}(h:(xAr f).isNone=true)(n:Nat):zoK f n=true:=by
 unfold zoK
 cases hx:xAr f with
 | none=>rfl
 | some k=>rw[hx] at h;cases h
abbrev BR:=Nat->Nat->Prop
def BR.One(R:BR):Prop:=(∀ b c c',R b c->R b c'->c=c')/\(∀ b b' c,R b c->R b' c->b=b')
def BR.le(R R':BR):Prop:=(∀ b c,R b c->R' b c)/\(R.One->R'.One)
theorem BR.le_refl(R:BR):R.le R:=⟨fun _ _ h=>h,fun h=>h⟩
theorem BR.le_trans{R R' R'':BR}(h:R.le R')(h':R'.le R''):R.le R'':=⟨fun b c x=>h'.1 b c (h.1 b c x),fun x=>h'.2 (h.2 x)⟩
def BR.more(R:BR)(x y:Nat):BR:=fun b c=>R b c\/(b=x/\c=y)
def zbM(R:BR)(a c:Addr):Prop:=R a.block c.block/\a.off=c.off/\a.spot=c.spot
theorem zbM.mono{R R':BR}(hR:R.le R'){c:Addr}(h:zbM R a c):zbM R' a c:=⟨hR.1 _ _ h.1,h.2⟩
def zm2:Fn->Bool
 | .func f=>(xAr f).isNone
 | .via _ path f _=>path.isEmpty && (xAr f).isNone
 | _=>false
def zfg:Value->Bool
 | .bool _|.int _ _|.string _|.agg _|.tuple _|.iface _ _|.nilIface|.pointer none|.nilFunc|.func (.method _) _ _=>false
 | _=>true
inductive zaj(R:BR):Value->Value->Prop
 | bool (b:Bool):zaj R (.bool b) (.bool b)
 | int (k:IntKind) (n:Int):zaj R (.int k n) (.int k n)
 | string (s:ByteArray):zaj R (.string s) (.string s)
 | ptr {a c:Addr}:zbM R a c->zaj R (.pointer (some a)) (.pointer (some c))
 | nilPtr:zaj R (.pointer none) (.pointer none)
 | slice {a c:Addr} (n m:Nat):zbM R a c->zaj R (.slice (some a) n m) (.slice (some c) n m)
 | nilSlice (n m:Nat):zaj R (.slice none n m) (.slice none n m)
 | empty (a c:Addr):zaj R (.slice (some a) 0 0) (.slice (some c) 0 0)
 | map {r s:Nat}:R r s->zaj R (.map (some r)) (.map (some s))
 | nilMap:zaj R (.map none) (.map none)
 | nilChan:zaj R (.chan none) (.chan none)
 | func (fn:Fn) {f f' c c':Array Value}:zm2 fn=true->f.size=f'.size->(∀ i (h:i<f.size) (h':i<f'.size),zaj R f[i] f'[i])->c.size=c'.size->(∀ i (h:i<c.size) (h':i<c'.size),zaj R c[i] c'[i])->zaj R (.func fn f c) (.func fn f' c')
 | nilFunc:zaj R .nilFunc .nilFunc
 | iface (t:TypeId) {v v':Value}:zaj R v v'->zaj R (.iface t v) (.iface t v')
 | nilIface:zaj R .nilIface .nilIface
 | agg {c c':Array Value}:c.size=c'.size->(∀ i (h:i<c.size) (h':i<c'.size),zaj R c[i] c'[i])->zaj R (.agg c) (.agg c')
 | junkM {n n':String} {f c:Array Value}:zeR=false->zaj R (.func (.method n) #[.nilIface] #[]) (.func (.method n') f c)
 | junk {v':Value}:zeR=false->zfg v'=true->zaj R (.tuple #[]) v'
 | tuple {c c':Array Value}:c.size=c'.size->(∀ i (h:i<c.size) (h':i<c'.size),zaj R c[i] c'[i])->zaj R (.tuple c) (.tuple c')
theorem zaj.mono{R R':BR}(hR:R.le R')(h:zaj R v v'):zaj R' v v':=by
 induction h with
 | bool b=>exact .bool b
 | int k n=>exact .int k n
 | string s=>exact .string s
 | ptr h=>exact .ptr (h.mono hR)
 | nilPtr=>exact .nilPtr
 | slice n m h=>exact .slice n m (h.mono hR)
 | nilSlice n m=>exact .nilSlice n m
 | empty a c=>exact .empty a c
 | map h=>exact .map (hR.1 _ _ h)
 | nilMap=>exact .nilMap
 | nilChan=>exact .nilChan
 | func fn h0 h1 _ h3 _ i1 i2=>exact .func fn h0 h1 i1 h3 i2
 | nilFunc=>exact .nilFunc
 | iface t _ i=>exact .iface t i
 | nilIface=>exact .nilIface
 | agg h1 _ i=>exact .agg h1 i
 | junkM h0=>exact .junkM h0
 | junk h0 h=>exact .junk h0 h
 | tuple h1 _ i=>exact .tuple h1 i
def zat(R:BR)(c c':Array Value):Prop:=c.size=c'.size/\∀ i (h:i<c.size) (h':i<c'.size),zaj R c[i] c'[i]
theorem zat.mono{R R':BR}(hR:R.le R')(h:zat R c c'):zat R' c c':=⟨h.1,fun i a b=>(h.2 i a b).mono hR⟩
structure zoD(R:BR)(e e':MapEntry):Prop where
 key:zaj R e.key e'.key
 val:zaj R e.val e'.val
 born:e.born=e'.born
def zcJ(R:BR)(c c':Array MapEntry):Prop:=c.size=c'.size/\∀ i (h:i<c.size) (h':i<c'.size),zoD R c[i] c'[i]
theorem zoD.mono{R R':BR}(hR:R.le R'){e e':MapEntry}(h:zoD R e e'):zoD R' e e':=⟨h.key.mono hR,h.val.mono hR,h.born⟩
theorem zcJ.mono{R R':BR}(hR:R.le R'){c c':Array MapEntry}(h:zcJ R c c'):zcJ R' c c':=⟨h.1,fun i a b=>(h.2 i a b).mono hR⟩
inductive zoF(R:BR):Obj->Obj->Prop
 | map {c c':Array MapEntry} {n:Nat}:zcJ R c c'->zoF R (.map c n) (.map c' n)
 | hid {c':Array MapEntry} {n:Nat}:zoF R (.coro none) (.map c' n)
 | number {a a':Addr} {l:Bool}:zbM R a a'->zoF R (.number a l) (.number a' l)
theorem zoF.mono{R R':BR}(hR:R.le R')(h:zoF R o o'):zoF R' o o':=by
 cases h with
 | map h=>exact .map (h.mono hR)
 | hid=>exact .hid
 | number h=>exact .number (h.mono hR)
inductive zox(R:BR)(ro:Prop):Obj->Obj->Prop
 | cells {c c':Array Value} {e:TypeId} {f f':Nat × Nat}:zat R c c'->(ro->∀ i,i<c.size->f.1<=i/\i<f.2)->(¬ ro->f=f')->zox R ro (.cells c e f) (.cells c' e f')
 | other {o o':Obj}:zoF R o o'->(∀ c n,o=.map c n->¬ ro)->zox R ro o o'
theorem zox.mono{R R':BR}(hR:R.le R'){ro:Prop}(h:zox R ro o o'):zox R' ro o o':=by
 cases h with
 | cells h1 h2 h3=>exact .cells (h1.mono hR) h2 h3
 | other h1 h2=>exact .other (h1.mono hR) h2
inductive zqs:Halt->Prop
 | panic (v:Value):zqs (.panic v)
 | unsupported (u:Unsupported):zqs (.unsupported u)
 | stuck (s:String):zqs (.stuck s)
class zk5(h:Halt):Prop where
 soft:zqs h
instance (v:Value):zk5 (.panic v):=⟨.panic v⟩
instance (u:Unsupported):zk5 (.unsupported u):=⟨.unsupported u⟩
instance (s:String):zk5 (.stuck s):=⟨.stuck s⟩
def zct{α:Type}(P:Program)(s:Sem α):Prop:=∀ w,∃ h w',s.run P w=.halt h w'/\zqs h
class zaH{α:Type}(P:Program)(s:Sem α):Prop where
 soft:∀ w h w',s.run P w=.halt h w'->zqs h
class zay where
 low:Nat
inductive zae[low:zay]{α:Type}(L M:Program)(Q:BR->α->α->Prop):BR->Sem α->Sem α->Prop
 | pure {R:BR} {a a':α}:Q R a a'->zae L M Q R (.pure a) (.pure a')
 | load {R:BR} {a a':Addr} {k k':Value->Sem α}:zbM R a a'->(∀ R':BR,R.le R'->∀ v v',zaj R' v v'->zae L M Q R' (k v) (k' v'))->zae L M Q R (.load .plain a k) (.load .plain a' k')
 | store {R:BR} {a a':Addr} {v v':Value} {k k':Sem α}:zbM R a a'->zaj R v v'->zae L M Q R k k'->zae L M Q R (.store .plain a v k) (.store .plain a' v' k')
 | new {R:BR} {o o':Obj} {k k':Nat->Sem α}:zox R False o o'->(∀ R':BR,R.le R'->∀ r r',R' r r'->zae L M Q R' (k r) (k' r'))->zae L M Q R (.new o k) (.new o' k')
 | shape {R:BR} {r r':Nat} {k k':Option (TypeId × Nat)->Sem α}:R r r'->(∀ s,zae L M Q R (k s) (k' s))->zae L M Q R (.shape r k) (.shape r' k')
 | getObj {R:BR} {r r':Nat} {k k':Obj->Sem α}:R r r'->(∀ R':BR,R.le R'->∀ o o',zoF R' o o'->(∀ c n,o=.map c n->low.low<=r)->zae L M Q R' (k o) (k' o'))->zae L M Q R (.getObj r k) (.getObj r' k')
 | setObj {R:BR} {r r':Nat} {c c':Array MapEntry} {n:Nat} {k k':Sem α}:low.low<=r->R r r'->zcJ R c c'->zae L M Q R k k'->zae L M Q R (.setObj r (.map c n) k) (.setObj r' (.map c' n) k')
 | choose {R:BR} {q:Question} {k k':Nat->Sem α}:(∀ n,zae L M Q R (k n) (k' n))->zae L M Q R (.choose q k) (.choose q k')
 | program {R:BR} {k k':Program->Sem α}:zae L M Q R (k L) (k' M)->zae L M Q R (.program k) (.program k')
 | mark {R:BR} {k k':Sem α}:zae L M Q R k k'->zae L M Q R (.mark .noRoom k) (.mark .noRoom k')
 | never {R:BR} {s s':Sem α}:zct L s->zae L M Q R s s'
theorem zae.halt[low:zay]{α:Type}{L M:Program}{Q:BR->α->α->Prop}{R:BR}{h:Halt}[S:zk5 h]{s:Sem α}:zae L M Q R (.halt h) s:=.never (fun w=>⟨h,w,rfl,S.soft⟩)
theorem zao{α β:Type}{s:Sem α}{f:α->Sem β}(h:zct P s):zct P (s.bind f):=by
 intro w
 obtain⟨hh,w',e,hs⟩:=h w
 have e2:=Sem.run_bind' P s f w
 rw[e] at e2
 exact⟨hh,w',e2,hs⟩
theorem zct.not{α:Type}{s:Sem α}(h:zct P s){x:α} :s.run P w≠.ok x w':=by
 obtain⟨hh,w2,e,_⟩:=h w
 rw[e]
 intro q
 cases q
theorem zae.imp[low:zay]{α:Type}{L M:Program}{Q Q':BR->α->α->Prop}(hQ:∀ R a a',Q R a a'->Q' R a a'){R:BR}{s s':Sem α}(h:zae L M Q R s s'):zae L M Q' R s s':=by
 induction h with
 | pure h=>exact .pure (hQ _ _ _ h)
 | load h _ ih=>exact .load h ih
 | store h hv _ ih=>exact .store h hv ih
 | new h _ ih=>exact .new h ih
 | shape h _ ih=>exact .shape h ih
 | getObj h _ ih=>exact .getObj h ih
 | setObj hx h hc _ ih=>exact .setObj hx h hc ih
 | choose _ ih=>exact .choose ih
 | program _ ih=>exact .program ih
 | mark _ ih=>exact .mark ih
 | never h=>exact .never h
theorem zae.bind[low:zay]{α β:Type}{L M:Program}{Q:BR->α->α->Prop}{Q':BR->β->β->Prop}{R:BR}{s s':Sem α}{f f':α->Sem β}(h:zae L M Q R s s')(hf:∀ R':BR,R.le R'->∀ a a',Q R' a a'->zae L M Q' R' (f a) (f' a')):zae L M Q' R (s.bind f) (s'.bind f'):=by
 induction h with
 | pure h=>exact hf _ (BR.le_refl _) _ _ h
 | load h _ ih=>exact .load h (fun R' hR v v' hv=>ih R' hR v v' hv (fun R'' hR''=>hf R'' (BR.le_trans hR hR'')))
 | store h hv _ ih=>exact .store h hv (ih hf)
 | new h _ ih=>exact .new h (fun R' hR r r' hr=>ih R' hR r r' hr (fun R'' hR''=>hf R'' (BR.le_trans hR hR'')))
 | shape h _ ih=>exact .shape h (fun s=>ih s hf)
 | getObj h _ ih=>exact .getObj h (fun R' hR o o' hc hn=>ih R' hR o o' hc hn (fun R'' hR''=>hf R'' (BR.le_trans hR hR'')))
 | setObj hx h hc _ ih=>exact .setObj hx h hc (ih hf)
 | choose _ ih=>exact .choose (fun n=>ih n hf)
 | program _ ih=>exact .program (ih hf)
 | mark _ ih=>exact .mark (ih hf)
 | never h=>exact .never (zao h)
structure za9(N:Nat)(R:BR)(w w':World):Prop where
 one:R.One
 blk:∀ b c,R b c->∃ o o',w.heap[b]?=some o/\w'.heap[c]?=some o'/\zox R (b<N) o o'
 tape:w.tape=w'.tape
 drawn:w.drawn=w'.drawn
 low:N<=w.heap.size
theorem za9.lt{R:BR}(h:za9 N R w w'){b c:Nat}(hb:R b c):b<w.heap.size/\c<w'.heap.size:=by
 obtain⟨o,o',e1,e2,_⟩:=h.blk b c hb
 exact⟨(gei e1).1,(gei e2).1⟩
structure zew(N:Nat)(R R':BR)(w w' w1 w1':World):Prop where
 le:R.le R'
 rel:za9 N R' w1 w1'
 new:∀ b c,R' b c->R b c\/(w.heap.size<=b/\w'.heap.size<=c)
 size:w'.heap.size<=w1'.heap.size
 sizeL:w.heap.size<=w1.heap.size
 kept:∀ c,c<w'.heap.size->(∀ b,R b c->b<N)->w1'.heap[c]?=w'.heap[c]?
 tp:w1'.tape=w'.tape
 os:w1'.os=w'.os
 out:w1'.output=w'.output
theorem zew.refl{R:BR}(h:za9 N R w w'):zew N R R w w' w w':=⟨BR.le_refl R,h,fun _ _ x=>Or.inl x,Nat.le_refl _,Nat.le_refl _,fun _ _ _=>rfl,rfl,rfl,rfl⟩
theorem zew.trans{R R' R'':BR}{w2':World}(h:zew N R R' w w' w1 w1')(h2:zew N R' R'' w1 w1' w2 w2'):zew N R R'' w w' w2 w2':=by
 refine⟨BR.le_trans h.le h2.le,h2.rel,fun b c x=>?_,Nat.le_trans h.size h2.size,Nat.le_trans h.sizeL h2.sizeL,fun c hc hn=>?_,h2.tp.trans h.tp,h2.os.trans h.os,h2.out.trans h.out⟩
 ·rcases h2.new b c x with y|y
  ·exact h.new b c y
  ·exact Or.inr ⟨Nat.le_trans h.sizeL y.1,Nat.le_trans h.size y.2⟩
 ·rw[h2.kept c (nll hc h.size) (fun b x=>?_)]
  ·exact h.kept c hc hn
  ·rcases h.new b c x with y|y
   ·exact hn b y
   ·omega
theorem za9.cell{R:BR}(h:za9 N R w w'){c:Addr}(ha:zbM R a c)(hv:w.cell? a=some v):∃ v',w'.cell? c=some v'/\zaj R v v':=by
 obtain⟨h1,h2,h3⟩:=ha
 obtain⟨o,o',e1,e2,ho⟩:=h.blk _ _ h1
 cases ho with
 | @cells x y e f f' hr _ _ =>
  obtain⟨hs,hr⟩:=hr
  unfold World.cell? at hv ⊢
  rw[e1] at hv
  rw[e2]
  simp only at hv ⊢
  rw[<- h3,<- h2]
  by_cases hsp:a.spot.isSome=true
  ·rw[if_pos hsp] at hv;cases hv
  ·rw[if_neg hsp] at hv ⊢
   obtain⟨hi,rfl⟩:=gei hv
   have hi':a.off<y.size:=by rw[<- hs];exact hi
   exact⟨y[a.off],Array.getElem?_eq_getElem hi',hr _ hi hi'⟩
 | other hj _ =>
  unfold World.cell? at hv
  rw[e1] at hv
  cases hj <;> simp at hv
theorem zmJ(h:w.cell? a=some v):∃ c e f,w.heap[a.block]?=some (.cells c e f)/\a.off<c.size/\a.spot.isSome=false:=by
 unfold World.cell? at h
 split at h
 ·rename_i c e f hc
  split at h
  ·cases h
  ·rename_i hs
   exact⟨c,e,f,hc,(gei h).1,by simpa using hs⟩
 ·cases h
theorem za9.mine{R:BR}(h:za9 N R w w'){c:Addr}(ha:zbM R a c)(hv:w.cell? a=some v)(hf:w.frozen? a=false):N<=a.block/\w'.frozen? c=false:=by
 obtain⟨h1,h2,h3⟩:=ha
 obtain⟨x,e,f,e1,hlt,_⟩:=zmJ hv
 obtain⟨o,o',e1',e2,ho⟩:=h.blk _ _ h1
 rw[e1] at e1'
 cases e1'
 cases ho with
 | other hj _=>cases hj
 | cells hr h4 h5 =>
  obtain⟨f1,f2⟩:=f
  have hN:N<=a.block:=by
   apply Nat.le_of_not_lt
   intro hlt'
   have hh:=h4 hlt' _ hlt
   simp only[World.frozen?,e1] at hf
   simp only[Bool.and_eq_false_iff,decide_eq_false_iff_not] at hf
   omega
  refine⟨hN,?_⟩
  have e5:=h5 qg
  subst e5
  simp only[World.frozen?,e1] at hf
  simp only[World.frozen?,e2,<- h2]
  exact hf
theorem za9.shp{R:BR}(h:za9 N R w w'){s:Nat}(hr:R r s):w.shape? r=w'.shape? s:=by
 obtain⟨o,o',e1,e2,ho⟩:=h.blk _ _ hr
 cases ho with
 | cells hr _ _=>simp only[World.shape?,e1,e2,hr.1]
 | other hj _=>cases hj <;> simp only[World.shape?,e1,e2]
theorem zat.set{R:BR}{x y:Array Value}(h:zat R x y)(i:Nat)(hv:zaj R v v'):zat R (x.setIfInBounds i v) (y.setIfInBounds i v'):=by
 refine⟨by simpa using h.1,fun j h1 h2=>?_⟩
 simp only[Array.size_setIfInBounds] at h1 h2
 rw[Array.getElem_setIfInBounds h1,Array.getElem_setIfInBounds h2]
 split
 ·exact hv
 ·exact h.2 j h1 h2
theorem zew.store{R:BR}(h:za9 N R w w'){c:Addr}(ha:zbM R a c)(hN:N<=a.block)(hv:zaj R v v'):zew N R R w w' (w.setCell a v) (w'.setCell c v'):=by
 have hrel:za9 N R (w.setCell a v) (w'.setCell c v'):=by
  obtain⟨h1,h2,h3⟩:=ha
  refine⟨h.one,fun b d hbd=>?_,h.tape,h.drawn,by simpa [World.setCell] using h.low⟩
  by_cases e:a.block=b
  ·subst e
   have ed:c.block=d:=h.one.1 _ _ _ h1 hbd
   subst ed
   obtain⟨o,o',e1,e2,ho⟩:=h.blk _ _ h1
   cases ho with
   | @cells x y e f f' hr h4 h5 =>
    refine⟨.cells (if a.spot.isSome then x else x.setIfInBounds a.off v) e f,.cells (if c.spot.isSome then y else y.setIfInBounds c.off v') e f',by simp[World.setCell,Array.getElem?_modify,e1],by simp[World.setCell,Array.getElem?_modify,e2],.cells ?_ ?_ h5⟩
    ·rw[<- h3,<- h2]
     split
     ·exact hr
     ·exact hr.set _ hv
    ·intro hro
     omega
   | @other o o' hj h4=>exact⟨o,o',by cases hj <;> simp[World.setCell,Array.getElem?_modify,e1],by cases hj <;> simp[World.setCell,Array.getElem?_modify,e2],.other hj h4⟩
  ·have ed:¬ c.block=d:=fun q=>e (h.one.2 _ _ _ h1 (by rw[q];exact hbd))
   have g1:(w.setCell a v).heap[b]?=w.heap[b]?:=by simp[World.setCell,Array.getElem?_modify,e]
   have g2:(w'.setCell c v').heap[d]?=w'.heap[d]?:=by simp[World.setCell,Array.getElem?_modify,ed]
   rw[g1,g2]
   exact h.blk _ _ hbd
 refine⟨BR.le_refl _,hrel,fun _ _ x=>Or.inl x,by simp[World.setCell],by simp[World.setCell],fun d _ hn=>?_,rfl,rfl,rfl⟩
 have:¬ c.block=d:=fun q=>by
  have:=hn a.block (by rw[<- q];exact ha.1)
  omega
 simp[World.setCell,Array.getElem?_modify,this]
theorem zew.push{R:BR}(h:za9 N R w w')(ho:zox R False o o') :
  zew N R (R.more w.heap.size w'.heap.size) w w' { w with heap:=w.heap.push o } { w' with heap:=w'.heap.push o' }:=by
 have hone:(R.more w.heap.size w'.heap.size).One:=by
  refine⟨fun b c c' x y=>?_,fun b b' c x y=>?_⟩
  ·rcases x with x|⟨rfl,rfl⟩
   ·rcases y with y|⟨rfl,rfl⟩
    ·exact h.one.1 _ _ _ x y
    ·exact absurd (h.lt x).1 qg
   ·rcases y with y|⟨_,rfl⟩
    ·exact absurd (h.lt y).1 qg
    ·rfl
  ·rcases x with x|⟨rfl,rfl⟩
   ·rcases y with y|⟨rfl,rfl⟩
    ·exact h.one.2 _ _ _ x y
    ·exact absurd (h.lt x).2 qg
   ·rcases y with y|⟨rfl,_⟩
    ·exact absurd (h.lt y).2 qg
    ·rfl
 have hle:R.le (R.more w.heap.size w'.heap.size):=⟨fun _ _ h=>Or.inl h,fun _=>hone⟩
 refine⟨hle,⟨hone,fun b c x=>?_,h.tape,h.drawn,by simp;have:=h.low;omega⟩,fun b c x=>?_,qk,qk,fun c hc _=>?_,rfl,rfl,rfl⟩
 ·rcases x with x|⟨rfl,rfl⟩
  ·have hl:=h.lt x
   have g1:(w.heap.push o)[b]?=w.heap[b]?:=by rw[Array.getElem?_push];rw[if_neg qg]
   have g2:(w'.heap.push o')[c]?=w'.heap[c]?:=by rw[Array.getElem?_push];rw[if_neg qg]
   simp only[g1,g2]
   obtain⟨p,p',e1,e2,hr⟩:=h.blk _ _ x
   exact⟨p,p',e1,e2,hr.mono hle⟩
  ·have hN:¬ w.heap.size<N:=by have:=h.low;omega
   refine⟨o,o',qk,qk,?_⟩
   cases ho.mono hle with
   | cells h1 h2 h3=>exact .cells h1 (fun q=>absurd q hN) (fun _=>h3 (fun q=>q))
   | other h1 h2=>exact .other h1 (fun _ _ _=>hN)
 ·rcases x with x|⟨rfl,rfl⟩
  ·exact Or.inl x
  ·exact Or.inr ⟨Nat.le_refl _,Nat.le_refl _⟩
 ·simp only[Array.getElem?_push];rw[if_neg qg]
theorem zew.remap{R:BR}(h:za9 N R w w'){s:Nat}(hr:R r s){c c':Array MapEntry}(hN:N<=r)(hc:zcJ R c c') :
  zew N R R w w' { w with heap:=w.heap.setIfInBounds r (.map c n) } { w' with heap:=w'.heap.setIfInBounds s (.map c' n) }:=by
 have hl:=h.lt hr
 refine⟨BR.le_refl _,⟨h.one,fun b d hbd=>?_,h.tape,h.drawn,by simpa using h.low⟩,fun _ _ x=>Or.inl x,qk,qk,fun d _ hn=>?_,rfl,rfl,rfl⟩
 ·by_cases e:r=b
  ·subst e
   have ed:s=d:=h.one.1 _ _ _ hr hbd
   subst ed
   exact⟨_,_,Array.getElem?_setIfInBounds_self_of_lt hl.1,Array.getElem?_setIfInBounds_self_of_lt hl.2,.other (.map hc) (fun _ _ _=>qg)⟩
  ·have ed:¬ s=d:=fun q=>e (h.one.2 _ _ _ hr (by rw[q];exact hbd))
   simp only[Array.getElem?_setIfInBounds_ne e,Array.getElem?_setIfInBounds_ne ed]
   exact h.blk _ _ hbd
 ·have:s≠d:=fun q=>by
   have:=hn r (by rw[<- q];exact hr)
   omega
  simp only[Array.getElem?_setIfInBounds_ne this]
theorem zaj.flat{R:BR}(h:zaj R v v')(h1:∀ c,v≠.agg c)(h2:∀ c,v≠.tuple c):(∀ c,v'≠.agg c)/\(∀ c,v'≠.tuple c):=by
 cases h with
 | agg _ _=>exact absurd rfl (h1 _)
 | tuple _ _=>exact absurd rfl (h2 _)
 | junk _ _=>exact absurd rfl (h2 _)
 | _=>exact⟨fun c q=>(by cases q),fun c q=>(by cases q)⟩
theorem run_store{α:Type}(P:Program)(m:Mode)(a:Addr)(v:Value)(k:Sem α)(w:World)(h1:∀ c,v≠.agg c)(h2:∀ c,v≠.tuple c)(hc:w.cell? a=some u)(hf:w.frozen? a=false) :
  (Sem.store m a v k).run P w=k.run P (w.setCell a v):=by
 cases v with
 | agg c=>exact absurd rfl (h1 c)
 | tuple c=>exact absurd rfl (h2 c)
 | _=>simp only[Sem.run,hc,hf];rfl
theorem zlL{α:Type}(P:Program)(a:Addr)(v:Value)(k:Sem α)(w:World)(es:Array Event)(h1:∀ c,v≠.agg c)(h2:∀ c,v≠.tuple c)(hc:w.cell? a=some u)(hf:w.frozen? a=false) :
  (Sem.store .plain a v k).runT P w es=k.runT P (w.setCell a v) (es.push ⟨.cell a,true,false⟩):=by
 cases v with
 | agg c=>exact absurd rfl (h1 c)
 | tuple c=>exact absurd rfl (h2 c)
 | _=>simp only[Sem.runT,hc,hf];rfl
theorem zo2{R:BR}(hw:za9 N R w w'){c:Addr}(ha:zbM R a c)(m:Bool):∃ hh,w.farLoad P a m=.error hh:=by
 obtain⟨o,o',e1,e2,ho⟩:=hw.blk _ _ ha.1
 cases ho with
 | cells _ _ _=>exact⟨_,by simp[World.farLoad,e1];rfl⟩
 | other hj _=>cases hj <;> exact⟨_,by simp[World.farLoad,e1];rfl⟩
theorem zmX{R:BR}(hw:za9 N R w w'){c:Addr}(ha:zbM R a c)(v:Value)(m:Bool):∃ hh,w.farStore P a v m=.error hh:=by
 obtain⟨o,o',e1,e2,ho⟩:=hw.blk _ _ ha.1
 cases ho with
 | cells _ _ _=>exact⟨_,by simp[World.farStore,e1];rfl⟩
 | other hj _=>cases hj <;> exact⟨_,by simp[World.farStore,e1];rfl⟩
theorem zht{α:Type}{m:Mode}{k:Sem α}{x:α}{R:BR}{c:Addr}(hw:za9 N R w w')(ha:zbM R a c)(h:(Sem.store m a v k).run P w=.ok x w1) :
  (∀ c,v≠.agg c)/\(∀ c,v≠.tuple c)/\(∃ u,w.cell? a=some u)/\w.frozen? a=false:=by
 have far:w.cell? a=none->False:=fun hn=>by
  obtain⟨hh,e⟩:=zmX (P:=P) hw ha v (m == .atomic)
  cases v <;> simp[Sem.run,hn,e] at h
 have go:∃ u,w.cell? a=some u:=by
  cases hc:w.cell? a with
  | none=>exact(far hc).elim
  | some u=>exact⟨u,rfl⟩
 obtain⟨u,hu⟩:=go
 have hfz:w.frozen? a=false:=by
  cases hf:w.frozen? a with
  | false=>rfl
  | true=>cases v <;> simp[Sem.run,hu,hf] at h
 refine⟨fun c q=>?_,fun c q=>?_,⟨u,hu⟩,hfz⟩
 ·subst q;simp[Sem.run] at h
 ·subst q;simp[Sem.run] at h
theorem ziB{α:Type}{m:Mode}{k:Value->Sem α}{x:α}{R:BR}{c:Addr}(hw:za9 N R w w')(ha:zbM R a c)(h:(Sem.load m a k).run P w=.ok x w1):∃ u,w.cell? a=some u:=by
 cases hc:w.cell? a with
 | some u=>exact⟨u,rfl⟩
 | none =>
  obtain⟨hh,e⟩:=zo2 (P:=P) hw ha (m == .atomic)
  simp[Sem.run,hc,e] at h
def EvR(N:Nat)(R:BR)(e:Event):Prop :=
 (∃ a b wr,e=⟨.cell a,wr,false⟩/\R b a.block/\(wr=true->N<=b))\/(∃ r b wr,e=⟨.obj r,wr,false⟩/\R b r/\(wr=true->N<=b))\/e=⟨.mark .noRoom,false,true⟩
theorem EvR.mono{R R':BR}(h:R.le R')(he:EvR N R e):EvR N R' e:=by
 rcases he with ⟨a,b,wr,e,h1,h2⟩|⟨r,b,wr,e,h1,h2⟩|e
 ·exact Or.inl ⟨a,b,wr,e,h.1 _ _ h1,h2⟩
 ·exact Or.inr (Or.inl ⟨r,b,wr,e,h.1 _ _ h1,h2⟩)
 ·exact Or.inr (Or.inr e)
def _root_.Go.World.tp(w:World)(τ:Nat->Question->Nat)(d:Nat):World:={ w with tape:=τ,drawn:=d }
def zqO{α:Type}(L:Program)(s:Sem α)(w:World)(x:α)(w1:World):Prop :=
 ∃ k,w1.tape=w.tape/\w1.drawn=w.drawn+k/\∀ τ d,(∀ i,i<k->∀ q,τ (d+i) q=w.tape (w.drawn+i) q)->s.run L (w.tp τ d)=.ok x (w1.tp τ (d+k))
theorem zhx{α:Type}{Q:BR->α->α->Prop}{L M:Program}{R:BR}{s s':Sem α}(h:@zae ⟨N⟩ α L M Q R s s') :
  ∀ {w w' w1:World} {x:α},za9 N R w w'->s.run L w=.ok x w1 ->
   ∃ R' x' w1' es,(∀ es0,s'.runT M w' es0=(.ok x' w1',es0++es))/\zew N R R' w w' w1 w1'/\Q R' x x'/\(∀ e∈es,EvR N R' e)/\zqO L s w x w1:=by
 induction h with
 | pure h =>
  intro w w' w1 x hw hr
  simp only[Sem.run,Result.ok.injEq] at hr
  obtain⟨rfl,rfl⟩:=hr
  exact⟨_,_,_,#[],fun es0=>by simp[Sem.runT],zew.refl hw,h,qk,0,rfl,rfl,fun τ d _=>rfl⟩
 | @load R a a' k k' ha _ ih =>
  intro w w' w1 x hw hr
  obtain⟨u,hu⟩:=ziB hw ha hr
  obtain⟨u',hu',hv⟩:=hw.cell ha hu
  simp only[Sem.run,hu] at hr
  obtain⟨R',x',w1',es,e,hg,hq,hes,k0,l1,l2,l3⟩:=ih _ (BR.le_refl _) u u' hv hw hr
  refine⟨R',x',w1',#[⟨.cell a',false,false⟩]++es,fun es0=>?_,hg,hq,?_,k0,l1,l2,fun τ d ht=>?_⟩
  ·simp only[Sem.runT,hu']
   rw[e]
   simp
   rfl
  ·intro x hx
   rcases Array.mem_append.1 hx with hx|hx
   ·have:x=⟨.cell a',false,false⟩:=by simpa using hx
    subst this
    exact Or.inl ⟨a',a.block,false,rfl,hg.le.1 _ _ ha.1,qk⟩
   ·exact hes x hx
  ·have hu2:(w.tp τ d).cell? a=some u:=hu
   simp only[Sem.run,hu2]
   exact l3 τ d ht
 | @store R a a' v v' k k' ha hv _ ih =>
  intro w w' w1 x hw hr
  obtain⟨n1,n2,⟨u,hu⟩,hf⟩:=zht hw ha hr
  rw[run_store L _ _ _ _ _ n1 n2 hu hf] at hr
  obtain⟨m1,m2⟩:=hv.flat n1 n2
  obtain⟨u',hu',_⟩:=hw.cell ha hu
  obtain⟨hN,hf'⟩:=hw.mine ha hu hf
  have hst:=zew.store hw ha hN hv
  obtain⟨R',x',w1',es,e,hg,hq,hes,k0,l1,l2,l3⟩:=ih hst.rel hr
  refine⟨R',x',w1',#[⟨.cell a',true,false⟩]++es,fun es0=>?_,hst.trans hg,hq,?_,k0,l1,l2,fun τ d ht=>?_⟩
  ·rw[zlL M _ _ _ _ _ m1 m2 hu' hf',e]
   simp
  ·intro x hx
   rcases Array.mem_append.1 hx with hx|hx
   ·have:x=⟨.cell a',true,false⟩:=by simpa using hx
    subst this
    exact Or.inl ⟨a',a.block,true,rfl,hg.le.1 _ _ ha.1,fun _=>hN⟩
   ·exact hes x hx
  ·rw[run_store L _ _ _ _ _ n1 n2 (show (w.tp τ d).cell? a=some u from hu) (show (w.tp τ d).frozen? a=false from hf)]
   exact l3 τ d ht
 | new ho _ ih =>
  intro w w' w1 x hw hr
  simp only[Sem.run] at hr
  have hp:=zew.push hw ho
  obtain⟨R',x',w1',es,e,hg,hq,hes,k0,l1,l2,l3⟩:=ih _ hp.le _ _ (Or.inr ⟨rfl,rfl⟩) hp.rel hr
  exact⟨R',x',w1',es,fun es0=>by simp only[Sem.runT];exact e es0,hp.trans hg,hq,hes,k0,l1,l2,fun τ d ht=>by simp only[Sem.run];exact l3 τ d ht⟩
 | shape hrs _ ih =>
  intro w w' w1 x hw hr
  simp only[Sem.run,hw.shp hrs] at hr
  obtain⟨R',x',w1',es,e,hg,hq,hes,k0,l1,l2,l3⟩:=ih _ hw hr
  exact⟨R',x',w1',es,fun es0=>by simp only[Sem.runT];exact e es0,hg,hq,hes,k0,l1,l2,fun τ d ht=>by
   have hs2:(w.tp τ d).shape? _=_:=hw.shp hrs
   simp only[Sem.run,hs2]
   exact l3 τ d ht⟩
 | @getObj R r r' k k' hrs _ ih =>
  intro w w' w1 x hw hr
  obtain⟨o,o',e1,e2,ho⟩:=hw.blk _ _ hrs
  simp only[Sem.run,e1] at hr
  cases ho with
  | cells _ _ _=>simp at hr
  | @other o o' hj hN =>
   have hr2:(k o).run L w=.ok x w1:=by cases hj <;> exact hr
   obtain⟨R',x',w1',es,e,hg,hq,hes,k0,l1,l2,l3⟩:=ih _ (BR.le_refl _) _ _ hj (fun c n q=>Nat.le_of_not_lt (hN c n q)) hw hr2
   have hT:∀ es0,(Sem.getObj r' k').runT M w' es0=(k' o').runT M w' (es0.push ⟨.obj r',false,false⟩):=by
    intro es0
    cases hj <;> (simp only[Sem.runT,e2];rfl)
   refine⟨R',x',w1',#[⟨.obj r',false,false⟩]++es,fun es0=>?_,hg,hq,?_,k0,l1,l2,fun τ d ht=>?_⟩
   ·rw[hT,e]
    simp
   ·intro x hx
    rcases Array.mem_append.1 hx with hx|hx
    ·have:x=⟨.obj r',false,false⟩:=by simpa using hx
     subst this
     exact Or.inr (Or.inl ⟨r',r,false,rfl,hg.le.1 _ _ hrs,fun q=>by cases q⟩)
    ·exact hes x hx
   ·have e1':(w.tp τ d).heap[r]?=some o:=e1
    have:=l3 τ d ht
    cases hj <;> (simp only[Sem.run,e1'];exact this)
 | @setObj R r r' c c' n k k' hx hrs hc _ ih =>
  intro w w' w1 x hw hr
  obtain⟨o,o',e1,e2,ho⟩:=hw.blk _ _ hrs
  simp only[Sem.run,e1] at hr
  cases ho with
  | cells _ _ _=>simp at hr
  | @other o o' hj hN =>
   have hr2:k.run L { w with heap:=w.heap.setIfInBounds r (.map c n) }=.ok x w1:=by cases hj <;> exact hr
   have hst:=zew.remap (n:=n) hw hrs hx hc
   obtain⟨R',x',w1',es,e,hg,hq,hes,k0,l1,l2,l3⟩:=ih hst.rel hr2
   have hT:∀ es0,(Sem.setObj r' (.map c' n) k').runT M w' es0=k'.runT M { w' with heap:=w'.heap.setIfInBounds r' (.map c' n) } (es0.push ⟨.obj r',true,false⟩):=by
    intro es0
    cases hj <;> (simp only[Sem.runT,e2];rfl)
   refine⟨R',x',w1',#[⟨.obj r',true,false⟩]++es,fun es0=>?_,hst.trans hg,hq,?_,k0,l1,l2,fun τ d ht=>?_⟩
   ·rw[hT,e]
    simp
   ·intro x hx'
    rcases Array.mem_append.1 hx' with hx'|hx'
    ·have:x=⟨.obj r',true,false⟩:=by simpa using hx'
     subst this
     exact Or.inr (Or.inl ⟨r',r,true,rfl,hg.le.1 _ _ hrs,fun _=>hx⟩)
    ·exact hes x hx'
   ·have e1':(w.tp τ d).heap[r]?=some o:=e1
    have:=l3 τ d ht
    cases hj <;> (simp only[Sem.run,e1'];exact this)
 | @choose R q k k' _ ih =>
  intro w w' w1 x hw hr
  simp only[Sem.run] at hr
  by_cases hq:q.forced=true
  ·rw[if_pos hq] at hr
   obtain⟨R',x',w1',es,e,hg,hq2,hes,k0,l1,l2,l3⟩:=ih _ hw hr
   exact⟨R',x',w1',es,fun es0=>by simp only[Sem.runT];rw[if_pos hq];exact e es0,hg,hq2,hes,k0,l1,l2,fun τ d ht=>by simp only[Sem.run];rw[if_pos hq];exact l3 τ d ht⟩
  ·rw[if_neg hq] at hr
   have ht:w.tape w.drawn q=w'.tape w'.drawn q:=by rw[hw.tape,hw.drawn]
   rw[ht] at hr
   have hw2:za9 N R { w with drawn:=w.drawn+1 } { w' with drawn:=w'.drawn+1 }:=⟨hw.one,hw.blk,hw.tape,by simp[hw.drawn],hw.low⟩
   obtain⟨R',x',w1',es,e,hg,hq2,hes,k0,l1,l2,l3⟩:=ih _ hw2 hr
   exact⟨R',x',w1',es,fun es0=>by simp only[Sem.runT];rw[if_neg hq];exact e es0,⟨hg.le,hg.rel,hg.new,hg.size,hg.sizeL,hg.kept,hg.tp,hg.os,hg.out⟩,hq2,hes,k0+1,l1,by simp at l2;omega,fun τ d ht=>by
    simp only[Sem.run]
    rw[if_neg hq]
    have h0:(w.tp τ d).tape (w.tp τ d).drawn q=w'.tape w'.drawn q:=by rw[<- hw.tape,<- hw.drawn];exact ht 0 qg q
    rw[h0]
    have:=l3 τ (d+1) (fun i hi q=>by have:=ht (i+1) qg q;simpa [Nat.add_assoc,Nat.add_comm 1 i] using this)
    simpa [World.tp,Nat.add_assoc,Nat.add_comm 1 k0] using this⟩
 | program _ ih =>
  intro w w' w1 x hw hr
  simp only[Sem.run] at hr
  obtain⟨R',x',w1',es,e,hg,hq,hes,k0,l1,l2,l3⟩:=ih hw hr
  exact⟨R',x',w1',es,fun es0=>by simp only[Sem.runT];exact e es0,hg,hq,hes,k0,l1,l2,fun τ d ht=>by simp only[Sem.run];exact l3 τ d ht⟩
 | mark _ ih =>
  intro w w' w1 x hw hr
  simp only[Sem.run] at hr
  obtain⟨R',x',w1',es,e,hg,hq,hes,k0,l1,l2,l3⟩:=ih hw hr
  refine⟨R',x',w1',#[⟨.mark .noRoom,false,true⟩]++es,fun es0=>?_,hg,hq,?_,k0,l1,l2,fun τ d ht=>?_⟩
  ·simp only[Sem.runT]
   rw[e]
   simp
  ·intro x hx
   rcases Array.mem_append.1 hx with hx|hx
   ·have:x=⟨.mark .noRoom,false,true⟩:=by simpa using hx
    subst this
    exact Or.inr (Or.inr rfl)
   ·exact hes x hx
  ·simp only[Sem.run]
   exact l3 τ d ht
 | never h =>
  intro w w' w1 x hw hr
  exact absurd hr h.not
theorem zkO{α:Type}{Q:BR->α->α->Prop}{L M:Program}{R:BR}{s s':Sem α}(h:@zae ⟨N⟩ α L M Q R s s') :
  ∀ {w w' w1:World} {hh:Halt},za9 N R w w'->s.run L w=.halt hh w1->zqs hh:=by
 have noc:∀(w:World) (a:Addr) (t:String),zqs (w.noCell a t):=by
  intro w a t
  unfold World.noCell
  split
  ·exact .unsupported _
  ·exact .unsupported _
  ·exact .stuck _
 induction h with
 | pure h=>intro w w' w1 hh hw hr;simp[Sem.run] at hr
 | @load R a a' k k' ha _ ih =>
  intro w w' w1 hh hw hr
  cases hc:w.cell? a with
  | some u =>
   obtain⟨u',hu',hv⟩:=hw.cell ha hc
   simp only[Sem.run,hc] at hr
   exact ih _ (BR.le_refl _) u u' hv hw hr
  | none =>
   obtain⟨o,o',e1,e2,ho⟩:=hw.blk _ _ ha.1
   have e:w.farLoad L a (Mode.plain == .atomic)=.error (w.noCell a "load: no such cell"):=by
    cases ho with
    | cells _ _ _=>simp[World.farLoad,e1]
    | other hj _=>cases hj <;> simp[World.farLoad,e1]
   simp only[Sem.run,hc,e,Result.halt.injEq] at hr
   rw[<- hr.1]
   exact noc _ _ _
 | @store R a a' v v' k k' ha hv _ ih =>
  intro w w' w1 hh hw hr
  by_cases n1:∃ c,v=.agg c
  ·obtain⟨c,rfl⟩:=n1
   simp only[Sem.run,Result.halt.injEq] at hr
   rw[<- hr.1]
   exact .stuck _
  by_cases n2:∃ c,v=.tuple c
  ·obtain⟨c,rfl⟩:=n2
   simp only[Sem.run,Result.halt.injEq] at hr
   rw[<- hr.1]
   exact .stuck _
  have m1:∀ c,v≠.agg c:=fun c q=>n1 ⟨c,q⟩
  have m2:∀ c,v≠.tuple c:=fun c q=>n2 ⟨c,q⟩
  cases hc:w.cell? a with
  | some u =>
   cases hf:w.frozen? a with
   | false =>
    rw[run_store L _ _ _ _ _ m1 m2 hc hf] at hr
    exact ih (zew.store hw ha (hw.mine ha hc hf).1 hv).rel hr
   | true =>
    cases v with
    | agg c=>exact absurd rfl (m1 c)
    | tuple c=>exact absurd rfl (m2 c)
    | _ =>
     simp only[Sem.run,hc,hf,if_true,Result.halt.injEq] at hr
     rw[<- hr.1]
     exact .unsupported _
  | none =>
   obtain⟨o,o',e1,e2,ho⟩:=hw.blk _ _ ha.1
   have e:w.farStore L a v (Mode.plain == .atomic)=.error (w.noCell a "store: no such cell"):=by
    cases ho with
    | cells _ _ _=>simp[World.farStore,e1]
    | other hj _=>cases hj <;> simp[World.farStore,e1]
   cases v with
   | agg c=>exact absurd rfl (m1 c)
   | tuple c=>exact absurd rfl (m2 c)
   | _ =>
    simp only[Sem.run,hc,e,Result.halt.injEq] at hr
    rw[<- hr.1]
    exact noc _ _ _
 | new ho _ ih =>
  intro w w' w1 hh hw hr
  simp only[Sem.run] at hr
  have hp:=zew.push hw ho
  exact ih _ hp.le _ _ (Or.inr ⟨rfl,rfl⟩) hp.rel hr
 | shape hrs _ ih =>
  intro w w' w1 hh hw hr
  simp only[Sem.run,hw.shp hrs] at hr
  exact ih _ hw hr
 | @getObj R r r' k k' hrs _ ih =>
  intro w w' w1 hh hw hr
  obtain⟨o,o',e1,e2,ho⟩:=hw.blk _ _ hrs
  simp only[Sem.run,e1] at hr
  cases ho with
  | cells _ _ _ =>
   simp only[Result.halt.injEq] at hr
   rw[<- hr.1]
   exact .stuck _
  | @other o o' hj hN =>
   have hr2:(k o).run L w=.halt hh w1:=by cases hj <;> exact hr
   exact ih _ (BR.le_refl _) _ _ hj (fun c n q=>Nat.le_of_not_lt (hN c n q)) hw hr2
 | @setObj R r r' c c' n k k' hx hrs hc _ ih =>
  intro w w' w1 hh hw hr
  obtain⟨o,o',e1,e2,ho⟩:=hw.blk _ _ hrs
  simp only[Sem.run,e1] at hr
  cases ho with
  | cells _ _ _ =>
   simp only[Result.halt.injEq] at hr
   rw[<- hr.1]
   exact .stuck _
  | @other o o' hj hN =>
   have hr2:k.run L { w with heap:=w.heap.setIfInBounds r (.map c n) }=.halt hh w1:=by cases hj <;> exact hr
   exact ih (zew.remap (n:=n) hw hrs hx hc).rel hr2
 | @choose R q k k' _ ih =>
  intro w w' w1 hh hw hr
  simp only[Sem.run] at hr
  split at hr
  ·exact ih _ hw hr
  ·have hw2:za9 N R { w with drawn:=w.drawn+1 } { w' with drawn:=w'.drawn+1 }:=⟨hw.one,hw.blk,hw.tape,by simp[hw.drawn],hw.low⟩
   exact ih _ hw2 hr
 | program _ ih=>intro w w' w1 hh hw hr;simp only[Sem.run] at hr;exact ih hw hr
 | mark _ ih=>intro w w' w1 hh hw hr;simp only[Sem.run] at hr;exact ih hw hr
 | never h =>
  intro w w' w1 hh hw hr
  obtain⟨h2,w2,e,hs⟩:=h w
  rw[e] at hr
  cases hr
  exact hs
class Twin(L M:Program):Prop where
 info:∀ t,M.info? t=L.info? t
 und:∀ t,M.underlying t=L.underlying t
variable{L M:Program}
abbrev QEq{α:Type}:BR->α->α->Prop:=fun _ a b=>a=b
abbrev QV:BR->Value->Value->Prop:=fun R v v'=>zaj R v v'
abbrev QA:BR->Addr->Addr->Prop:=fun R a a'=>zbM R a a'
abbrev QR:BR->Array Value->Array Value->Prop:=fun R c c'=>zat R c c'
theorem zac[low:zay]{α:Type}{Q:BR->α->α->Prop}{R:BR}{a a':α}(h:Q R a a'):zae L M Q R (pure a) (pure a'):=.pure h
theorem zab[low:zay]{α β:Type}{Q:BR->α->α->Prop}{Q':BR->β->β->Prop}{R:BR}{s s':Sem α}{f f':α->Sem β}(h:zae L M Q R s s')(hf:∀ R':BR,R.le R'->∀ a a',Q R' a a'->zae L M Q' R' (f a) (f' a')):zae L M Q' R (s >>= f) (s' >>= f'):=zae.bind h hf
theorem zax[low:zay]{α:Type}{Q:BR->α->α->Prop}{R:BR}{w:String}{s:Sem α}:zae L M Q R (stuck w) s:=.halt
abbrev QP(L M:Program):BR->Program->Program->Prop:=fun _ p p'=>p=L/\p'=M
theorem zaS[low:zay]{R:BR}:zae L M (QP L M) R program program:=.program (.pure ⟨rfl,rfl⟩)
theorem zod[low:zay]{R:BR}(h:zbM R a a'):zae L M QV R (load a) (load a'):=.load h fun _ _ _ _ hv=>.pure hv
theorem zp1[low:zay]{R:BR}(h:zbM R a a')(hv:zaj R v v'):zae L M QEq R (store a v) (store a' v'):=.store h hv (.pure rfl)
theorem zbj[low:zay][Twin L M]{R:BR}(t:TypeId):zae L M QEq R (typeInfo t) (typeInfo t):=by
 unfold typeInfo
 refine zab zaS ?_
 rintro R' _ p p' ⟨rfl,rfl⟩
 rw[Twin.info (L:=p) (M:=p') t]
 split
 ·exact zac rfl
 ·exact zax
theorem zah[low:zay][Twin L M]{R:BR}(t:TypeId):zae L M QEq R (underlying t) (underlying t):=by
 unfold underlying
 refine zab zaS ?_
 rintro R' _ p p' ⟨rfl,rfl⟩
 rw[Twin.und (L:=p) (M:=p') t]
 split
 ·exact zac rfl
 ·exact zax
theorem zaz[low:zay][Twin L M]{R:BR}(t:TypeId):zae L M QEq R (sizeOf t) (sizeOf t):=by
 unfold Go.sizeOf
 refine zab (zbj t) ?_
 rintro R' _ p _ rfl
 exact zac rfl
theorem zkU[low:zay][Twin L M]{R:BR}(t:TypeId):zae L M QEq R (isAgg t) (isAgg t):=by
 unfold isAgg
 refine zab (zah t) ?_
 rintro R' _ p _ rfl
 split <;> exact zac rfl
theorem zbM.add{R:BR}(h:zbM R a a')(n:Nat):zbM R (a.add n) (a'.add n):=by
 unfold Addr.add
 split
 ·exact h
 ·exact⟨h.1,by simp[h.2.1],rfl⟩
theorem zat.push{R:BR}(h:zat R c c')(hv:zaj R v v'):zat R (c.push v) (c'.push v'):=by
 refine⟨by simp[h.1],fun i h1 h2=>?_⟩
 rw[Array.getElem_push,Array.getElem_push]
 simp only[Array.size_push] at h1 h2
 by_cases hi:i<c.size
 ·have hi':i<c'.size:=by rw[<- h.1];exact hi
  rw[dif_pos hi,dif_pos hi']
  exact h.2 i hi hi'
 ·rw[dif_neg hi,dif_neg (by rw[<- h.1];exact hi)]
  exact hv
theorem zeY[low:zay]{R:BR}(h:zbM R a a'):∀(n i:Nat) {acc acc':Array Value},zat R acc acc'->zae L M QR R (loadCellsFrom a i n acc) (loadCellsFrom a' i n acc'):=by
 intro n
 induction n generalizing R with
 | zero=>exact fun i acc acc' hr=>zac hr
 | succ n ih =>
  intro i acc acc' hr
  refine zab (zod (h.add i)) ?_
  intro R' hR v v' hv
  exact ih (h.mono hR) (i+1) ((hr.mono hR).push hv)
theorem zat.nil{R:BR}:zat R #[] #[]:=⟨rfl,fun i h _=>absurd h qk⟩
theorem zeN[low:zay]{R:BR}(h:zbM R a a')(n:Nat):zae L M QR R (loadCells a n) (loadCells a' n):=zeY h n 0 zat.nil
theorem zeE[low:zay][Twin L M]{R:BR}(t:TypeId)(h:zbM R a a'):zae L M QV R (loadVar t a) (loadVar t a'):=by
 unfold loadVar
 refine zab (zkU t) ?_
 rintro R' hR b _ rfl
 cases b with
 | true =>
  refine zab (zaz t) ?_
  rintro R2 hR2 n _ rfl
  refine zab (zeN ((h.mono hR).mono hR2) n) ?_
  intro R3 hR3 c c' hc
  exact zac (.agg hc.1 hc.2)
 | false=>exact zod (h.mono hR)
theorem zat.one{R:BR}(h:zaj R v v'):zat R #[v] #[v']:=zat.nil.push h
theorem zaj.cells{R:BR}(h:zaj R v v'):zat R v.cells v'.cells:=by
 cases h with
 | agg h1 h2=>exact⟨h1,h2⟩
 | bool b=>exact zat.one (.bool b)
 | int k n=>exact zat.one (.int k n)
 | map h=>exact zat.one (.map h)
 | nilMap=>exact zat.one .nilMap
 | nilChan=>exact zat.one .nilChan
 | string s=>exact zat.one (.string s)
 | ptr h=>exact zat.one (.ptr h)
 | nilPtr=>exact zat.one .nilPtr
 | slice n m h=>exact zat.one (.slice n m h)
 | nilSlice n m=>exact zat.one (.nilSlice n m)
 | empty a c=>exact zat.one (.empty a c)
 | func fn h0 h1 h2 h3 h4=>exact zat.one (.func fn h0 h1 h2 h3 h4)
 | nilFunc=>exact zat.one .nilFunc
 | iface t h=>exact zat.one (.iface t h)
 | nilIface=>exact zat.one .nilIface
 | tuple h1 h2=>exact zat.one (.tuple h1 h2)
 | junkM h0=>exact zat.one (.junkM h0)
 | @junk v' hj0 hj =>
  have e:v'.cells=#[v']:=by cases v' with|agg c=>cases hj|_=>rfl
  rw[e]
  exact zat.one (.junk hj0 hj)
theorem zaj.slice_at{R:BR}{c:Nat}(h:zaj R (.slice (some a) n c) v')(hc:0<c):∃ a',v'=.slice (some a') n c/\zbM R a a':=by
 cases h with
 | slice _ _ h=>exact⟨_,rfl,h⟩
 | empty _ _=>omega
inductive zgW(R:BR):List Value->List Value->Prop
 | nil:zgW R [] []
 | cons {v v':Value} {r r':List Value}:zaj R v v'->zgW R r r'->zgW R (v::r) (v'::r')
theorem zgW.mono{R R':BR}(hR:R.le R'){l l':List Value}(h:zgW R l l'):zgW R' l l':=by
 induction h with
 | nil=>exact .nil
 | cons hv _ ih=>exact .cons (hv.mono hR) ih
theorem zgW.of_get{R:BR}:∀(l l':List Value),l.length=l'.length->(∀ i (h:i<l.length) (h':i<l'.length),zaj R l[i] l'[i])->zgW R l l'
 | [],[],_,_=>.nil
 | [],_::_,h,_=>by simp at h
 | _::_,[],h,_=>by simp at h
 | v::r,v'::r',h,hg=>.cons (hg 0 qk qk) (zgW.of_get r r' (by simpa using h) (fun i h1 h2=>hg (i+1) (Nat.succ_lt_succ h1) (Nat.succ_lt_succ h2)))
theorem zat.all{R:BR}(h:zat R c c'):zgW R c.toList c'.toList :=
 zgW.of_get _ _ (by simpa using h.1) (fun i h1 h2=>by simpa using h.2 i (by simpa using h1) (by simpa using h2))
theorem zcB[low:zay]{R:BR}(h:zbM R a a'){vs vs':List Value}(hf:zgW R vs vs'):∀(i:Nat),zae L M QEq R (storeCells a vs i) (storeCells a' vs' i):=by
 induction vs generalizing R vs' with
 | nil=>intro i;cases hf;exact zac rfl
 | cons v r ih =>
  intro i
  cases hf with
  | cons hv hr =>
   refine zab (zp1 (h.add i) hv) ?_
   intro R' hR _ _ _
   exact ih (h.mono hR) (hr.mono hR) (i+1)
theorem zjT[low:zay][Twin L M]{R:BR}(t:TypeId)(h:zbM R a a')(hv:zaj R v v'):zae L M QEq R (storeVar t a v) (storeVar t a' v'):=by
 unfold storeVar
 refine zab (zaz t) ?_
 rintro R' hR n _ rfl
 have hc:=(hv.mono hR).cells
 rw[<- hc.1]
 split
 ·exact zae.halt
 ·exact zcB (h.mono hR) (zat.all hc) 0
theorem zbY[low:zay]{R:BR}(h:zaj R v v'):zae L M QA R (Instr.sureAddr v) (Instr.sureAddr v'):=by
 cases h with
 | ptr h=>exact zac h
 | _=>exact zae.halt
theorem zoe[low:zay][Twin L M]{R:BR}(t:TypeId)(h:zaj R v v'):zae L M QV R (Instr.loadAt t v) (Instr.loadAt t v') :=
 zab (zbY h) fun _ _ _ _ ha=>zeE t ha
theorem zma[low:zay][Twin L M]{R:BR}(t:TypeId)(h:zaj R v v')(hx:zaj R x x'):zae L M QEq R (Instr.storeAt t v x) (Instr.storeAt t v' x') :=
 zab (zbY h) fun _ hR _ _ ha=>zjT t ha (hx.mono hR)
theorem zfZ[low:zay]{R:BR}(h:zox R False o o'):zae L M (fun R r r'=>R r r') R (newObj o) (newObj o'):=.new h fun _ _ _ _ hr=>.pure hr
theorem zej[low:zay]{R:BR}(e:TypeId)(h:zat R c c'):zae L M QA R (newRow e c) (newRow e c') :=
 zab (zfZ (.cells h (fun q=>q.elim) (fun _=>rfl))) fun _ _ _ _ hr=>zac ⟨hr,rfl,rfl⟩
theorem ziH[low:zay]{R:BR}(e:TypeId)(h:zaj R v v'):zae L M QA R (newVar e v) (newVar e v'):=zej e h.cells
theorem zr5[low:zay]{R:BR}(e:TypeId)(h:zaj R v v'):zae L M QV R (Instr.box e v) (Instr.box e v') :=
 zab (ziH e h) fun _ _ _ _ ha=>zac (.ptr ha)
theorem zl4[low:zay]{R:BR}(h:zaj R v v')(i:Nat):zae L M QV R (Instr.extract v i) (Instr.extract v' i):=by
 cases h with
 | tuple h1 h2 =>
  unfold Instr.extract
  rename_i c c'
  by_cases hi:i<c.size
  ·have hi':i<c'.size:=by rw[<- h1];exact hi
   simp only[Array.getElem?_eq_getElem hi,Array.getElem?_eq_getElem hi']
   exact zac (h2 i hi hi')
  ·simp only[Array.getElem?_eq_none (Nat.le_of_not_lt hi)]
   exact zax
 | _=>exact zae.halt
instance softly_pure {P:Program} {α:Type} (a:α):zaH P (pure a:Sem α):=⟨fun w h w' q=>by simp[pure] at q⟩
instance softly_bind {P:Program} {α β:Type} (s:Sem α) (f:α->Sem β) [S:zaH P s] [F:∀ a,zaH P (f a)]:zaH P (s >>= f):=⟨fun w h w' q=>by
 rw[Sem.run_bind] at q
 cases hs:s.run P w with
 | ok y v=>rw[hs] at q;exact(F y).soft v h w' q
 | halt hh v =>
  rw[hs] at q
  have:hh=h:=by simp[Result.andThen] at q;exact q.1
  subst this
  exact S.soft w hh v hs⟩
instance softly_halt {P:Program} {α:Type} (h:Halt) [S:zk5 h]:zaH P (Sem.halt h:Sem α):=⟨fun w hh w' q=>by simp[Sem.run] at q;rw[<- q.1];exact S.soft⟩
instance softly_stuck {P:Program} {α:Type} (t:String):zaH P (stuck t:Sem α):=softly_halt (.stuck t)
instance softly_unsup {P:Program} {α:Type} (u:Unsupported):zaH P (unsupported u:Sem α):=softly_halt (.unsupported u)
instance softly_choose {P:Program} (q:Question):zaH P (choose q):=⟨fun w h w' e=>by simp only[choose,Sem.run] at e;split at e <;> simp at e⟩
instance softly_program {P:Program}:zaH P program:=⟨fun w h w' e=>by simp[program,Sem.run] at e⟩
instance softly_shape {P:Program} (r:Nat):zaH P (shape r):=⟨fun w h w' e=>by simp[shape,Sem.run] at e⟩
instance softly_frozen {P:Program} (a:Addr):zaH P (frozen a):=⟨fun w h w' e=>by simp[frozen,Sem.run] at e⟩
instance softly_mark {P:Program} (m:Mark):zaH P (mark m):=⟨fun w h w' e=>by simp[mark,Sem.run] at e⟩
instance softly_newObj {P:Program} (o:Obj):zaH P (newObj o):=⟨fun w h w' e=>by simp[newObj,Sem.run] at e⟩
instance softly_getObj {P:Program} (r:Nat):zaH P (getObj r):=⟨fun w h w' e=>by
 simp only[getObj,Sem.run] at e
 split at e
 ·simp at e;rw[<- e.1];exact .stuck _
 ·simp at e
 ·simp at e;rw[<- e.1];exact .stuck _⟩
instance softly_ite {P:Program} {α:Type} (c:Prop) [Decidable c] (a b:Sem α) [A:zaH P a] [B:zaH P b]:zaH P (if c then a else b):=by split <;> assumption
instance softly_typeInfo {P:Program} (t:TypeId):zaH P (typeInfo t):=by
 unfold typeInfo
 have:∀ p:Program,zaH P (match p.info? t with|some i=>(pure i:Sem TypeInfo)|none=>stuck "no such type"):=fun p=>by split <;> infer_instance
 infer_instance
instance softly_underlying {P:Program} (t:TypeId):zaH P (underlying t):=by
 unfold underlying
 have:∀ p:Program,zaH P (match p.underlying t with|some i=>(pure i:Sem TypeDesc)|none=>stuck "no such type"):=fun p=>by split <;> infer_instance
 infer_instance
instance softly_newVar {P:Program} (t:TypeId) (v:Value):zaH P (newVar t v):=by
 unfold newVar newRow
 infer_instance
instance softly_elemOf {P:Program} (t:TypeId):zaH P (elemOf t):=by
 unfold elemOf
 have:∀ d:TypeDesc,zaH P (match d with|.pointer e=>(pure e:Sem TypeId)|_=>stuck "pointer type expected"):=fun d=>by split <;> infer_instance
 infer_instance
theorem zap{α β:Type}{s:Sem α}[S:zaH P s]{f:α->Sem β}(h:∀ a,zct P (f a)):zct P (s >>= f):=fun w=>by
 rw[Sem.run_bind]
 cases hs:s.run P w with
 | ok y v=>exact h y v
 | halt hh v=>exact⟨hh,v,rfl,S.soft w hh v hs⟩
theorem zam{α:Type}{hh:Halt}[S:zk5 hh]:zct P (Sem.halt hh:Sem α):=fun w=>⟨hh,w,rfl,S.soft⟩
theorem zan{α:Type}(e:RuntimeError):zct P (runtimePanic e:Sem α):=by
 unfold runtimePanic
 refine zap fun p=>?_
 cases e with
 | bounds=>exact zam
 | error=>exact zam
 | plain=>exact zam
 | nilDeref=>exact zam
 | typeAssertion=>exact zap fun _=>zap fun _=>zam
 | panicNil=>exact zap fun _=>zap fun _=>zam
 | unhashable=>exact zam
theorem zaV{α:Type}(k:IntKind)(x y:Int)(c:BoundsCode):zct P (boundsPanic k x y c:Sem α):=by
 unfold boundsPanic
 split
 ·rw[<- bind_pure_comp]
  exact zap fun _=>zan _
 ·exact zap fun _=>zan _
def Plain(v:Value):Prop:=∀ R:BR,zaj R v v
def zbm(P:Program):Prop:=∀ t i v,P.info? t=some i->i.zero=some v->Plain v
theorem zda[low:zay][Twin L M]{R:BR}(t:TypeId):zae L M (fun _ i i'=>i=i'/\L.info? t=some i) R (typeInfo t) (typeInfo t):=by
 unfold typeInfo
 refine zab zaS ?_
 rintro R' _ p p' ⟨rfl,rfl⟩
 rw[Twin.info (L:=p) (M:=p') t]
 split
 ·next i hi=>exact zac ⟨rfl,hi⟩
 ·exact zax
theorem zbl[low:zay][Twin L M](hz:zbm L){R:BR}(t:TypeId):zae L M QV R (zeroValue t) (zeroValue t):=by
 unfold zeroValue
 refine zab (zda t) ?_
 rintro R' _ i _ ⟨rfl,hi⟩
 split
 ·next v hv=>exact zac (hz t i v hi hv R')
 ·exact zae.halt
theorem zpS[low:zay][Twin L M](hz:zbm L){R:BR}(e:TypeId):zae L M QV R (Instr.alloc e true (.tuple #[])) (Instr.alloc e true (.tuple #[])):=by
 unfold Instr.alloc
 refine zab (zbl hz e) ?_
 intro R' _ v v' hv
 exact zab (ziH e hv) fun _ _ _ _ ha=>zac (.ptr ha)
theorem zeZ[low:zay][Twin L M]{R:BR}(t:TypeId)(h:zaj R v v'):zae L M QV R (Instr.makeInterface t v) (Instr.makeInterface t v'):=by
 unfold Instr.makeInterface
 refine zab (zah t) ?_
 rintro R' hR d _ rfl
 split
 ·exact zax
 ·exact zac (.iface t (h.mono hR))
theorem zpT[low:zay]{R:BR}(h:zaj R v v'):zae L M QR R (asAgg v) (asAgg v'):=by
 cases h with
 | agg h1 h2=>exact zac ⟨h1,h2⟩
 | _=>exact zae.halt
theorem zat.ext{R:BR}(h:zat R c c')(i j:Nat):zat R (c.extract i j) (c'.extract i j):=by
 refine⟨by simp[h.1],fun k h1 h2=>?_⟩
 simp only[Array.getElem_extract]
 exact h.2 _ _ _
theorem zf3[low:zay][Twin L M]{R:BR}(t:TypeId)(h:zat R c c')(off:Nat):zae L M QV R (part t c off) (part t c' off):=by
 unfold part
 refine zab (zkU t) ?_
 rintro R' hR b _ rfl
 cases b with
 | true =>
  refine zab (zaz t) ?_
  rintro R2 hR2 n _ rfl
  have:=((h.mono hR).mono hR2).ext off (off+n)
  exact zac (.agg this.1 this.2)
 | false =>
  by_cases hi:off<c.size
  ·have hi':off<c'.size:=by rw[<- h.1];exact hi
   simp only[Bool.false_eq_true,if_false,Array.getElem?_eq_getElem hi,Array.getElem?_eq_getElem hi']
   exact zac ((h.2 off hi hi').mono hR)
  ·simp only[Bool.false_eq_true,if_false,Array.getElem?_eq_none (Nat.le_of_not_lt hi)]
   exact zax
theorem zpW[low:zay][Twin L M]{R:BR}(t:TypeId)(h:zaj R v v')(f:Nat):zae L M QV R (Instr.field t v f) (Instr.field t v' f):=by
 unfold Instr.field
 refine zab (zah t) ?_
 rintro R' hR d _ rfl
 split
 ·split
  ·exact zab (zpT (h.mono hR)) fun _ _ _ _ hc=>zf3 _ hc _
  ·exact zax
 ·exact zax
theorem zco[low:zay]{R:BR}(h:zaj R v v'):zae L M QEq R (asIntOf v) (asIntOf v'):=by
 cases h with
 | int k n=>exact zac rfl
 | _=>exact zae.halt
theorem zei[low:zay]{R:BR}(h:zaj R v v'):zae L M QEq R (asInt v) (asInt v'):=by
 unfold asInt
 refine zab (zco h) ?_
 rintro R' _ p _ rfl
 exact zac rfl
theorem zn5[low:zay]{R:BR}(h:zaj R v v'):zae L M QEq R (asBool v) (asBool v'):=by
 cases h with
 | bool b=>exact zac rfl
 | _=>exact zae.halt
theorem zpX[low:zay][Twin L M]{R:BR}(t:TypeId){i i':Value}(h:zaj R v v')(hi:zaj R i i'):zae L M QV R (Instr.index t v i) (Instr.index t v' i'):=by
 unfold Instr.index
 refine zab (zco hi) ?_
 rintro R' hR ⟨k,n⟩ _ rfl
 refine zab (zah t) ?_
 rintro R2 hR2 d _ rfl
 replace h:=(h.mono hR).mono hR2
 cases h with
 | agg h1 h2 =>
  split
  ·split
   ·refine zab (zaz _) ?_
    rintro R3 hR3 m _ rfl
    rename_i e1 e2 _
    cases e2
    exact zf3 _ (zat.mono hR3 ⟨h1,h2⟩) _
   ·exact zae.never (zaV _ _ _ _)
  ·next e2=>cases e2
  ·exact zax
 | string s =>
  split
  ·next e2=>cases e2
  ·next e2=>cases e2;split
            · exact zac (.int _ _)
            · exact zae.never (zaV _ _ _ _)
  ·exact zax
 | _=>split <;> first|(next e2=>cases e2)|exact zax
end
section
open Go
variable{L M:Program}
theorem zel[low:zay]{R:BR}(h:R r r'):zae L M QEq R (shape r) (shape r'):=.shape h fun _=>.pure rfl
theorem zd7{α:Type}{c:Prop}[Decidable c]{a b:Sem α}(ha:zct P a)(hb:zct P b):zct P (if c then a else b):=by
 split
 ·exact ha
 ·exact hb
theorem zaD[low:zay][Twin L M]{R:BR}(t:TypeId):zae L M (fun _ d d'=>d=d'/\L.underlying t=some d) R (underlying t) (underlying t):=by
 unfold underlying
 refine zab zaS ?_
 rintro R' _ p p' ⟨rfl,rfl⟩
 rw[Twin.und (L:=p) (M:=p') t]
 split
 ·next d hd=>exact zac ⟨rfl,hd⟩
 ·exact zax
theorem zl5[low:zay][Twin L M]{R:BR}(s:TypeId)(h:zaj R v v')(f:Nat)(hp:∀ fs fd,L.underlying s=some (.struct fs)->fs[f]?=some fd->∀ i,L.info? fd.type=some i->i.size≠0):zae L M QV R (Instr.fieldAt s v f) (Instr.fieldAt s v' f):=by
 unfold Instr.fieldAt
 refine zab (zaD s) ?_
 rintro R' hR d _ ⟨rfl,hd⟩
 split
 ·next fs =>
  split
  ·next fd hfd =>
   refine zab (zbY (h.mono hR)) ?_
   intro R2 hR2 a a' ha
   refine zab (Q:=QA) ?_ (fun _ _ _ _ hx=>zac (.ptr hx))
   unfold fieldPlace
   have hsz:zae L M (fun _ n n'=>n=n'/\n≠0) R2 (Go.sizeOf fd.type) (Go.sizeOf fd.type):=by
    unfold Go.sizeOf
    refine zab (zda fd.type) ?_
    rintro R3 _ i _ ⟨rfl,hi⟩
    exact zac ⟨rfl,hp fs fd hd hfd i hi⟩
   refine zab hsz ?_
   rintro R3 hR3 n _ ⟨rfl,hn⟩
   rw[if_neg hn,if_neg hn]
   exact zac ((ha.mono hR3).add _)
  ·exact zax
 ·exact zax
theorem zl6[low:zay][Twin L M]{R:BR}(t:TypeId){i i':Value}(h:zaj R x x')(hi:zaj R i i'):zae L M QV R (Instr.indexAt t x i) (Instr.indexAt t x' i'):=by
 unfold Instr.indexAt
 refine zab (zco hi) ?_
 rintro R' hR ⟨k,n⟩ _ rfl
 refine zab (zah t) ?_
 rintro R2 hR2 d _ rfl
 replace h:=(h.mono hR).mono hR2
 cases d with
 | array len elem =>
  refine zab (zbY h) ?_
  intro R3 hR3 a a' ha
  show zae L M QV R3 (underlying t >>= _) (underlying t >>= _)
  refine zab (zah t) ?_
  rintro R4 hR4 d2 _ rfl
  by_cases hin:0<=n/\n<((len:Nat):Int)
  ·simp only[if_pos hin]
   refine zab (zaz _) ?_
   rintro R5 hR5 m _ rfl
   exact zac (.ptr ((((ha)).mono hR4).mono hR5 |>.add _))
  ·simp only[if_neg hin]
   exact zae.never (zd7 zam (zaV _ _ _ _))
 | slice elem =>
  cases h with
  | slice n2 m ha =>
   show zae L M QV R2 (underlying t >>= _) (underlying t >>= _)
   refine zab (zah t) ?_
   rintro R4 hR4 d2 _ rfl
   by_cases hin:0<=n/\n<((n2:Nat):Int)
   ·simp only[if_pos hin]
    refine zab (zaz _) ?_
    rintro R5 hR5 m _ rfl
    exact zac (.ptr ((((ha)).mono hR4).mono hR5 |>.add _))
   ·simp only[if_neg hin]
    exact zae.never (zd7 zam (zaV _ _ _ _))
  | empty a c =>
   show zae L M QV R2 (underlying t >>= _) (underlying t >>= _)
   refine zab (zah t) ?_
   rintro R4 hR4 d2 _ rfl
   have hin:¬ (0<=n/\n<((0:Nat):Int)):=qg
   simp only[if_neg hin]
   exact zae.never (zd7 zam (zaV _ _ _ _))
  | nilSlice n2 m =>
   show zae L M QV R2 (underlying t >>= _) (underlying t >>= _)
   refine zab (zah t) ?_
   rintro R4 hR4 d2 _ rfl
   exact zae.never (zaV _ _ _ _)
  | _=>exact zae.halt
 | _=>cases h <;> exact zae.halt
theorem za5[low:zay]{R:BR}(h:zaj R x x')(y:Nat)(c:BoundsCode):zae L M QEq R (Instr.sliceBound x y c) (Instr.sliceBound x' y c):=by
 unfold Instr.sliceBound
 refine zab (zco h) ?_
 rintro R' _ ⟨k,n⟩ _ rfl
 simp only
 split
 ·exact zac rfl
 ·exact zae.never (zaV _ _ _ _)
theorem zbB[low:zay]{R:BR}(h:zaj R x x')(c:BoundsCode):zae L M (fun _ a b=>a=0/\b=0) R (Instr.sliceBound x 0 c) (Instr.sliceBound x' 0 c):=by
 unfold Instr.sliceBound
 refine zab (zco h) ?_
 rintro R' _ ⟨k,n⟩ _ rfl
 simp only
 split
 ·exact zac ⟨qg,qg⟩
 ·exact zae.never (zaV _ _ _ _)
theorem zgN[low:zay]{R:BR}(n:Nat):zae L M QEq R (askRoom n) (askRoom n):=by
 unfold askRoom
 split
 ·exact .mark (.pure rfl)
 ·exact zac rfl
theorem zat.plainMap{R:BR}(h:zat R c c')(hd:Plain default)(n:Nat):zat R ((Array.range n).map (c[· % c.size]!)) ((Array.range n).map (c'[· % c'.size]!)):=by
 refine⟨qk,fun i h1 h2=>?_⟩
 simp only[Array.getElem_map,Array.getElem_range]
 rw[<- h.1]
 by_cases hs:i % c.size<c.size
 ·have hs':i % c.size<c'.size:=by rw[<- h.1];exact hs
  rw[getElem!_pos c _ hs,getElem!_pos c' _ hs']
  exact h.2 _ hs hs'
 ·rw[getElem!_neg c _ hs,getElem!_neg c' _ (by rw[<- h.1];exact hs)]
  exact hd R
theorem zcz:Plain (default:Value):=fun _=>zaj.bool _
theorem zaj.slice'{R:BR}{a a':Option Addr}(n m:Nat)(h:(a=none/\a'=none)\/∃ x x',a=some x/\a'=some x'/\zbM R x x'):zaj R (.slice a n m) (.slice a' n m):=by
 rcases h with ⟨rfl,rfl⟩|⟨x,x',rfl,rfl,h⟩
 ·exact .nilSlice n m
 ·exact .slice n m h
def zci(R:BR)(o o':Option Value):Prop:=(o=none/\o'=none)\/∃ v v',o=some v/\o'=some v'/\zaj R v v'
theorem zci.mono{R R':BR}(hR:R.le R'){o o':Option Value}(h:zci R o o'):zci R' o o':=by
 rcases h with h|⟨v,v',a,b,c⟩
 ·exact Or.inl h
 ·exact Or.inr ⟨v,v',a,b,c.mono hR⟩
theorem zc9[low:zay]{R:BR}(s:Bool)(len cap:Nat)(h1:zci R lo lo')(h2:zci R hi hi'):zae L M QEq R (Instr.sliceBounds s len cap lo hi none) (Instr.sliceBounds s len cap lo' hi' none):=by
 unfold Instr.sliceBounds
 rcases h2 with ⟨rfl,rfl⟩|⟨v,v',rfl,rfl,hv⟩
 ·rcases h1 with ⟨rfl,rfl⟩|⟨u,u',rfl,rfl,hu⟩
  ·exact zac rfl
  ·show zae L M QEq R (Instr.sliceBound _ _ _ >>= _) (Instr.sliceBound _ _ _ >>= _)
   refine zab (za5 hu _ _) ?_
   rintro R' _ l _ rfl
   exact zac rfl
 ·show zae L M QEq R (Instr.sliceBound _ _ _ >>= _) (Instr.sliceBound _ _ _ >>= _)
  refine zab (za5 hv _ _) ?_
  rintro R' hR b _ rfl
  rcases h1 with ⟨rfl,rfl⟩|⟨u,u',rfl,rfl,hu⟩
  ·exact zac rfl
  ·refine zab (za5 (hu.mono hR) _ _) ?_
   rintro R2 _ l _ rfl
   exact zac rfl
theorem zqI[low:zay][Twin L M](hz:zbm L){α:Type}{Q:BR->α->α->Prop}{R:BR}(e:TypeId)(n:Nat){k k':Array Value->Sem α}(hk:∀ R':BR,R.le R'->∀ z z',zat R' z z'->zae L M Q R' (k z) (k' z')) :
  zae L M Q R (if n=0 then (pure #[] >>= k) else (zeroValue e >>= fun v=>pure v.cells >>= k)) (if n=0 then (pure #[] >>= k') else (zeroValue e >>= fun v=>pure v.cells >>= k')):=by
 split
 ·exact hk R (BR.le_refl _) _ _ zat.nil
 ·exact zab (zbl hz e) fun R' hR v v' hv=>hk R' hR _ _ hv.cells
theorem ziF[low:zay][Twin L M](hz:zbm L){R:BR}(t:TypeId){l l' c c':Value}(hl:zaj R l l')(hc:zaj R c c'):zae L M QV R (Instr.makeSlice t l c) (Instr.makeSlice t l' c'):=by
 unfold Instr.makeSlice
 refine zab (zah t) ?_
 rintro R1 hR1 d _ rfl
 split
 ·next elem =>
  refine zab (zei (hl.mono hR1)) ?_
  rintro R2 hR2 len _ rfl
  refine zab (zei ((hc.mono hR1).mono hR2)) ?_
  rintro R3 hR3 cap _ rfl
  refine zab (zbj elem) ?_
  rintro R4 hR4 i _ rfl
  dsimp only
  split
  ·refine zae.never ?_
   split
   ·exact zao (zan _)
   ·split
    ·exact zao (zan _)
    ·first
     | exact zao (zap fun _=>zan _)
     | exact zap fun _=>zao (zan _)
     | exact zap fun _=>zan _
  ·refine zab (zgN _) ?_
   rintro R5 hR5 _ _ _
   refine zab (zaz elem) ?_
   rintro R6 hR6 n _ rfl
   refine zqI hz elem _ ?_
   intro R7 hR7 z z' hzz
   refine zab (zej elem (hzz.plainMap zcz _)) ?_
   intro R8 hR8 a a' ha
   exact zac (.slice _ _ ha)
 ·exact zax
inductive zoy(R:BR):List (Nat × Value)->List (Nat × Value)->Prop
 | nil:zoy R [] []
 | cons (i:Nat) {v v':Value} {r r':List (Nat × Value)}:zaj R v v'->zoy R r r'->zoy R ((i,v)::r) ((i,v')::r')
theorem zoy.mono{R R':BR}(hR:R.le R')(h:zoy R l l'):zoy R' l l':=by
 induction h with
 | nil=>exact .nil
 | cons i hv _ ih=>exact .cons i (hv.mono hR) ih
theorem znP{R:BR}(off:Nat):∀(l l':List Value),zgW R l l'->∀(j:Nat) {cs cs':Array Value},zat R cs cs' ->
  zat R ((l.zipIdx j).foldl (fun cs (p:Value × Nat)=>cs.setIfInBounds (off+p.2) p.1) cs) ((l'.zipIdx j).foldl (fun cs (p:Value × Nat)=>cs.setIfInBounds (off+p.2) p.1) cs'):=by
 intro l l' h
 induction h with
 | nil=>exact fun j cs cs' hr=>hr
 | cons hv _ ih =>
  intro j cs cs' hr
  simp only[List.zipIdx_cons,List.foldl_cons]
  exact ih (j+1) (hr.set _ hv)
theorem zlK{R:BR}(off:Nat)(h:zat R c c'){cs cs':Array Value}(hr:zat R cs cs') :
  zat R (c.zipIdx.foldl (fun cs (p:Value × Nat)=>cs.setIfInBounds (off+p.2) p.1) cs) (c'.zipIdx.foldl (fun cs (p:Value × Nat)=>cs.setIfInBounds (off+p.2) p.1) cs'):=by
 have:=znP off _ _ h.all 0 hr
 rw[<- Array.foldl_toList,<- Array.foldl_toList,Array.toList_zipIdx,Array.toList_zipIdx]
 exact this
theorem zha{R:BR}(pl:Nat->Option (Nat × Nat)):∀ {ps ps':List (Nat × Value)},zoy R ps ps'->∀ {cs cs':Array Value},zat R cs cs' ->
  (Instr.fill pl cs ps=none)\/∃ d d',Instr.fill pl cs ps=some d/\Instr.fill pl cs' ps'=some d'/\zat R d d':=by
 intro ps ps' h
 induction h with
 | nil=>exact fun hr=>Or.inr ⟨_,_,rfl,rfl,hr⟩
 | cons i hv _ ih =>
  intro cs cs' hr
  have hvc:=hv.cells
  unfold Instr.fill
  cases hp:pl i with
  | none=>exact Or.inl rfl
  | some q =>
   obtain⟨off,size⟩:=q
   simp only
   rw[<- hvc.1,<- hr.1]
   split
   ·exact Or.inl rfl
   ·exact ih (zlK off hvc hr)
theorem zhz[low:zay][Twin L M](hz:zbm L){R:BR}(t:TypeId)(len:Nat)(h:zoy R ps.toList ps'.toList):zae L M QV R (Instr.buildSlice t len ps) (Instr.buildSlice t len ps'):=by
 unfold Instr.buildSlice
 refine zab (zah t) ?_
 rintro R1 hR1 d _ rfl
 split
 ·next elem =>
  refine zab (zaz elem) ?_
  rintro R2 hR2 size _ rfl
  dsimp only
  split
  ·exact zae.never (zao zam)
  ·refine zqI hz elem _ ?_
   intro R3 hR3 z z' hzz
   have hf:=zha (fun i=>some (i * size,size)) (((h.mono hR1).mono hR2).mono hR3) (hzz.plainMap zcz (len * size))
   rcases hf with hf|⟨d,d',e1,e2,hd⟩
   ·rw[hf];exact zax
   ·rw[e1,e2]
    exact zab (zej elem hd) fun _ _ _ _ ha=>zac (.slice _ _ ha)
 ·exact zax
theorem zfU[low:zay]{R:BR}(op:BinOp)(k:IntKind)(x y:Int):zae L M QV R (Op.intArith op k x y) (Op.intArith op k x y):=by
 unfold Op.intArith
 split <;> first|exact zac (.int _ _)|exact zax
theorem zob[low:zay]{R:BR}(op:BinOp)(k:IntKind)(x y:Int):zae L M QV R (Op.intDiv op k x y) (Op.intDiv op k x y):=by
 unfold Op.intDiv
 split
 ·exact zae.never (zan _)
 ·split <;> first|exact zac (.int _ _)|exact zax
theorem zgP[low:zay]{R:BR}(op:BinOp)(k:IntKind)(x y:Int):zae L M QV R (Op.intBits op k x y) (Op.intBits op k x y):=by
 unfold Op.intBits
 dsimp only
 split <;> first|exact zac (.int _ _)|exact zax
theorem zoa[low:zay]{R:BR}(op:BinOp)(x y:Int):zae L M QV R (Op.intCmp op x y) (Op.intCmp op x y):=by
 unfold Op.intCmp
 split <;> first|exact zac (.bool _)|exact zax
theorem zp2[low:zay]{R:BR}(op:UnOp)(h:zaj R v v'):zae L M QV R (Op.unary op v) (Op.unary op v'):=by
 cases h with
 | int k n=>cases op <;> (simp only[Op.unary];first|exact zfU _ _ _ _|exact zgP _ _ _ _|exact zax)
 | bool b=>cases op <;> first|exact zac (.bool _)|exact zae.halt
 | _=>cases op <;> exact zae.halt
theorem zn6[low:zay]{R:BR}(op:BinOp)(t:TypeId)(k:IntKind)(x y:Int)(hs:op≠.shl/\op≠.shr):zae L M QV R (binOp op t (.int k x) (.int k y)) (binOp op t (.int k x) (.int k y)):=by
 obtain⟨h1,h2⟩:=hs
 cases op <;> first
  | exact absurd rfl h1
  | exact absurd rfl h2
  | (simp only[binOp,ne_eq,not_true,if_false];first|exact zfU _ _ _ _|exact zob _ _ _ _|exact zgP _ _ _ _|exact zoa _ _ _)
theorem zaT[low:zay]{α:Type}{Q:BR->α->α->Prop}{R:BR}{c:Prop}[Decidable c]{a a' b b':Sem α}(h1:c->zae L M Q R a a')(h2:¬ c->zae L M Q R b b'):zae L M Q R (if c then a else b) (if c then a' else b'):=by
 split
 ·exact h1 qn
 ·exact h2 qn
theorem zbC[low:zay]{R:BR}(s:Bool)(len cap:Nat)(h1:zci R lo lo')(h2:zci R hi hi')(h3:zci R mx mx'):zae L M QEq R (Instr.sliceBounds s len cap lo hi mx) (Instr.sliceBounds s len cap lo' hi' mx'):=by
 rcases h3 with ⟨rfl,rfl⟩|⟨v,v',rfl,rfl,hv⟩
 ·exact zc9 s len cap h1 h2
 ·unfold Instr.sliceBounds
  show zae L M QEq R (Instr.sliceBound _ _ _ >>= _) (Instr.sliceBound _ _ _ >>= _)
  refine zab (za5 hv _ _) ?_
  rintro R1 hR1 m _ rfl
  replace h2:=h2.mono hR1
  rcases h2 with ⟨rfl,rfl⟩|⟨u,u',rfl,rfl,hu⟩
  ·exact zae.halt
  ·show zae L M QEq R1 (Instr.sliceBound _ _ _ >>= _) (Instr.sliceBound _ _ _ >>= _)
   refine zab (za5 hu _ _) ?_
   rintro R2 hR2 h _ rfl
   replace h1:=(h1.mono hR1).mono hR2
   rcases h1 with ⟨rfl,rfl⟩|⟨x,x',rfl,rfl,hx⟩
   ·exact zac rfl
   ·refine zab (za5 hx _ _) ?_
    rintro R3 _ l _ rfl
    exact zac rfl
theorem zf4[low:zay]{R:BR}(h1:zci R lo lo')(h2:zci R hi hi')(h3:zci R mx mx'):zae L M (fun _ a b=>a=(0,0,0)/\b=(0,0,0)) R (Instr.sliceBounds true 0 0 lo hi mx) (Instr.sliceBounds true 0 0 lo' hi' mx'):=by
 have low:∀ {R':BR},R.le R'->∀(c:BoundsCode),zae L M (fun _ a b=>a=(0,0,0)/\b=(0,0,0)) R' (do
   let l <- match lo with
    | some v=>Instr.sliceBound v 0 c
    | none=>pure 0
   pure (l,0,0)) (do
   let l <- match lo' with
    | some v=>Instr.sliceBound v 0 c
    | none=>pure 0
   pure (l,0,0)):=by
  intro R' hR c
  rcases h1 with ⟨rfl,rfl⟩|⟨u,u',rfl,rfl,hu⟩
  ·exact zac ⟨rfl,rfl⟩
  ·refine zab (zbB (hu.mono hR) _) ?_
   rintro R2 _ l l' ⟨rfl,rfl⟩
   exact zac ⟨rfl,rfl⟩
 unfold Instr.sliceBounds
 rcases h3 with ⟨rfl,rfl⟩|⟨v,v',rfl,rfl,hv⟩
 ·rcases h2 with ⟨rfl,rfl⟩|⟨u,u',rfl,rfl,hu⟩
  ·exact low (BR.le_refl _) _
  ·show zae L M _ R (Instr.sliceBound _ _ _ >>= _) (Instr.sliceBound _ _ _ >>= _)
   refine zab (zbB hu _) ?_
   rintro R' hR b b' ⟨rfl,rfl⟩
   exact low hR _
 ·show zae L M _ R (Instr.sliceBound _ _ _ >>= _) (Instr.sliceBound _ _ _ >>= _)
  refine zab (zbB hv _) ?_
  rintro R1 hR1 m m' ⟨rfl,rfl⟩
  replace h2:=h2.mono hR1
  rcases h2 with ⟨rfl,rfl⟩|⟨u,u',rfl,rfl,hu⟩
  ·exact zae.halt
  ·show zae L M _ R1 (Instr.sliceBound _ _ _ >>= _) (Instr.sliceBound _ _ _ >>= _)
   refine zab (zbB hu _) ?_
   rintro R2 hR2 b b' ⟨rfl,rfl⟩
   exact low (BR.le_trans hR1 hR2) _
theorem zfS[low:zay]{R:BR}(h:zaj R v v'):zae L M QA R (asAddr v) (asAddr v'):=by
 cases h with
 | ptr h=>exact zac h
 | nilPtr=>exact zae.never (zan (α:=Addr) .nilDeref)
 | _=>exact zae.halt
theorem zbM.cut{R:BR}(h:zbM R a a')(c:Prop)[Decidable c](n:Nat):zbM R (if c then a else a.add n) (if c then a' else a'.add n):=by
 split
 ·exact h
 ·exact h.add n
theorem zp0[low:zay][Twin L M]{R:BR}(t:TypeId)(h:zaj R x x')(h1:zci R lo lo')(h2:zci R hi hi')(h3:zci R mx mx'):zae L M QV R (Instr.slice t x lo hi mx) (Instr.slice t x' lo' hi' mx'):=by
 unfold Instr.slice
 refine zab (zah t) ?_
 rintro R1 hR1 d _ rfl
 replace h:=h.mono hR1
 replace h1:=h1.mono hR1
 replace h2:=h2.mono hR1
 replace h3:=h3.mono hR1
 cases d with
 | string =>
  cases h with
  | string s =>
   have e3:mx.isSome=mx'.isSome:=by rcases h3 with ⟨rfl,rfl⟩|⟨_,_,rfl,rfl,_⟩ <;> rfl
   dsimp only
   rw[e3]
   refine zaT (fun _=>zae.halt) (fun _=>?_)
   refine zab (zc9 false _ _ h1 h2) ?_
   rintro R2 _ ⟨l,hh,m⟩ _ rfl
   exact zac (.string _)
  | _=>exact zae.halt
 | slice e =>
  cases h with
  | slice n m ha =>
   refine zab (zbC true n m h1 h2 h3) ?_
   rintro R2 hR2 ⟨l,hh,mm⟩ _ rfl
   refine zab (zaz e) ?_
   rintro R3 hR3 k _ rfl
   refine zac (zaj.slice' _ _ ?_)
   by_cases q:mm=l
   ·simp only[if_pos q]
    exact Or.inr ⟨_,_,rfl,rfl,(ha.mono hR2).mono hR3⟩
   ·simp only[if_neg q]
    exact Or.inr ⟨_,_,rfl,rfl,((ha.mono hR2).mono hR3).add _⟩
  | empty a c =>
   refine zab (zf4 h1 h2 h3) ?_
   rintro R2 hR2 p p' ⟨rfl,rfl⟩
   refine zab (zaz e) ?_
   rintro R3 hR3 k _ rfl
   exact zac (.empty _ _)
  | nilSlice n m =>
   refine zab (zbC true n m h1 h2 h3) ?_
   rintro R2 hR2 ⟨l,hh,mm⟩ _ rfl
   refine zab (zaz e) ?_
   rintro R3 hR3 k _ rfl
   refine zac (zaj.slice' _ _ ?_)
   by_cases q:mm=l
   ·exact Or.inl ⟨qk,qk⟩
   ·exact Or.inl ⟨qk,qk⟩
  | _=>exact zae.halt
 | pointer arr =>
  have hh:zae L M QV R1 (asAddr x >>= fun a=>underlying arr >>= fun d=>match d with
    | .array n elem=>Instr.sliceBounds false n n lo hi mx >>= fun p=>sizeOf elem >>= fun size=>pure (.slice (some (if p.2.2=p.1 then a else a.add (p.1 * size))) (p.2.1 - p.1) (p.2.2 - p.1))
    | _=>stuck "Slice: array type expected") (asAddr x' >>= fun a=>underlying arr >>= fun d=>match d with
    | .array n elem=>Instr.sliceBounds false n n lo' hi' mx' >>= fun p=>sizeOf elem >>= fun size=>pure (.slice (some (if p.2.2=p.1 then a else a.add (p.1 * size))) (p.2.1 - p.1) (p.2.2 - p.1))
    | _=>stuck "Slice: array type expected"):=by
   refine zab (zfS h) ?_
   intro R2 hR2 a a' ha
   refine zab (zah arr) ?_
   rintro R3 hR3 d _ rfl
   split
   ·refine zab (zbC false _ _ ((h1.mono hR2).mono hR3) ((h2.mono hR2).mono hR3) ((h3.mono hR2).mono hR3)) ?_
    rintro R4 hR4 ⟨l,hh,m⟩ _ rfl
    refine zab (zaz _) ?_
    rintro R5 hR5 k _ rfl
    exact zac (.slice _ _ ((((ha.mono hR3).mono hR4).mono hR5).cut _ _))
   ·exact zae.halt
  cases h <;> exact hh
 | _=>cases h <;> exact zae.halt
theorem zl9[low:zay][Twin L M]{R:BR}(t:TypeId)(h:zaj R x x')(h1:zci R lo lo')(h2:zci R hi hi')(h3:zci R mx mx'):zae L M QV R (Instr.sliceAt t x lo hi mx) (Instr.sliceAt t x' lo' hi' mx'):=by
 unfold Instr.sliceAt
 refine zab (zah t) ?_
 rintro R1 hR1 d _ rfl
 cases d with
 | array n elem =>
  refine zab (zbY (h.mono hR1)) ?_
  intro R2 hR2 a a' ha
  refine zab (zbC false n n ((h1.mono hR1).mono hR2) ((h2.mono hR1).mono hR2) ((h3.mono hR1).mono hR2)) ?_
  rintro R3 hR3 ⟨l,hh,m⟩ _ rfl
  refine zab (zaz elem) ?_
  rintro R4 hR4 k _ rfl
  exact zac (.slice _ _ (((ha.mono hR3).mono hR4).cut _ _))
 | _=>exact zp0 t (h.mono hR1) (h1.mono hR1) (h2.mono hR1) (h3.mono hR1)
theorem zpY[low:zay]{R:BR}(h:zaj R v v'):zae L M QEq R (Builtin.lenOf v) (Builtin.lenOf v'):=by
 cases h with
 | slice n m _=>exact zac rfl
 | nilSlice n m=>exact zac rfl
 | empty a c=>exact zac rfl
 | string s=>exact zac rfl
 | _=>exact zae.halt
theorem zfX[low:zay]{R:BR}(h:zaj R v v'):zae L M (fun _ a b=>a=b/\∀ p,v=.slice p 0 0->a=0) R (Builtin.lenOf v) (Builtin.lenOf v'):=by
 cases h with
 | slice n m _=>exact zac ⟨rfl,fun p e=>by cases e;rfl⟩
 | nilSlice n m=>exact zac ⟨rfl,fun p e=>by cases e;rfl⟩
 | empty a c=>exact zac ⟨rfl,fun p e=>rfl⟩
 | string s=>exact zac ⟨rfl,fun p e=>by cases e⟩
 | _=>exact zae.halt
theorem zat.plain{R:BR}(h:∀ i (h:i<c.size),zaj R c[i] c[i]):zat R c c:=⟨rfl,fun i h1 _=>h i h1⟩
theorem zbs[low:zay]{R:BR}(size n:Nat)(h:zaj R v v')(hn:∀ a,v=.slice a 0 0->n=0):zae L M QR R (Builtin.firstCells size n v) (Builtin.firstCells size n v'):=by
 cases h with
 | slice _ _ ha=>exact zeN ha _
 | nilSlice _ _=>exact zac zat.nil
 | empty a c =>
  obtain rfl:=hn _ rfl
  show zae L M QR R (loadCells _ (0 * size)) (loadCells _ (0 * size))
  rw[Nat.zero_mul]
  exact zac zat.nil
 | string s=>exact zac (zat.plain fun i hi=>by simp only[Array.getElem_map];exact .int _ _)
 | _=>exact zae.halt
theorem zdx[low:zay]{R:BR}(size:Nat)(h:zaj R v v'):zae L M (fun _ c c'=>c=#[]/\c'=#[]) R (Builtin.firstCells size 0 v) (Builtin.firstCells size 0 v'):=by
 have z:∀ a:Addr,(loadCells a (0 * size):Sem (Array Value))=pure #[]:=fun a=>by rw[Nat.zero_mul];rfl
 cases h with
 | slice _ _ ha =>
  show zae L M _ R (loadCells _ (0 * size)) (loadCells _ (0 * size))
  rw[z,z]
  exact zac ⟨rfl,rfl⟩
 | nilSlice _ _=>exact zac ⟨rfl,rfl⟩
 | empty a c =>
  show zae L M _ R (loadCells _ (0 * size)) (loadCells _ (0 * size))
  rw[z,z]
  exact zac ⟨rfl,rfl⟩
 | string s=>exact zac ⟨qk,qk⟩
 | _=>exact zae.halt
theorem zat.app{R:BR}{d d':Array Value}(h:zat R c c')(h2:zat R d d'):zat R (c++d) (c'++d'):=by
 refine⟨by simp[h.1,h2.1],fun i h3 h4=>?_⟩
 by_cases q:i<c.size
 ·rw[Array.getElem_append_left q,Array.getElem_append_left (by rw[<- h.1];exact q)]
  exact h.2 i q _
 ·have q':c'.size<=i:=by have:=h.1;omega
  rw[Array.getElem_append_right qg,Array.getElem_append_right q']
  have e:i - c'.size=i - c.size:=by rw[h.1]
  have h5:i - c.size<d.size:=by simp at h3;omega
  have:=h2.2 (i - c.size) h5 (by rw[<- h2.1];exact h5)
  simpa only[e] using this
theorem zat.zeros{R:BR}{z z':Array Value}(h:zat R z z')(n:Nat):zat R (Builtin.zeroCells z n) (Builtin.zeroCells z' n):=by
 unfold Builtin.zeroCells
 rw[<- h.1]
 have:=h.plainMap zcz (n * z.size)
 rw[<- h.1] at this
 exact this
theorem zat.get?{R:BR}(h:zat R c c')(i:Nat):zci R c[i]? c'[i]?:=by
 by_cases q:i<c.size
 ·have q':i<c'.size:=by rw[<- h.1];exact q
  exact Or.inr ⟨_,_,Array.getElem?_eq_getElem q,Array.getElem?_eq_getElem q',h.2 i q q'⟩
 ·exact Or.inl ⟨Array.getElem?_eq_none qg,Array.getElem?_eq_none (by have:=h.1;omega)⟩
def zqp(L:Program)(ts:Array TypeId):Prop:=∃ t d,ts[1]?=some t/\L.underlying t=some d/\∀ k,d≠.int k
theorem zsa[low:zay]{R:BR}[Twin L M]{d:TypeDesc}(h:L.underlying t=some d):zae L M (fun _ a b=>a=d/\b=d) R (underlying t) (underlying t):=by
 unfold underlying
 refine zab zaS ?_
 rintro R' _ p p' ⟨rfl,rfl⟩
 rw[Twin.und (L:=p) (M:=p') t,h]
 exact zac ⟨rfl,rfl⟩
instance softly_holds {P:Program} (a:Addr) (n:Nat):zaH P (Builtin.holdsCells a n):=by
 unfold Builtin.holdsCells
 have:∀ o:Option (TypeId × Nat),zaH P (match o with|some (_,k)=>(pure (a.spot.isNone && a.off+n<=k):Sem Bool)|none=>pure false):=fun o=>by split <;> infer_instance
 infer_instance
instance softly_mayShare {P:Program} (size sLen n:Nat) (base:Option Addr) (x:Value):zaH P (Builtin.mayShare size sLen n base x):=by
 have tail:∀(base:Option Addr) (t:Bool),zaH P (if (!t)=true then (pure true:Sem Bool) else (match x with|.slice (some b) _ _=>(do pure (!(<- Builtin.holdsCells b (n * size)) || base.any (·.block == b.block)):Sem Bool)|_=>pure false)):=by
  intro base t
  split
  ·infer_instance
  ·split <;> infer_instance
 unfold Builtin.mayShare
 cases base with
 | none=>exact tail none true
 | some a=>exact softly_bind _ _ (F:=fun c=>softly_bind _ _ (F:=fun d=>tail (some a) _))
theorem zn4[low:zay][Twin L M](hz:zbm L){R:BR}(ts:Array TypeId)(ty:TypeId)(h:zat R as as')(hm:zqp L ts):zae L M QV R (Builtin.append_ ts ty as) (Builtin.append_ ts ty as'):=by
 obtain⟨t1,d1,hm1,hm2,hm3⟩:=hm
 unfold Builtin.append_
 rw[hm1]
 cases ts[0]? with
 | none=>exact zae.halt
 | some t0 =>
 rcases h.get? 0 with ⟨e1,e2⟩|⟨s,s',e1,e2,hs⟩
 ·rw[e1,e2];exact zae.halt
 rcases h.get? 1 with ⟨e3,e4⟩|⟨x,x',e3,e4,hx⟩
 ·rw[e1,e2,e3,e4];exact zae.halt
 rw[e1,e2,e3,e4]
 dsimp only
 refine zab (zah t0) ?_
 rintro R1 hR1 d _ rfl
 replace hs:=hs.mono hR1
 replace hx:=hx.mono hR1
 cases d with
 | slice elem =>
  have hbase:∃ base base' n m,s=.slice base n m/\s'=.slice base' n m/\((base=none/\base'=none)\/(∃ x x',base=some x/\base'=some x'/\zbM R1 x x')\/∃ x x',base=some x/\base'=some x'/\n=0/\m=0)\/∀ b n m,s≠.slice b n m:=by
   cases hs with
   | slice n m ha=>exact⟨_,_,n,m,Or.inl ⟨rfl,rfl,Or.inr (Or.inl ⟨_,_,rfl,rfl,ha⟩)⟩⟩
   | empty a c=>exact⟨_,_,0,0,Or.inl ⟨rfl,rfl,Or.inr (Or.inr ⟨_,_,rfl,rfl,rfl,rfl⟩)⟩⟩
   | nilSlice n m=>exact⟨none,none,n,m,Or.inl ⟨rfl,rfl,Or.inl ⟨rfl,rfl⟩⟩⟩
   | _=>exact⟨none,none,0,0,Or.inr (fun _ _ _ q=>by cases q)⟩
  obtain⟨base,base',sLen,sCap,hb|hb⟩:=hbase
  ·obtain⟨rfl,rfl,hb⟩:=hb
   dsimp only
   refine zab (zaz elem) ?_
   rintro R2 hR2 size _ rfl
   refine zab (zsa hm2) ?_
   rintro R3 hR3 _ _ ⟨rfl,rfl⟩
   rename_i dd
   refine zab (Q:=fun _ a b=>a=false/\b=false) (zac ⟨?_,?_⟩) ?_
   ·revert hm3
    clear hm2
    intro hm3
    cases dd <;> first|rfl|exact absurd rfl (hm3 _)
   ·revert hm3
    clear hm2
    intro hm3
    cases dd <;> first|rfl|exact absurd rfl (hm3 _)
   rintro R3' hR3' _ _ ⟨rfl,rfl⟩
   replace hR3:=BR.le_trans hR3 hR3'
   show zae L M QV R3' (Builtin.lenOf x >>= _) (Builtin.lenOf x' >>= _)
   refine zab (zfX ((hx.mono hR2).mono hR3)) ?_
   rintro R4 hR4 n _ ⟨rfl,hn0⟩
   have hx4:=((hx.mono hR2).mono hR3).mono hR4
   have hs4:=((hs.mono hR2).mono hR3).mono hR4
   have hb4:(base=none/\base'=none)\/(∃ x x',base=some x/\base'=some x'/\zbM R4 x x')\/∃ x x',base=some x/\base'=some x'/\sLen=0/\sCap=0:=by
    rcases hb with hb|⟨a,a',q1,q2,q3⟩|hb
    ·exact Or.inl hb
    ·exact Or.inr (Or.inl ⟨a,a',q1,q2,((q3.mono hR2).mono hR3).mono hR4⟩)
    ·exact Or.inr (Or.inr hb)
   refine zaT (fun hneed=>?_) (fun _=>?_)
   ·have hb5:((base=none/\base'=none)\/∃ x x',base=some x/\base'=some x'/\zbM R4 x x')\/∃ x x',base=some x/\base'=some x'/\sLen=0/\sCap=0:=by
     rcases hb4 with h|h|h
     ·exact Or.inl (Or.inl h)
     ·exact Or.inl (Or.inr h)
     ·exact Or.inr h
    clear hb4
    rcases hb5 with hb4|⟨a,a',rfl,rfl,rfl,rfl⟩
    rotate_left
    ·obtain rfl:n=0:=qg
     refine zab (zdx size hx4) ?_
     rintro R5 hR5 c c' ⟨rfl,rfl⟩
     exact zac (.empty _ _)
    refine zab (zbs size n hx4 hn0) ?_
    intro R5 hR5 c c' hc
    rcases hb4 with ⟨rfl,rfl⟩|⟨a,a',rfl,rfl,ha⟩
    ·exact zac (.nilSlice _ _)
    ·refine zab (zcB ((ha.mono hR5).add _) (zat.all hc) 0) ?_
     intro R6 hR6 _ _ _
     exact zac (.slice _ _ ((ha.mono hR5).mono hR6))
   ·have tail:∀ R5:BR,R4.le R5->zae L M QV R5
      (choose (Question.appendCap (sLen+n) sCap elem) >>= fun newCap=>typeInfo elem >>= fun i=>askRoom (newCap * i.bytes) >>= fun _=>Builtin.firstCells size sLen (Value.slice base sLen sCap) >>= fun old =>
       Builtin.firstCells size n x >>= fun new=>zeroValue elem >>= fun z=>newRow elem (old++new++Builtin.zeroCells z.cells (newCap - (sLen+n))) >>= fun a=>pure (Value.slice (some a) (sLen+n) newCap))
      (choose (Question.appendCap (sLen+n) sCap elem) >>= fun newCap=>typeInfo elem >>= fun i=>askRoom (newCap * i.bytes) >>= fun _=>Builtin.firstCells size sLen (Value.slice base' sLen sCap) >>= fun old =>
       Builtin.firstCells size n x' >>= fun new=>zeroValue elem >>= fun z=>newRow elem (old++new++Builtin.zeroCells z.cells (newCap - (sLen+n))) >>= fun a=>pure (Value.slice (some a) (sLen+n) newCap)):=by
     intro R5 hR5
     refine zab (Q:=QEq) (.choose fun n=>.pure rfl) ?_
     rintro R6 hR6 newCap _ rfl
     refine zab (zbj elem) ?_
     rintro R7 hR7 i _ rfl
     refine zab (zgN _) ?_
     rintro R8 hR8 _ _ _
     have up:R4.le R8:=BR.le_trans hR5 (BR.le_trans hR6 (BR.le_trans hR7 hR8))
     refine zab (zbs size sLen (hs4.mono up) (fun a e=>by cases e;rfl)) ?_
     intro R9 hR9 c c' hc
     refine zab (zbs size n ((hx4.mono up).mono hR9) hn0) ?_
     intro R10 hR10 e e' he
     refine zab (zbl hz elem) ?_
     intro R11 hR11 z z' hzz
     refine zab (zej elem ((((hc.mono hR10).mono hR11).app (he.mono hR11)).app (hzz.cells.zeros _))) ?_
     intro R12 hR12 a a' ha
     exact zac (.slice _ _ ha)
    refine zab (zbj elem) ?_
    rintro R5 hR5 i _ rfl
    refine zaT (fun _=>zae.never (zao (zan _))) (fun _=>?_)
    refine zab (zbj elem) ?_
    rintro R6 hR6 i _ rfl
    refine zaT (fun _=>zae.never (zao (zap fun b=>?_))) (fun _=>tail R6 (BR.le_trans hR5 hR6))
    split
    ·exact zap fun _=>zam
    ·exact zam
  ·cases s <;> first|exact absurd rfl (hb _ _ _)|exact zae.halt
 | _=>exact zae.halt
theorem zrm[low:zay][Twin L M]{R:BR}(ts:Array TypeId)(ty:TypeId)(h:zat R as as'):zae L M QV R (Builtin.copy_ ts ty as) (Builtin.copy_ ts ty as'):=by
 unfold Builtin.copy_
 cases ts[0]? with
 | none=>exact zae.halt
 | some t0 =>
 rcases h.get? 0 with ⟨e1,e2⟩|⟨s,s',e1,e2,hs⟩
 ·rw[e1,e2];exact zae.halt
 rcases h.get? 1 with ⟨e3,e4⟩|⟨x,x',e3,e4,hx⟩
 ·rw[e1,e2,e3,e4];exact zae.halt
 rw[e1,e2,e3,e4]
 dsimp only
 refine zab (zah t0) ?_
 rintro R1 hR1 d _ rfl
 replace hs:=hs.mono hR1
 replace hx:=hx.mono hR1
 cases d with
 | slice elem =>
  cases hs with
  | empty a c =>
   refine zab (zpY hx) ?_
   rintro R2 hR2 k _ rfl
   refine zab (zaz elem) ?_
   rintro R3 hR3 size _ rfl
   rw[show Nat.min k 0=0 from Nat.min_zero k]
   refine zab (zdx size ((hx.mono hR2).mono hR3)) ?_
   rintro R4 hR4 c c' ⟨rfl,rfl⟩
   exact zac (.int _ _)
  | slice n m ha =>
   refine zab (zfX hx) ?_
   rintro R2 hR2 k _ ⟨rfl,hk0⟩
   refine zab (zaz elem) ?_
   rintro R3 hR3 size _ rfl
   refine zab (zbs size _ ((hx.mono hR2).mono hR3) (fun a e=>by rw[hk0 a e];exact Nat.zero_min _)) ?_
   intro R4 hR4 c c' hc
   refine zab (zcB (((ha.mono hR2).mono hR3).mono hR4) (zat.all hc) 0) ?_
   intro R5 hR5 _ _ _
   exact zac (.int _ _)
  | nilSlice n m =>
   refine zab (zfX hx) ?_
   rintro R2 hR2 k _ ⟨rfl,hk0⟩
   refine zab (zaz elem) ?_
   rintro R3 hR3 size _ rfl
   refine zab (zbs size _ ((hx.mono hR2).mono hR3) (fun a e=>by rw[hk0 a e];exact Nat.zero_min _)) ?_
   intro R4 hR4 c c' hc
   exact zac (.int _ _)
  | _=>exact zae.halt
 | _=>exact zae.halt
theorem zc8[low:zay]{R:BR}(h:R r r'):zae L M (fun R o o'=>zoF R o o'/\∀ c n,o=.map c n->low.low<=r) R (getObj r) (getObj r') :=
 .getObj h fun _ _ _ _ hc hn=>.pure ⟨hc,hn⟩
theorem ziI[low:zay]{R:BR}(hx:low.low<=r)(h:R r r'){c c':Array MapEntry}(n:Nat)(hc:zcJ R c c'):zae L M QEq R (setObj r (.map c n)) (setObj r' (.map c' n)):=.setObj hx h hc (.pure rfl)
theorem zr8[low:zay][Twin L M]{R:BR}(ts:Array TypeId)(ty:TypeId)(h:zat R as as'):zae L M QV R (Builtin.len_ ts ty as) (Builtin.len_ ts ty as'):=by
 unfold Builtin.len_
 cases ts[0]? with
 | none=>exact zae.halt
 | some t0 =>
 rcases h.get? 0 with ⟨e1,e2⟩|⟨s,s',e1,e2,hs⟩
 ·rw[e1,e2];exact zae.halt
 rw[e1,e2]
 dsimp only
 refine zab (zah t0) ?_
 rintro R1 hR1 d _ rfl
 replace hs:=hs.mono hR1
 cases d with
 | string=>cases hs <;> first|exact zac (.int _ _)|exact zae.halt
 | slice e=>cases hs <;> first|exact zac (.int _ _)|exact zae.halt
 | array n e=>cases hs <;> exact zac (.int _ _)
 | map k e =>
  cases hs with
  | map hr =>
   refine zab (zc8 hr) ?_
   rintro R2 hR2 _ _ ⟨@⟨c,c',n,hc⟩|_|_,_⟩
   rotate_left
   ·exact zae.halt
   ·exact zae.halt
   dsimp only
   rw[hc.1]
   exact zac (.int _ _)
  | nilMap=>exact zac (.int _ _)
  | _=>exact zae.halt
 | pointer arr =>
  have hh:zae L M QV R1 (underlying arr >>= fun d=>match d with|.array n _=>pure (goInt n)|_=>stuck "len: pointer to array expected") (underlying arr >>= fun d=>match d with|.array n _=>pure (goInt n)|_=>stuck "len: pointer to array expected"):=by
   refine zab (zah arr) ?_
   rintro R2 hR2 d _ rfl
   split
   ·exact zac (.int _ _)
   ·exact zae.halt
  cases hs <;> exact hh
 | chan _ _=>cases hs <;> first|exact zac (.int _ _)|exact zae.halt
 | _=>cases hs <;> exact zae.halt
theorem zr6[low:zay][Twin L M]{R:BR}(ts:Array TypeId)(ty:TypeId)(h:zat R as as'):zae L M QV R (Builtin.cap_ ts ty as) (Builtin.cap_ ts ty as'):=by
 unfold Builtin.cap_
 cases ts[0]? with
 | none=>exact zae.halt
 | some t0 =>
 rcases h.get? 0 with ⟨e1,e2⟩|⟨s,s',e1,e2,hs⟩
 ·rw[e1,e2];exact zae.halt
 rw[e1,e2]
 dsimp only
 refine zab (zah t0) ?_
 rintro R1 hR1 d _ rfl
 replace hs:=hs.mono hR1
 cases d with
 | slice e=>cases hs <;> first|exact zac (.int _ _)|exact zae.halt
 | array n e=>cases hs <;> exact zac (.int _ _)
 | pointer arr =>
  have hh:zae L M QV R1 (underlying arr >>= fun d=>match d with|.array n _=>pure (goInt n)|_=>stuck "cap: pointer to array expected") (underlying arr >>= fun d=>match d with|.array n _=>pure (goInt n)|_=>stuck "cap: pointer to array expected"):=by
   refine zab (zah arr) ?_
   rintro R2 hR2 d _ rfl
   split
   ·exact zac (.int _ _)
   ·exact zae.halt
  cases hs <;> exact hh
 | chan _ _=>cases hs <;> first|exact zac (.int _ _)|exact zae.halt
 | _=>cases hs <;> exact zae.halt
theorem zog[low:zay]{α β:Type}{f:α->Sem β}(hf:∀ a R',zae L M QEq R' (f a) (f a)):∀(as:List α) (R:BR),zae L M QEq R (as.mapM f) (as.mapM f)
 | [],R=>by rw[List.mapM_nil];exact zac rfl
 | a::as,R=>by
  rw[List.mapM_cons]
  refine zab (hf a R) ?_
  rintro R1 hR1 b _ rfl
  refine zab (zog hf as R1) ?_
  rintro R2 hR2 bs _ rfl
  exact zac rfl
theorem zrn[low:zay]{α β:Type}{R:BR}{f:α->Sem β}(hf:∀ a R',zae L M QEq R' (f a) (f a))(as:Array α):zae L M QEq R (as.mapM f) (as.mapM f):=by
 rw[Array.mapM_eq_mapM_toList,<- bind_pure_comp]
 exact zab (zog hf as.toList R) fun _ _ _ _ e=>zac (by rw[e])
theorem zpV[low:zay][Twin L M](hz:zbm L){R:BR}(t:TypeId)(h:zoy R ps.toList ps'.toList):zae L M QV R (Instr.build t ps) (Instr.build t ps'):=by
 unfold Instr.build
 refine zab (zbl hz t) ?_
 intro R1 hR1 z z' hzz
 refine zab (zah t) ?_
 rintro R2 hR2 d _ rfl
 have hzc:=(hzz.mono hR2).cells
 replace h:=(h.mono hR1).mono hR2
 cases d with
 | struct fields =>
  refine zab (zrn (fun f R'=>zab (zaz f.type) fun _ _ _ _ e=>zac (by rw[e])) fields) ?_
  rintro R3 hR3 places _ rfl
  rcases zha (places[·]?) (h.mono hR3) (hzc.mono hR3) with hf|⟨d,d',e1,e2,hd⟩
  ·rw[hf];exact zae.halt
  ·rw[e1,e2]
   exact zac (.agg hd.1 hd.2)
 | array n elem =>
  refine zab (zaz elem) ?_
  rintro R3 hR3 size _ rfl
  rcases zha (fun i=>some (i * size,size)) (h.mono hR3) (hzc.mono hR3) with hf|⟨d,d',e1,e2,hd⟩
  ·rw[hf];exact zae.halt
  ·rw[e1,e2]
   exact zac (.agg hd.1 hd.2)
 | _=>exact zae.halt
theorem zat.two{R:BR}{u':Value}(h:zaj R v v')(h2:zaj R u u'):zat R #[v,u] #[v',u']:=(zat.one h).push h2
theorem zat.tup{R:BR}(h:zat R c c'):zaj R (.tuple c) (.tuple c'):=.tuple h.1 h.2
theorem zhC[low:zay][Twin L M](hz:zbm L){R:BR}(h:zaj R x x')(t a:TypeId)(ok:Bool):zae L M QV R (Instr.typeAssert x t a ok) (Instr.typeAssert x' t a ok):=by
 have holds:∀ {R:BR} {v v':Value},zaj R v v'->zae L M QV R (pure (if ok=true then .tuple #[v,.bool true] else v)) (pure (if ok=true then .tuple #[v',.bool true] else v')):=by
  intro R v v' hv
  cases ok
  ·exact zac hv
  ·exact zac (zat.two hv (.bool true)).tup
 have fails:∀ {R:BR} (e:RuntimeError),zae L M QV R (if ok=true then (zeroValue a >>= fun z=>pure (.tuple #[z,.bool false])) else runtimePanic e) (if ok=true then (zeroValue a >>= fun z=>pure (.tuple #[z,.bool false])) else runtimePanic e):=by
  intro R e
  cases ok
  ·exact zae.never (zan e)
  ·exact zab (zbl hz a) fun _ _ _ _ hv=>zac (zat.two hv (.bool false)).tup
 unfold Instr.typeAssert
 refine zab (zah a) ?_
 rintro R1 hR1 d _ rfl
 replace h:=h.mono hR1
 cases h with
 | nilIface=>cases d <;> exact fails _
 | @iface t' v v' hv =>
  cases d with
  | interface want =>
   refine zab (zbj t') ?_
   rintro R2 hR2 i _ rfl
   split
   ·exact holds (.iface t' (hv.mono hR2))
   ·exact fails _
  | _=>exact zaT (fun _=>holds hv) (fun _=>fails _)
 | _=>cases d <;> exact zae.halt
theorem zjS[low:zay]{R:BR}{fn:Fn}(hf:zm2 fn=true){a a':Array Value}(h:zat R a a')(h2:zat R c c'):zae L M QV R (Instr.makeFunc fn a c) (Instr.makeFunc fn a' c'):=zac (.func fn hf h.1 h.2 h2.1 h2.2)
theorem zl7[low:zay][Twin L M]{R:BR}(t:TypeId){o o':Option Value}(h:zci R o o'):zae L M QV R (Instr.makeMap t o) (Instr.makeMap t o'):=by
 have tail:∀ R:BR,zae L M QV R (newObj (.map #[] 0) >>= fun r=>pure (.map (some r))) (newObj (.map #[] 0) >>= fun r=>pure (.map (some r))):=fun R =>
  zab (zfZ (.other (.map ⟨rfl,fun i h=>absurd h qk⟩) (fun _ _ _ q=>q))) fun _ _ _ _ hr=>zac (.map hr)
 unfold Instr.makeMap
 rcases h with ⟨rfl,rfl⟩|⟨v,v',rfl,rfl,hv⟩
 ·exact tail R
 ·refine zab (zah t) ?_
  rintro R1 hR1 d _ rfl
  cases d with
  | map _ _ =>
   refine zab (zei (hv.mono hR1)) ?_
   rintro R2 hR2 n _ rfl
   exact tail R2
  | _=>exact zae.halt
theorem zhp{α β:Type}{s:Sem α}[S:zaH P s]{f:α->Sem β}(Q:α->Prop)(hs:∀ w x w',s.run P w=.ok x w'->Q x)(hf:∀ a,Q a->zct P (f a)):zct P (s >>= f):=fun w=>by
 rw[Sem.run_bind]
 cases hr:s.run P w with
 | ok y v=>exact hf y (hs w y v hr) v
 | halt hh v=>exact⟨hh,v,rfl,S.soft w hh v hr⟩
instance softly_numberAt {P:Program} (r:Nat):zaH P (numberAt r):=by
 unfold numberAt
 have:∀ o:Obj,zaH P (match o with|.number a lost=>(pure (some (a,lost)):Sem (Option (Addr × Bool)))|_=>pure none):=fun o=>by split <;> infer_instance
 infer_instance
instance softly_behind {P:Program} (a:Addr):zaH P (behindNumber a):=by
 unfold behindNumber
 infer_instance
theorem run_program{x:Program}(h:(program).run P w=.ok x w'):x=P:=by
 simp[program,Sem.run] at h
 exact h.1.symm
theorem run_typeInfo{x:TypeInfo}(h:(typeInfo t).run P w=.ok x w'):P.info? t=some x:=by
 unfold typeInfo at h
 rw[Sem.run_bind] at h
 simp only[program,Sem.run,Result.andThen] at h
 cases hi:P.info? t with
 | none=>rw[hi] at h;simp[stuck] at h
 | some i=>rw[hi] at h;simp[pure] at h;rw[h.1]
def zhq(L:Program)(t:TypeId):Bool:=match L.info? t with
 | some i=>(match i.desc with|.named n _=>n != "sync.copyChecker"|_=>true)
 | none=>true
def zqw(L:Program):Nat->TypeId->Bool
 | 0,_=>false
 | d+1,t=>match L.underlying t with
  | some .bool|some .string|some (.slice _)|some (.map ..)|some (.func ..)=>true
  | some (.int _)=>zhq L t
  | some (.struct fs)=>!L.stoodInHeld t && fs.all fun f=>zqw L d f.type
  | _=>false
class zbv(L M:Program):Prop extends Twin L M where
 stood:∀ t,M.stoodInHeld t=L.stoodInHeld t
 eqg:∀ d t,M.eqGuardType d t=L.eqGuardType d t
 depth:M.depth=L.depth
 globals:L.globals.size=0
 boc:∀ d e n,byteOfCell M d e n=byteOfCell L d e n
 cab:∀ d e c o n,cellAtBytes M d e c o n=cellAtBytes L d e c o n
theorem zn9[low:zay]{α β:Type}{Q:BR->β->β->Prop}(hQ:∀ R R':BR,R.le R'->∀ a b,Q R a b->Q R' a b){f f':α->β->Sem (ForInStep β)}:∀(as:List α) (R:BR) (b b':β),Q R b b' ->
  (∀ a∈as,∀ R':BR,R.le R'->∀ c c',Q R' c c'->zae L M (fun R x x'=>(∃ d d',x=.done d/\x'=.done d'/\Q R d d')\/(∃ d d',x=.yield d/\x'=.yield d'/\Q R d d')) R' (f a c) (f' a c')) ->
  zae L M Q R (forIn as b f) (forIn as b' f')
 | [],R,b,b',h,_=>by rw[List.forIn_nil,List.forIn_nil];exact zac h
 | a::as,R,b,b',h,hf=>by
  rw[List.forIn_cons,List.forIn_cons]
  refine zab (hf a qk R (BR.le_refl R) b b' h) ?_
  rintro R1 hR1 x x' (⟨d,d',rfl,rfl,hd⟩|⟨d,d',rfl,rfl,hd⟩)
  ·exact zac hd
  ·exact zn9 hQ as R1 d d' hd (fun a ha R' hR'=>hf a (by simp[ha]) R' (BR.le_trans hR1 hR'))
theorem zeJ(hg:P.globals.size=0)(ht:zhq P t=true)(a b:Addr):zct P (do
   let (a,b):=((<- behindNumber a).1,(<- behindNumber b).1)
   if a.block == b.block && a.block<(<- program).globals.size then return (<- byteOf a) == (<- byteOf b)
   let .named "sync.copyChecker" _:=(<- typeInfo t).desc|unsupported .addressObserved
   if a == b then pure true else unsupported .addressObserved:Sem Bool):=by
 refine zap fun p=>zap fun q=>zhp (fun x=>x=P) (fun w x w' h=>run_program h) ?_
 intro y hy
 rw[hy]
 have e:¬ ((p.fst.block == q.fst.block && decide (p.fst.block<P.globals.size))=true):=by rw[hg];simp
 simp only[e]
 refine zhp (fun i=>P.info? t=some i) (fun w x w' h=>run_typeInfo h) ?_
 intro i hi
 have hd:∀ u,i.desc≠.named "sync.copyChecker" u:=by
  intro u q
  simp[zhq,hi,q] at ht
 split
 ·rename_i u hu
  exact absurd hu (hd _)
 ·exact zam
theorem zl3[low:zay][T:zbv L M]:∀(D d:Nat) (t:TypeId),zqw L d t=true->∀(R:BR) {x x' y y':Value},zaj R x x'->zaj R y y'->zae L M QEq R (Op.equalIn D t x y) (Op.equalIn D t x' y'):=by
 intro D
 induction D with
 | zero=>exact fun d t _ R x x' y y' _ _=>zae.halt
 | succ D ih =>
  intro d t ht R x x' y y' hx hy
  cases d with
  | zero=>simp[zqw] at ht
  | succ d =>
  unfold Op.equalIn
  refine zab (zaD t) ?_
  rintro R1 hR1 ds _ ⟨rfl,hds⟩
  replace hx:=hx.mono hR1
  replace hy:=hy.mono hR1
  simp only[zqw,hds] at ht
  cases ds with
  | bool=>cases hx <;> cases hy <;> first|exact zac rfl|exact zae.halt
  | string=>cases hx <;> cases hy <;> first|exact zac rfl|exact zae.halt
  | int k =>
   have hn:∀ a b:Addr,zct L (do
     let (a,b):=((<- behindNumber a).1,(<- behindNumber b).1)
     if a.block == b.block && a.block<(<- program).globals.size then return (<- byteOf a) == (<- byteOf b)
     let .named "sync.copyChecker" _:=(<- typeInfo t).desc|unsupported .addressObserved
     if a == b then pure true else unsupported .addressObserved:Sem Bool):=fun a b=>zeJ T.globals ht a b
   cases hx with
   | int k1 n1 =>
    cases hy with
    | int k2 n2=>exact zaT (fun _=>zac rfl) (fun _=>zae.halt)
    | ptr h =>
     cases n1 with
     | ofNat m=>cases m <;> first|exact zac rfl|exact zae.halt
     | negSucc m=>exact zae.halt
    | nilPtr =>
     cases n1 with
     | ofNat m=>cases m <;> exact zae.halt
     | negSucc m=>exact zae.halt
    | _=>exact zae.halt
   | ptr h =>
    cases hy with
    | int k2 n2 =>
     cases n2 with
     | ofNat m=>cases m <;> first|exact zac rfl|exact zae.halt
     | negSucc m=>exact zae.halt
    | ptr h2=>exact zae.never (hn _ _)
    | _=>exact zae.halt
   | nilPtr =>
    cases hy with
    | int k2 n2 =>
     cases n2 with
     | ofNat m=>cases m <;> exact zae.halt
     | negSucc m=>exact zae.halt
    | _=>exact zae.halt
   | _=>cases hy <;> exact zae.halt
  | slice e=>cases hx <;> cases hy <;> first|exact zac rfl|exact zae.halt
  | map k e=>cases hx <;> cases hy <;> first|exact zac rfl|exact zae.halt
  | func a b c=>cases hx <;> cases hy <;> first|exact zac rfl|exact zae.halt
  | struct fields =>
   cases hx with
   | agg h1 h2 =>
    cases hy with
    | agg h3 h4 =>
     refine zab zaS ?_
     rintro R2 hR2 p p' ⟨rfl,rfl⟩
     simp only[Bool.and_eq_true,Bool.not_eq_true',Array.all_eq_true_iff_forall_mem] at ht
     rw[T.stood,ht.1]
     simp only[Bool.false_eq_true,if_false]
     rw[<- Array.forIn_toList,<- Array.forIn_toList]
     refine zab (zn9 (Q:=QEq) (fun _ _ _ _ _ e=>e) fields.toList R2 _ _ rfl ?_) ?_
     ·rintro f hf R3 hR3 c _ rfl
      refine zaT (fun _=>?_) (fun _=>zac (Or.inr ⟨_,_,rfl,rfl,rfl⟩))
      refine zab (zf3 f.type (zat.mono hR3 (zat.mono hR2 ⟨h1,h2⟩)) _) ?_
      intro R4 hR4 u u' hu
      refine zab (zf3 f.type (zat.mono hR4 (zat.mono hR3 (zat.mono hR2 ⟨h3,h4⟩))) _) ?_
      intro R5 hR5 v v' hv
      refine zab (ih d f.type (ht.2 f (by simpa using hf)) R5 (hu.mono hR5) hv) ?_
      rintro R6 hR6 b _ rfl
      refine zaT (fun _=>zac (Or.inl ⟨_,_,rfl,rfl,rfl⟩)) (fun _=>zac (Or.inr ⟨_,_,rfl,rfl,rfl⟩))
     ·rintro R3 hR3 c _ rfl
      split <;> exact zac rfl
    | _=>exact zae.halt
   | _=>cases hy <;> exact zae.halt
  | _=>simp at ht
def zjn(L:Program)(t:TypeId):Bool:=match L.underlying t with
 | some .bool|some .string=>true
 | some (.int _)=>zhq L t
 | _=>false
theorem zfT[low:zay][Twin L M]{R:BR}(h:zjn L t=true)(b:Bool)(n:Nat)(hv:zaj R v v'):zae L M QEq R (Instr.checkKey b (n+1) t v) (Instr.checkKey b (n+1) t v'):=by
 unfold Instr.checkKey
 refine zab (zaD t) ?_
 rintro R1 hR1 d _ ⟨rfl,hd⟩
 simp only[zjn,hd] at h
 cases d <;> first|(simp at h;done)|(cases hv <;> exact zac rfl)
abbrev QF:BR->Option (Nat × Value)->Option (Nat × Value)->Prop:=fun R a b=>(a=none/\b=none)\/∃ i v v',a=some (i,v)/\b=some (i,v')/\zaj R v v'
inductive zdP(R:BR):List MapEntry->List MapEntry->Prop
 | nil:zdP R [] []
 | cons {v v':MapEntry} {r r':List MapEntry}:zoD R v v'->zdP R r r'->zdP R (v::r) (v'::r')
theorem zdP.mono{R R':BR}(hR:R.le R'){l l':List MapEntry}(h:zdP R l l'):zdP R' l l':=by
 induction h with
 | nil=>exact .nil
 | cons hv _ ih=>exact .cons (hv.mono hR) ih
theorem zdP.of_get{R:BR}:∀(l l':List MapEntry),l.length=l'.length->(∀ i (h:i<l.length) (h':i<l'.length),zoD R l[i] l'[i])->zdP R l l'
 | [],[],_,_=>.nil
 | [],_::_,h,_=>by simp at h
 | _::_,[],h,_=>by simp at h
 | v::r,v'::r',h,hg=>.cons (hg 0 qk qk) (zdP.of_get r r' (by simpa using h) (fun i h1 h2=>hg (i+1) (Nat.succ_lt_succ h1) (Nat.succ_lt_succ h2)))
theorem zcJ.all{R:BR}{c c':Array MapEntry}(h:zcJ R c c'):zdP R c.toList c'.toList :=
 zdP.of_get _ _ (by simpa using h.1) (fun i h1 h2=>by simpa using h.2 i (by simpa using h1) (by simpa using h2))
def ziV:Value->Bool
 | .bool _|.int _ _|.string _=>true
 | _=>false
theorem zfP(d:TypeDesc)(h:ziV k=false)(e:Value):Instr.sameNow d k e=none:=by
 cases k <;> first|(cases h;done)|(cases d <;> rfl)
theorem zfQ(d:TypeDesc)(k:Value){e:Value}(h:ziV e=false):Instr.sameNow d k e=none:=by
 cases e <;> first|(cases h;done)|(cases d <;> first|rfl|(cases k <;> rfl))
theorem zgD(h:zfg v=true):ziV v=false:=by cases v with|bool b=>cases h|int k n=>cases h|string s=>cases h|_=>rfl
theorem zng{R:BR}(h:zaj R v v')(hk:ziV v=true):v'=v:=by cases h <;> first|rfl|(cases hk;done)
def KF(k:Value)(es:List MapEntry)(i:Nat)(a:Option (Nat × Value)):Prop:=∀ j v,a=some (j,v)->ziV k=true/\i<=j/\∃ e,es[j - i]?=some e/\ziV e.key=true
theorem KF.none(k:Value)(es:List MapEntry)(i:Nat):KF k es i none:=fun _ _ q=>by cases q
theorem KF.here{e:MapEntry}{es:List MapEntry}(hk:ziV k=true)(he:ziV e.key=true)(v:Value):KF k (e::es) i (some (i,v)):=fun j u q=>by
 cases q
 exact⟨hk,Nat.le_refl _,e,qk,he⟩
theorem KF.next{e:MapEntry}{es:List MapEntry}{a:Option (Nat × Value)}(h:KF k es (i+1) a):KF k (e::es) i a:=fun j v q=>by
 obtain⟨h1,h2,e',h3,h4⟩:=h j v q
 refine⟨h1,qg,e',?_,h4⟩
 have:j - i=(j - (i+1))+1:=qg
 rw[this,List.getElem?_cons_succ]
 exact h3
theorem zjR[low:zay][T:zbv L M](D:Nat)(ht:zjn L t=true)(R:BR)(hx:zaj R x x')(hy:zaj R y y'):zae L M (fun _ a b=>a=b/\(a=true->ziV x=true/\ziV y=true)) R (Op.equalIn D t x y) (Op.equalIn D t x' y'):=by
 cases D with
 | zero=>exact zae.halt
 | succ D =>
 unfold Op.equalIn
 refine zab (zaD t) ?_
 rintro R1 hR1 ds _ ⟨rfl,hds⟩
 replace hx:=hx.mono hR1
 replace hy:=hy.mono hR1
 simp only[zjn,hds] at ht
 cases ds with
 | bool=>cases hx <;> cases hy <;> first|exact zac ⟨rfl,fun _=>⟨rfl,rfl⟩⟩|exact zae.halt
 | string=>cases hx <;> cases hy <;> first|exact zac ⟨rfl,fun _=>⟨rfl,rfl⟩⟩|exact zae.halt
 | int k =>
  have hn:∀ a b:Addr,zct L (do
    let (a,b):=((<- behindNumber a).1,(<- behindNumber b).1)
    if a.block == b.block && a.block<(<- program).globals.size then return (<- byteOf a) == (<- byteOf b)
    let .named "sync.copyChecker" _:=(<- typeInfo t).desc|unsupported .addressObserved
    if a == b then pure true else unsupported .addressObserved:Sem Bool):=fun a b=>zeJ T.globals ht a b
  cases hx with
  | int k1 n1 =>
   cases hy with
   | int k2 n2=>exact zaT (fun _=>zac ⟨rfl,fun _=>⟨rfl,rfl⟩⟩) (fun _=>zae.halt)
   | ptr h =>
    cases n1 with
    | ofNat m=>cases m <;> first|exact zac ⟨rfl,fun q=>(by cases q)⟩|exact zae.halt
    | negSucc m=>exact zae.halt
   | nilPtr =>
    cases n1 with
    | ofNat m=>cases m <;> exact zae.halt
    | negSucc m=>exact zae.halt
   | _=>exact zae.halt
  | ptr h =>
   cases hy with
   | int k2 n2 =>
    cases n2 with
    | ofNat m=>cases m <;> first|exact zac ⟨rfl,fun q=>(by cases q)⟩|exact zae.halt
    | negSucc m=>exact zae.halt
   | ptr h2=>exact zae.never (hn _ _)
   | _=>exact zae.halt
  | nilPtr =>
   cases hy with
   | int k2 n2 =>
    cases n2 with
    | ofNat m=>cases m <;> exact zae.halt
    | negSucc m=>exact zae.halt
   | _=>exact zae.halt
  | _=>cases hy <;> exact zae.halt
 | _=>simp at ht
abbrev QFK(k:Value)(es:List MapEntry)(i:Nat):BR->Option (Nat × Value)->Option (Nat × Value)->Prop:=fun R a b=>QF R a b/\KF k es i a
theorem zhB[low:zay][zbv L M](ht:zjn L t=true){R0:BR}{es es':List MapEntry}(h:zdP R0 es es'):∀ {R:BR},R0.le R->∀ {k k':Value},zaj R k k'->∀ i,zae L M (QFK k es i) R (Instr.findAsking t k es i) (Instr.findAsking t k' es' i):=by
 induction h with
 | nil=>exact fun _ _ _ _ _=>zac ⟨Or.inl ⟨rfl,rfl⟩,KF.none _ _ _⟩
 | cons he _ ih =>
  intro R hR k k' hk i
  unfold Instr.findAsking
  refine zab (zjR _ ht R hk (he.key.mono hR)) ?_
  rintro R1 hR1 b _ ⟨rfl,hb⟩
  cases b
  ·exact(ih (BR.le_trans hR hR1) (hk.mono hR1) (i+1)).imp fun R a b q=>⟨q.1,q.2.next⟩
  ·exact zac ⟨Or.inr ⟨_,_,_,rfl,rfl,(he.val.mono hR).mono hR1⟩,KF.here (hb rfl).1 (hb rfl).2 _⟩
theorem zjJ{R:BR}(d:TypeDesc){e e':Value}(hk:zaj R k k')(he:zaj R e e'):Instr.sameNow d k e=Instr.sameNow d k' e':=by
 by_cases q1:∃ h:zfg k'=true,k=.tuple #[]
 ·obtain⟨h,rfl⟩:=q1
  rw[zfP d rfl,zfP d (zgD h)]
 by_cases q2:∃ h:zfg e'=true,e=.tuple #[]
 ·obtain⟨h,rfl⟩:=q2
  rw[zfQ d k rfl,zfQ d k' (zgD h)]
 cases hk with
 | junk _ h=>exact absurd ⟨h,rfl⟩ q1
 | _ =>
  cases he with
  | junk _ h=>exact absurd ⟨h,rfl⟩ q2
  | _=>cases d <;> rfl
theorem zje{R:BR}(d:TypeDesc)(hk:zaj R k k'){es es':List MapEntry}(h:zdP R es es'):∀ i,(Instr.findNow d k es i=none/\Instr.findNow d k' es' i=none)\/∃ r r',Instr.findNow d k es i=some r/\Instr.findNow d k' es' i=some r'/\QF R r r':=by
 induction h with
 | nil=>exact fun i=>Or.inr ⟨_,_,rfl,rfl,Or.inl ⟨rfl,rfl⟩⟩
 | cons he _ ih =>
  intro i
  unfold Instr.findNow
  rw[<- zjJ d hk he.key]
  cases Instr.sameNow d k _ with
  | none=>exact Or.inl ⟨rfl,rfl⟩
  | some b =>
   cases b
   ·exact ih (i+1)
   ·exact Or.inr ⟨_,_,rfl,rfl,Or.inr ⟨_,_,_,rfl,rfl,he.val⟩⟩
theorem zfO{d:TypeDesc}{e:Value}(h:Instr.sameNow d k e=some b):ziV k=true/\ziV e=true:=by
 refine⟨?_,?_⟩
 ·cases q:ziV k with
  | true=>rfl
  | false=>rw[zfP d q] at h;cases h
 ·cases q:ziV e with
  | true=>rfl
  | false=>rw[zfQ d k q] at h;cases h
theorem zjd(d:TypeDesc)(k:Value):∀(es:List MapEntry) (i:Nat) (r:Option (Nat × Value)),Instr.findNow d k es i=some r->KF k es i r:=by
 intro es
 induction es with
 | nil=>intro i r h;cases h;exact KF.none _ _ _
 | cons e es ih =>
  intro i r h
  unfold Instr.findNow at h
  cases hs:Instr.sameNow d k e.key with
  | none=>rw[hs] at h;cases h
  | some b =>
   rw[hs] at h
   cases b
   ·exact(ih _ _ h).next
   ·cases h
    exact KF.here (zfO hs).1 (zfO hs).2 _
theorem zgO[low:zay][zbv L M]{R:BR}(ht:zjn L t=true)(hk:zaj R k k'){es es':List MapEntry}(h:zdP R es es'):zae L M (QFK k es 0) R (Instr.findKey t k es) (Instr.findKey t k' es'):=by
 unfold Instr.findKey
 refine zab (zah t) ?_
 rintro R1 hR1 d _ rfl
 rcases zje d (hk.mono hR1) (h.mono hR1) 0 with ⟨e1,e2⟩|⟨r,r',e1,e2,hr⟩
 ·rw[e1,e2]
  exact zhB ht h hR1 (hk.mono hR1) 0
 ·rw[e1,e2]
  exact zac ⟨hr,zjd _ _ _ _ _ e1⟩
def zlw(L:Program)(t:TypeId):Bool:=match L.underlying t with
 | some (.map k _)=>zjn L k
 | _=>true
theorem zof[low:zay][zbv L M](hz:zbm L){R:BR}(ht:zlw L t=true)(hx:zaj R x x')(hk:zaj R k k')(ok:Bool):zae L M QV R (Instr.lookup t x k ok) (Instr.lookup t x' k' ok):=by
 unfold Instr.lookup
 refine zab (zaD t) ?_
 rintro R1 hR1 d _ ⟨rfl,hd⟩
 simp only[zlw,hd] at ht
 replace hx:=hx.mono hR1
 replace hk:=hk.mono hR1
 cases d with
 | map key elem =>
  simp only at ht
  have tail:∀(R:BR) {es es':Array MapEntry},zcJ R es es'->zaj R k k'->zae L M QV R
    (Instr.checkKey es.isEmpty 10000 key k >>= fun _=>Instr.findKey key k es.toList >>= fun r=>match r with|some (_,v)=>pure (if ok then .tuple #[v,.bool true] else v)|none=>zeroValue elem >>= fun z=>pure (if ok then .tuple #[z,.bool false] else z))
    (Instr.checkKey es'.isEmpty 10000 key k' >>= fun _=>Instr.findKey key k' es'.toList >>= fun r=>match r with|some (_,v)=>pure (if ok then .tuple #[v,.bool true] else v)|none=>zeroValue elem >>= fun z=>pure (if ok then .tuple #[z,.bool false] else z)):=by
   intro R es es' hes hk
   have ee:es'.isEmpty=es.isEmpty:=by rw[Bool.eq_iff_iff];simp[Array.isEmpty_iff,<- Array.size_eq_zero_iff,hes.1]
   rw[ee]
   refine zab (zfT ht _ 9999 hk) ?_
   rintro R2 hR2 _ _ _
   refine zab (zgO ht (hk.mono hR2) (hes.mono hR2).all) ?_
   rintro R3 hR3 r r' ⟨⟨rfl,rfl⟩|⟨i,v,v',rfl,rfl,hv⟩,_⟩
   ·refine zab (zbl hz elem) ?_
    intro R4 hR4 z z' hzz
    cases ok
    ·exact zac hzz
    ·exact zac (zat.two hzz (.bool false)).tup
   ·cases ok
    ·exact zac hv
    ·exact zac (zat.two hv (.bool true)).tup
  cases hx with
  | map hr =>
   refine zab (zc8 hr) ?_
   rintro R2 hR2 _ _ ⟨@⟨c,c',n,hc⟩|_|_,_⟩
   rotate_left
   ·exact zae.halt
   ·exact zae.halt
   exact tail R2 hc (hk.mono hR2)
  | nilMap=>exact tail R1 (es:=#[]) (es':=#[]) ⟨rfl,fun i h=>absurd h qk⟩ hk
  | _=>exact zae.halt
 | _=>exact zae.halt
theorem zfW[low:zay]{R:BR}{a a' b b':Value}(ha:zaj R a a')(hb:zaj R b b')(ka:ziV a=true)(kb:ziV b=true):zae L M QV R (Instr.keyThatStays a b) (Instr.keyThatStays a' b'):=by
 obtain rfl:=zng ha ka
 obtain rfl:=zng hb kb
 unfold Instr.keyThatStays
 refine zaT (fun _=>zac hb) (fun _=>?_)
 refine zab (Q:=QEq) (.choose fun n=>.pure rfl) ?_
 rintro R1 hR1 n _ rfl
 refine zac ?_
 split
 ·exact hb.mono hR1
 ·exact ha.mono hR1
theorem zcJ.modify{R:BR}{c c':Array MapEntry}(h:zcJ R c c')(i:Nat){f f':MapEntry->MapEntry}(hf:∀ e e',zoD R e e'->zoD R (f e) (f' e')):zcJ R (c.modify i f) (c'.modify i f'):=by
 refine⟨by simp[h.1],fun j h1 h2=>?_⟩
 simp only[Array.size_modify] at h1 h2
 rw[Array.getElem_modify,Array.getElem_modify]
 split
 ·exact hf _ _ (h.2 j h1 h2)
 ·exact h.2 j h1 h2
theorem zcJ.push{R:BR}{c c':Array MapEntry}(h:zcJ R c c'){e e':MapEntry}(he:zoD R e e'):zcJ R (c.push e) (c'.push e'):=by
 refine⟨by simp[h.1],fun i h1 h2=>?_⟩
 rw[Array.getElem_push,Array.getElem_push]
 simp only[Array.size_push] at h1 h2
 by_cases hi:i<c.size
 ·have hi':i<c'.size:=by rw[<- h.1];exact hi
  rw[dif_pos hi,dif_pos hi']
  exact h.2 i hi hi'
 ·rw[dif_neg hi,dif_neg (by rw[<- h.1];exact hi)]
  exact he
theorem zcJ.keyAt{R:BR}{c c':Array MapEntry}(h:zcJ R c c')(i:Nat)(hk:zaj R k k'):zaj R (((c[i]?).map (·.key)).getD k) (((c'[i]?).map (·.key)).getD k'):=by
 by_cases q:i<c.size
 ·have q':i<c'.size:=by rw[<- h.1];exact q
  rw[Array.getElem?_eq_getElem q,Array.getElem?_eq_getElem q']
  exact(h.2 i q q').key
 ·rw[Array.getElem?_eq_none qg,Array.getElem?_eq_none (by have:=h.1;omega)]
  exact hk
theorem zeO[low:zay][zbv L M]{R:BR}(_h1:R.One)(ht:zlw L t=true){m m':Value}(hm:zaj R m m')(hk:zaj R k k')(hv:zaj R v v'):zae L M QEq R (Instr.mapUpdate t m k v) (Instr.mapUpdate t m' k' v'):=by
 unfold Instr.mapUpdate
 refine zab (zaD t) ?_
 rintro R1 hR1 d _ ⟨rfl,hd⟩
 simp only[zlw,hd] at ht
 replace hm:=hm.mono hR1
 replace hk:=hk.mono hR1
 replace hv:=hv.mono hR1
 cases d with
 | map key elem =>
  simp only at ht
  cases hm with
  | map hr =>
   refine zab (zc8 hr) ?_
   rintro R2 hR2 _ _ ⟨@⟨c,c',n,hc⟩|_|_,hlow⟩
   rotate_left
   ·exact zae.halt
   ·exact zae.halt
   have hxo:=hlow _ _ rfl
   dsimp only
   refine zab (zfT ht false 9999 (hk.mono hR2)) ?_
   rintro R3 hR3 _ _ _
   refine zab (zgO ht ((hk.mono hR2).mono hR3) (hc.mono hR3).all) ?_
   rintro R4 hR4 r r' ⟨⟨rfl,rfl⟩|⟨i,u,u',rfl,rfl,hu⟩,hkf⟩
   ·have up:R1.le R4:=BR.le_trans hR2 (BR.le_trans hR3 hR4)
    exact ziI hxo (up.1 _ _ hr) _ (((hc.mono hR3).mono hR4).push ⟨hk.mono up,hv.mono up,rfl⟩)
   ·have up:R1.le R4:=BR.le_trans hR2 (BR.le_trans hR3 hR4)
    have hc4:=(hc.mono hR3).mono hR4
    obtain⟨k1,_,e0,k2,k3⟩:=hkf _ _ rfl
    have k4:((c[i]?).map (·.key)).getD k=e0.key:=by
     have k2':c[i]?=some e0:=by simpa using k2
     rw[k2']
     rfl
    refine zab (zfW (hc4.keyAt i (hk.mono up)) (hk.mono up) (by rw[k4];exact k3) k1) ?_
    intro R5 hR5 kk kk' hkk
    exact ziI hxo ((BR.le_trans up hR5).1 _ _ hr) _ ((hc4.mono hR5).modify i fun e e' he=>⟨hkk,(hv.mono up).mono hR5,he.born⟩)
  | nilMap=>exact zae.never (zan _)
  | _=>exact zae.halt
 | _=>exact zae.halt
theorem ze8[low:zay]{R:BR}(op:BinOp)(k:IntKind)(x:Int)(yk:IntKind)(y:Int):zae L M QV R (Op.shift op k x yk y) (Op.shift op k x yk y):=by
 unfold Op.shift
 split
 ·exact zae.never (zan _)
 ·dsimp only
  split <;> first|exact zac (.int _ _)|exact zax
theorem zdK[low:zay]{R:BR}(op:BinOp)(x y:ByteArray):zae L M QV R (Op.stringOp op x y) (Op.stringOp op x y):=by
 unfold Op.stringOp
 dsimp only
 split
 ·split
  ·exact zae.halt
  ·exact zac (.string _)
 all_goals first|exact zac (.bool _)|exact zax
theorem zkT[low:zay][zbv L M]{R:BR}(ht:zqw L 40 t=true)(hx:zaj R x x')(hy:zaj R y y'):zae L M QEq R (Op.equal t x y) (Op.equal t x' y'):=zl3 _ 40 t ht R hx hy
theorem zgz[Twin L M](t:TypeId):M.cellsOf t=L.cellsOf t:=by unfold Program.cellsOf;rw[Twin.info (L:=L) (M:=M)]
theorem zld[Twin L M](t:TypeId):M.bytesOf t=L.bytesOf t:=by unfold Program.bytesOf;rw[Twin.info (L:=L) (M:=M)]
theorem ziJ[low:zay]{R:BR}(h:R r r'):zae L M (fun _ a b=>a=none/\b=none) R (viewAt r) (viewAt r'):=by
 unfold viewAt
 refine zab (zel h) ?_
 rintro R1 hR1 s _ rfl
 refine zaT (fun _=>zac ⟨rfl,rfl⟩) (fun _=>?_)
 refine zab (zc8 (hR1.1 _ _ h)) ?_
 rintro R2 hR2 o o' ⟨ho,_⟩
 cases ho <;> exact zac ⟨rfl,rfl⟩
theorem zoh[low:zay]{R:BR}(h:zbM R a a'):zae L M QEq R (noView a) (noView a'):=by
 unfold noView
 refine zab (ziJ h.1) ?_
 rintro R1 hR1 _ _ ⟨rfl,rfl⟩
 exact zac rfl
abbrev QN:BR->Addr × Bool->Addr × Bool->Prop:=fun R a b=>zbM R a.1 b.1/\a.2=b.2
theorem zf2[low:zay]{R:BR}(h:R r r'):zae L M (fun R a b=>(a=none/\b=none)\/∃ x x',a=some x/\b=some x'/\QN R x x') R (numberAt r) (numberAt r'):=by
 unfold numberAt
 refine zab (zel h) ?_
 rintro R1 hR1 s _ rfl
 refine zaT (fun _=>zac (Or.inl ⟨rfl,rfl⟩)) (fun _=>?_)
 refine zab (zc8 (hR1.1 _ _ h)) ?_
 rintro R2 hR2 o o' ⟨ho,_⟩
 cases ho with
 | map _=>exact zac (Or.inl ⟨rfl,rfl⟩)
 | hid=>exact zac (Or.inl ⟨rfl,rfl⟩)
 | number ha=>exact zac (Or.inr ⟨_,_,rfl,rfl,ha,rfl⟩)
theorem zc7[low:zay]{R:BR}(h:zbM R a a'):zae L M QN R (behindNumber a) (behindNumber a'):=by
 unfold behindNumber
 refine zab (zf2 h.1) ?_
 rintro R1 hR1 _ _ (⟨rfl,rfl⟩|⟨x,x',rfl,rfl,hx⟩)
 ·exact zac ⟨h.mono hR1,rfl⟩
 ·exact zac hx
theorem zn7[low:zay][zbv L M]{R:BR}(h:zbM R a a'):zae L M QEq R (byteOf a) (byteOf a'):=by
 unfold byteOf
 rw[<- h.2.2]
 cases a.spot with
 | some s=>exact zac rfl
 | none =>
  refine zab zaS ?_
  rintro R1 hR1 p p' ⟨rfl,rfl⟩
  refine zab (zoh (h.mono hR1)) ?_
  rintro R2 hR2 _ _ _
  refine zab (zel ((h.mono hR1).mono hR2).1) ?_
  rintro R3 hR3 s _ rfl
  cases s with
  | none=>exact zae.halt
  | some e =>
   obtain⟨e,n⟩:=e
   dsimp only
   rw[zgz (L:=p) (M:=p'),zld (L:=p) (M:=p'),zbv.boc (L:=p) (M:=p'),zbv.depth (L:=p) (M:=p'),h.2.1]
   refine zaT (fun _=>zac rfl) (fun _=>?_)
   split
   ·exact zac rfl
   ·exact zae.halt
theorem zjQ[low:zay]{R:BR}(h:zbM R a a')(l:Bool):zae L M QV R (asNumber a l) (asNumber a' l):=by
 unfold asNumber
 exact zab (zfZ (.other (.number h) (fun _ _ _ q=>q))) fun _ _ _ _ hr=>zac (.ptr ⟨hr,rfl,rfl⟩)
abbrev QPt:BR->Value->Value->Prop:=fun R v v'=>∃ a a',v=.pointer (some a)/\v'=.pointer (some a')/\zbM R a a'
theorem ptP{R:BR}(h:zbM R a a'):QPt R (.pointer (some a)) (.pointer (some a')):=⟨a,a',rfl,rfl,h⟩
theorem zem[low:zay][zbv L M]{R:BR}(ts:Array TypeId)(t:TypeId)(hx:zaj R x x')(hy:zaj R y y'):zae L M QPt R (Builtin.unsafeAdd_ ts t #[x,y]) (Builtin.unsafeAdd_ ts t #[x',y']):=by
 unfold Builtin.unsafeAdd_
 cases hx with
 | ptr ha =>
  refine zab (zei hy) ?_
  rintro R1 hR1 n _ rfl
  refine zaT (fun _=>?_) (fun _=>?_)
  ·refine zab (ziJ (ha.mono hR1).1) ?_
   rintro R2 hR2 _ _ ⟨rfl,rfl⟩
   exact zac (ptP ((ha.mono hR1).mono hR2))
  ·refine zaT (fun _=>zae.never (zao zam)) (fun _=>?_)
   refine zab (zel (ha.mono hR1).1) ?_
   rintro R2 hR2 s _ rfl
   cases s with
   | none=>exact zae.halt
   | some e =>
    obtain⟨e,c⟩:=e
    refine zab zaS ?_
    rintro R3 hR3 p p' ⟨rfl,rfl⟩
    rw[zgz (L:=p) (M:=p'),zbv.cab (L:=p) (M:=p'),zbv.depth (L:=p) (M:=p'),ha.2.1]
    split
    ·exact zac (ptP ⟨(((ha.mono hR1).mono hR2).mono hR3).1,rfl,ha.2.2⟩)
    ·exact zae.halt
 | nilPtr =>
  refine zab (zei hy) ?_
  rintro R1 hR1 n _ rfl
  exact zaT (fun _=>zae.halt) (fun _=>zaT (fun _=>zae.never (zao zam)) (fun _=>zae.halt))
 | _=>exact zae.halt
theorem zdb[low:zay][zbv L M]{R:BR}(ts:Array TypeId)(t:TypeId)(hx:zaj R x x')(hy:zaj R y y'):zae L M QV R (Builtin.unsafeAdd_ ts t #[x,y]) (Builtin.unsafeAdd_ ts t #[x',y']) :=
 (zem ts t hx hy).imp fun R v v' h=>by
  obtain⟨a,a',rfl,rfl,h⟩:=h
  exact .ptr h
theorem zbc[low:zay][zbv L M]{R:BR}(t:TypeId)(hx:zaj R x x')(hy:zaj R y y'):zae L M QV R (movedNumber t x y) (movedNumber t x' y'):=by
 unfold movedNumber
 refine zab (zah t) ?_
 rintro R1 hR1 d _ rfl
 replace hx:=hx.mono hR1
 replace hy:=hy.mono hR1
 have hx0:=hx
 cases hx with
 | ptr ha =>
  rename_i n n'
  have tail:zae L M QV R1 (behindNumber n >>= fun p=>match p with
     | (a,lost)=>Builtin.unsafeAdd_ #[] t #[.pointer (some a),y] >>= fun v=>match v with|.pointer (some b)=>asNumber b lost|v=>pure v)
    (behindNumber n' >>= fun p=>match p with
     | (a,lost)=>Builtin.unsafeAdd_ #[] t #[.pointer (some a),y'] >>= fun v=>match v with|.pointer (some b)=>asNumber b lost|v=>pure v):=by
   refine zab (zc7 ha) ?_
   rintro R2 hR2 ⟨a,l⟩ ⟨a',l'⟩ ⟨h1,h2⟩
   simp only at h1 h2
   subst h2
   refine zab (zem #[] t (.ptr h1) (hy.mono hR2)) ?_
   rintro R3 hR3 _ _ ⟨b,b',rfl,rfl,hb⟩
   exact zjQ hb _
  cases d <;> first|exact tail|exact zae.halt
 | _=>cases d <;> first|exact zdb #[] t hx0 hy|exact zae.halt
theorem zfY[low:zay][zbv L M]{R:BR}(t:TypeId)(hx:zaj R x x')(hy:zaj R y y'):zae L M QV R (movedPointer t x y) (movedPointer t x' y'):=by
 unfold movedPointer
 have hx0:=hx
 cases hx with
 | ptr ha =>
  refine zab (zf2 ha.1) ?_
  rintro R1 hR1 _ _ (⟨rfl,rfl⟩|⟨u,u',rfl,rfl,_⟩)
  ·exact zdb #[] t (hx0.mono hR1) (hy.mono hR1)
  ·exact zae.halt
 | junk _ _=>exact zae.halt
 | _=>exact zdb #[] t hx0 hy
theorem zcW(hg:P.globals.size=0)(a b:Addr):zct P (Op.twoPlaces a b):=by
 unfold Op.twoPlaces
 refine zhp (fun x=>x=P) (fun w x w' h=>run_program h) ?_
 intro y hy
 rw[hy,hg]
 have e:(a.block != b.block || decide (a.block ≥ 0))=true:=qk
 rw[if_pos e]
 exact zao zam
theorem zlZ[low:zay][zbv L M]{R:BR}(k:IntKind)(h:zbM R a a')(n:Int):zae L M QV R (Op.addrMod k a n) (Op.addrMod k a' n):=by
 unfold Op.addrMod
 refine zab (zel h.1) ?_
 rintro R1 hR1 s _ rfl
 cases s with
 | none=>exact zae.halt
 | some e =>
  obtain⟨e,c⟩:=e
  refine zab (zbj e) ?_
  rintro R2 hR2 i _ rfl
  refine zaT (fun _=>zae.never (zao zam)) (fun _=>?_)
  refine zab (zn7 ((h.mono hR1).mono hR2)) ?_
  rintro R3 hR3 b _ rfl
  exact zac (.int _ _)
def zk9(L:Program)(op:BinOp)(t:TypeId):Bool:=match op with
 | .eql|.neq=>zqw L 40 t && !L.eqGuardType L.depth t
 | _=>true
def zm7:Value->Bool
 | .nilIface|.agg _=>true
 | _=>false
theorem zm8(op:BinOp)(t:TypeId)(x y:Operand){a:Value}(h:zm7 a=false)(b:Value):eqGuard op t x y a b=pure ():=by
 unfold eqGuard
 cases a <;> first|(cases h;done)|(cases op <;> rfl)
theorem zhe(op:BinOp)(t:TypeId)(x y:Operand)(a:Value){b:Value}(h:zm7 b=false):eqGuard op t x y a b=pure ():=by
 unfold eqGuard
 cases b <;> first|(cases h;done)|(cases op <;> first|rfl|(cases a <;> rfl))
theorem zeI(h:zfg v=true):zm7 v=false:=by cases v with|nilIface=>cases h|agg c=>cases h|_=>rfl
theorem zl2[low:zay][zbv L M]{R:BR}(op:BinOp)(ht:zk9 L op t=true)(x y:Operand){a a' b b':Value}(ha:zaj R a a')(hb:zaj R b b'):zae L M QEq R (eqGuard op t x y a b) (eqGuard op t x y a' b'):=by
 by_cases q1:zfg a'=true/\a=.tuple #[]
 ·obtain⟨h,rfl⟩:=q1
  rw[zm8 op t x y rfl,zm8 op t x y (zeI h)]
  exact zac rfl
 by_cases q2:zfg b'=true/\b=.tuple #[]
 ·obtain⟨h,rfl⟩:=q2
  rw[zhe op t x y a rfl,zhe op t x y a' (zeI h)]
  exact zac rfl
 by_cases h:op=.eql\/op=.neq
 ·have hg:L.eqGuardType L.depth t=false:=by rcases h with rfl|rfl <;> (simp[zk9] at ht;exact ht.2)
  have e2:zae L M QEq R (if ((match x with|.const _=>true|_=>false) || (match y with|.const _=>true|_=>false))=true then pure () else Op.eqGuardIn Op.maxDepth t .nilIface .nilIface >>= fun g=>if g=true then unsupported (.noEntry "binop/eql: two nil values of an interface type with methods, neither of them the literal nil") else pure ()) (if ((match x with|.const _=>true|_=>false) || (match y with|.const _=>true|_=>false))=true then pure () else Op.eqGuardIn Op.maxDepth t .nilIface .nilIface >>= fun g=>if g=true then unsupported (.noEntry "binop/eql: two nil values of an interface type with methods, neither of them the literal nil") else pure ()):=by
   refine zaT (fun _=>zac rfl) (fun _=>?_)
   refine zab (Q:=QEq) ?_ ?_
   ·show zae L M QEq R (Op.eqGuardIn (9999+1) t .nilIface .nilIface) (Op.eqGuardIn (9999+1) t .nilIface .nilIface)
    unfold Op.eqGuardIn
    refine zab (zah t) ?_
    rintro R1 hR1 d _ rfl
    cases d <;> exact zac rfl
   ·rintro R1 hR1 g _ rfl
    exact zaT (fun _=>zae.halt) (fun _=>zac rfl)
  have e3:∀ u u' v v':Value,zae L M QEq R (program >>= fun p=>program >>= fun q=>if (!p.eqGuardType q.depth t)=true then pure () else Op.eqGuardIn Op.maxDepth t u v >>= fun g=>if g=true then unsupported (.noEntry "binop/eql: two nil values of an interface type with methods, in a part of a struct or an array") else pure ()) (program >>= fun p=>program >>= fun q=>if (!p.eqGuardType q.depth t)=true then pure () else Op.eqGuardIn Op.maxDepth t u' v' >>= fun g=>if g=true then unsupported (.noEntry "binop/eql: two nil values of an interface type with methods, in a part of a struct or an array") else pure ()):=by
   intro u u' v v'
   refine zab zaS ?_
   rintro R1 hR1 p p' ⟨rfl,rfl⟩
   refine zab zaS ?_
   rintro R2 hR2 q q' ⟨rfl,rfl⟩
   rw[zbv.eqg (L:=q) (M:=q'),zbv.depth (L:=q) (M:=q'),hg]
   exact zac rfl
  rcases h with rfl|rfl
  ·cases ha with
   | nilIface =>
    cases hb with
    | nilIface=>exact e2
    | junk _ h=>exact absurd ⟨h,rfl⟩ q2
    | _=>exact zac rfl
   | agg _ _ =>
    cases hb with
    | agg _ _=>exact e3 _ _ _ _
    | junk _ h=>exact absurd ⟨h,rfl⟩ q2
    | _=>exact zac rfl
   | junk _ h=>exact absurd ⟨h,rfl⟩ q1
   | _ =>
    cases hb with
    | junk _ h=>exact absurd ⟨h,rfl⟩ q2
    | _=>exact zac rfl
  ·cases ha with
   | nilIface =>
    cases hb with
    | nilIface=>exact e2
    | junk _ h=>exact absurd ⟨h,rfl⟩ q2
    | _=>exact zac rfl
   | agg _ _ =>
    cases hb with
    | agg _ _=>exact e3 _ _ _ _
    | junk _ h=>exact absurd ⟨h,rfl⟩ q2
    | _=>exact zac rfl
   | junk _ h=>exact absurd ⟨h,rfl⟩ q1
   | _ =>
    cases hb with
    | junk _ h=>exact absurd ⟨h,rfl⟩ q2
    | _=>exact zac rfl
 ·have e1:∀ a b,eqGuard op t x y a b=pure ():=by
   intro a b
   unfold eqGuard
   cases op <;> first|rfl|exact absurd (Or.inl rfl) h|exact absurd (Or.inr rfl) h
  rw[e1,e1]
  exact zac rfl
theorem zfV[low:zay]{R:BR}(op:BinOp)(t:TypeId)(k k':IntKind)(x y:Int):zae L M QV R (binOp op t (.int k x) (.int k' y)) (binOp op t (.int k x) (.int k' y)):=by
 by_cases hk:k=k'
 ·subst hk
  by_cases h:op=.shl\/op=.shr
  ·rcases h with rfl|rfl
   ·exact ze8 .shl k x k y
   ·exact ze8 .shr k x k y
  ·exact zn6 op t k x y ⟨fun q=>h (Or.inl q),fun q=>h (Or.inr q)⟩
 ·cases op <;> first
   | exact ze8 .shl k x k' y
   | exact ze8 .shr k x k' y
   | (simp only[binOp,ne_eq,hk,not_false_eq_true,if_true];exact zax)
theorem zdi(t:TypeId)(y:Value):zct P (Op.equal t (.tuple #[]) y):=by
 show zct P (Op.equalIn (9999+1) t (.tuple #[]) y)
 unfold Op.equalIn
 refine zap fun d=>?_
 cases d <;> (cases y <;> exact zam)
theorem zbP(t:TypeId)(x:Value):zct P (Op.equal t x (.tuple #[])):=by
 show zct P (Op.equalIn (9999+1) t x (.tuple #[]))
 unfold Op.equalIn
 refine zap fun d=>?_
 cases x with
 | pointer o=>cases o <;> (cases d <;> exact zam)
 | slice o _ _=>cases o <;> (cases d <;> exact zam)
 | map o=>cases o <;> (cases d <;> exact zam)
 | _=>cases d <;> exact zam
theorem zr7[low:zay][zbv L M]{R:BR}(ht:zqw L 40 t=true)(hx:zaj R x x')(hy:zaj R y y'):zae L M QV R (binOp .eql t x y) (binOp .eql t x' y'):=by
 have tail:zae L M QV R (Op.equal t x y >>= fun b=>pure (.bool b)) (Op.equal t x' y' >>= fun b=>pure (.bool b)) :=
  zab (zkT ht hx hy) fun _ _ _ _ e=>by rw[e];exact zac (.bool _)
 cases hx with
 | int k n =>
  cases hy with
  | int k' n'=>exact zfV _ _ _ _ _ _
  | junk _ _=>exact zae.never (show zct L (Op.equal t _ (.tuple #[]) >>= (fun b=>pure (Value.bool b):Bool->Sem Value)) from zao (zbP t _))
  | _=>exact tail
 | string s =>
  cases hy with
  | string s'=>exact zdK .eql s s'
  | junk _ _=>exact zae.never (show zct L (Op.equal t _ (.tuple #[]) >>= (fun b=>pure (Value.bool b):Bool->Sem Value)) from zao (zbP t _))
  | _=>exact tail
 | junk _ _=>exact zae.never (show zct L (Op.equal t (.tuple #[]) _ >>= (fun b=>pure (Value.bool b):Bool->Sem Value)) from zao (zdi t _))
 | _ =>
  cases hy with
  | junk _ _=>exact zae.never (show zct L (Op.equal t _ (.tuple #[]) >>= (fun b=>pure (Value.bool b):Bool->Sem Value)) from zao (zbP t _))
  | _=>exact tail
theorem zr9[low:zay][zbv L M]{R:BR}(ht:zqw L 40 t=true)(hx:zaj R x x')(hy:zaj R y y'):zae L M QV R (binOp .neq t x y) (binOp .neq t x' y'):=by
 have tail:zae L M QV R (Op.equal t x y >>= fun b=>pure (.bool (!b))) (Op.equal t x' y' >>= fun b=>pure (.bool (!b))) :=
  zab (zkT ht hx hy) fun _ _ _ _ e=>by rw[e];exact zac (.bool _)
 cases hx with
 | int k n =>
  cases hy with
  | int k' n'=>exact zfV _ _ _ _ _ _
  | junk _ _=>exact zae.never (show zct L (Op.equal t _ (.tuple #[]) >>= (fun b=>pure (Value.bool (!b)):Bool->Sem Value)) from zao (zbP t _))
  | _=>exact tail
 | string s =>
  cases hy with
  | string s'=>exact zdK .neq s s'
  | junk _ _=>exact zae.never (show zct L (Op.equal t _ (.tuple #[]) >>= (fun b=>pure (Value.bool (!b)):Bool->Sem Value)) from zao (zbP t _))
  | _=>exact tail
 | junk _ _=>exact zae.never (show zct L (Op.equal t (.tuple #[]) _ >>= (fun b=>pure (Value.bool (!b)):Bool->Sem Value)) from zao (zdi t _))
 | _ =>
  cases hy with
  | junk _ _=>exact zae.never (show zct L (Op.equal t _ (.tuple #[]) >>= (fun b=>pure (Value.bool (!b)):Bool->Sem Value)) from zao (zbP t _))
  | _=>exact tail
theorem zno(hg:P.globals.size=0)(op:BinOp)(a b:Addr):zct P (behindNumber a >>= fun p=>behindNumber b >>= fun q=>Op.addrCmp op p.1 q.1:Sem Value) :=
 zap fun _=>zap fun _=>zao (zcW hg _ _)
theorem znp(hg:P.globals.size=0)(k:IntKind)(a b:Addr):zct P (behindNumber a >>= fun p=>behindNumber b >>= fun q=>Op.addrSub k p.1 q.1:Sem Value) :=
 zap fun _=>zap fun _=>zao (zcW hg _ _)
theorem zqJ[low:zay][zbv L M]{R:BR}(k:IntKind)(h:zbM R a a')(n:Int):zae L M QV R (behindNumber a >>= fun p=>Op.addrMod k p.1 n) (behindNumber a' >>= fun p=>Op.addrMod k p.1 n) :=
 zab (zc7 h) fun _ _ _ _ hp=>zlZ k hp.1 n
theorem zkV[low:zay][zbv L M]{R:BR}(t:TypeId)(hx:zaj R x x')(hy:zaj R y y'):zae L M QV R (underlying t >>= fun d=>if (match d with|.unsafePointer=>true|_=>false)=true then movedPointer t x y else movedNumber t x y) (underlying t >>= fun d=>if (match d with|.unsafePointer=>true|_=>false)=true then movedPointer t x' y' else movedNumber t x' y'):=by
 refine zab (zah t) ?_
 rintro R1 hR1 d _ rfl
 exact zaT (fun _=>zfY t (hx.mono hR1) (hy.mono hR1)) (fun _=>zbc t (hx.mono hR1) (hy.mono hR1))
theorem zpU[low:zay][T:zbv L M]{R:BR}(op:BinOp)(ht:zk9 L op t=true)(hx:zaj R x x')(hy:zaj R y y'):zae L M QV R (binOp op t x y) (binOp op t x' y'):=by
 by_cases h:op=.eql\/op=.neq
 ·rcases h with rfl|rfl
  ·exact zr7 (by simp[zk9] at ht;exact ht.1) hx hy
  ·exact zr9 (by simp[zk9] at ht;exact ht.1) hx hy
 have n1:op≠.eql:=fun q=>h (Or.inl q)
 have n2:op≠.neq:=fun q=>h (Or.inr q)
 have hx0:=hx
 have hy0:=hy
 cases hx with
 | int k n =>
  cases hy with
  | int k' n'=>exact zfV _ _ _ _ _ _
  | ptr ha =>
   cases op <;> first
    | exact zae.halt
    | exact zbc t hy0 hx0
    | exact zqJ _ ha _
    | exact absurd rfl n1
    | exact absurd rfl n2
  | nilPtr =>
   cases op <;> first
    | exact zae.halt
    | exact zbc t hy0 hx0
    | exact absurd rfl n1
    | exact absurd rfl n2
  | _=>cases op <;> first|exact zae.halt|exact absurd rfl n1|exact absurd rfl n2
 | ptr ha =>
  cases hy with
  | int k n =>
   cases op <;> first
    | exact zae.halt
    | exact zkV t hx0 hy0
    | exact zbc t hx0 (.int _ _)
    | exact zqJ _ ha _
    | exact absurd rfl n1
    | exact absurd rfl n2
  | ptr hb =>
   cases op <;> first
    | exact zae.halt
    | exact zae.never (zno T.globals _ _ _)
    | exact zae.never (znp T.globals _ _ _)
    | exact absurd rfl n1
    | exact absurd rfl n2
  | _=>cases op <;> first|exact zae.halt|exact absurd rfl n1|exact absurd rfl n2
 | nilPtr =>
  cases hy with
  | int k n =>
   cases op <;> first
    | exact zae.halt
    | exact zkV t hx0 hy0
    | exact zbc t hx0 (.int _ _)
    | exact absurd rfl n1
    | exact absurd rfl n2
  | _=>cases op <;> first|exact zae.halt|exact absurd rfl n1|exact absurd rfl n2
 | string s =>
  cases hy with
  | string s'=>cases op <;> first|(simp only[binOp];exact zdK _ _ _)|exact absurd rfl n1|exact absurd rfl n2
  | _=>cases op <;> first|exact zae.halt|exact absurd rfl n1|exact absurd rfl n2
 | _=>cases hy <;> (cases op <;> first|exact zae.halt|exact absurd rfl n1|exact absurd rfl n2)
def zmO(L:Program)(s d:TypeId):Bool:=match L.underlying s,L.underlying d with
 | some (.int _),some (.int _)=>true
 | some .string,some .string=>true
 | _,_=>false
theorem zl1[low:zay][Twin L M]{R:BR}{d:TypeId}(h:zmO L s d=true)(hx:zaj R x x'):zae L M QV R (convert s d x) (convert s d x'):=by
 unfold convert
 refine zab (zaD s) ?_
 rintro R1 hR1 ds _ ⟨rfl,h1⟩
 refine zab (zaD d) ?_
 rintro R2 hR2 dd _ ⟨rfl,h2⟩
 simp only[zmO,h1,h2] at h
 replace hx:=(hx.mono hR1).mono hR2
 cases ds <;> cases dd <;> first
  | (simp at h;done)
  | (cases hx <;> first|exact zac (.int _ _)|exact zac (.string _)|exact zae.halt)
class zaA(L M:Program):Prop extends zbv L M where
 fn:∀(f:Nat) (fn:Func),L.funcs[f]?=some fn->fn.body.isSome=true->(fn.name == "runtime.NumGoroutine")=false/\∃ fn':Func,M.funcs[f]?=some fn'/\fn'.body.isSome=true/\(fn'.name == "runtime.NumGoroutine")=false
 dead:∀(f:Nat) (fn:Func),L.funcs[f]?=some fn->fn.body.isSome=false->∀ args,zct L (callFunc f args)
 types:M.types.size=L.types.size
inductive zse(L:Program)(R:BR):Next->Next->Prop
 | value {v v':Value}:zaj R v v'->zse L R (.value v) (.value v')
 | skip:zse L R .skip .skip
 | enter (f:FuncId) {a a':Array Value}:(∃ fn:Func,L.funcs[f]?=some fn/\fn.body.isSome=true)->zoK f a.size=true->zat R a a'->zse L R (.enter f a) (.enter f a')
abbrev QX(L:Program):BR->Next->Next->Prop:=fun R a b=>zse L R a b
theorem zcA[low:zay][T:zaA L M]{R:BR}(f:FuncId){a a':Array Value}(har:zoK f a.size=true)(h:zat R a a'):zae L M (QX L) R (callFunc f a) (callFunc f a'):=by
 by_cases hd:∃ fn,L.funcs[f]?=some fn/\fn.body.isSome=false
 ·obtain⟨fn,h1,h2⟩:=hd
  exact zae.never (T.dead f fn h1 h2 a)
 ·unfold callFunc
  refine zab zaS ?_
  rintro R1 hR1 p p' ⟨rfl,rfl⟩
  cases hf:p.funcs[f]? with
  | none=>exact zae.halt
  | some fn =>
   have hb:fn.body.isSome=true:=by
    cases hb:fn.body.isSome with
    | true=>rfl
    | false=>exact absurd ⟨fn,hf,hb⟩ hd
   obtain⟨n1,fn',hf',hb',n2⟩:=T.fn f fn hf hb
   rw[hf']
   have e1:fn.body.isNone=false:=by cases q:fn.body <;> simp_all
   have e2:fn'.body.isNone=false:=by cases q:fn'.body <;> simp_all
   simp only[n1,n2,e1,e2]
   exact zac (.enter f ⟨fn,hf,hb⟩ har (h.mono hR1))
theorem zmb[low:zay]{R:BR}(ts:Array TypeId)(t:TypeId)(h:zaj R v v')(m:String):zae L M QV R (Builtin.ssaWrapNilChk_ ts t #[v,strVal "",strVal m]) (Builtin.ssaWrapNilChk_ ts t #[v',strVal "",strVal m]):=by
 cases h with
 | ptr h=>exact zac (.ptr h)
 | nilPtr =>
  refine zae.never (zap (s:=choose (.extern "ssa:wrapnilchk.dereferenced" 2)) fun n=>?_)
  refine zd7 (zao (zan _)) ?_
  split
  ·refine zap fun d=>?_
   split
   ·refine zap fun i=>?_
    split
    ·split
     ·dsimp only
      split
      ·exact zan _
      ·exact zam
     ·exact zam
    ·exact zam
   ·exact zam
  ·exact zam
 | _=>exact zae.halt
theorem zek[low:zay][Twin L M]{R:BR}(t:TypeId)(h:zaj R v v')(p:Bool)(wr:Option String):zae L M QV R (receiverAt t (.val v) p wr) (receiverAt t (.val v') p wr):=by
 unfold receiverAt
 refine zab (zah t) ?_
 rintro R1 hR1 d _ rfl
 replace h:=h.mono hR1
 cases p with
 | true=>cases d <;> first|exact zac h|exact zae.halt
 | false =>
  cases d with
  | pointer elem =>
   have tail:∀(R2:BR),R1.le R2->∀ {u u':Value},zaj R2 u u'->zae L M QV R2 (asAddr u >>= fun a=>loadVar elem a) (asAddr u' >>= fun a=>loadVar elem a) :=
    fun R2 _ u u' hu=>zab (zfS hu) fun _ _ _ _ ha=>zeE elem ha
   cases wr with
   | none=>exact tail R1 (BR.le_refl _) h
   | some m =>
    show zae L M QV R1 (Builtin.ssaWrapNilChk_ #[t] t #[v,strVal "",strVal m] >>= fun u=>asAddr u >>= fun a=>loadVar elem a) (Builtin.ssaWrapNilChk_ #[t] t #[v',strVal "",strVal m] >>= fun u=>asAddr u >>= fun a=>loadVar elem a)
    exact zab (zmb _ _ h m) fun R2 hR2 u u' hu=>tail R2 hR2 hu
  | _=>exact zac h
def zip(L:Program)(name:String):Bool:=L.types.toList.all fun i=>match i.methods.find? (·.name == name) with|some m=>m.path.toList.all (fun s=>!s.deref) && (match m.func with|some q=>(xAr q.1).isNone|none=>true)|none=>true
theorem zim{info:TypeId->Option TypeInfo}{d:TypeDesc}{i:TypeInfo}(h:Made.reckon info d=some i):i.methods=#[]:=by
 unfold Made.reckon at h
 cases d with
 | pointer e =>
  obtain⟨j,hj,h⟩:=Option.bind_eq_some_iff.1 h
  simp only at h
  split at h
  ·cases h
  ·split at h
   ·cases h
   ·obtain⟨s,hs,h⟩:=Option.bind_eq_some_iff.1 h
    cases h
    rfl
  ·obtain⟨s,hs,h⟩:=Option.bind_eq_some_iff.1 h
   cases h
   rfl
 | slice e =>
  obtain⟨j,hj,h⟩:=Option.bind_eq_some_iff.1 h
  obtain⟨s,hs,h⟩:=Option.bind_eq_some_iff.1 h
  cases h
  rfl
 | map k e =>
  obtain⟨j,hj,h⟩:=Option.bind_eq_some_iff.1 h
  obtain⟨s,hs,h⟩:=Option.bind_eq_some_iff.1 h
  obtain⟨j2,hj2,h⟩:=Option.bind_eq_some_iff.1 h
  obtain⟨s2,hs2,h⟩:=Option.bind_eq_some_iff.1 h
  cases h
  rfl
 | chan dir e =>
  obtain⟨j,hj,h⟩:=Option.bind_eq_some_iff.1 h
  obtain⟨s,hs,h⟩:=Option.bind_eq_some_iff.1 h
  cases h
  rfl
 | func ps rs v =>
  obtain⟨s,hs,h⟩:=Option.bind_eq_some_iff.1 h
  cases h
  rfl
 | array n e =>
  obtain⟨j,hj,h⟩:=Option.bind_eq_some_iff.1 h
  obtain⟨s,hs,h⟩:=Option.bind_eq_some_iff.1 h
  have e:=Option.some.inj h
  subst e
  rfl
 | struct fs =>
  have h':Made.reckonStruct info fs=some i:=h
  unfold Made.reckonStruct at h'
  simp only[<- Array.forIn_toList] at h'
  obtain⟨s,hs,h'⟩:=Option.bind_eq_some_iff.1 h'
  split at h'
  all_goals
   have e:=Option.some.inj h'
   subst e
   rfl
 | _=>cases h
theorem znn(hn:zip L name=true){i:TypeInfo}{m:Method}(hi:L.info? t=some i)(hm:i.methods.find? (·.name == name)=some m):(∀ s∈m.path.toList,s.deref=false)/\∀ q,m.func=some q->(xAr q.1).isNone=true:=by
 have tab:∀(t:Nat) (i:TypeInfo),L.types[t]?=some i->i.methods.find? (·.name == name)=some m->(∀ s∈m.path.toList,s.deref=false)/\∀ q,m.func=some q->(xAr q.1).isNone=true:=by
  intro t i h2 hm
  have hin:i∈L.types.toList:=by
   rw[Array.mem_toList_iff]
   exact Array.mem_of_getElem? h2
  have:=List.all_eq_true.1 hn i hin
  simp only[hm,Bool.and_eq_true] at this
  refine⟨fun s hs=>?_,fun q hq=>?_⟩
  ·have h3:=List.all_eq_true.1 this.1 s hs
   simpa using h3
  ·have h4:=this.2
   rw[hq] at h4
   exact h4
 have made:∀(n:Nat) (t:TypeId) (i:TypeInfo),Made.infoAt L.toTables n t=some i->i.methods.find? (·.name == name)=some m->(∀ s∈m.path.toList,s.deref=false)/\∀ q,m.func=some q->(xAr q.1).isNone=true:=by
  intro n t i h hm
  cases n with
  | zero=>cases h
  | succ n =>
   unfold Made.infoAt at h
   split at h
   ·exact tab t i h hm
   ·obtain⟨d,hd,h⟩:=Option.bind_eq_some_iff.1 h
    rw[zim h] at hm
    simp at hm
 have hi':(if t<L.types.size then L.types[t]? else Made.infoAt L.toTables Made.depth t)=some i:=hi
 split at hi'
 ·exact tab t i hi' hm
 ·exact made _ t i hi' hm
abbrev QPl:BR->TypeId × Place->TypeId × Place->Prop:=fun R x x'=>∃ t u u',x=(t,.val u)/\x'=(t,.val u')/\zaj R u u'
theorem ziE[low:zay][T:zaA L M]:∀(l:List FieldStep),(∀ s∈l,s.deref=false)->∀ {R:BR} (t:TypeId) {v v':Value},zaj R v v'->zae L M QPl R (follow l t (.val v)) (follow l t (.val v'))
 | [],_,_,t,v,v',h=>zac ⟨t,v,v',rfl,rfl,h⟩
 | s::l,hl,R,t,v,v',h=>by
  unfold follow
  refine zab (zah s.struct) ?_
  rintro R1 hR1 d _ rfl
  replace h:=h.mono hR1
  cases d with
  | struct fields =>
   dsimp only
   cases hf:fields[s.index]? with
   | none=>exact zae.halt
   | some f =>
    simp only[hl s mcs,Bool.false_eq_true,↓reduceIte]
    cases h with
    | agg h1 h2 =>
     refine zab (zf3 f.type ⟨h1,h2⟩ f.offset) ?_
     intro R2 hR2 u u' hu
     exact ziE l (fun s hs=>hl s (mcm hs)) f.type hu
    | _=>exact zae.halt
  | _=>exact zae.halt
abbrev QM:BR->FuncId × Value->FuncId × Value->Prop:=fun R a b=>a.1=b.1/\zaj R a.2 b.2/\(xAr a.1).isNone=true
theorem ziG[low:zay][T:zaA L M]{name:String}(hn:zip L name=true):∀(n:Nat) {R:BR} (t:TypeId) {v v':Value},zaj R v v'->zae L M QM R (Go.method n t v name) (Go.method n t v' name)
 | 0,_,_,_,_,_=>zae.halt
 | n+1,R,t,v,v',h=>by
  unfold Go.method
  refine zab (zda t) ?_
  rintro R1 hR1 i _ ⟨rfl,hi⟩
  cases hm:i.methods.find? (·.name == name) with
  | none=>exact zae.halt
  | some m =>
   obtain⟨hp,hq⟩:=znn hn hi hm
   dsimp only
   refine zab (ziE m.path.toList hp t (h.mono hR1)) ?_
   rintro R2 hR2 _ _ ⟨xt,u,u',rfl,rfl,hu⟩
   dsimp only
   cases hmf:m.func with
   | none =>
    show zae L M QM R2 ((pure u:Sem Value) >>= fun u=>match u with|.iface t' v'=>Go.method n t' v' name|.nilIface=>runtimePanic .nilDeref|_=>stuck "method row: interface value expected") ((pure u':Sem Value) >>= fun u=>match u with|.iface t' v'=>Go.method n t' v' name|.nilIface=>runtimePanic .nilDeref|_=>stuck "method row: interface value expected")
    cases hu with
    | iface t' hv=>exact ziG hn n t' hv
    | nilIface=>exact zae.never (zan (α:=FuncId × Value) .nilDeref)
    | _=>exact zae.halt
   | some q =>
    obtain⟨f,pr⟩:=q
    exact zab (zek xt hu pr _) fun _ _ _ _ hr=>zac ⟨rfl,hr,hq _ hmf⟩
theorem zhA[low:zay][T:zaA L M]{R:BR}(h:zaj R v v')(hn:zip L name=true){a a':Array Value}(ha:zat R a a'):zae L M (QX L) R (callMethod v name a) (callMethod v' name a'):=by
 unfold callMethod
 cases h with
 | iface t hv =>
  refine zab zaS ?_
  rintro R1 hR1 p p' ⟨rfl,rfl⟩
  rw[T.types]
  refine zab (ziG hn _ t (hv.mono hR1)) ?_
  rintro R2 hR2 ⟨f,r⟩ ⟨f',r'⟩ ⟨e,hr,hx⟩
  simp only at e hr hx
  subst e
  exact zcA f (zdT hx _) ((zat.one hr).app ((ha.mono hR1).mono hR2))
 | nilIface=>exact zae.never (zan (α:=Next) .nilDeref)
 | _=>exact zae.halt
inductive zoI(R:BR):Target->Target->Prop
 | fn (fn:Fn) {c c':Array Value}:zm2 fn=true->zat R c c'->zoI R (.fn fn c) (.fn fn c')
 | dir (f:FuncId):zoI R (.fn (.func f) #[]) (.fn (.func f) #[])
 | nil:zoI R .nil .nil
 | meth (name:String):zoI R (.fn (.method name) #[]) (.fn (.method name) #[])
 | builtin (b:Builtin) (ts:Array TypeId) (t:TypeId) (cs:Array Bool):zoI R (.builtin b ts t cs) (.builtin b ts t cs)
structure zrC(R:BR)(d d':Deferred):Prop where
 target:zoI R d.target d'.target
 args:zat R d.args d'.args
theorem zoI.mono{R R':BR}(hR:R.le R'){t t':Target}(h:zoI R t t'):zoI R' t t':=by
 cases h with
 | fn f h0 h=>exact .fn f h0 (h.mono hR)
 | dir f=>exact .dir f
 | nil=>exact .nil
 | meth n=>exact .meth n
 | builtin b ts t cs=>exact .builtin b ts t cs
theorem zrC.mono{R R':BR}(hR:R.le R')(h:zrC R d d'):zrC R' d d':=⟨h.target.mono hR,h.args.mono hR⟩
def zbp:Nat->Value->Bool
 | 0,_=>false
 | _,.bool _|_,.int _ _|_,.string _|_,.pointer none|_,.slice none _ _|_,.map none|_,.chan none|_,.nilFunc|_,.nilIface=>true
 | n+1,.iface _ v=>zbp n v
 | n+1,.agg c|n+1,.tuple c=>c.all (zbp n)
 | n+1,.func f a b=>zm2 f && a.all (zbp n) && b.all (zbp n)
 | _,_=>false
theorem zee:∀(n:Nat) (v:Value),zbp n v=true->Plain v
 | 0,v,h=>by simp[zbp] at h
 | n+1,v,h=>by
  intro R
  have row:∀ c:Array Value,c.all (zbp n)=true->∀ i (h:i<c.size),zaj R c[i] c[i]:=by
   intro c hc i hi
   rw[Array.all_eq_true] at hc
   exact zee n _ (hc i hi) R
  cases v with
  | bool b=>exact .bool b
  | int k n=>exact .int k n
  | string s=>exact .string s
  | pointer a=>cases a with|none=>exact .nilPtr|some a=>simp[zbp] at h
  | slice a n m=>cases a with|none=>exact .nilSlice n m|some a=>simp[zbp] at h
  | map r=>cases r with|none=>exact .nilMap|some a=>simp[zbp] at h
  | chan r=>cases r with|none=>exact .nilChan|some a=>simp[zbp] at h
  | nilFunc=>exact .nilFunc
  | nilIface=>exact .nilIface
  | iface t v=>exact .iface t (zee n v (by simpa [zbp] using h) R)
  | agg c=>exact .agg rfl (fun i h1 _=>row c (by simpa [zbp] using h) i h1)
  | tuple c=>exact .tuple rfl (fun i h1 _=>row c (by simpa [zbp] using h) i h1)
  | func f a b =>
   simp only[zbp,Bool.and_eq_true] at h
   exact .func f h.1.1 rfl (fun i h1 _=>row a h.1.2 i h1) rfl (fun i h1 _=>row b h.2 i h1)
  | float k n=>simp[zbp] at h
  | complex k n m=>simp[zbp] at h
def za1:Operand->Bool
 | .tmp _=>true
 | .func f=>(xAr f).isNone
 | .const v=>zbp 9 v
 | .global _=>false
def zeS(R:BR)(ρ ρ':Operand->Value):Prop:=∀ x,za1 x=true->zaj R (ρ x) (ρ' x)
theorem zeS.mono{R R':BR}(hR:R.le R')(h:zeS R ρ ρ'):zeS R' ρ ρ':=fun x hx=>(h x hx).mono hR
theorem zeS.row{R:BR}(h:zeS R ρ ρ'){as:Array Operand}(ha:as.all za1=true):zat R (as.map ρ) (as.map ρ'):=by
 refine⟨qk,fun i h1 h2=>?_⟩
 simp only[Array.getElem_map]
 rw[Array.all_eq_true] at ha
 exact h _ (ha i (by simpa using h1))
theorem zeS.opt{R:BR}(h:zeS R ρ ρ'){o:Option Operand}(ho:o.all za1=true):zci R (o.map ρ) (o.map ρ'):=by
 cases o with
 | none=>exact Or.inl ⟨rfl,rfl⟩
 | some x=>exact Or.inr ⟨_,_,rfl,rfl,h x (by simpa using ho)⟩
theorem zeS.parts{R:BR}(h:zeS R ρ ρ'){ps:Array (Nat × Operand)}(hp:ps.all (fun p=>za1 p.2)=true):zoy R (ps.map fun (i,x)=>(i,ρ x)).toList (ps.map fun (i,x)=>(i,ρ' x)).toList:=by
 rw[Array.toList_map,Array.toList_map]
 rw[<- Array.all_toList] at hp
 revert hp
 generalize ps.toList=l
 intro hp
 induction l with
 | nil=>exact .nil
 | cons p l ih =>
  simp only[List.all_cons,Bool.and_eq_true] at hp
  simp only[List.map_cons]
  exact .cons _ (h _ hp.1) (ih hp.2)
def zcO(L:Program)(b:Builtin)(ts:Array TypeId):Bool:=match b with
 | .len|.cap|.copy=>true
 | .append=>match ts[1]? with
  | some t=>(match L.underlying t with|some (.int _)=>false|some _=>true|none=>false)
  | none=>false
 | _=>false
def zdd(L:Program)(c:Call):Bool:=match c.callee with
 | .value (.func f)=>zoK f c.args.size
 | .value f=>za1 f
 | .invoke r name=>za1 r && zip L name
 | .builtin b=>zcO L b c.argTypes
theorem zl0[low:zay][zaA L M](hz:zbm L){R:BR}{b:Builtin}(h:zcO L b ts=true)(t:TypeId)(cs:Array Bool){a a':Array Value}(ha:zat R a a'):zae L M (QX L) R (builtin b ts t cs a) (builtin b ts t cs a'):=by
 cases b with
 | len=>exact zab (zr8 ts t ha) fun _ _ _ _ hv=>zac (.value hv)
 | cap=>exact zab (zr6 ts t ha) fun _ _ _ _ hv=>zac (.value hv)
 | copy=>exact zab (zrm ts t ha) fun _ _ _ _ hv=>zac (.value hv)
 | append =>
  have hm:zqp L ts:=by
   simp only[zcO] at h
   split at h
   ·rename_i x hx
    split at h
    ·cases h
    ·rename_i d hk hd
     exact⟨x,d,hx,hd,fun k q=>hk k (by rw[<- q])⟩
    ·cases h
   ·cases h
  exact zab (zn4 hz ts t ha hm) fun _ _ _ _ hv=>zac (.value hv)
 | _=>simp[zcO] at h
def zrG(L:Program)(t:Target):Prop:=(∀ b ts ty cs,t=.builtin b ts ty cs->zcO L b ts=true)/\∀ name c,t=.fn (.method name) c->zip L name=true
def zrB(d:Deferred):Prop:=∀ f,d.target=.fn (.func f) #[]->zoK f d.args.size=true
theorem zl8[low:zay]{R:BR}(hfn:∀ f,ρ (.func f)=.func (.func f) #[] #[]/\ρ' (.func f)=.func (.func f) #[] #[])(h:zeS R ρ ρ'){c:Call}(hc:zdd L c=true)(ha:c.args.all za1=true)(t:TypeId)(hM:∀ x,c.callee=.value x->∀ n,ρ x≠.func (.method n) #[.nilIface] #[]):zae L M (fun R d d'=>zrC R d d'/\zrG L d.target/\zrB d) R (resolve ρ c t) (resolve ρ' c t):=by
 unfold resolve
 have hr:=h.row ha
 cases hcc:c.callee with
 | builtin b =>
  simp only[zdd,hcc] at hc
  refine zac ⟨⟨.builtin _ _ _ _,hr⟩,⟨?_,?_⟩,fun f e=>by cases e⟩
  ·intro b' ts ty cs e
   cases e
   exact hc
  ·intro n c e
   cases e
 | invoke r name =>
  simp only[zdd,hcc,Bool.and_eq_true] at hc
  refine zac ⟨⟨.meth _,(zat.one (h r hc.1)).app hr⟩,⟨?_,?_⟩,fun f e=>by cases e⟩
  ·intro b' ts ty cs e
   cases e
  ·intro n c e
   cases e
   exact hc.2
 | value f =>
  by_cases hdir:∃ g,f=.func g
  ·obtain⟨g,rfl⟩:=hdir
   simp only[zdd,hcc] at hc
   dsimp only
   rw[(hfn g).1,(hfn g).2]
   refine zac ⟨⟨.dir g,by simpa using hr⟩,⟨fun _ _ _ _ e=>(by cases e),fun _ _ e=>(by cases e)⟩,fun f e=>?_⟩
   cases e
   simpa using hc
  have hc:za1 f=true:=by
   cases f with
   | func g=>exact absurd ⟨g,rfl⟩ hdir
   | _=>simpa only[zdd,hcc] using hc
  have hv:=h f hc
  have hM1:=hM f hcc
  dsimp only
  revert hv hM1
  generalize ρ f=u
  generalize ρ' f=u'
  intro hv hM1
  cases hv with
  | junkM _=>exact absurd rfl (hM1 _)
  | func fn h0 h1 h2 h3 h4 =>
   refine zac ⟨⟨.fn fn h0 ⟨h3,h4⟩,zat.app ⟨h1,h2⟩ hr⟩,⟨?_,?_⟩,fun f e=>?_⟩
   ·intro b' ts ty cs e
    cases e
   ·intro n c e
    cases e
    simp[zm2] at h0
   ·have e':fn=.func f:=by
     injection e
    subst e'
    exact zdT h0 _
  | nilFunc =>
   refine zac ⟨⟨.nil,hr⟩,⟨?_,?_⟩,fun f e=>by cases e⟩
   ·intro b' ts ty cs e
    cases e
   ·intro n c e
    cases e
  | _=>exact zae.halt
theorem zoc[low:zay][zaA L M](hz:zbm L){R:BR}(h:zrC R d d')(hb:zrG L d.target)(hA:zrB d):zae L M (QX L) R (invoke d.target d.args) (invoke d'.target d'.args):=by
 obtain⟨t,a⟩:=d
 obtain⟨t',a'⟩:=d'
 obtain⟨ht,ha⟩:=h
 simp only at ht ha hb
 unfold invoke
 cases ht with
 | dir f=>exact zcA f (by have:=hA f rfl;simpa using this) (by simpa using ha)
 | nil=>exact zae.never (zan (α:=Next) .nilDeref)
 | builtin b ts ty cs=>exact zl0 hz (hb.1 _ _ _ _ rfl) ty cs ha
 | meth name =>
  rcases ha.get? 0 with ⟨e1,e2⟩|⟨v,v',e1,e2,hv⟩
  ·simp only[e1,e2];exact zae.halt
  ·simp only[e1,e2]
   rw[<- ha.1]
   exact zhA hv (hb.2 _ _ rfl) (ha.ext 1 _)
 | fn fn h0 hc =>
  cases fn with
  | func f=>exact zcA f (zdT h0 _) (ha.app hc)
  | method name=>simp[zm2] at h0
  | methodOf t name=>simp[zm2] at h0
  | via t path f p =>
   simp only[zm2,Bool.and_eq_true,Array.isEmpty_iff] at h0
   obtain⟨h0,hx⟩:=h0
   subst h0
   rcases ha.get? 0 with ⟨e1,e2⟩|⟨v,v',e1,e2,hv⟩
   ·simp only[e1,e2];exact zae.halt
   ·simp only[e1,e2]
    rw[<- ha.1]
    refine zab (Q:=QV) (zek t hv p none) ?_
    intro R1 hR1 u u' hu
    exact zcA f (zdT hx _) ((zat.one hu).app ((ha.mono hR1).ext 1 _))
  | yield l=>simp[zm2] at h0
def zjc(L:Program)(s:TypeId)(f:Nat):Bool:=match L.underlying s with
 | some (.struct fs)=>(match fs[f]? with
  | some fd=>(match L.info? fd.type with|some i=>i.size != 0|none=>true)
  | none=>true)
 | _=>true
def nilTy(L:Program)(op:BinOp)(t:TypeId)(y:Operand):Bool :=
 (match op with
  | .eql|.neq=>true
  | _=>false) && (match y with
  | .const (.pointer none)=>true
  | _=>false) && (match L.underlying t with
  | some (.pointer _)=>true
  | _=>false)
theorem zpt{op:BinOp}{y:Operand}(h:nilTy L op t y=true):(op=.eql\/op=.neq)/\y=.const (.pointer none)/\∃ e,L.underlying t=some (.pointer e):=by
 simp only[nilTy,Bool.and_eq_true] at h
 obtain⟨⟨h1,h2⟩,h3⟩:=h
 refine⟨?_,?_,?_⟩
 ·revert h1
  cases op <;> first|exact fun _=>Or.inl rfl|exact fun _=>Or.inr rfl|(intro q;cases q)
 ·cases y with
  | const v =>
   cases v with
   | pointer o =>
    cases o with
    | none=>rfl
    | some a=>cases h2
   | _=>cases h2
  | _=>cases h2
 ·revert h3
  cases L.underlying t with
  | none=>intro q;cases q
  | some d =>
   cases d with
   | pointer e=>exact fun _=>⟨e,rfl⟩
   | _=>intro q;cases q
theorem zkW[low:zay][Twin L M]{R:BR}{e:TypeId}(ht:L.underlying t=some (.pointer e))(hx:zaj R x x'):zae L M QEq R (Op.equal t x (.pointer none)) (Op.equal t x' (.pointer none)):=by
 show zae L M QEq R (Op.equalIn (9999+1) t x (.pointer none)) (Op.equalIn (9999+1) t x' (.pointer none))
 unfold Op.equalIn
 refine zab (zaD t) ?_
 rintro R1 hR1 d _ ⟨rfl,hd⟩
 obtain rfl:d=.pointer e:=by rw[ht] at hd;exact(Option.some.inj hd).symm
 cases hx with
 | ptr _=>exact zac rfl
 | nilPtr=>exact zac rfl
 | _=>exact zae.halt
theorem zpZ[low:zay][Twin L M]{R:BR}{op:BinOp}(hop:op=.eql\/op=.neq){e:TypeId}(ht:L.underlying t=some (.pointer e))(hx:zaj R x x'):zae L M QV R (binOp op t x (.pointer none)) (binOp op t x' (.pointer none)):=by
 rcases hop with rfl|rfl
 ·have tail:zae L M QV R (Op.equal t x (.pointer none) >>= fun b=>pure (.bool b)) (Op.equal t x' (.pointer none) >>= fun b=>pure (.bool b)) :=
   zab (zkW ht hx) fun _ _ _ _ e=>by rw[e];exact zac (.bool _)
  cases hx with
  | junk _ _=>exact zae.never (show zct L (Op.equal t (.tuple #[]) _ >>= (fun b=>pure (Value.bool b):Bool->Sem Value)) from zao (zdi t _))
  | _=>exact tail
 ·have tail:zae L M QV R (Op.equal t x (.pointer none) >>= fun b=>pure (.bool (!b))) (Op.equal t x' (.pointer none) >>= fun b=>pure (.bool (!b))) :=
   zab (zkW ht hx) fun _ _ _ _ e=>by rw[e];exact zac (.bool _)
  cases hx with
  | junk _ _=>exact zae.never (show zct L (Op.equal t (.tuple #[]) _ >>= (fun b=>pure (Value.bool (!b)):Bool->Sem Value)) from zao (zdi t _))
  | _=>exact tail
def zgI(L:Program)(o:Op):Bool:=match o with
 | .move x|.assign x|.box _ x|.load _ x|.unOp _ _ x|.makeInterface _ x|.field _ x _|.extract x _|.typeAssert x _ _ _=>za1 x
 | .nilCheck x=>za1 x
 | .pick c a b=>za1 c && za1 a && za1 b
 | .alloc _=>true
 | .build _ ps|.buildSlice _ _ ps=>ps.all fun p=>za1 p.2
 | .store _ a x|.makeSlice _ a x|.indexAddr _ a x|.index _ a x=>za1 a && za1 x
 | .binOp op t x y _=>(zk9 L op t || nilTy L op t y) && za1 x && za1 y
 | .convert s d x=>zmO L s d && za1 x
 | .makeFunc fn a c=>zm2 fn && a.all za1 && c.all za1
 | .makeMap _ r=>r.all za1
 | .slice _ x lo hi mx=>za1 x && lo.all za1 && hi.all za1 && mx.all za1
 | .fieldAddr s x f=>zjc L s f && za1 x
 | .lookup t x k _=>zlw L t && za1 x && za1 k
 | .mapUpdate t m k x|.insert t m k x=>zlw L t && za1 m && za1 k && za1 x
 | .call c=>zdd L c && c.args.all za1
 | _=>false
theorem sv[low:zay]{R:BR}{s s':Sem Value}(h:zae L M QV R s s'):zae L M (QX L) R (s >>= fun v=>pure (.value v)) (s' >>= fun v=>pure (.value v)):=zab h fun _ _ _ _ hv=>zac (.value hv)
theorem su[low:zay]{R:BR}{s s':Sem Unit}(h:zae L M QEq R s s'):zae L M (QX L) R (s >>= fun _=>pure .skip) (s' >>= fun _=>pure .skip):=zab h fun _ _ _ _ _=>zac .skip
theorem zlk{f:Nat}(h:zjc L s f=true):∀ fs fd,L.underlying s=some (.struct fs)->fs[f]?=some fd->∀ i,L.info? fd.type=some i->i.size≠0:=by
 intro fs fd h1 h2 i h3
 simp only[zjc,h1,h2,h3] at h
 simpa using h
theorem zn8[low:zay][T:zaA L M](hz:zbm L){R:BR}(h1:R.One)(hfn:∀ f,ρ (.func f)=.func (.func f) #[] #[]/\ρ' (.func f)=.func (.func f) #[] #[])(hnil:ρ (.const (.pointer none))=.pointer none/\ρ' (.const (.pointer none))=.pointer none)(h:zeS R ρ ρ'){o:Oper}(ho:zgI L o.op=true):zae L M (QX L) R (execOp ρ o) (execOp ρ' o):=by
 obtain⟨dst,op,ty,pos,after,guard⟩:=o
 simp only at ho
 cases op with
 | move x=>exact zac (.value (h x ho))
 | assign x=>exact zac (.value (h x ho))
 | pick c a b =>
  simp only[zgI,Bool.and_eq_true] at ho
  refine zab (zn5 (h c ho.1.1)) ?_
  rintro R1 hR1 t _ rfl
  cases t
  ·exact zac (.value ((h b ho.2).mono hR1))
  ·exact zac (.value ((h a ho.1.2).mono hR1))
 | alloc e=>exact sv (zpS hz e)
 | box e x=>exact sv (zr5 e (h x ho))
 | build t ps=>exact sv (zpV hz t (h.parts ho))
 | buildSlice t n ps=>exact sv (zhz hz t n (h.parts ho))
 | load t a=>exact sv (zoe t (h a ho))
 | store t a x =>
  simp only[zgI,Bool.and_eq_true] at ho
  exact su (zma t (h a ho.1) (h x ho.2))
 | nilCheck x =>
  have hx:=h x ho
  show zae L M (QX L) R (match ρ x with
   | .pointer none|.nilIface|.nilFunc=>runtimePanic .nilDeref
   | .func (.method name) first captured =>
    match (first[0]?:Option Value) with
    | some .nilIface=>runtimePanic .nilDeref
    | some (.iface t w)=>do
     if (<- nilAhead ((<- program).types.size+Made.depth) t w name) != some false then
      unsupported (.noEntry "op/nilCheck.the method's receiver behind this interface value is a nil pointer, or cannot be seen to be none, and the arguments act or may panic (ledger 612)")
     pure (.value (.func (.method name) first captured))
    | _=>pure (.value (.func (.method name) first captured))
   | x=>pure (.value x)) (match ρ' x with
   | .pointer none|.nilIface|.nilFunc=>runtimePanic .nilDeref
   | .func (.method name) first captured =>
    match (first[0]?:Option Value) with
    | some .nilIface=>runtimePanic .nilDeref
    | some (.iface t w)=>do
     if (<- nilAhead ((<- program).types.size+Made.depth) t w name) != some false then
      unsupported (.noEntry "op/nilCheck.the method's receiver behind this interface value is a nil pointer, or cannot be seen to be none, and the arguments act or may panic (ledger 612)")
     pure (.value (.func (.method name) first captured))
    | _=>pure (.value (.func (.method name) first captured))
   | x=>pure (.value x))
  revert hx
  generalize ρ x=u
  generalize ρ' x=u'
  intro hx
  cases hx with
  | nilPtr=>exact zae.never (zan _)
  | nilIface=>exact zae.never (zan _)
  | nilFunc=>exact zae.never (zan _)
  | func fn h0 q1 q2 q3 q4 =>
   cases fn with
   | method name=>simp[zm2] at h0
   | _=>exact zac (.value (.func _ h0 q1 q2 q3 q4))
  | ptr a=>exact zac (.value (.ptr a))
  | bool b=>exact zac (.value (.bool b))
  | int k n=>exact zac (.value (.int k n))
  | string s=>exact zac (.value (.string s))
  | slice n m a=>exact zac (.value (.slice n m a))
  | nilSlice n m=>exact zac (.value (.nilSlice n m))
  | empty a c=>exact zac (.value (.empty a c))
  | map r=>exact zac (.value (.map r))
  | nilMap=>exact zac (.value .nilMap)
  | nilChan=>exact zac (.value .nilChan)
  | iface t v=>exact zac (.value (.iface t v))
  | agg q1 q2=>exact zac (.value (.agg q1 q2))
  | tuple q1 q2=>exact zac (.value (.tuple q1 q2))
  | junkM h0=>exact zae.never (zan _)
  | junk h0 hj =>
   have e:(match u' with
    | .pointer none|.nilIface|.nilFunc=>(runtimePanic .nilDeref:Sem Next)
    | .func (.method name) first captured =>
     match (first[0]?:Option Value) with
     | some .nilIface=>runtimePanic .nilDeref
     | some (.iface t w)=>do
      if (<- nilAhead ((<- program).types.size+Made.depth) t w name) != some false then
       unsupported (.noEntry "op/nilCheck.the method's receiver behind this interface value is a nil pointer, or cannot be seen to be none, and the arguments act or may panic (ledger 612)")
      pure (.value (.func (.method name) first captured))
     | _=>pure (.value (.func (.method name) first captured))
    | x=>pure (.value x))=pure (.value u'):=by
    cases u' with
    | pointer o=>cases o <;> first|rfl|cases hj
    | func fn _ _=>cases fn <;> first|rfl|cases hj
    | nilIface=>cases hj
    | nilFunc=>cases hj
    | _=>rfl
   exact e ▸ zac (.value (.junk h0 hj))
 | binOp op t x y yt =>
  simp only[zgI,Bool.and_eq_true,Bool.or_eq_true] at ho
  rcases ho with ⟨⟨hb|hb,hox⟩,hoy⟩
  ·refine sv (zab (zl2 op hb x y (h x hox) (h y hoy)) ?_)
   rintro R1 hR1 _ _ _
   exact zpU op hb ((h x hox).mono hR1) ((h y hoy).mono hR1)
  ·obtain⟨hop,rfl,e,he⟩:=zpt hb
   refine sv (s:=eqGuard op t x (.const (.pointer none)) (ρ x) (ρ (.const (.pointer none))) >>= fun _=>binOp op t (ρ x) (ρ (.const (.pointer none)))) (s':=eqGuard op t x (.const (.pointer none)) (ρ' x) (ρ' (.const (.pointer none))) >>= fun _=>binOp op t (ρ' x) (ρ' (.const (.pointer none)))) ?_
   rw[hnil.1,hnil.2,zhe op t x _ (ρ x) rfl,zhe op t x _ (ρ' x) rfl]
   refine zab (Q:=QEq) (zac rfl) ?_
   rintro R1 hR1 _ _ _
   exact zpZ hop he ((h x hox).mono hR1)
 | unOp op t x=>exact sv (zp2 op (h x ho))
 | convert s d x =>
  simp only[zgI,Bool.and_eq_true] at ho
  exact sv (zl1 ho.1 (h x ho.2))
 | makeInterface t x=>exact sv (zeZ t (h x ho))
 | makeFunc fn a c =>
  simp only[zgI,Bool.and_eq_true] at ho
  exact sv (zjS ho.1.1 (h.row ho.1.2) (h.row ho.2))
 | makeMap t r =>
  exact sv (zl7 t (h.opt ho))
 | makeSlice t l c =>
  simp only[zgI,Bool.and_eq_true] at ho
  exact sv (ziF hz t (h l ho.1) (h c ho.2))
 | slice t x lo hi mx =>
  simp only[zgI,Bool.and_eq_true] at ho
  exact sv (zl9 t (h x ho.1.1.1) (h.opt ho.1.1.2) (h.opt ho.1.2) (h.opt ho.2))
 | fieldAddr s x f =>
  simp only[zgI,Bool.and_eq_true] at ho
  exact sv (zl5 s (h x ho.2) f (zlk ho.1))
 | field t x f=>exact sv (zpW t (h x ho) f)
 | indexAddr t x i =>
  simp only[zgI,Bool.and_eq_true] at ho
  exact sv (zl6 t (h x ho.1) (h i ho.2))
 | index t x i =>
  simp only[zgI,Bool.and_eq_true] at ho
  exact sv (zpX t (h x ho.1) (h i ho.2))
 | lookup t x k ok =>
  simp only[zgI,Bool.and_eq_true] at ho
  exact sv (zof hz ho.1.1 (h x ho.1.2) (h k ho.2) ok)
 | mapUpdate t m k x =>
  simp only[zgI,Bool.and_eq_true] at ho
  exact su (zeO h1 ho.1.1.1 (h m ho.1.1.2) (h k ho.1.2) (h x ho.2))
 | insert t m k x =>
  simp only[zgI,Bool.and_eq_true] at ho
  exact su (zeO h1 ho.1.1.1 (h m ho.1.1.2) (h k ho.1.2) (h x ho.2))
 | typeAssert x t a ok=>exact sv (zhC hz (h x ho) t a ok)
 | extract x i=>exact sv (zl4 (h x ho) i)
 | call c =>
  simp only[zgI,Bool.and_eq_true] at ho
  by_cases hj:∃ x n,c.callee=.value x/\ρ x=.func (.method n) #[.nilIface] #[]
  ·obtain⟨x,n,e1,e2⟩:=hj
   refine zae.never ?_
   have e3:resolve ρ c ty=pure { target:=.fn (.method n) #[],args:=#[.nilIface]++c.args.map ρ }:=by
    unfold resolve
    simp only[e1,e2]
    rfl
   show zct L (resolve ρ c ty >>= fun d=>invoke d.target d.args)
   rw[e3]
   show zct L (invoke (.fn (.method n) #[]) (#[.nilIface]++c.args.map ρ))
   unfold invoke
   have e4:(#[Value.nilIface]++c.args.map ρ)[0]?=some .nilIface:=by rw[Array.getElem?_append_left qk];rfl
   simp only[e4]
   exact zan (α:=Next) .nilDeref
  exact zab (zl8 hfn h ho.1 ho.2 ty (fun x e n q=>hj ⟨x,n,e,q⟩)) fun _ _ _ _ hd=>zoc hz hd.1 hd.2.1 hd.2.2
 | _=>simp[zgI] at ho
end
section
open Go Go.Conc
variable{L M:Program}
def codeOk(L:Program):Code->Bool
 | .region _ ops _=>ops.all fun o=>zgI L o.op
 | .seq a b=>codeOk L a && codeOk L b
 | .cond c a b=>za1 c && codeOk L a && codeOk L b
 | .block _ c|.loop c|.scope c=>codeOk L c
 | .rangeFunc ..=>false
 | _=>true
def zaM(L:Program):Item->Bool
 | .code c|.inLoop c|.inScope c=>codeOk L c
 | .inBlock _=>true
 | .inRegion ops _=>ops.all fun o=>zgI L o.op
 | _=>false
structure zrw(L:Program)(fr:Frame):Prop where
 ok:fr.todo.all (zaM L)=true
 defers:fr.defers=[]
 mode:fr.mode=.run\/fr.mode=.returning
 kind:fr.kind=.normal
 round:fr.roundOf=none
 fnok:∃ fn:Func,L.funcs[fr.fn]?=some fn/\fn.body.isSome=true
def zgm(L:Program)(R:BR)(fr fr':Frame):Prop:=zrw L fr/\∃ t,fr'={ fr with tmps:=t }/\zat R fr.tmps t
theorem zgm.mono{R R':BR}(hR:R.le R')(h:zgm L R fr fr'):zgm L R' fr fr':=let ⟨a,t,b,c⟩:=h;⟨a,t,b,c.mono hR⟩
inductive zca(L:Program)(R:BR):List Frame->List Frame->Prop
 | nil:zca L R [] []
 | cons {f f':Frame} {r r':List Frame}:zgm L R f f'->f.mode=.run->zca L R r r'->zca L R (f::r) (f'::r')
theorem zca.mono{R R':BR}(hR:R.le R'){l l':List Frame}(h:zca L R l l'):zca L R' l l':=by
 induction h with
 | nil=>exact .nil
 | cons hv hm _ ih=>exact .cons (hv.mono hR) hm ih
theorem zat.getD{R:BR}(h:zat R c c')(i:Nat):zaj R (c.getD i undef) (c'.getD i undef):=by
 rw[Array.getD_eq_getD_getElem?,Array.getD_eq_getD_getElem?]
 rcases h.get? i with ⟨e1,e2⟩|⟨v,v',e1,e2,hv⟩
 ·rw[e1,e2];exact .tuple rfl (fun i h=>absurd h qk)
 ·rw[e1,e2];exact hv
theorem zg4{R:BR}{t:Array Value}(h:zat R fr.tmps t):zeS R fr.eval ({ fr with tmps:=t }:Frame).eval:=by
 intro x hx
 cases x with
 | tmp i=>exact h.getD i
 | const v=>exact zee 9 v hx R
 | func f=>exact .func (.func f) hx rfl (fun i h=>absurd h qk) rfl (fun i h=>absurd h qk)
 | global g=>simp[za1] at hx
theorem zaj.undef{R:BR}:zaj R undef undef:=.tuple rfl (fun i h=>absurd h qk)
theorem zj3{R:BR}{t:Array Value}(h:zat R t t')(ops:Array Oper)(j:Nat):yielded ops t j=yielded ops t' j:=by
 unfold yielded
 cases (ops[j]?).bind (·.dst) with
 | none=>rfl
 | some d =>
  simp only[Option.bind_some]
  rcases h.get? d with ⟨e1,e2⟩|⟨v,v',e1,e2,hv⟩
  ·rw[e1,e2]
  ·rw[e1,e2]
   cases hv with
   | junk _ hj=>cases v' with|bool b=>cases hj|_=>rfl
   | _=>rfl
theorem zbO{R:BR}{t:Array Value}(ho:zrw L fr)(h:zat R fr.tmps t)(hv:zaj R v v'):zgm L R (fr.finish v) (({ fr with tmps:=t }:Frame).finish v'):=by
 have hok:=ho.ok
 unfold Frame.finish
 dsimp only
 split
 ·rename_i ops i rest k htd
  rw[htd] at hok
  have hok2:(Item.inRegion ops rest::k).all (zaM L)=true:=by simpa [zaM] using hok
  cases hd:(ops[i]?).bind (·.dst) with
  | none=>exact⟨⟨hok2,ho.defers,ho.mode,ho.kind,ho.round,ho.fnok⟩,t,rfl,h⟩
  | some d=>exact⟨⟨hok2,ho.defers,ho.mode,ho.kind,ho.round,ho.fnok⟩,t.setIfInBounds d v',rfl,h.set d hv⟩
 ·rename_i htd;rw[htd] at hok;simp[zaM] at hok
 ·rename_i htd;rw[htd] at hok;simp[zaM] at hok
 ·rename_i htd;rw[htd] at hok;simp[zaM] at hok
 ·rename_i htd;rw[htd] at hok;simp[zaM] at hok
 ·exact⟨ho,t,rfl,h⟩
structure Bodies(L M:Program)(X:FuncId->Prop):Prop where
 same:∀(f:Nat) (fn:Func),L.funcs[f]?=some fn->fn.body.isSome=true->¬ X f->M.funcs[f]?=some fn
 code:∀(f:Nat) (fn:Func) (c:Code),L.funcs[f]?=some fn->fn.body=some c->¬ X f->codeOk L c=true
 res:∀(f:Nat) (fn fn':Func),L.funcs[f]?=some fn->M.funcs[f]?=some fn'->fn'.results=fn.results
 early:∀ g,L.stepOf g=none
 ahead:L.follows .staticDataAhead=true
 mixed:M.follows .mixedOrders=L.follows .mixedOrders
theorem zdX{R:BR}(B:Bodies L M X){f:Nat}{fn:Func}(hf:L.funcs[f]?=some fn)(hb:fn.body.isSome=true)(hx:¬ X f){a a':Array Value}(h:zat R a a'):zgm L R (Frame.enter L f a .normal) (Frame.enter M f a' .normal):=by
 have hM:=B.same f fn hf hb hx
 cases hc:fn.body with
 | none=>rw[hc] at hb;cases hb
 | some c =>
  have hok:=B.code f fn c hf hc hx
  unfold Frame.enter
  simp only[hf,hM,hc,Option.map_some,Option.getD_some,Option.bind_some]
  refine⟨⟨by simpa [zaM] using hok,rfl,Or.inl rfl,rfl,rfl,fn,hf,by rw[hc];rfl⟩,a'++Array.replicate (fn.ntmps - a'.size) undef,rfl,?_⟩
  rw[<- h.1]
  refine h.app ⟨qk,fun i h1 h2=>?_⟩
  simp only[Array.getElem_replicate]
  exact zaj.undef
theorem zeD{dy:Option Dying}(h:GStep.go { frame:=fr,callers:=cs,status:=st,dying:=dy } w es=.go (G fr1 cs1) w1 es1):st=.running/\dy=none/\fr=fr1/\cs=cs1/\w=w1:=by
 simp only[G,GStep.go.injEq,Goroutine.mk.injEq] at h
 exact⟨h.1.2.2.1,h.1.2.2.2.1,h.1.1,h.1.2.1,h.2.1⟩
theorem raise_mode(fr:Frame)(vs:List PanicEntry):∃ c,(fr.raise vs).mode=.panicking c:=by
 unfold Frame.raise
 split <;> exact⟨_,rfl⟩
def zqo(L M:Program)(X:FuncId->Prop)(R:BR)(fr fr':Frame)(cs cs':List Frame):Prop :=
 (zgm L R fr fr'/\zca L R cs cs')\/∃ f a a',X f/\zoK f a.size=true/\fr=Frame.enter L f a .normal/\fr'=Frame.enter M f a' .normal/\zat R a a'/\zca L R cs cs'/\(∃ fn fn':Func,L.funcs[f]?=some fn/\M.funcs[f]?=some fn'/\fn.body.isSome=true)/\cs≠[]
def zfc(w w1:World)(f:World->GStep)(fr1:Frame)(cs1:List Frame):Prop :=
 ∃ k,w1.tape=w.tape/\w1.drawn=w.drawn+k/\∀ τ d,(∀ i,i<k->∀ q,τ (d+i) q=w.tape (w.drawn+i) q)->∃ es,f (w.tp τ d)=.go (G fr1 cs1) (w1.tp τ (d+k)) es
structure zgZ(L M:Program)(X:FuncId->Prop)(N:Nat)(R R':BR)(w w' w1 w1':World)(fr1 fr1':Frame)(cs1 cs1':List Frame)(es:Array Event):Prop where
 went:zew N R R' w w' w1 w1'
 after:zqo L M X R' fr1 fr1' cs1 cs1'
 evs:∀ e∈es,EvR N R' e
theorem zfi(B:Bodies L M X)(fr:Frame)(cs:List Frame)(g:Nat)(w:World):∃ o w' es,early L fr cs none g w=.ended o w' es:=by
 unfold early
 simp only[B.ahead,B.early,Bool.not_true,Bool.false_eq_true,if_false]
 exact⟨_,_,_,rfl⟩
theorem zmY(h:endFatal L fr cs none m w=.go (G fr1 cs1) w1 es1):False:=by
 unfold endFatal at h
 dsimp only at h
 split at h
 ·unfold dieOf at h
  have:=(zeD h).2.1
  cases this
 ·cases h
 ·cases h
theorem zoo(h:endThrow fr m w=.go (G fr1 cs1) w1 es1):False:=by
 unfold endThrow dieOf at h
 have:=(zeD h).2.1
 cases this
theorem zdS{s:GStep}(h:GStep.after es s=.go g w es1):∃ es2,s=.go g w es2/\es1=es++es2:=by
 cases s <;> simp only[GStep.after] at h <;> first|(cases h;exact⟨_,rfl,rfl⟩)|cases h
theorem zhR(B:Bodies L M X){s:Sem Next}(h:stepG.apply L true fr cs none s w=.go (G fr1 cs1) w1 es1)(hm:fr1.mode=.run\/fr1.mode=.returning):∃ x w2,s.run L w=.ok x w2:=by
 cases hr:s.run L w with
 | ok x w2=>exact⟨x,w2,rfl⟩
 | halt hh w2 =>
  exfalso
  unfold stepG.apply at h
  simp only[Sem.runT_eq,if_true,hr] at h
  obtain⟨es2,h,_⟩:=zdS h
  cases hh with
  | panic v =>
   obtain⟨_,_,e,_,_⟩:=zeD h
   obtain⟨c,hc⟩:=raise_mode fr [{ v,recovered:=false }]
   rw[e] at hc
   rcases hm with hm|hm <;> (rw[hm] at hc;cases hc)
  | goexit =>
   obtain⟨_,_,e,_,_⟩:=zeD h
   obtain⟨c,hc⟩:=raise_mode fr [goexitEntry]
   rw[e] at hc
   rcases hm with hm|hm <;> (rw[hm] at hc;cases hc)
  | blocked=>have:=(zeD h).1;cases this
  | waiting=>have:=(zeD h).1;cases this
  | exit c=>cases h
  | fatal m=>exact zmY h
  | throw m=>exact zoo h
  | unsupported u =>
   cases u with
   | initOrder g =>
    obtain⟨o,w',es,e⟩:=zfi B fr cs g w2
    have h':early L fr cs none g w2=.go (G fr1 cs1) w1 es2:=h
    rw[e] at h'
    cases h'
   | _=>cases h
  | stuck s=>cases h
theorem zfe{s:Sem Next}(hk:(fr.kind == CallKind.early)=false)(h:s.run P w=.ok (.value v) w2):∃ es,stepG.apply P true fr cs none s w=.go (G (fr.finish v) cs) w2 es:=by
 unfold stepG.apply
 simp only[Sem.runT_eq,if_true,h,hk]
 exact⟨_,rfl⟩
theorem zgy{s:Sem Next}(hk:(fr.kind == CallKind.early)=false)(h:s.run P w=.ok .skip w2):∃ es,stepG.apply P true fr cs none s w=.go (G (fr.finish undef) cs) w2 es:=by
 unfold stepG.apply
 simp only[Sem.runT_eq,if_true,h,hk]
 exact⟨_,rfl⟩
theorem zfd{s:Sem Next}{a:Array Value}(hk:(fr.kind == CallKind.early)=false)(hreg:∃ ops i r k,fr.todo=.inRegion ops (i::r)::k)(h:s.run P w=.ok (.enter f a) w2) :
  ∃ es,stepG.apply P true fr cs none s w=.go (G (Frame.enter P f a .normal) (fr::cs)) w2 es:=by
 obtain⟨ops,i,r,k,hreg⟩:=hreg
 unfold stepG.apply
 simp only[Sem.runT_eq,if_true,h,hk]
 simp only[hreg]
 exact⟨_,rfl⟩
theorem zmB[zaA L M](B:Bodies L M X){R:BR}{t:Array Value}{s s':Sem Next}(ho:zrw L fr)(hrun:fr.mode=.run)(ht:zat R fr.tmps t)(hcs:zca L R cs cs')(hw:za9 N R w w')(hs:@zae ⟨N⟩ _ L M (QX L) R s s')(hreg:∃ ops i r k,fr.todo=.inRegion ops (i::r)::k)(h:stepG.apply L true fr (cs++base) none s w=.go (G fr1 csx) w1 es1)(hm:fr1.mode=.run\/fr1.mode=.returning) :
  ∃ R' fr1' cs1 cs1' w1' es',csx=cs1++base/\stepG.apply M true { fr with tmps:=t } (cs'++rest) none s' w'=.go (G fr1' (cs1'++rest)) w1' es'/\zgZ L M X N R R' w w' w1 w1' fr1 fr1' cs1 cs1' es'/\zfc w w1 (stepG.apply L true fr (cs++base) none s) fr1 csx:=by
 obtain⟨x,w2,hx⟩:=zhR B h hm
 obtain⟨R',x',w2',es',hrT,hwent,hnr,hev,k0,l1,l2,l3⟩:=zhx hs hw hx
 have hregE:=hreg
 obtain⟨ops,i,r,k,hreg⟩:=hreg
 have hk1:(fr.kind == CallKind.early)=false:=by rw[ho.kind];rfl
 have hk2:(({ fr with tmps:=t }:Frame).kind == CallKind.early)=false:=hk1
 have hr2:=hrT #[]
 unfold stepG.apply at h
 simp only[Sem.runT_eq,if_true,hx,hk1] at h
 have hgo:∀(g:Goroutine),(∀ es,GStep.after (seen M fr.fn (#[]++es')) (.go g w2' es)=.go g w2' (seen M fr.fn (#[]++es')++es)):=fun g es=>rfl
 have hevs:∀ e∈seen M fr.fn (#[]++es')++#[],EvR N R' e:=by
  intro e he
  have:=mem_seen (by simpa using he)
  exact hev e this
 cases hnr with
 | value hv =>
  obtain⟨es2,h,_⟩:=zdS h
  obtain⟨_,_,rfl,rfl,rfl⟩:=zeD h
  refine⟨R',_,cs,cs',w2',_,rfl,?_,⟨hwent,Or.inl ⟨zbO ho (ht.mono hwent.le) hv,hcs.mono hwent.le⟩,hevs⟩,k0,l1,l2,fun τ d hh=>zfe hk1 (l3 τ d hh)⟩
  unfold stepG.apply
  simp only[if_true,hr2,hk1]
  rfl
 | skip =>
  obtain⟨es2,h,_⟩:=zdS h
  obtain⟨_,_,rfl,rfl,rfl⟩:=zeD h
  refine⟨R',_,cs,cs',w2',_,rfl,?_,⟨hwent,Or.inl ⟨zbO ho (ht.mono hwent.le) zaj.undef,hcs.mono hwent.le⟩,hevs⟩,k0,l1,l2,fun τ d hh=>zgy hk1 (l3 τ d hh)⟩
  unfold stepG.apply
  simp only[if_true,hr2,hk1]
  rfl
 | @enter f a a' hfn har ha =>
  obtain⟨es2,h,_⟩:=zdS h
  obtain⟨fn,hf,hb⟩:=hfn
  have hkind:(match fr.todo with|.call _ true _ _::_=>CallKind.wrapped|_=>CallKind.normal)=CallKind.normal:=by rw[hreg]
  have h':GStep.go { frame:=Frame.enter L f a (match fr.todo with|.call _ true _ _::_=>CallKind.wrapped|_=>CallKind.normal),callers:=fr::(cs++base),status:=.running,dying:=none } w2=GStep.go (G fr1 csx) w1 es2:=h
  rw[hkind] at h'
  obtain⟨_,_,rfl,rfl,rfl⟩:=zeD h'
  have hcs2:zca L R' (fr::cs) ({ fr with tmps:=t }::cs'):=.cons ⟨ho,t,rfl,ht.mono hwent.le⟩ hrun (hcs.mono hwent.le)
  refine⟨R',Frame.enter M f a' .normal,fr::cs,{ fr with tmps:=t }::cs',w2',seen M fr.fn (#[]++es')++#[],rfl,?_,⟨hwent,?_,hevs⟩,k0,l1,l2,fun τ d hh=>zfd hk1 hregE (l3 τ d hh)⟩
  ·unfold stepG.apply
   simp only[if_true,hr2,hk1]
   show GStep.after _ (GStep.go { frame:=Frame.enter M f a' (match fr.todo with|.call _ true _ _::_=>CallKind.wrapped|_=>CallKind.normal),callers:=_,status:=.running,dying:=none } w2')=_
   rw[hkind]
   rfl
  ·by_cases hX:X f
   ·obtain⟨_,fn',hf',_,_⟩:=zaA.fn (L:=L) (M:=M) f fn hf hb
    exact Or.inr ⟨f,a,a',hX,har,rfl,rfl,ha,hcs2,⟨fn,fn',hf,hf',hb⟩,qk⟩
   ·exact Or.inl ⟨zdX B hf hb hX ha,hcs2⟩
theorem zen(P:Program)(main:Bool)(fr:Frame)(cs:List Frame)(w:World)(h:fr.mode=.run):stepG P main (G fr cs) w=stepG.exec P main true fr cs none w:=by
 unfold stepG G
 simp only[h]
theorem zbd(P:Program)(main:Bool)(fr:Frame)(cs:List Frame)(w:World)(h:fr.mode=.returning):stepG P main (G fr cs) w=unwind P main fr cs none w:=by
 unfold stepG G
 simp only[h]
theorem zeF[low:zay][Twin L M]{R:BR}{fn:Func}(hr:fn'.results=fn.results){t:Array Value}(h:zat R t t'):zae L M QV R (results fn t) (results fn' t'):=by
 unfold results
 rw[hr,Array.mapM_eq_mapM_toList,Array.mapM_eq_mapM_toList,<- bind_pure_comp,<- bind_pure_comp]
 have key:∀(l:List ResultVar) (R1:BR),R.le R1->zae L M (fun R a b=>zgW R a b) R1
   (l.mapM fun|.tmp t'=>pure (t.getD t' undef)|.cell a ty=>do loadVar ty (<- asAddr (t.getD a undef)))
   (l.mapM fun|.tmp t=>pure (t'.getD t undef)|.cell a ty=>do loadVar ty (<- asAddr (t'.getD a undef))):=by
  intro l
  induction l with
  | nil=>intro R1 _;rw[List.mapM_nil,List.mapM_nil];exact zac .nil
  | cons x l ih =>
   intro R1 hR1
   rw[List.mapM_cons,List.mapM_cons]
   have hx:zae L M QV R1 ((fun|.tmp t'=>pure (t.getD t' undef)|.cell a ty=>do loadVar ty (<- asAddr (t.getD a undef)):ResultVar->Sem Value) x) ((fun|.tmp t=>pure (t'.getD t undef)|.cell a ty=>do loadVar ty (<- asAddr (t'.getD a undef)):ResultVar->Sem Value) x):=by
    cases x with
    | tmp i=>exact zac ((h.mono hR1).getD i)
    | cell a ty=>exact zab (zfS ((h.mono hR1).getD a)) fun _ _ _ _ ha=>zeE ty ha
   refine zab hx ?_
   intro R2 hR2 v v' hv
   refine zab (ih R2 (BR.le_trans hR1 hR2)) ?_
   intro R3 hR3 vs vs' hvs
   exact zac (.cons (hv.mono hR3) hvs)
 refine zab (zab (key fn.results.toList R (BR.le_refl R)) fun R1 hR1 vs vs' hvs=>zac (Q:=fun R (a b:Array Value)=>zgW R a.toList b.toList) (by simpa using hvs)) ?_
 intro R1 hR1 vs vs' hvs
 refine zac ?_
 obtain⟨vs⟩:=vs
 obtain⟨vs'⟩:=vs'
 replace hvs:zgW R1 vs vs':=hvs
 cases hvs with
 | nil=>exact .tuple rfl (fun i h=>absurd h qk)
 | cons hv hr =>
  cases hr with
  | nil=>exact hv
  | cons hv2 hr2 =>
   have hl:zgW R1 (_::_::_) (_::_::_):=.cons hv (.cons hv2 hr2)
   rw[dif_neg qk,dif_neg qk]
   have len:∀ {a b:List Value},zgW R1 a b->a.length=b.length:=by
    intro a b hab
    induction hab with
    | nil=>rfl
    | cons _ _ ih=>simp[ih]
   have get:∀ {a b:List Value},zgW R1 a b->∀ i (h:i<a.length) (h':i<b.length),zaj R1 a[i] b[i]:=by
    intro a b hab
    induction hab with
    | nil=>intro i h;simp at h
    | cons hv _ ih =>
     intro i h h'
     cases i with
     | zero=>exact hv
     | succ i=>exact ih i (by simpa using h) (by simpa using h')
   exact .tuple (by simpa using len hl) (fun i h1 h2=>by simpa using get hl i (by simpa using h1) (by simpa using h2))
theorem zfl{id:Nat}:∀ {k k':List Item},exitTo id k=some k'->k.all (zaM L)=true->k'.all (zaM L)=true
 | [],k',h,_=>by simp[exitTo] at h
 | i::k,k',h,hk=>by
  simp only[List.all_cons,Bool.and_eq_true] at hk
  cases i with
  | inBlock id' =>
   simp only[exitTo] at h
   split at h
   ·cases h;exact hk.2
   ·exact zfl h hk.2
  | _=>simp only[exitTo] at h;exact zfl h hk.2
theorem zcR{l:Nat}:∀ {c c':Code},findLabel c l=some c'->codeOk L c=true->codeOk L c'=true
 | .seq a b,c',h,hc=>by
  simp only[codeOk,Bool.and_eq_true] at hc
  unfold findLabel at h
  split at h
  ·rename_i r hr
   cases h
   simp only[codeOk,Bool.and_eq_true]
   exact⟨zcR hr hc.1,hc.2⟩
  ·exact zcR h hc.2
 | .label l',c',h,_=>by
  unfold findLabel at h
  split at h
  ·cases h;rfl
  ·cases h
 | .skip,_,h,_|.region _ _ _,_,h,_|.cond _ _ _,_,h,_|.block _ _,_,h,_|.loop _,_,h,_|.rangeFunc _ _ _ _,_,h,_|.exit _,_,h,_|.scope _,_,h,_|.goto _,_,h,_|.ret,_,h,_|.refuse _,_,h,_=>by simp[findLabel] at h
theorem zfp{l:Nat}:∀ {k k':List Item},gotoIn l k=some k'->k.all (zaM L)=true->k'.all (zaM L)=true
 | [],k',h,_=>by simp[gotoIn] at h
 | i::k,k',h,hk=>by
  simp only[List.all_cons,Bool.and_eq_true] at hk
  cases i with
  | inScope body =>
   simp only[gotoIn] at h
   split at h
   ·rename_i r hr
    cases h
    have hb:codeOk L body=true:=by simpa [zaM] using hk.1
    simp only[List.all_cons,zaM,Bool.and_eq_true]
    exact⟨zcR hr hb,hb,hk.2⟩
   ·exact zfp h hk.2
  | _=>simp only[gotoIn] at h;exact zfp h hk.2
theorem zaj.bool_of{R:BR}(h:zaj R v v')(e:v=.bool b):v'=.bool b:=by
 subst e
 cases h
 rfl
theorem za7{R:BR}{t:Array Value}(main:Bool)(ht:zat R fr.tmps t)(hcs:zca L R cs cs')(hw:za9 N R w w'){fr2:Frame}(hok:zrw L fr2)(ht2:fr2.tmps=fr.tmps)(h:GStep.go { frame:=fr2,callers:=cs++base,status:=.running,dying:=none } w=.go (G fr1 csx) w1 es1)(hL:∀ ww,stepG L true (G fr (cs++base)) ww=.go { frame:=fr2,callers:=cs++base,status:=.running,dying:=none } ww)(hM:stepG M main (G { fr with tmps:=t } (cs'++rest)) w'=.go { frame:={ fr2 with tmps:=t },callers:=cs'++rest,status:=.running,dying:=none } w') :
  ∃ R' fr1' cs1 cs1' w1' es',csx=cs1++base/\stepG M main (G { fr with tmps:=t } (cs'++rest)) w'=.go (G fr1' (cs1'++rest)) w1' es'/\zgZ L M X N R R' w w' w1 w1' fr1 fr1' cs1 cs1' es'/\zfc w w1 (stepG L true (G fr (cs++base))) fr1 csx:=by
 obtain⟨_,_,rfl,rfl,rfl⟩:=zeD h
 exact⟨R,{ fr2 with tmps:=t },cs,cs',w',#[],rfl,hM,⟨zew.refl hw,Or.inl ⟨⟨hok,t,rfl,by rw[ht2];exact ht⟩,hcs⟩,qk⟩,0,rfl,rfl,fun τ d _=>⟨#[],hL (w.tp τ d)⟩⟩
theorem zhD[T:zaA L M](B:Bodies L M X)(hz:zbm L){R:BR}(main:Bool)(hf:zgm L R fr fr')(hcs:zca L R cs cs')(hw:za9 N R w w')(h:stepG L true (G fr (cs++base)) w=.go (G fr1 csx) w1 es1)(hm:fr1.mode=.run\/fr1.mode=.returning)(hne:fr.mode=.returning->cs≠[]) :
  ∃ R' fr1' cs1 cs1' w1' es',csx=cs1++base/\stepG M main (G fr' (cs'++rest)) w'=.go (G fr1' (cs1'++rest)) w1' es'/\zgZ L M X N R R' w w' w1 w1' fr1 fr1' cs1 cs1' es'/\zfc w w1 (stepG L true (G fr (cs++base))) fr1 csx:=by
 obtain⟨ho,t,rfl,ht⟩:=hf
 obtain⟨hok,hdef,hmode,hkind,hround,hfn⟩:=ho
 obtain⟨fn,tmps,todo,defers,mode,kind,roundOf⟩:=fr
 simp only at hok hdef hmode hkind hround hfn ht hne
 subst hdef hkind hround
 have ho:∀ {td:List Item} {md:FrameMode},td.all (zaM L)=true->(md=.run\/md=.returning)->zrw L { fn:=fn,tmps:=tmps,todo:=td,defers:=[],mode:=md,kind:=.normal,roundOf:=none }:=fun a b=>⟨a,rfl,b,rfl,rfl,hfn⟩
 rcases hmode with rfl|rfl
 ·skip
  cases todo with
  | nil=>exact za7 main ht hcs hw (ho hok (Or.inr rfl)) rfl h (fun _=>rfl) rfl
  | cons it k =>
   simp only[List.all_cons,Bool.and_eq_true] at hok
   obtain⟨hit,hk⟩:=hok
   have hall:(it::k).all (zaM L)=true:=by simp only[List.all_cons,Bool.and_eq_true];exact⟨hit,hk⟩
   cases it with
   | code c =>
    cases c with
    | ret=>exact za7 main ht hcs hw (ho hall (Or.inr rfl)) rfl h (fun _=>rfl) rfl
    | skip=>exact za7 main ht hcs hw (ho hk (Or.inl rfl)) rfl h (fun _=>rfl) rfl
    | label l=>exact za7 main ht hcs hw (ho hk (Or.inl rfl)) rfl h (fun _=>rfl) rfl
    | seq a b =>
     simp only[zaM,codeOk,Bool.and_eq_true] at hit
     exact za7 main ht hcs hw (ho (td:=.code a::.code b::k) (by simp only[List.all_cons,zaM,Bool.and_eq_true];exact⟨hit.1,hit.2,hk⟩) (Or.inl rfl)) rfl h (fun _=>rfl) rfl
    | cond c a b =>
     simp only[zaM,codeOk,Bool.and_eq_true] at hit
     have hev:=zg4 (fr:={ fn:=fn,tmps:=tmps,todo:=.code (.cond c a b)::k,defers:=[],mode:=.run,kind:=.normal,roundOf:=none }) ht c hit.1.1
     have hstep:∀(P:Program) (main:Bool) (tm:Array Value) (cc:List Frame) (ww:World),stepG P main (G { fn:=fn,tmps:=tm,todo:=.code (.cond c a b)::k,defers:=[],mode:=.run,kind:=.normal,roundOf:=none } cc) ww =
       match ({ fn:=fn,tmps:=tm,todo:=.code (.cond c a b)::k,defers:=[],mode:=.run,kind:=.normal,roundOf:=none }:Frame).eval c with
       | .bool bb=>.go { frame:={ fn:=fn,tmps:=tm,todo:=.code (if bb then a else b)::k,defers:=[],mode:=.run,kind:=.normal,roundOf:=none },callers:=cc,status:=.running,dying:=none } ww
       | _=>.ended (.stuck "cond: bool expected" (({ fn:=fn,tmps:=tm,todo:=.code (.cond c a b)::k,defers:=[],mode:=.run,kind:=.normal,roundOf:=none }:Frame).pos P)) ww:=fun _ _ _ _ _=>rfl
     have hM0:=hstep M main t (cs'++rest) w'
     rw[hstep] at h
     split at h
     ·rename_i bb hbb
      have hbb':=hev.bool_of hbb
      refine za7 main ht hcs hw (ho (td:=.code (if bb then a else b)::k) (by simp only[List.all_cons,zaM,Bool.and_eq_true];exact⟨by cases bb <;> simp[hit.2,hit.1.2],hk⟩) (Or.inl rfl)) rfl h (fun ww=>by rw[hstep];simp only[hbb]) ?_
      refine hM0.trans ?_
      simp only[hbb']
     ·cases h
    | block id c=>exact za7 main ht hcs hw (ho (td:=.code c::.inBlock id::k) (by simp only[List.all_cons,zaM,Bool.and_eq_true,true_and];exact⟨hit,hk⟩) (Or.inl rfl)) rfl h (fun _=>rfl) rfl
    | loop c=>exact za7 main ht hcs hw (ho (td:=.code c::.inLoop c::k) (by simp only[List.all_cons,zaM,Bool.and_eq_true];exact⟨hit,hit,hk⟩) (Or.inl rfl)) rfl h (fun _=>rfl) rfl
    | scope c=>exact za7 main ht hcs hw (ho (td:=.code c::.inScope c::k) (by simp only[List.all_cons,zaM,Bool.and_eq_true];exact⟨hit,hit,hk⟩) (Or.inl rfl)) rfl h (fun _=>rfl) rfl
    | exit id =>
     have hstep:∀(P:Program) (main:Bool) (tm:Array Value) (cc:List Frame) (ww:World),stepG P main (G { fn:=fn,tmps:=tm,todo:=.code (.exit id)::k,defers:=[],mode:=.run,kind:=.normal,roundOf:=none } cc) ww =
       (exitTo id k).elim (.ended (.stuck "exit, goto: no such block or label" (({ fn:=fn,tmps:=tm,todo:=.code (.exit id)::k,defers:=[],mode:=.run,kind:=.normal,roundOf:=none }:Frame).pos P)) ww)
        fun k'=>.go { frame:={ fn:=fn,tmps:=tm,todo:=k',defers:=[],mode:=.run,kind:=.normal,roundOf:=none },callers:=cc,status:=.running,dying:=none } ww:=fun _ _ _ _ _=>rfl
     have hM0:=hstep M main t (cs'++rest) w'
     rw[hstep] at h
     cases hx:exitTo id k with
     | none=>rw[hx] at h;cases h
     | some k' =>
      rw[hx] at h hM0
      exact za7 main ht hcs hw (ho (zfl hx hk) (Or.inl rfl)) rfl h (fun ww=>by rw[hstep,hx];rfl) hM0
    | goto l =>
     have hstep:∀(P:Program) (main:Bool) (tm:Array Value) (cc:List Frame) (ww:World),stepG P main (G { fn:=fn,tmps:=tm,todo:=.code (.goto l)::k,defers:=[],mode:=.run,kind:=.normal,roundOf:=none } cc) ww =
       (gotoIn l k).elim (.ended (.stuck "exit, goto: no such block or label" (({ fn:=fn,tmps:=tm,todo:=.code (.goto l)::k,defers:=[],mode:=.run,kind:=.normal,roundOf:=none }:Frame).pos P)) ww)
        fun k'=>.go { frame:={ fn:=fn,tmps:=tm,todo:=k',defers:=[],mode:=.run,kind:=.normal,roundOf:=none },callers:=cc,status:=.running,dying:=none } ww:=fun _ _ _ _ _=>rfl
     have hM0:=hstep M main t (cs'++rest) w'
     rw[hstep] at h
     cases hx:gotoIn l k with
     | none=>rw[hx] at h;cases h
     | some k' =>
      rw[hx] at h hM0
      exact za7 main ht hcs hw (ho (zfp hx hk) (Or.inl rfl)) rfl h (fun ww=>by rw[hstep,hx];rfl) hM0
    | rangeFunc f ps a b=>simp[zaM,codeOk] at hit
    | refuse why=>cases h
    | region id ops draw =>
     have hops:∀ l,(Item.inRegion ops l::k).all (zaM L)=true:=fun l=>by simp only[List.all_cons,zaM,Bool.and_eq_true];exact⟨hit,hk⟩
     cases draw with
     | false=>exact za7 main ht hcs hw (ho (hops _) (Or.inl rfl)) rfl h (fun _=>rfl) rfl
     | true =>
      have hstep:∀(P:Program) (main:Bool) (tm:Array Value) (cc:List Frame) (ww:World),stepG P main (G { fn:=fn,tmps:=tm,todo:=.code (.region id ops true)::k,defers:=[],mode:=.run,kind:=.normal,roundOf:=none } cc) ww =
        .go { frame:={ fn:=fn,tmps:=tm,todo:=.inRegion ops (Region.schedule (P.follows .mixedOrders) ops (ww.tape ww.drawn (.order fn id)))::k,defers:=[],mode:=.run,kind:=.normal,roundOf:=none },callers:=cc,status:=.running,dying:=none } { ww with drawn:=ww.drawn+1 }:=fun _ _ _ _ _=>rfl
      rw[hstep] at h
      obtain⟨_,_,rfl,rfl,rfl⟩:=zeD h
      refine⟨R,_,cs,cs',_,#[],rfl,hstep M main t (cs'++rest) w',⟨?_,Or.inl ⟨⟨ho (hops _) (Or.inl rfl),t,?_,ht⟩,hcs⟩,qk⟩,1,rfl,rfl,fun τ d hh=>⟨#[],?_⟩⟩
      ·exact⟨BR.le_refl R,⟨hw.one,hw.blk,hw.tape,by simp[hw.drawn],hw.low⟩,fun _ _ x=>Or.inl x,Nat.le_refl _,Nat.le_refl _,fun _ _ _=>rfl,rfl,rfl,rfl⟩
      ·rw[B.mixed,<- hw.tape,<- hw.drawn]
      ·refine(hstep L true tmps (cs++base) (w.tp τ d)).trans ?_
       have h0:(w.tp τ d).tape (w.tp τ d).drawn (.order fn id)=w.tape w.drawn (.order fn id):=hh 0 qg _
       rw[h0]
       rfl
   | inBlock id=>exact za7 main ht hcs hw (ho hk (Or.inl rfl)) rfl h (fun _=>rfl) rfl
   | inScope c=>exact za7 main ht hcs hw (ho hk (Or.inl rfl)) rfl h (fun _=>rfl) rfl
   | inLoop c=>exact za7 main ht hcs hw (ho (td:=.code c::.inLoop c::k) (by simp only[List.all_cons,zaM,Bool.and_eq_true];exact⟨hit,hit,hk⟩) (Or.inl rfl)) rfl h (fun _=>rfl) rfl
   | inRegion ops td =>
    cases td with
    | nil=>exact za7 main ht hcs hw (ho hk (Or.inl rfl)) rfl h (fun _=>rfl) rfl
    | cons i r =>
     have hy:yielded ops tmps=yielded ops t:=funext (zj3 ht ops)
     have hstep:∀(P:Program) (main:Bool) (tm:Array Value) (cc:List Frame) (ww:World),stepG P main (G { fn:=fn,tmps:=tm,todo:=.inRegion ops (i::r)::k,defers:=[],mode:=.run,kind:=.normal,roundOf:=none } cc) ww =
       if ((ops[i]?).map (Region.wanted · (yielded ops tm))).getD false=true then stepG.oper P true { fn:=fn,tmps:=tm,todo:=.inRegion ops (i::r)::k,defers:=[],mode:=.run,kind:=.normal,roundOf:=none } cc none ww
       else .go { frame:=({ fn:=fn,tmps:=tm,todo:=.inRegion ops (i::r)::k,defers:=[],mode:=.run,kind:=.normal,roundOf:=none }:Frame).finish undef,callers:=cc,status:=.running,dying:=none } ww:=fun _ _ _ _ _=>rfl
     have hM0:=hstep M main t (cs'++rest) w'
     rw[<- hy] at hM0
     rw[hstep] at h
     split at h
     ·rename_i hwant
      rw[if_pos hwant] at hM0
      simp only[stepG.oper,Frame.oper?] at h
      cases hoi:ops[i]? with
      | none=>rw[hoi] at hwant;cases hwant
      | some o =>
       rw[hoi] at h
       simp only at h
       have hopk:zgI L o.op=true:=by
        simp only[zaM] at hit
        rw[Array.all_eq_true_iff_forall_mem] at hit
        exact hit o (Array.mem_of_getElem? hoi)
       have hsr:=zn8 (low:=⟨N⟩) (M:=M) hz hw.one (fun _=>⟨rfl,rfl⟩) ⟨rfl,rfl⟩ (zg4 (fr:={ fn:=fn,tmps:=tmps,todo:=.inRegion ops (i::r)::k,defers:=[],mode:=.run,kind:=.normal,roundOf:=none }) ht) (o:=o) hopk
       obtain⟨R',fr1',cs1,cs1',w1',es',hcx,h1,h2,k0,l1,l2,l3⟩:=zmB (rest:=rest) B (ho hall (Or.inl rfl)) rfl ht hcs hw hsr ⟨ops,i,r,k,rfl⟩ h hm
       refine⟨R',fr1',cs1,cs1',w1',es',hcx,hM0.trans ?_,h2,k0,l1,l2,fun τ d hh=>?_⟩
       rotate_left
       ·obtain⟨es,he⟩:=l3 τ d hh
        refine⟨es,?_⟩
        refine(hstep L true tmps (cs++base) (w.tp τ d)).trans ?_
        rw[if_pos hwant]
        simp only[stepG.oper,Frame.oper?,hoi]
        exact he
       simp only[stepG.oper,Frame.oper?,hoi]
       exact h1
     ·rename_i hwant
      rw[if_neg hwant] at hM0
      obtain⟨_,_,rfl,rfl,rfl⟩:=zeD h
      exact⟨R,_,cs,cs',w',#[],rfl,hM0,⟨zew.refl hw,Or.inl ⟨zbO (ho hall (Or.inl rfl)) ht zaj.undef,hcs⟩,qk⟩,0,rfl,rfl,fun τ d _=>⟨#[],(hstep L true tmps (cs++base) (w.tp τ d)).trans (by rw[if_neg hwant];rfl)⟩⟩
   | _=>simp[zaM] at hit
 ·skip
  cases hcs with
  | nil=>exact absurd rfl (hne rfl)
  | @cons c c' r r' hc hcm hcr =>
   obtain⟨fun1,hfn1,hb⟩:=hfn
   obtain⟨_,fun2,hfn2,_,_⟩:=zaA.fn (L:=L) (M:=M) fn fun1 hfn1 hb
   have hsr:=zeF (low:=⟨N⟩) (L:=L) (M:=M) (B.res _ _ _ hfn1 hfn2) ht
   rw[zbd _ _ _ _ _ rfl] at h
   simp only[unwind,hfn1,Sem.runT_eq,List.cons_append] at h
   obtain⟨es2,h,_⟩:=zdS h
   cases hr:(results fun1 tmps).run L w with
   | halt hh w2 =>
    rw[hr] at h
    exfalso
    cases hh <;> cases h
   | ok v w2 =>
    rw[hr] at h
    obtain⟨R',v',w2',es',hrT,hwent,hv,hev,k0,l1,l2,l3⟩:=zhx hsr hw hr
    simp only[doReturn] at h
    obtain⟨_,_,rfl,rfl,rfl⟩:=zeD h
    obtain⟨hco,tc,rfl,htc⟩:=hc
    refine⟨R',({ c with tmps:=tc }:Frame).finish v',r,r',w2',seen M fn (#[]++es')++#[],rfl,?_,⟨hwent,Or.inl ⟨zbO hco (htc.mono hwent.le) hv,hcr.mono hwent.le⟩,?_⟩,k0,l1,l2,fun τ d hh=>?_⟩
    ·rw[zbd _ _ _ _ _ rfl]
     simp only[unwind,hfn2,hrT,List.cons_append,doReturn]
     rfl
    ·intro e he
     exact hev e (by simpa using mem_seen (by simpa using he))
    ·dsimp only
     rw[zbd _ _ _ _ _ rfl]
     simp only[unwind,hfn1,Sem.runT_eq,l3 τ d hh,doReturn,List.cons_append]
     exact⟨_,rfl⟩
theorem zi2[zaA L M](B:Bodies L M X){R:BR}{s s':Sem Next}(ho:zrw L fr)(hrun:fr.mode=.run)(hw:za9 N R w w')(hs:@zae ⟨N⟩ _ L M (QX L) R s s')(hreg:∃ ops i r k,fr.todo=.inRegion ops (i::r)::k) :
  (∃ fr1 csx w1 es,stepG.apply L true fr cs none s w=.go (G fr1 csx) w1 es/\(fr1.mode=.run\/fr1.mode=.returning)) \/
  (∃ fr1 w1 es ch,stepG.apply L true fr cs none s w=.go (G fr1 cs) w1 es/\fr1.mode=.panicking ch/\fr1.defers=[]) \/
  (∃ o w1 es,stepG.apply L true fr cs none s w=.ended o w1 es):=by
 have hk1:(fr.kind == CallKind.early)=false:=by rw[ho.kind];rfl
 have hfin:∀ v,(fr.finish v).mode=.run:=by
  intro v
  obtain⟨ops,i,r,k,e⟩:=hreg
  unfold Frame.finish
  rw[e]
  exact hrun
 cases hr:s.run L w with
 | ok x w2 =>
  obtain⟨R',x',w2',es',hrT,hwent,hnr,hev,_⟩:=zhx hs hw hr
  refine Or.inl ?_
  cases hnr with
  | value hv =>
   obtain⟨es,e⟩:=zfe (cs:=cs) hk1 hr
   exact⟨_,_,_,es,e,Or.inl (hfin _)⟩
  | skip =>
   obtain⟨es,e⟩:=zgy (cs:=cs) hk1 hr
   exact⟨_,_,_,es,e,Or.inl (hfin _)⟩
  | enter f hfn _ ha =>
   obtain⟨es,e⟩:=zfd (cs:=cs) hk1 hreg hr
   exact⟨_,_,_,es,e,Or.inl rfl⟩
 | halt hh w2 =>
  have hsoft:=zkO hs hw hr
  refine Or.inr ?_
  unfold stepG.apply
  simp only[Sem.runT_eq,if_true,hr,hk1]
  cases hsoft with
  | panic v =>
   refine Or.inl ⟨fr.raise [{ v,recovered:=false }],w2,_,[{ v,recovered:=false }],rfl,?_,?_⟩
   ·unfold Frame.raise;rw[hrun]
   ·unfold Frame.raise;rw[hrun];exact ho.defers
  | unsupported u =>
   refine Or.inr ?_
   cases u with
   | initOrder g =>
    obtain⟨o,w',es,e⟩:=zfi B fr cs g w2
    simp only[e]
    exact⟨_,_,_,rfl⟩
   | _=>exact⟨_,_,_,rfl⟩
  | stuck t=>exact Or.inr ⟨_,_,_,rfl⟩
theorem zlu[T:zaA L M](B:Bodies L M X)(hz:zbm L){R:BR}(hf:zgm L R fr fr')(hcs:zca L R cs cs')(hw:za9 N R w w')(hne:fr.mode=.returning->cs≠[]) :
  (∃ fr1 csx w1 es,stepG L true (G fr (cs++base)) w=.go (G fr1 csx) w1 es/\(fr1.mode=.run\/fr1.mode=.returning)) \/
  (∃ fr1 w1 es ch,stepG L true (G fr (cs++base)) w=.go (G fr1 (cs++base)) w1 es/\fr1.mode=.panicking ch/\fr1.defers=[]) \/
  (∃ o w1 es,stepG L true (G fr (cs++base)) w=.ended o w1 es):=by
 obtain⟨ho,t,rfl,ht⟩:=hf
 obtain⟨hok,hdef,hmode,hkind,hround,hfn⟩:=ho
 obtain⟨fn,tmps,todo,defers,mode,kind,roundOf⟩:=fr
 simp only at hok hdef hmode hkind hround hfn ht hne
 subst hdef hkind hround
 rcases hmode with rfl|rfl
 ·cases todo with
  | nil=>exact Or.inl ⟨_,_,_,_,rfl,Or.inr rfl⟩
  | cons it k =>
   have hall:=hok
   simp only[List.all_cons,Bool.and_eq_true] at hok
   obtain⟨hit,hk⟩:=hok
   cases it with
   | code c =>
    cases c with
    | ret=>exact Or.inl ⟨_,_,_,_,rfl,Or.inr rfl⟩
    | cond c a b =>
     have hstep:stepG L true (G { fn:=fn,tmps:=tmps,todo:=.code (.cond c a b)::k,defers:=[],mode:=.run,kind:=.normal,roundOf:=none } (cs++base)) w =
       match ({ fn:=fn,tmps:=tmps,todo:=.code (.cond c a b)::k,defers:=[],mode:=.run,kind:=.normal,roundOf:=none }:Frame).eval c with
       | .bool bb=>.go { frame:={ fn:=fn,tmps:=tmps,todo:=.code (if bb then a else b)::k,defers:=[],mode:=.run,kind:=.normal,roundOf:=none },callers:=cs++base,status:=.running,dying:=none } w
       | _=>.ended (.stuck "cond: bool expected" (({ fn:=fn,tmps:=tmps,todo:=.code (.cond c a b)::k,defers:=[],mode:=.run,kind:=.normal,roundOf:=none }:Frame).pos L)) w:=rfl
     rw[hstep]
     split
     ·exact Or.inl ⟨_,_,_,_,rfl,Or.inl rfl⟩
     ·exact Or.inr (Or.inr ⟨_,_,_,rfl⟩)
    | exit id =>
     have hstep:stepG L true (G { fn:=fn,tmps:=tmps,todo:=.code (.exit id)::k,defers:=[],mode:=.run,kind:=.normal,roundOf:=none } (cs++base)) w =
       (exitTo id k).elim (.ended (.stuck "exit, goto: no such block or label" (({ fn:=fn,tmps:=tmps,todo:=.code (.exit id)::k,defers:=[],mode:=.run,kind:=.normal,roundOf:=none }:Frame).pos L)) w)
        fun k'=>.go { frame:={ fn:=fn,tmps:=tmps,todo:=k',defers:=[],mode:=.run,kind:=.normal,roundOf:=none },callers:=cs++base,status:=.running,dying:=none } w:=rfl
     rw[hstep]
     cases exitTo id k with
     | none=>exact Or.inr (Or.inr ⟨_,_,_,rfl⟩)
     | some k'=>exact Or.inl ⟨_,_,_,_,rfl,Or.inl rfl⟩
    | goto l =>
     have hstep:stepG L true (G { fn:=fn,tmps:=tmps,todo:=.code (.goto l)::k,defers:=[],mode:=.run,kind:=.normal,roundOf:=none } (cs++base)) w =
       (gotoIn l k).elim (.ended (.stuck "exit, goto: no such block or label" (({ fn:=fn,tmps:=tmps,todo:=.code (.goto l)::k,defers:=[],mode:=.run,kind:=.normal,roundOf:=none }:Frame).pos L)) w)
        fun k'=>.go { frame:={ fn:=fn,tmps:=tmps,todo:=k',defers:=[],mode:=.run,kind:=.normal,roundOf:=none },callers:=cs++base,status:=.running,dying:=none } w:=rfl
     rw[hstep]
     cases gotoIn l k with
     | none=>exact Or.inr (Or.inr ⟨_,_,_,rfl⟩)
     | some k'=>exact Or.inl ⟨_,_,_,_,rfl,Or.inl rfl⟩
    | rangeFunc f ps a b=>simp[zaM,codeOk] at hit
    | refuse why=>exact Or.inr (Or.inr ⟨_,_,_,rfl⟩)
    | region id ops draw=>cases draw <;> exact Or.inl ⟨_,_,_,_,rfl,Or.inl rfl⟩
    | _=>exact Or.inl ⟨_,_,_,_,rfl,Or.inl rfl⟩
   | inBlock id=>exact Or.inl ⟨_,_,_,_,rfl,Or.inl rfl⟩
   | inScope c=>exact Or.inl ⟨_,_,_,_,rfl,Or.inl rfl⟩
   | inLoop c=>exact Or.inl ⟨_,_,_,_,rfl,Or.inl rfl⟩
   | inRegion ops td =>
    cases td with
    | nil=>exact Or.inl ⟨_,_,_,_,rfl,Or.inl rfl⟩
    | cons i r =>
     have hstep:stepG L true (G { fn:=fn,tmps:=tmps,todo:=.inRegion ops (i::r)::k,defers:=[],mode:=.run,kind:=.normal,roundOf:=none } (cs++base)) w =
       if ((ops[i]?).map (Region.wanted · (yielded ops tmps))).getD false=true then stepG.oper L true { fn:=fn,tmps:=tmps,todo:=.inRegion ops (i::r)::k,defers:=[],mode:=.run,kind:=.normal,roundOf:=none } (cs++base) none w
       else .go { frame:=({ fn:=fn,tmps:=tmps,todo:=.inRegion ops (i::r)::k,defers:=[],mode:=.run,kind:=.normal,roundOf:=none }:Frame).finish undef,callers:=cs++base,status:=.running,dying:=none } w:=rfl
     rw[hstep]
     split
     ·cases hoi:ops[i]? with
      | none=>rename_i hwant;rw[hoi] at hwant;cases hwant
      | some o =>
       have hopk:zgI L o.op=true:=by
        simp only[zaM] at hit
        rw[Array.all_eq_true_iff_forall_mem] at hit
        exact hit o (Array.mem_of_getElem? hoi)
       have hsr:=zn8 (low:=⟨N⟩) (M:=M) hz hw.one (fun _=>⟨rfl,rfl⟩) ⟨rfl,rfl⟩ (zg4 (fr:={ fn:=fn,tmps:=tmps,todo:=.inRegion ops (i::r)::k,defers:=[],mode:=.run,kind:=.normal,roundOf:=none }) ht) (o:=o) hopk
       simp only[stepG.oper,Frame.oper?,hoi]
       exact zi2 B (fr:={ fn:=fn,tmps:=tmps,todo:=.inRegion ops (i::r)::k,defers:=[],mode:=.run,kind:=.normal,roundOf:=none }) ⟨hall,rfl,Or.inl rfl,rfl,rfl,hfn⟩ rfl hw hsr ⟨ops,i,r,k,rfl⟩
     ·exact Or.inl ⟨_,_,_,_,rfl,Or.inl rfl⟩
   | _=>simp[zaM] at hit
 ·cases hcs with
  | nil=>exact absurd rfl (hne rfl)
  | @cons c c' r r' hc hcm hcr =>
   obtain⟨fun1,hfn1,hb⟩:=hfn
   have hsr:=zeF (low:=⟨N⟩) (L:=L) (M:=M) (fn':=fun1) rfl ht
   rw[zbd _ _ _ _ _ rfl]
   simp only[unwind,hfn1,Sem.runT_eq,List.cons_append]
   cases hr:(results fun1 tmps).run L w with
   | halt hh w2 =>
    refine Or.inr (Or.inr ?_)
    cases zkO hsr hw hr with
    | panic v=>exact⟨_,_,_,rfl⟩
    | unsupported u=>exact⟨_,_,_,rfl⟩
    | stuck t=>exact⟨_,_,_,rfl⟩
   | ok v w2 =>
    refine Or.inl ⟨c.finish v,_,w2,_,rfl,?_⟩
    obtain⟨hco,tc,rfl,htc⟩:=hc
    exact(zbO hco htc (zaj.undef)).1.mode.imp (fun h=>by unfold Frame.finish at h ⊢;split at h <;> simp_all) (fun h=>by unfold Frame.finish at h ⊢;split at h <;> simp_all)
def zaK(L:Program):Frame:={ fn:=L.funcs.size,tmps:=#[],todo:=[.call default false "fmt's door" #[]],defers:=[],mode:=.run,kind:=.normal }
theorem zro(h:stepG L true (G fr cs) w=.go (G fr1 cs1) w1 es):step L (lone fr cs w)=.next (lone fr1 cs1 w1):=by
 refine step_lone_go ?_
 have:stepG L true { frame:=fr,callers:=cs,status:=.running,dying:=none } w=.go (G fr1 cs1) w1 es:=h
 rw[this]
 rfl
theorem step_end{o:Outcome}(h:stepG L true (G fr cs) w=.ended o w1 es):step L (lone fr cs w)=.ended o w1:=by
 refine step_lone_ended ?_
 have:stepG L true { frame:=fr,callers:=cs,status:=.running,dying:=none } w=.ended o w1 es:=h
 rw[this]
 rfl
theorem zce(h:stepG L true (G fr cs) w=.go (G fr1 cs1) w1 es)(n:Nat):runN L (n+1) (lone fr cs w)=runN L n (lone fr1 cs1 w1):=by
 simp only[runN,zro h]
theorem zb8{o:Outcome}(h:stepG L true (G fr cs) w=.ended o w1 es)(n:Nat):runN L (n+1) (lone fr cs w)=.ended o w1:=by
 simp only[runN,step_end h]
theorem zb6(h:Stepped.next (lone fr cs w)=.next (lone fr1 cs1 w1)):fr=fr1/\cs=cs1/\w=w1:=by
 simp only[lone,Stepped.next.injEq,Machine.mk.injEq] at h
 obtain⟨h1,h2,_⟩:=h
 have h3:=congrArg (fun a=>a[0]?) h2
 simp at h3
 exact⟨h3.1,h3.2,h1⟩
theorem zhT(h1:fr.fn=L.funcs.size)(h2:fr.todo=[.call default false "fmt's door" #[]]):fr.catches L=true:=by
 have e:L.funcs[fr.fn]?=none:=by rw[h1];exact Array.getElem?_eq_none (Nat.le_refl _)
 unfold Frame.catches
 rw[e,h2]
 simp
theorem zrd:∀(cs:List Frame),(∀ c∈cs,c.defers=[])->∀(fr:Frame) (ch:List PanicEntry) (w:World),fr.mode=.panicking ch->fr.defers=[]->∀(n:Nat) (m:Machine),runN L n (lone fr (cs++[zaK L]) w)=.next m->∃ fr' cs' w' ch',m=lone fr' cs' w'/\fr'.mode=.panicking ch':=by
 have hstep:∀(fr c:Frame) (r:List Frame) (ch:List PanicEntry) (w:World),fr.mode=.panicking ch->fr.defers=[]->(∃ o w1 es,stepG L true (G fr (c::r)) w=.ended o w1 es)\/∃ es,stepG L true (G fr (c::r)) w=.go (G (c.raise ch) r) w es:=by
  intro fr c r ch w h1 h2
  have e:stepG L true (G fr (c::r)) w=unwind L true fr (c::r) none w:=by unfold stepG G;simp only[h1]
  rw[e]
  simp only[unwind,h2,h1]
  split
  ·exact Or.inl ⟨_,_,_,rfl⟩
  ·exact Or.inr ⟨_,rfl⟩
 intro cs
 induction cs with
 | nil =>
  intro _ fr ch w h1 h2 n m hr
  cases n with
  | zero=>simp only[runN,Stepped.next.injEq] at hr;exact⟨_,_,_,ch,hr.symm,h1⟩
  | succ n =>
   rcases hstep fr (zaK L) [] ch w h1 h2 with ⟨o,w1,es,e⟩|⟨es,e⟩
   ·rw[List.nil_append,zb8 e] at hr;cases hr
   ·rw[List.nil_append,zce e] at hr
    have hm:((zaK L).raise ch).mode=.panicking ch:=rfl
    cases n with
    | zero=>simp only[runN,Stepped.next.injEq] at hr;exact⟨_,_,_,ch,hr.symm,hm⟩
    | succ n =>
     have e2:stepG L true (G ((zaK L).raise ch) []) w=.ended (.unsupported (.noEntry "a panic or Goexit out of a method that fmt calls behind a cut's door") (((zaK L).raise ch).pos L)) w:=by
      have e3:stepG L true (G ((zaK L).raise ch) []) w=unwind L true ((zaK L).raise ch) [] none w:=by unfold stepG G;simp only[hm]
      rw[e3]
      have hc:((zaK L).raise ch).catches L=true:=zhT rfl rfl
      have hd:((zaK L).raise ch).defers=[]:=rfl
      simp only[unwind,hd,hm,hc,if_true]
     rw[zb8 e2] at hr
     cases hr
 | cons c cs ih =>
  intro hall fr ch w h1 h2 n m hr
  cases n with
  | zero=>simp only[runN,Stepped.next.injEq] at hr;exact⟨_,_,_,ch,hr.symm,h1⟩
  | succ n =>
   rcases hstep fr c (cs++[zaK L]) ch w h1 h2 with ⟨o,w1,es,e⟩|⟨es,e⟩
   ·rw[List.cons_append,zb8 e] at hr;cases hr
   ·rw[List.cons_append,zce e] at hr
    obtain⟨ch',hm⟩:=raise_mode c ch
    have hd:(c.raise ch).defers=[]:=by
     have:=hall c qk
     unfold Frame.raise
     split <;> exact this
    exact ih (fun x hx=>hall x (by simp[hx])) (c.raise ch) ch' w hm hd n m hr
theorem zqz:Extern.next "fmt's door"=none:=qi
theorem zki{fn:Func}(h1:fr.mode=.returning)(h2:fr.defers=[])(h3:fr.kind=.normal)(h4:L.funcs[fr.fn]?=some fn)(n:Nat)(h:runN L (n+1) (lone fr [zaK L] w)=.next (lone fr' [zaK L] w')):False:=by
 have e:stepG L true (G fr [zaK L]) w=unwind L true fr [zaK L] none w:=zbd _ _ _ _ _ h1
 simp only[unwind,h2,h1,h4,Sem.runT_eq] at e
 cases hr:(results fn fr.tmps).run L w with
 | halt hh w2 =>
  rw[hr] at e
  cases hh <;> (rw[zb8 e] at h;cases h)
 | ok v w2 =>
  rw[hr] at e
  simp only[doReturn,h3] at e
  have e':stepG L true (G fr [zaK L]) w=.go (G ((zaK L).finish v) []) w2 (seen L fr.fn ((results fn fr.tmps).events L w #[])++#[]):=e
  rw[zce e'] at h
  cases n with
  | zero=>obtain⟨_,hc,_⟩:=zb6 h;cases hc
  | succ n =>
   have e2:stepG L true (G ((zaK L).finish v) []) w2=.ended (.stuck ("no extern row "++ "fmt's door") (((zaK L).finish v).pos L)) w2:=by
    have hm:((zaK L).finish v).mode=.run:=rfl
    rw[zen _ _ _ _ _ hm]
    have ht:((zaK L).finish v).todo=[.extern "fmt's door" (#[].push v)]:=rfl
    simp only[stepG.exec,ht,zqz,Option.elim_none]
   rw[zb8 e2] at h
   cases h
end
section
open Go Go.Conc
variable{L:Program}
def zk4(L:Program)(fr:Frame)(cs:List Frame)(w:World):Prop:=∃ N R fr' cs' w',zgm L R fr fr'/\zca L R cs cs'/\za9 N R w w'
theorem za9.tp{R:BR}(h:za9 N R w w')(τ:Nat->Question->Nat)(d:Nat):za9 N R (w.tp τ d) (w'.tp τ d):=⟨h.one,h.blk,rfl,rfl,h.low⟩
theorem zk4.tp(h:zk4 L fr cs w)(τ:Nat->Question->Nat)(d:Nat):zk4 L fr cs (w.tp τ d):=let ⟨N,R,fr',cs',w',a,b,c⟩:=h;⟨N,R,fr',cs',w'.tp τ d,a,b,c.tp τ d⟩
theorem zrr(w:World)(τ τ':Nat->Question->Nat)(d d':Nat):(w.tp τ d).tp τ' d'=w.tp τ' d':=rfl
theorem zhF{τ:Nat->Question->Nat}{d:Nat}(h1:w.tape=τ)(h2:w.drawn=d):w.tp τ d=w:=by subst h1 h2;rfl
structure Whole(L:Program):Prop extends Bodies L L (fun _=>False) where
 zero:zbm L
theorem zca.defers{R:BR}(h:zca L R cs cs'):∀ c∈cs,c.defers=[]:=by
 induction h with
 | nil=>intro c hc;simp at hc
 | cons hf _ _ ih =>
  intro c hc
  rcases List.mem_cons.1 hc with rfl|hc
  ·exact hf.1.defers
  ·exact ih c hc
theorem zkz[zaA L L](W:Whole L)(hS:zk4 L fr cs w)(hne:fr.mode=.returning->cs≠[])(hr:runN L (n+1) (lone fr (cs++[zaK L]) w)=.next (lone fr' [zaK L] w'))(hm':fr'.mode=.returning) :
  ∃ fr1 cs1 w1 es,stepG L true (G fr (cs++[zaK L])) w=.go (G fr1 (cs1++[zaK L])) w1 es/\(fr1.mode=.run\/fr1.mode=.returning)/\zk4 L fr1 cs1 w1/\zfc w w1 (stepG L true (G fr (cs++[zaK L]))) fr1 (cs1++[zaK L])/\runN L n (lone fr1 (cs1++[zaK L]) w1)=.next (lone fr' [zaK L] w'):=by
 obtain⟨N,R,frp,csp,wp,hf,hcs,hw⟩:=hS
 rcases zlu (base:=[zaK L]) W.toBodies W.zero hf hcs hw hne with ⟨fr1,csx,w1,es,e,hm⟩|⟨fr1,w1,es,ch,e,hm,hd⟩|⟨o,w1,es,e⟩
 ·obtain⟨R',fr1',cs1,cs1',w1',es',rfl,hM,hst,hloc⟩:=zhD (rest:=[]) (base:=[zaK L]) W.toBodies W.zero true hf hcs hw e hm hne
  rw[zce e] at hr
  refine⟨fr1,cs1,w1,es,e,hm,?_,hloc,hr⟩
  rcases hst.after with ⟨h1,h2⟩|⟨_,_,_,hx,_⟩
  ·exact⟨N,R',fr1',cs1',w1',h1,h2,hst.went.rel⟩
  ·exact hx.elim
 ·rw[zce e] at hr
  obtain⟨f2,c2,w2,ch',e2,hm2⟩:=zrd cs hcs.defers fr1 ch w1 hm hd n _ hr
  obtain⟨rfl,_,_⟩:=zb6 (congrArg Stepped.next e2)
  rw[hm'] at hm2
  cases hm2
 ·rw[zb8 e] at hr
  cases hr
theorem ziC[zaA L L](W:Whole L):∀(n:Nat) {fr:Frame} {cs:List Frame} {w:World},zk4 L fr cs w->∀ {fr':Frame} {w':World},runN L n (lone fr (cs++[zaK L]) w)=.next (lone fr' [zaK L] w')->fr'.mode=.returning ->
  ∀ {τ:Nat->Question->Nat} {d:Nat},(∀ i q,τ (d+i) q=w.tape (w.drawn+i) q)->∃ d',runN L n (lone fr (cs++[zaK L]) (w.tp τ d))=.next (lone fr' [zaK L] (w'.tp τ d'))
 | 0,fr,cs,w,_,fr',w',hr,_,τ,d,_=>by
  simp only[runN] at hr
  obtain⟨rfl,hc,rfl⟩:=zb6 hr
  exact⟨d,by simp only[runN];rw[hc]⟩
 | n+1,fr,cs,w,hS,fr',w',hr,hm',τ,d,ht=>by
  by_cases hne:fr.mode=.returning->cs≠[]
  ·obtain⟨fr1,cs1,w1,es,e,hm,hS1,⟨k,l1,l2,l3⟩,hr1⟩:=zkz W hS hne hr hm'
   obtain⟨es2,e2⟩:=l3 τ d (fun i _ q=>ht i q)
   obtain⟨d',h'⟩:=ziC W n hS1 hr1 hm' (τ:=τ) (d:=d+k) (fun i q=>by rw[l1,l2,Nat.add_assoc,Nat.add_assoc];exact ht (k+i) q)
   refine⟨d',?_⟩
   rw[zce e2]
   exact h'
  ·have h1:fr.mode=.returning:=Classical.byContradiction fun q=>hne (fun h=>absurd h q)
   have h2:cs=[]:=Classical.byContradiction fun q=>hne (fun _=>q)
   subst h2
   obtain⟨N,R,frp,csp,wp,hf,_,_⟩:=hS
   obtain⟨fn,hfn,_⟩:=hf.1.fnok
   exact(zki h1 hf.1.defers hf.1.kind hfn n hr).elim
def Good(L:Program)(FinP:Frame->World->Prop)(fr:Frame)(cs:List Frame)(w:World):Prop :=
 ∀ τ d,∃ n fr' w',runN L n (lone fr (cs++[zaK L]) (w.tp τ d))=.next (lone fr' [zaK L] w')/\fr'.mode=.returning/\FinP fr' w'
inductive zbS(L:Program)(FinP:Frame->World->Prop):Frame->List Frame->World->Prop
 | fin {fr:Frame} {w:World}:fr.mode=.returning->(∀ τ d,FinP fr (w.tp τ d))->zk4 L fr [] w->zbS L FinP fr [] w
 | step {fr:Frame} {cs:List Frame} {w:World}:(fr.mode=.returning->cs≠[])->zk4 L fr cs w->(F:(Nat->Question->Nat)->Nat->Frame)->(C:(Nat->Question->Nat)->Nat->List Frame)->(V:(Nat->Question->Nat)->Nat->World) ->
   (∀ τ d,(∃ es,stepG L true (G fr (cs++[zaK L])) (w.tp τ d)=.go (G (F τ d) (C τ d++[zaK L])) (V τ d) es)/\((F τ d).mode=.run\/(F τ d).mode=.returning))->(∀ τ d,zbS L FinP (F τ d) (C τ d) (V τ d))->zbS L FinP fr cs w
theorem good_step[zaA L L](W:Whole L)(hF:∀ fr w τ d,FinP fr w->FinP fr (w.tp τ d))(hG:Good L FinP fr cs w)(hS:zk4 L fr cs w)(hne:fr.mode=.returning->cs≠[])(τ:Nat->Question->Nat)(d:Nat) :
  ∃ fr1 cs1 w1 es,stepG L true (G fr (cs++[zaK L])) (w.tp τ d)=.go (G fr1 (cs1++[zaK L])) w1 es/\(fr1.mode=.run\/fr1.mode=.returning)/\Good L FinP fr1 cs1 w1/\zk4 L fr1 cs1 w1/\zfc (w.tp τ d) w1 (stepG L true (G fr (cs++[zaK L]))) fr1 (cs1++[zaK L]):=by
 have notz:∀ {τ:Nat->Question->Nat} {d:Nat} {fr':Frame} {w':World},runN L 0 (lone fr (cs++[zaK L]) (w.tp τ d))=.next (lone fr' [zaK L] w')->fr'.mode=.returning->False:=by
  intro τ d fr' w' hr hm'
  simp only[runN] at hr
  obtain⟨rfl,hc,_⟩:=zb6 hr
  have:cs=[]:=by
   cases cs with
   | nil=>rfl
   | cons c cs=>simp at hc
  exact hne hm' this
 obtain⟨n,fr',w',hr,hm',_⟩:=hG τ d
 cases n with
 | zero=>exact(notz hr hm').elim
 | succ n =>
 obtain⟨fr1,cs1,w1,es,e,hm,hS1,⟨k,l1,l2,l3⟩,hr1⟩:=zkz W (hS.tp τ d) hne hr hm'
 refine⟨fr1,cs1,w1,es,e,hm,?_,hS1,k,l1,l2,l3⟩
 intro τ' d'
 let σ:Nat->Question->Nat:=fun i q=>if i<k then τ (d+i) q else τ' (d'+(i - k)) q
 obtain⟨es2,e2⟩:=l3 σ 0 (fun i hi q=>by show (if 0+i<k then _ else _)=_;rw[Nat.zero_add,if_pos hi];rfl)
 obtain⟨n2,f2,w2,hr2,hm2,hf2⟩:=hG σ 0
 cases n2 with
 | zero=>exact(notz hr2 hm2).elim
 | succ n2 =>
  have e2':stepG L true (G fr (cs++[zaK L])) (w.tp σ 0)=.go (G fr1 (cs1++[zaK L])) (w1.tp σ (0+k)) es2:=e2
  rw[zce e2'] at hr2
  obtain⟨d3,h3⟩:=ziC W n2 (hS1.tp σ (0+k)) hr2 hm2 (τ:=τ') (d:=d') (fun i q=>by
   show τ' (d'+i) q=(if 0+k+i<k then τ (d+(0+k+i)) q else τ' (d'+(0+k+i - k)) q)
   rw[if_neg qg,show 0+k+i - k=i by omega])
  exact⟨n2,f2,_,h3,hm2,hF _ _ _ _ hf2⟩
structure Bad(L:Program)(FinP:Frame->World->Prop)(c:Frame × List Frame × World):Prop where
 good:Good L FinP c.1 c.2.1 c.2.2
 self:zk4 L c.1 c.2.1 c.2.2
 not:¬ zbS L FinP c.1 c.2.1 c.2.2
theorem Bad.going{c:Frame × List Frame × World}(h:Bad L FinP c):c.1.mode=.returning->c.2.1≠[]:=by
 obtain⟨fr,cs,w⟩:=c
 obtain⟨hG,hS,hT⟩:=h
 simp only at hG hS hT ⊢
 intro hm hc
 subst hc
 refine hT (.fin hm (fun τ d=>?_) hS)
 obtain⟨n,fr',w',hr,hm',hf⟩:=hG τ d
 cases n with
 | zero =>
  simp only[runN] at hr
  obtain⟨rfl,_,rfl⟩:=zb6 hr
  exact hf
 | succ n =>
  obtain⟨N,R,frp,csp,wp,hfr,_,_⟩:=hS
  obtain⟨fn,hfn,_⟩:=hfr.1.fnok
  exact(zki hm hfr.1.defers hfr.1.kind hfn n hr).elim
theorem Bad.next[zaA L L](W:Whole L)(hF:∀ fr w τ d,FinP fr w->FinP fr (w.tp τ d)){c:Frame × List Frame × World}(h:Bad L FinP c) :
  ∃ (τ:Nat->Question->Nat) (d k:Nat) (c1:Frame × List Frame × World),Bad L FinP c1/\∀ τ' d',(∀ i,i<k->∀ q,τ' (d'+i) q=τ (d+i) q)->∃ es,stepG L true (G c.1 (c.2.1++[zaK L])) (c.2.2.tp τ' d')=.go (G c1.1 (c1.2.1++[zaK L])) (c1.2.2.tp τ' (d'+k)) es:=by
 have hne:=h.going
 obtain⟨fr,cs,w⟩:=c
 obtain⟨hG,hS,hT⟩:=h
 simp only at hG hS hT hne ⊢
 have hall:=fun τ d=>good_step W hF hG hS hne τ d
 refine Classical.byContradiction fun hno=>hT ?_
 have hs:=fun τ d=>(hall τ d).choose_spec.choose_spec.choose_spec.choose_spec
 refine .step hne hS (fun τ d=>(hall τ d).choose) (fun τ d=>(hall τ d).choose_spec.choose) (fun τ d=>(hall τ d).choose_spec.choose_spec.choose) (fun τ d=>⟨⟨_,(hs τ d).1⟩,(hs τ d).2.1⟩) (fun τ d=>?_)
 refine Classical.byContradiction fun hnt=>hno ?_
 obtain⟨_,_,h3,h4,k,l1,l2,l3⟩:=hs τ d
 exact⟨τ,d,k,(_,_,_),⟨h3,h4,hnt⟩,fun τ' d' ha=>l3 τ' d' ha⟩
def atK(k:Nat->Nat):Nat->Nat
 | 0=>0
 | j+1=>atK k j+k j
theorem zqu(k:Nat->Nat):∀ {i j:Nat},i<=j->atK k i<=atK k j:=by
 intro i j h
 induction j with
 | zero=>have:i=0:=qg
         subst this;exact Nat.le_refl _
 | succ j ih =>
  rcases Nat.lt_or_ge i (j+1) with q|q
  ·exact Nat.le_trans (ih qg) (by simp only[atK];omega)
  ·have:i=j+1:=qg
   subst this;exact Nat.le_refl _
theorem zqS(k:Nat->Nat){j p:Nat}(h1:atK k i<=p)(h2:p<atK k (i+1))(h3:atK k j<=p)(h4:p<atK k (j+1)):i=j:=by
 rcases Nat.lt_trichotomy i j with q|q|q
 ·have:=zqu k (i:=i+1) (j:=j) qg;omega
 ·exact q
 ·have:=zqu k (i:=j+1) (j:=i) qg;omega
open Classical in
noncomputable def zi1(k:Nat->Nat)(τ:Nat->Nat->Question->Nat)(d:Nat->Nat):Nat->Question->Nat:=fun p q =>
 if h:∃ j,atK k j<=p/\p<atK k (j+1) then τ h.choose (d h.choose+(p - atK k h.choose)) q else 0
theorem zk8(k:Nat->Nat)(τ:Nat->Nat->Question->Nat)(d:Nat->Nat)(j i:Nat)(hi:i<k j)(q:Question):zi1 k τ d (atK k j+i) q=τ j (d j+i) q:=by
 have h:∃ j',atK k j'<=atK k j+i/\atK k j+i<atK k (j'+1):=⟨j,qg,by simp only[atK];omega⟩
 have hj:h.choose=j:=zqS k h.choose_spec.1 h.choose_spec.2 qg (by simp only[atK];omega)
 unfold zi1
 rw[dif_pos h,hj]
 congr 1
 omega
theorem zdc[zaA L L](W:Whole L)(hF:∀ fr w τ d,FinP fr w->FinP fr (w.tp τ d))(hG:Good L FinP fr cs w)(hS:zk4 L fr cs w):zbS L FinP fr cs w:=by
 refine Classical.byContradiction fun hT=>?_
 have h0:Bad L FinP (fr,cs,w):=⟨hG,hS,hT⟩
 let nx:{ c // Bad L FinP c }->{ c // Bad L FinP c }:=fun c=>⟨_,(c.2.next W hF).choose_spec.choose_spec.choose_spec.choose_spec.1⟩
 let sq:Nat->{ c // Bad L FinP c }:=fun n=>Nat.rec ⟨(fr,cs,w),h0⟩ (fun _ c=>nx c) n
 let τs:Nat->Nat->Question->Nat:=fun j=>((sq j).2.next W hF).choose
 let ds:Nat->Nat:=fun j=>((sq j).2.next W hF).choose_spec.choose
 let ks:Nat->Nat:=fun j=>((sq j).2.next W hF).choose_spec.choose_spec.choose
 have hstep:∀ j τ' d',(∀ i,i<ks j->∀ q,τ' (d'+i) q=τs j (ds j+i) q)->∃ es,stepG L true (G (sq j).1.1 ((sq j).1.2.1++[zaK L])) ((sq j).1.2.2.tp τ' d')=.go (G (sq (j+1)).1.1 ((sq (j+1)).1.2.1++[zaK L])) ((sq (j+1)).1.2.2.tp τ' (d'+ks j)) es :=
  fun j=>((sq j).2.next W hF).choose_spec.choose_spec.choose_spec.choose_spec.2
 let σ:=zi1 ks τs ds
 have hone:∀ j,∃ es,stepG L true (G (sq j).1.1 ((sq j).1.2.1++[zaK L])) ((sq j).1.2.2.tp σ (atK ks j))=.go (G (sq (j+1)).1.1 ((sq (j+1)).1.2.1++[zaK L])) ((sq (j+1)).1.2.2.tp σ (atK ks (j+1))) es :=
  fun j=>hstep j σ (atK ks j) (fun i hi q=>zk8 ks τs ds j i hi q)
 have hrun:∀ j i,runN L j (lone (sq i).1.1 ((sq i).1.2.1++[zaK L]) ((sq i).1.2.2.tp σ (atK ks i)))=.next (lone (sq (i+j)).1.1 ((sq (i+j)).1.2.1++[zaK L]) ((sq (i+j)).1.2.2.tp σ (atK ks (i+j)))):=by
  intro j
  induction j with
  | zero=>intro i;rfl
  | succ j ih =>
   intro i
   obtain⟨es,e⟩:=hone i
   rw[zce e,ih (i+1),show i+1+j=i+(j+1) by omega]
 obtain⟨n,fr',w',hr,hm',_⟩:=hG σ 0
 have hr2:=hrun n 0
 have e0:runN L n (lone fr (cs++[zaK L]) (w.tp σ 0))=.next (lone (sq (0+n)).1.1 ((sq (0+n)).1.2.1++[zaK L]) ((sq (0+n)).1.2.2.tp σ (atK ks (0+n)))):=hr2
 rw[hr] at e0
 obtain⟨h1,h2,_⟩:=zb6 e0
 have hc:(sq (0+n)).1.2.1=[]:=by
  cases hq:(sq (0+n)).1.2.1 with
  | nil=>rfl
  | cons a b=>rw[hq] at h2;simp at h2
 exact(sq (0+n)).2.going (by rw[<- h1];exact hm') hc
end
section
open Go Go.Conc
variable{L M:Program}
inductive Rk:Type
 | z
 | s (f:World->Rk)
structure zaO(Live:World->Prop)(K S:Nat->Prop)(w w₁:World):Prop where
 size:w.heap.size<=w₁.heap.size
 same:∀ c,K c\/S c->w₁.heap[c]?=w.heap[c]?
 tape:w₁.tape=w.tape
 os:w₁.os=w.os
 out:w₁.output=w.output
 live:Live w->Live w₁
theorem zaO.refl{Live:World->Prop}{K:Nat->Prop}(w:World):zaO Live K S w w:=⟨Nat.le_refl _,fun _ _=>rfl,rfl,rfl,rfl,fun h=>h⟩
theorem zaO.trans{Live:World->Prop}{K:Nat->Prop}{w₂:World}(h:zaO Live K S w w₁)(h':zaO Live K S w₁ w₂):zaO Live K S w w₂ :=
 ⟨Nat.le_trans h.size h'.size,fun c hc=>(h'.same c hc).trans (h.same c hc),h'.tape.trans h.tape,h'.os.trans h.os,h'.out.trans h.out,fun x=>h'.live (h.live x)⟩
theorem zaO.mono{Live:World->Prop}{K S':Nat->Prop}(h:zaO Live K S w w₁)(hs:∀ c,K' c\/S' c->K c\/S c):zaO Live K' S' w w₁ :=
 ⟨h.size,fun c hc=>h.same c (hs c hc),h.tape,h.os,h.out,h.live⟩
def EvS(K S:Nat->Prop)(e:Event):Prop :=
 (∃ a wr,e=⟨.cell a,wr,false⟩/\(S a.block\/(K a.block/\wr=false)))\/(∃ r wr,e=⟨.obj r,wr,false⟩/\(S r\/(K r/\wr=false)))\/e=⟨.mark .noRoom,false,true⟩
structure Does(Ex:Event->Prop)(K S S':Nat->Prop)(w w':World)(es:Array Event):Prop where
 size:w.heap.size<=w'.heap.size
 sub:∀ c,S c->S' c
 new:∀ c,S' c->S c\/(w.heap.size<=c/\c<w'.heap.size)
 kept:∀ c,c<w.heap.size->¬ S c->w'.heap[c]?=w.heap[c]?
 tape:w'.tape=w.tape
 os:w'.os=w.os
 out:w'.output=w.output
 evs:∀ e∈es,EvS K S' e\/Ex e
theorem Does.none{Ex:Event->Prop}{K:Nat->Prop}(w:World):Does Ex K S S w w #[]:=⟨Nat.le_refl _,fun _ h=>h,fun _ h=>Or.inl h,fun _ _ _=>rfl,rfl,rfl,rfl,qk⟩
section
variable(M:Program)(main:Bool)(Live:World->Prop)(Ex:Event->Prop)(Stop:Nat->(Nat->Prop)->Goroutine->World->Prop)(Snd:Nat->(Nat->Prop)->Value->World->Prop)(ch:Nat)(K:Nat->Prop)
def Way:Rk->Nat->(Nat->Prop)->Goroutine->World->Prop
 | .z,σ,S,g,w=>∀ w₁,zaO Live K S w w₁->Stop σ S g w₁
 | .s f,σ,S,g,w=>(∀ w₁,zaO Live K S w w₁->Stop σ S g w₁)\/(g.status=.running/\∀ w₁,zaO Live K S w w₁ ->
   (∃ g' w' es S',stepG M main g w₁=.go g' w' es/\Does Ex K S S' w₁ w' es/\Way (f w₁) σ S' g' w') \/
   (∃ g1 v z S',stepG M main g w₁=.comm g1 #[⟨.chan (some ch),some v,z⟩] true .send w₁ #[]/\(∀ c,S' c->S c)/\Snd σ (fun c=>S c/\¬ S' c) v w₁/\Way (f w₁) (σ+1) S' (g1.finishComm M #[⟨.chan (some ch),some v,z⟩] .send 0 undef false) w₁))
def zaW(σ:Nat)(S:Nat->Prop)(g:Goroutine)(w:World):Prop:=∃ r,Way M main Live Ex Stop Snd ch K r σ S g w
end
section
variable{main:Bool}{Live:World->Prop}{Ex:Event->Prop}{Stop:Nat->(Nat->Prop)->Goroutine->World->Prop}{Snd:Nat->(Nat->Prop)->Value->World->Prop}{ch:Nat}{K:Nat->Prop}
theorem Way.rely{r:Rk}(h:Way M main Live Ex Stop Snd ch K r σ S g w)(hs:zaO Live K S w w₁):Way M main Live Ex Stop Snd ch K r σ S g w₁:=by
 cases r with
 | z=>exact fun w₂ h₂=>h w₂ (hs.trans h₂)
 | s f =>
  rcases h with h|⟨hr,h⟩
  ·exact Or.inl fun w₂ h₂=>h w₂ (hs.trans h₂)
  ·exact Or.inr ⟨hr,fun w₂ h₂=>h w₂ (hs.trans h₂)⟩
theorem zaW.rely(h:zaW M main Live Ex Stop Snd ch K σ S g w)(hs:zaO Live K S w w₁):zaW M main Live Ex Stop Snd ch K σ S g w₁:=let ⟨r,h⟩:=h;⟨r,h.rely hs⟩
theorem zaW.stop(h:∀ w₁,zaO Live K S w w₁->Stop σ S g w₁):zaW M main Live Ex Stop Snd ch K σ S g w:=⟨.z,h⟩
open Classical in
theorem zaW.step(hr:g.status=.running)(h:∀ w₁,zaO Live K S w w₁ ->
   (∃ g' w' es S',stepG M main g w₁=.go g' w' es/\Does Ex K S S' w₁ w' es/\zaW M main Live Ex Stop Snd ch K σ S' g' w') \/
   (∃ g1 v z S',stepG M main g w₁=.comm g1 #[⟨.chan (some ch),some v,z⟩] true .send w₁ #[]/\(∀ c,S' c->S c)/\Snd σ (fun c=>S c/\¬ S' c) v w₁/\zaW M main Live Ex Stop Snd ch K (σ+1) S' (g1.finishComm M #[⟨.chan (some ch),some v,z⟩] .send 0 undef false) w₁)) :
  zaW M main Live Ex Stop Snd ch K σ S g w:=by
 have h2:∀ w₁,zaO Live K S w w₁->∃ r,(∃ g' w' es S',stepG M main g w₁=.go g' w' es/\Does Ex K S S' w₁ w' es/\Way M main Live Ex Stop Snd ch K r σ S' g' w') \/
   (∃ g1 v z S',stepG M main g w₁=.comm g1 #[⟨.chan (some ch),some v,z⟩] true .send w₁ #[]/\(∀ c,S' c->S c)/\Snd σ (fun c=>S c/\¬ S' c) v w₁/\Way M main Live Ex Stop Snd ch K r (σ+1) S' (g1.finishComm M #[⟨.chan (some ch),some v,z⟩] .send 0 undef false) w₁):=by
  intro w₁ hs
  rcases h w₁ hs with ⟨g',w',es,S',h1,h2,r,h3⟩|⟨g1,v,z,S',h1,h0,h2,r,h3⟩
  ·exact⟨r,Or.inl ⟨g',w',es,S',h1,h2,h3⟩⟩
  ·exact⟨r,Or.inr ⟨g1,v,z,S',h1,h0,h2,h3⟩⟩
 refine⟨.s (fun w₁=>if hs:zaO Live K S w w₁ then (h2 w₁ hs).choose else .z),Or.inr ⟨hr,fun w₁ hs=>?_⟩⟩
 have e:(fun w₁=>if hs:zaO Live K S w w₁ then (h2 w₁ hs).choose else Rk.z) w₁=(h2 w₁ hs).choose:=dif_pos hs
 rw[e]
 exact(h2 w₁ hs).choose_spec
theorem zaW.go(hr:g.status=.running)(h:∀ w₁,zaO Live K S w w₁->∃ g' w' es S',stepG M main g w₁=.go g' w' es/\Does Ex K S S' w₁ w' es/\zaW M main Live Ex Stop Snd ch K σ S' g' w') :
  zaW M main Live Ex Stop Snd ch K σ S g w:=zaW.step hr fun w₁ hs=>Or.inl (h w₁ hs)
theorem zaW.bind(hb:∀ σ S g w,Stop σ S g w->zaW M main Live Ex Stop2 Snd ch K σ S g w):∀(r:Rk) {σ:Nat} {S:Nat->Prop} {g:Goroutine} {w:World},Way M main Live Ex Stop Snd ch K r σ S g w->zaW M main Live Ex Stop2 Snd ch K σ S g w:=by
 intro r
 induction r with
 | z=>intro σ S g w h;exact hb _ _ _ _ (h w (zaO.refl w))
 | s f ih =>
  intro σ S g w h
  rcases h with h|⟨hr,h⟩
  ·exact hb _ _ _ _ (h w (zaO.refl w))
  ·refine zaW.step hr fun w₁ hs=>?_
   rcases h w₁ hs with ⟨g',w',es,S',h1,h2,h3⟩|⟨g1,v,z,S',h1,h0,h2,h3⟩
   ·exact Or.inl ⟨g',w',es,S',h1,h2,ih w₁ h3⟩
   ·exact Or.inr ⟨g1,v,z,S',h1,h0,h2,ih w₁ h3⟩
theorem zaW.sends(hs2:∀ σ S v w,Snd σ S v w->Snd2 σ S v w):∀(r:Rk) {σ:Nat} {S:Nat->Prop} {g:Goroutine} {w:World},Way M main Live Ex Stop Snd ch K r σ S g w->zaW M main Live Ex Stop Snd2 ch K σ S g w:=by
 intro r
 induction r with
 | z=>intro σ S g w h;exact zaW.stop h
 | s f ih =>
  intro σ S g w h
  rcases h with h|⟨hr,h⟩
  ·exact zaW.stop h
  ·refine zaW.step hr fun w₁ hs=>?_
   rcases h w₁ hs with ⟨g',w',es,S',h1,h2,h3⟩|⟨g1,v,z,S',h1,h0,h2,h3⟩
   ·exact Or.inl ⟨g',w',es,S',h1,h2,ih w₁ h3⟩
   ·exact Or.inr ⟨g1,v,z,S',h1,h0,hs2 _ _ _ _ h2,ih w₁ h3⟩
theorem zaW.then(h:zaW M main Live Ex Stop Snd ch K σ S g w)(hb:∀ σ S g w,Stop σ S g w->zaW M main Live Ex Stop2 Snd ch K σ S g w):zaW M main Live Ex Stop2 Snd ch K σ S g w :=
 let ⟨r,h⟩:=h;zaW.bind hb r h
end
def zcV(N:Nat)(R:BR):Nat->Prop:=fun c=>∃ b,R b c/\b<N
def zby(N:Nat)(R:BR):Nat->Prop:=fun c=>∃ b,R b c/\N<=b
theorem zew.keptSame{R R':BR}(h:zew N R R' w w' w1 w1')(hN:N<=w.heap.size):zcV N R'=zcV N R:=by
 funext c
 refine propext ⟨fun ⟨b,hb,hn⟩=>?_,fun ⟨b,hb,hn⟩=>⟨b,h.le.1 _ _ hb,hn⟩⟩
 rcases h.new b c hb with x|x
 ·exact⟨b,x,hn⟩
 ·omega
theorem EvR.evS{R:BR}(h:EvR N R e):EvS (zcV N R) (zby N R) e:=by
 rcases h with ⟨a,b,wr,rfl,h1,h2⟩|⟨r,b,wr,rfl,h1,h2⟩|rfl
 ·refine Or.inl ⟨a,wr,rfl,?_⟩
  by_cases q:N<=b
  ·exact Or.inl ⟨b,h1,q⟩
  ·refine Or.inr ⟨⟨b,h1,qg⟩,?_⟩
   cases wr with
   | false=>rfl
   | true=>exact absurd (h2 rfl) q
 ·refine Or.inr (Or.inl ⟨r,wr,rfl,?_⟩)
  by_cases q:N<=b
  ·exact Or.inl ⟨b,h1,q⟩
  ·refine Or.inr ⟨⟨b,h1,qg⟩,?_⟩
   cases wr with
   | false=>rfl
   | true=>exact absurd (h2 rfl) q
 ·exact Or.inr (Or.inr rfl)
theorem zew.does{R R':BR}(h:zew N R R' w w' w1 w1')(hw:za9 N R w w'){Ex:Event->Prop}(he:∀ e∈es,EvR N R' e):Does Ex (zcV N R) (zby N R) (zby N R') w' w1' es:=by
 refine⟨h.size,fun c ⟨b,x,y⟩=>⟨b,h.le.1 _ _ x,y⟩,fun c ⟨b,x,y⟩=>?_,fun c hc hn=>h.kept c hc fun b x=>?_,h.tp,h.os,h.out,fun e hx=>?_⟩
 ·rcases h.new b c x with z|z
  ·exact Or.inl ⟨b,z,y⟩
  ·exact Or.inr ⟨z.2,(h.rel.lt x).2⟩
 ·exact Nat.lt_of_not_le fun q=>hn ⟨b,x,q⟩
 ·rw[<- h.keptSame hw.low]
  exact Or.inl (he e hx).evS
theorem za9.sees{R:BR}{Live:World->Prop}(h:za9 N R w w')(hs:zaO Live (zcV N R) (zby N R) w' w₁):za9 N R (w.tp w₁.tape w₁.drawn) w₁:=by
 refine⟨h.one,fun b c hb=>?_,rfl,rfl,h.low⟩
 obtain⟨o,o',e1,e2,ho⟩:=h.blk b c hb
 refine⟨o,o',e1,?_,ho⟩
 rw[hs.same c (by by_cases q:N<=b;exact Or.inr ⟨b,hb,q⟩;exact Or.inl ⟨b,hb,qg⟩)]
 exact e2
def zsp(L M:Program)(X:FuncId->Prop)(N:Nat)(K:Nat->Prop)(FinP:Frame->World->Prop)(rest:List Frame)(S:Nat->Prop)(g:Goroutine)(w:World):Prop :=
 (∃ R fr fr' wl,g=G fr' rest/\fr.mode=.returning/\zgm L R fr fr'/\za9 N R wl w/\S=zby N R/\K=zcV N R/\∀ τ d,FinP fr (wl.tp τ d)) \/
 (∃ R f a a' cs cs' wl,X f/\g=G (Frame.enter M f a' .normal) (cs'++rest)/\zat R a a'/\zca L R cs cs'/\za9 N R wl w/\S=zby N R/\K=zcV N R/\zbS L FinP (Frame.enter L f a .normal) cs wl)
theorem zbS.tp(h:zbS L FinP fr cs w)(τ:Nat->Question->Nat)(d:Nat):zbS L FinP fr cs (w.tp τ d):=by
 cases h with
 | fin h1 h2 h3=>exact .fin h1 (fun τ' d'=>h2 τ' d') (h3.tp τ d)
 | step h1 h2 F C V h3 h4=>exact .step h1 (h2.tp τ d) F C V (fun τ' d'=>h3 τ' d') h4
theorem zgf[T:zaA L M](B:Bodies L M X)(hz:zbm L){main:Bool}{Live:World->Prop}{Ex:Event->Prop}{Snd:Nat->(Nat->Prop)->Value->World->Prop}{ch:Nat}{K:Nat->Prop}{wl:World}(h:zbS L FinP fr cs wl):∀ {R:BR} {fr':Frame} {cs':List Frame} {w:World},zgm L R fr fr'->zca L R cs cs'->za9 N R (wl.tp w.tape w.drawn) w->K=zcV N R ->
   zaW M main Live Ex (fun σ' S g w=>σ'=σ/\zsp L M X N K FinP rest S g w) Snd ch K σ (zby N R) (G fr' (cs'++rest)) w:=by
 induction h with
 | @fin fr wl hm hF hS =>
  intro R fr' cs' w hf hcs hw hK
  cases hcs
  subst hK
  refine zaW.stop fun w₁ hs=>?_
  exact⟨rfl,Or.inl ⟨R,fr,fr',_,by rw[List.nil_append],hm,hf,hw.sees hs,rfl,rfl,fun τ d=>hF τ d⟩⟩
 | @step fr cs wl hne hS F C V h1 h2 ih =>
  intro R fr' cs' w hf hcs hw hK
  subst hK
  refine zaW.go rfl fun w₁ hs=>?_
  have hw1:=hw.sees hs
  rw[zrr] at hw1
  obtain⟨⟨es,e⟩,hm⟩:=h1 w₁.tape w₁.drawn
  obtain⟨R',fr1',cs1,cs1',w1',es',hcx,hM,hst,hloc⟩:=zhD (rest:=rest) B hz main hf hcs hw1 e hm hne
  have hC:cs1=C w₁.tape w₁.drawn:=(List.append_cancel_right hcx).symm
  subst hC
  have hrel:za9 N R' ((V w₁.tape w₁.drawn).tp w1'.tape w1'.drawn) w1':=by
   rw[zhF hst.went.rel.tape hst.went.rel.drawn]
   exact hst.went.rel
  refine⟨_,w1',es',zby N R',hM,hst.went.does hw1 hst.evs,?_⟩
  rcases hst.after with ⟨hf1,hc1⟩|⟨f,a,a',hX,_,e1,e2,ha,hc1,_⟩
  ·exact ih _ _ hf1 hc1 hrel (hst.went.keptSame hw1.low).symm
  ·refine zaW.stop fun w₂ hs2=>⟨rfl,Or.inr ⟨R',f,a,a',C w₁.tape w₁.drawn,cs1',((V w₁.tape w₁.drawn).tp w1'.tape w1'.drawn).tp w₂.tape w₂.drawn,hX,by rw[e2],ha,hc1,?_,rfl,(hst.went.keptSame hw1.low).symm,?_⟩⟩
   ·rw[<- hst.went.keptSame hw1.low] at hs2
    exact hrel.sees hs2
   ·rw[<- e1]
    exact((h2 w₁.tape w₁.drawn).tp _ _).tp _ _
end
section
open Go Go.Conc
abbrev zk7(L:Program)(X:FuncId->Prop):Prop:=∀ f,X f->∃ t,((L.funcs[f]?).bind (·.body)).getD (.refuse "unsupported: a function without a Go body is entered")=.refuse t
variable{L M:Program}
def zkG(t:Array Value):ResultVar->Value
 | .tmp i=>t.getD i undef
 | .cell _ _=>undef
def packed(vs:Array Value):Value:=if h:vs.size=1 then vs[0] else .tuple vs
def zcK(fn:Func)(t:Array Value):Value:=packed (fn.results.map (zkG t))
def zcp(fn:Func):Bool:=fn.results.all fun|.tmp _=>true|_=>false
theorem zio{t:Array Value}{f:ResultVar->Sem Value}(hf:∀ i,f (.tmp i)=pure (t.getD i undef)):∀ l:List ResultVar,(∀ x∈l,∃ i,x=.tmp i)->l.mapM f=pure (l.map (zkG t))
 | [],_=>by rw[List.mapM_nil];rfl
 | x::l,hl=>by
  obtain⟨i,e⟩:=hl x qk
  subst e
  rw[List.mapM_cons,zio hf l (fun y hy=>hl y (by simp[hy])),hf]
  rfl
theorem zcZ{fn:Func}(h:zcp fn=true)(t:Array Value):results fn t=pure (zcK fn t):=by
 unfold results
 rw[Array.mapM_eq_mapM_toList,zio (t:=t) (fun i=>rfl) fn.results.toList (fun x hx=>?_)]
 ·have e:(List.map (zkG t) fn.results.toList).toArray=fn.results.map (zkG t):=by
   rw[<- Array.toList_map]
  simp only[map_pure,pure_bind,zcK,e]
  rfl
 ·unfold zcp at h
  rw[<- Array.all_toList,List.all_eq_true] at h
  have:=h x hx
  cases x with
  | tmp i=>exact⟨i,rfl⟩
  | cell a ty=>simp at this
theorem zlE{R:BR}(h:zat R c c'):zaj R (packed c) (packed c'):=by
 unfold packed
 by_cases q:c.size=1
 ·rw[dif_pos q,dif_pos (by rw[<- h.1];exact q)]
  exact h.2 0 qg (by rw[<- h.1];omega)
 ·rw[dif_neg q,dif_neg (by rw[<- h.1];exact q)]
  exact h.tup
theorem ziy{R:BR}{fn:Func}(he:fn'.results=fn.results){t:Array Value}(h:zat R t t'):zaj R (zcK fn t) (zcK fn' t'):=by
 unfold zcK
 rw[he]
 refine zlE ⟨qk,fun i h1 h2=>?_⟩
 simp only[Array.getElem_map]
 cases fn.results[i]'(by simpa using h1) with
 | tmp j=>exact h.getD j
 | cell a ty=>exact zaj.undef
def zrv(L:Program)(f:FuncId)(Post:Value->World->Prop)(fr:Frame)(w:World):Prop:=fr.fn=f/\∃ fn,L.funcs[f]?=some fn/\∀ τ d,Post (zcK fn fr.tmps) (w.tp τ d)
theorem zd3{fn:Func}(hf:L.funcs[f]?=some fn)(hres:zcp fn=true){a:Array Value}(hP:∀ v w τ d,Post v w->Post v (w.tp τ d))(hC:∀ τ d,Calls L f a (w.tp τ d) fun e w'=>∃ v,e=.returned v/\Post v w'):Good L (zrv L f Post) (Frame.enter L f a .normal) [] w:=by
 intro τ d
 obtain⟨e,w',fr,⟨v,rfl,hv⟩,hc,hfn,hl⟩:=hC τ d [zaK L]
 obtain⟨n,hn⟩:=hc
 obtain⟨h1,h2,h3,fn',hf',hr⟩:=hl
 rw[hfn] at hf'
 rw[hf] at hf'
 cases hf'
 rw[zcZ hres] at hr
 have hv2:v=zcK fn fr.tmps:=by
  simp[pure] at hr
  exact hr.symm
 exact⟨n,fr,w',hn,h1,hfn,fn,hf,fun τ d=>by rw[<- hv2];exact hP _ _ _ _ hv⟩
theorem zrv.tp :∀ fr w τ d,zrv L f Post fr w->zrv L f Post fr (w.tp τ d):=fun _ _ _ _ ⟨h1,fn,h2,h3⟩=>⟨h1,fn,h2,fun τ' d'=>h3 τ' d'⟩
theorem zqD(hx:zeR=false):∀(n:Nat) (v:Value),SizeOf.sizeOf v<=n->∃ u,zaj (fun _ _=>False) u v:=by
 intro n
 induction n with
 | zero=>intro v h;cases v <;> simp at h
 | succ n ih =>
  intro v h
  have row:∀ c:Array Value,SizeOf.sizeOf c<=n->∃ d:Array Value,d.size=c.size/\∀ i (h1:i<d.size) (h2:i<c.size),zaj (fun _ _=>False) d[i] c[i]:=by
   intro c hc
   have hx:∀ i:Fin c.size,∃ u,zaj (fun _ _=>False) u c[i]:=fun i=>ih _ (by have:=Array.sizeOf_getElem c i.val i.isLt;simp only[Fin.getElem_fin];omega)
   obtain⟨f,hf⟩:=Classical.axiomOfChoice hx
   exact⟨Array.ofFn f,qk,fun i h1 h2=>by simp only[Array.getElem_ofFn];exact hf ⟨i,h2⟩⟩
  cases v with
  | bool b=>exact⟨_,.bool b⟩
  | int k n=>exact⟨_,.int k n⟩
  | string s=>exact⟨_,.string s⟩
  | agg c =>
   obtain⟨d,h1,h2⟩:=row c (by simp at h;omega)
   exact⟨.agg d,.agg h1 h2⟩
  | tuple c =>
   obtain⟨d,h1,h2⟩:=row c (by simp at h;omega)
   exact⟨.tuple d,.tuple h1 h2⟩
  | iface t v =>
   obtain⟨u,hu⟩:=ih v (by simp at h;omega)
   exact⟨.iface t u,.iface t hu⟩
  | nilIface=>exact⟨_,.nilIface⟩
  | pointer o =>
   cases o with
   | none=>exact⟨_,.nilPtr⟩
   | some a=>exact⟨.tuple #[],.junk hx rfl⟩
  | nilFunc=>exact⟨_,.nilFunc⟩
  | func fn f c =>
   cases fn with
   | method n=>exact⟨.func (.method n) #[.nilIface] #[],.junkM hx⟩
   | _=>exact⟨.tuple #[],.junk hx rfl⟩
  | _=>exact⟨.tuple #[],.junk hx rfl⟩
noncomputable def zr0(v:Value):Value:=match v with
 | .bool b=>.bool b
 | .int k n=>.int k n
 | .string s=>.string s
 | v=>if h:zeR=false then Classical.choose (zqD h _ v (Nat.le_refl _)) else v
theorem zpJ{R:BR}(hx:zeR=false)(hR:R.One)(v:Value):zaj R (zr0 v) v:=by
 have hle:BR.le (fun _ _=>False) R:=⟨fun _ _ h=>h.elim,fun _=>hR⟩
 cases v with
 | bool b=>exact .bool b
 | int k n=>exact .int k n
 | string s=>exact .string s
 | _=>simp only[zr0,dif_pos hx];exact(Classical.choose_spec (zqD hx _ _ (Nat.le_refl _))).mono hle
noncomputable def _root_.Go.World.frz(w:World):World:={ w with heap:=w.heap.map fun|.cells c e _=>.cells (c.map zr0) e (0,c.size)|.map _ _=>.coro none|o=>o }
theorem zkp(w:World)(a:Addr):w.frz.cell? a=(w.cell? a).map zr0:=by
 unfold World.cell? World.frz
 simp only[Array.getElem?_map]
 cases w.heap[a.block]? with
 | none=>rfl
 | some o =>
  cases o with
  | cells c e f =>
   simp only[Option.map_some]
   split
   ·rfl
   ·simp
  | _=>rfl
theorem zd2(w:World):w.frz.heap.size=w.heap.size:=by simp[World.frz]
def zeA(K:Nat->Prop):BR:=fun b c=>b=c/\K b
def Closed(K:Nat->Prop)(w:World):Prop:=∀ b,K b->(∃ c e f,w.heap[b]?=some (.cells c e f)/\zeR=false)\/(zeR=false/\((∃ a l,w.heap[b]?=some (.number a l)/\zbM (zeA K) a a)\/∃ c n,w.heap[b]?=some (.map c n)))
theorem Closed.lt{K:Nat->Prop}(h:Closed K w){b:Nat}(hb:K b):b<w.heap.size:=by
 rcases h b hb with ⟨_,_,_,hx,_⟩|⟨_,⟨_,_,hx,_⟩|⟨_,_,hx⟩⟩
 ·exact(gei hx).1
 ·exact(gei hx).1
 ·exact(gei hx).1
theorem zkq(K:Nat->Prop):(zeA K).One:=⟨fun _ _ _ h h'=>h.1.symm.trans h'.1,fun _ _ _ h h'=>h.1.trans h'.1.symm⟩
theorem zji{K:Nat->Prop}(h:Closed K w):za9 w.heap.size (zeA K) w.frz w:=by
 refine⟨zkq K,?_,rfl,rfl,by rw[zd2];exact Nat.le_refl _⟩
 rintro b c ⟨rfl,hb⟩
 rcases h b hb with ⟨x,e,f,hx,hxo⟩|⟨ho,⟨a,l,hx,hr⟩|⟨c,n,hx⟩⟩
 ·exact⟨.cells (x.map zr0) e (0,x.size),.cells x e f,by simp[World.frz,hx],hx,.cells ⟨qk,fun i h1 h2=>by simp only[Array.getElem_map];exact zpJ hxo (zkq K) _⟩ (fun _ i hi=>⟨Nat.zero_le _,by simpa using hi⟩) (fun q=>absurd (gei hx).1 q)⟩
 ·exact⟨.number a l,.number a l,by simp[World.frz,hx],hx,.other (.number hr) (fun _ _ q=>by cases q)⟩
 ·exact⟨.coro none,.map c n,by simp[World.frz,hx],hx,.other .hid (fun _ _ q=>by cases q)⟩
theorem zic{K:Nat->Prop}(h:Closed K w):zcV w.heap.size (zeA K)=K:=by
 funext c
 refine propext ⟨fun ⟨b,⟨e,hb⟩,_⟩=>e ▸ hb,fun hc=>⟨c,⟨rfl,hc⟩,?_⟩⟩
 exact h.lt hc
theorem zkA{K:Nat->Prop}(h:Closed K w):zby w.heap.size (zeA K)=fun _=>False:=by
 funext c
 refine propext ⟨fun ⟨b,⟨_,hb⟩,hn⟩=>?_,fun q=>q.elim⟩
 have:=h.lt hb
 omega
section
variable{main:Bool}{Live:World->Prop}{Ex:Event->Prop}{Snd:Nat->(Nat->Prop)->Value->World->Prop}{ch:Nat}
theorem zaW.frame{Stop:Nat->(Nat->Prop)->Goroutine->World->Prop}{K:Nat->Prop}(hK:∀ c,K' c->K c)(hNo:∀ σ S v w,¬ Snd σ S v w)(hLv:∀ w w':World,(∀ c,Lv c->w'.heap[c]?=w.heap[c]?)->Live w->Live w')(w0:World)(hlv:∀ c,Lv c->c<w0.heap.size):∀(r:Rk) {σ:Nat} {S:Nat->Prop} {g:Goroutine} {w:World},Way M main Live Ex Stop Snd ch K' r σ S g w ->
  zaO Live K S₀ w0 w->(∀ c,K c\/S₀ c->c<w0.heap.size)->(∀ c,S c->w0.heap.size<=c) ->
  zaW M main Live Ex (fun σ S₁ g w₁=>∃ S',S₁=(fun c=>S₀ c\/S' c)/\Stop σ S' g w₁/\zaO Live K S₀ w0 w₁/\∀ c,S' c->w0.heap.size<=c) Snd ch K σ (fun c=>S₀ c\/S c) g w:=by
 intro r
 induction r with
 | z =>
  intro σ S g w h hs hlt hS
  refine zaW.stop fun w₁ hs1=>⟨S,rfl,h w₁ (hs1.mono fun c hc=>?_),hs.trans (hs1.mono fun c hc=>?_),hS⟩
  ·rcases hc with hc|hc
   ·exact Or.inl (hK c hc)
   ·exact Or.inr (Or.inr hc)
  ·rcases hc with hc|hc
   ·exact Or.inl hc
   ·exact Or.inr (Or.inl hc)
 | s f ih =>
  intro σ S g w h hs hlt hS
  have up1:∀ {w₁},zaO Live K (fun c=>S₀ c\/S c) w w₁->zaO Live K' S w w₁:=fun hs1=>hs1.mono fun c hc=>by
   rcases hc with hc|hc
   ·exact Or.inl (hK c hc)
   ·exact Or.inr (Or.inr hc)
  have up2:∀ {w₁},zaO Live K (fun c=>S₀ c\/S c) w w₁->zaO Live K S₀ w w₁:=fun hs1=>hs1.mono fun c hc=>by
   rcases hc with hc|hc
   ·exact Or.inl hc
   ·exact Or.inr (Or.inl hc)
  rcases h with h|⟨hr,h⟩
  ·exact zaW.stop fun w₁ hs1=>⟨S,rfl,h w₁ (up1 hs1),hs.trans (up2 hs1),hS⟩
  ·refine zaW.go hr fun w₁ hs1=>?_
   rcases h w₁ (up1 hs1) with ⟨g',w',es,S',e,hd,hw⟩|⟨g1,v,z,S',_,_,hsn,_⟩
   ·have hs2:=hs.trans (up2 hs1)
    have hd2:zaO Live K S₀ w₁ w':=by
     refine⟨hd.size,fun c hc=>hd.kept c ?_ ?_,hd.tape,hd.os,hd.out,?_⟩
     ·exact nll (hlt c hc) hs2.size
     ·intro q
      have:=hS c q
      have:=hlt c hc
      omega
     ·refine hLv _ _ fun c hc=>hd.kept c ?_ ?_
      ·exact nll (hlv c hc) hs2.size
      ·intro q
       have:=hS c q
       have:=hlv c hc
       omega
    refine⟨g',w',es,fun c=>S₀ c\/S' c,e,⟨hd.size,fun c hc=>hc.imp id (hd.sub c),fun c hc=>?_,fun c hc hn=>hd.kept c hc fun q=>hn (Or.inr q),hd.tape,hd.os,hd.out,fun x hx=>?_⟩,?_⟩
    ·rcases hc with hc|hc
     ·exact Or.inl (Or.inl hc)
     ·exact(hd.new c hc).imp Or.inr id
    ·rcases hd.evs x hx with (⟨a,wr,rfl,q⟩|⟨r,wr,rfl,q⟩|rfl)|q
     ·refine Or.inl (Or.inl ⟨a,wr,rfl,?_⟩)
      rcases q with q|q
      ·exact Or.inl (Or.inr q)
      ·exact Or.inr ⟨hK _ q.1,q.2⟩
     ·exact Or.inl (Or.inr (Or.inl ⟨r,wr,rfl,q.elim (fun q=>Or.inl (Or.inr q)) (fun q=>Or.inr ⟨hK _ q.1,q.2⟩)⟩))
     ·exact Or.inl (Or.inr (Or.inr rfl))
     ·exact Or.inr q
    ·refine ih w₁ hw (hs2.trans hd2) hlt fun c hc=>?_
     rcases hd.new c hc with q|q
     ·exact hS c q
     ·have:=hs2.size
      omega
   ·exact(hNo _ _ _ _ hsn).elim
theorem zoO[T:zaA L M][zaA L L](W:Whole L)(B:Bodies L M X){Stop:Nat->(Nat->Prop)->Goroutine->World->Prop}{K Kc:Nat->Prop}(hLv:∀ w w':World,(∀ c,Lv c->w'.heap[c]?=w.heap[c]?)->Live w->Live w')(hX:zk7 L X){fn:Func}(hf:L.funcs[f]?=some fn)(hb:fn.body.isSome=true)(hnX:¬ X f)(hres:zcp fn=true){a:Array Value}(hP:∀ v w τ d,Post v w->Post v (w.tp τ d))(hKc:∀ c,Kc c->K c)(hcl:Closed Kc w)(ha:zat (zeA Kc) a a)(hlt:∀ c,K c\/S₀ c->c<w.heap.size)(hlv:∀ c,Lv c->c<w.heap.size)(hC:∀ τ d,Calls L f a (w.frz.tp τ d) fun e w'=>∃ v,e=.returned v/\Post v w'){c:Frame}(hgo:∀ v' w₁ S',zaO Live K S₀ w w₁->(∀ c,S' c->w.heap.size<=c)->(∃ R wl v,zaj R v v'/\za9 w.heap.size R wl w₁/\Post v wl/\S'=zby w.heap.size R)->zaW M main Live Ex Stop Snd ch K σ (fun c=>S₀ c\/S' c) (G (c.finish v') cs) w₁) :
  zaW M main Live Ex Stop Snd ch K σ S₀ (G (Frame.enter M f a .normal) (c::cs)) w:=by
 have hent:zgm L (zeA Kc) (Frame.enter L f a .normal) (Frame.enter M f a .normal):=zdX B hf hb hnX ha
 have hrel:=zji hcl
 have hG:=zd3 hf hres hP hC
 have hT:=zdc W (zrv.tp (L:=L) (f:=f) (Post:=Post)) hG ⟨_,_,_,[],_,hent,.nil,hrel⟩
 have hway:=zgf (M:=M) (main:=main) (Live:=Live) (Ex:=Ex) (Snd:=fun _ _ _ _=>False) (ch:=ch) (rest:=c::cs) (σ:=σ) (K:=Kc) B W.zero hT hent .nil (w:=w) (by
  have e:w.frz.tp w.tape w.drawn=w.frz:=rfl
  rw[e]
  exact hrel) (zic hcl).symm
 rw[zkA hcl] at hway
 obtain⟨r,hway⟩:=hway
 have hfr:=zaW.frame (K:=K) (S₀:=S₀) hKc (fun _ _ _ _ q=>q) hLv w hlv r hway (zaO.refl w) hlt (fun c q=>q.elim)
 have e0:(fun c=>S₀ c\/(fun _=>False) c)=S₀:=by
  funext c
  simp
 rw[e0] at hfr
 obtain⟨r2,hfr⟩:=hfr
 refine(zaW.sends (Snd2:=Snd) (fun _ _ _ _ q=>q.elim) r2 hfr).then ?_
 rintro σ₁ S₁ g w₁ ⟨S',rfl,⟨rfl,hst⟩,hsees,hnew⟩
 rcases hst with ⟨R,fr,fr',wl,rfl,hm,hfR,hwR,rfl,hkk,hF⟩|⟨R,f',a1,a2,cs1,cs2,wl,hXf,rfl,_,_,_,_,_,hTr⟩
 ·obtain⟨ho,t,rfl,ht⟩:=hfR
  obtain⟨rfl,fn1,hfn1,hpost⟩:=hF wl.tape wl.drawn
  rw[hf] at hfn1
  cases hfn1
  have hM:=B.same fr.fn fn hf hb hnX
  have hrun:∀ w₂,stepG M main (G { fr with tmps:=t } (c::cs)) w₂=.go (G (c.finish (zcK fn t)) cs) w₂ #[]:=by
   intro w₂
   rw[zbd _ _ _ _ _ (show ({ fr with tmps:=t }:Frame).mode=.returning from hm)]
   have hev:(pure (zcK fn t):Sem Value).events M w₂ #[]=#[]:=rfl
   simp only[unwind,ho.defers,hm,hM,zcZ hres,Sem.runT_eq,doReturn,ho.kind,hev]
   have hr1:(pure (zcK fn t):Sem Value).run M w₂=.ok (zcK fn t) w₂:=rfl
   have hsn:seen M fr.fn #[]=#[]:=by rw[seen_def];rfl
   rw[hr1,hsn]
   rfl
  refine zaW.go rfl fun w₂ hs2=>⟨_,w₂,#[],_,hrun w₂,Does.none w₂,?_⟩
  have hs3:zaO Live K S₀ w w₂:=hsees.trans (hs2.mono fun c hc=>hc.imp id Or.inl)
  have hw2:za9 w.heap.size R (wl.tp w₂.tape w₂.drawn) w₂:=by
   refine⟨hwR.one,fun b c hbc=>?_,rfl,rfl,hwR.low⟩
   obtain⟨o,o',e1,e2,hor⟩:=hwR.blk b c hbc
   refine⟨o,o',e1,?_,hor⟩
   rw[hs2.same c ?_]
   ·exact e2
   ·by_cases q:w.heap.size<=b
    ·exact Or.inr (Or.inr ⟨b,hbc,q⟩)
    ·refine Or.inl (hKc c ?_)
     rw[hkk]
     exact⟨b,hbc,qg⟩
  exact hgo (zcK fn t) w₂ _ hs3 hnew ⟨R,wl.tp w₂.tape w₂.drawn,zcK fn fr.tmps,ziy rfl ht,hw2,hP _ _ _ _ (hpost wl.tape wl.drawn),rfl⟩
 ·exfalso
  obtain⟨tx,htx⟩:=hX f' hXf
  cases hTr with
  | fin h1 _ _=>cases h1
  | step _ _ F C V h1 _ =>
   obtain⟨⟨es,e⟩,_⟩:=h1 wl.tape wl.drawn
   rw[zen _ _ _ _ _ rfl] at e
   have htd:(Frame.enter L f' a1 .normal).todo=[.code (.refuse tx)]:=by unfold Frame.enter;dsimp only;rw[htx]
   simp only[stepG.exec,htd] at e
   cases e
end
end
section
open Go Go.Conc
variable{M:Program}
def Rlt(x y:Rk):Prop:=∃ f w,y=.s f/\x=f w
theorem znN:∀ r:Rk,Acc Rlt r:=by
 intro r
 induction r with
 | z=>exact⟨_,fun y ⟨f,w,e,_⟩=>by cases e⟩
 | s f ih=>exact⟨_,fun y ⟨f',w,e,e2⟩=>by cases e;rw[e2];exact ih w⟩
def Fam(N:Nat)(ρ' ρ:Nat->Rk):Prop:=∃ i,i<N/\Rlt (ρ' i) (ρ i)/\∀ k,k≠i->ρ' k=ρ k
theorem zq0:∀(N:Nat) (ρ:Nat->Rk),Acc (Fam N) ρ:=by
 intro N
 induction N with
 | zero=>exact fun ρ=>⟨_,fun y ⟨i,h,_⟩=>qg⟩
 | succ N ih =>
  have key:∀ r:Rk,Acc Rlt r->∀ ρ:Nat->Rk,Acc (Fam N) ρ->ρ N=r->Acc (Fam (N+1)) ρ:=by
   intro r hr
   induction hr with
   | intro r _ ihr =>
    intro ρ hρ
    induction hρ with
    | intro ρ _ ihρ =>
     intro e
     refine⟨_,fun ρ' ⟨i,hi,hlt,hk⟩=>?_⟩
     by_cases q:i=N
     ·subst q
      exact ihr (ρ' i) (by rw[<- e];exact hlt) ρ' (ih ρ') rfl
     ·exact ihρ ρ' ⟨i,qg,hlt,hk⟩ (by rw[hk N qg];exact e)
  exact fun ρ=>key _ (znN _) ρ (ih ρ) rfl
theorem zrH(N:Nat):WellFounded (Fam N):=⟨zq0 N⟩
theorem zrX:WellFounded Rlt:=⟨znN⟩
abbrev Mea:=Nat × (Nat->Rk) × Rk
def zdB(N:Nat):Mea->Mea->Prop:=Prod.Lex (· < ·) (Prod.Lex (Fam N) Rlt)
theorem zrN(N:Nat):WellFounded (zdB N):=(Prod.lex ⟨_,Nat.lt_wfRel.wf⟩ (Prod.lex ⟨_,zrH N⟩ ⟨_,zrX⟩)).wf
section
variable{main:Bool}{Live:World->Prop}{Ex:Event->Prop}{Snd:Nat->(Nat->Prop)->Value->World->Prop}{ch:Nat}{K:Nat->Prop}
theorem zaW.ctl{Stop:Nat->(Nat->Prop)->Goroutine->World->Prop}{g':Goroutine}(hr:g.status=.running)(h:∀ w,stepG M main g w=.go g' w #[])(hn:zaW M main Live Ex Stop Snd ch K σ S g' w):zaW M main Live Ex Stop Snd ch K σ S g w :=
 zaW.go hr fun w₁ hs=>⟨g',w₁,#[],S,h w₁,Does.none w₁,hn.rely hs⟩
