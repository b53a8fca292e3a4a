/- Part. -/
import Derived.Test.YthfhlgdeghnggaaGreatEZz
import Derived.Calls
import Derived.Laws.Sem
import Derived.Conc.Listed
namespace Go.Proofs.YthfhlgdeghnggaaGreat
variable{a a':Addr}{ps ps':Array (Nat × Value)}{es es1:Array Event}{ts:Array TypeId}{as as' c c' t':Array Value}{b:Bool}{d d':Deferred}{e:Event}{fr fr' fr1:Frame}{FinP:Frame->Wq}{fn':Func}{f:FuncId}{X:FuncId->Prop}{st:GoStatus}{g:Goroutine}{l l':List (Nat × Value)}{base cs cs' cs1 csx rest:List Frame}{N i n r r' σ:Nat}{Stop2:Nat->Np->Goroutine->Wq}{Snd2:Nat->Np->Value->Wq}{Lv S:Np}{o o':Obj}{ρ ρ':Operand->Value}{hi hi' lo lo' mx mx':Option Value}{P:Program}{m name:String}{s t:TypeId}{k k' u v v' x x' y y':Value}{Post:Value->Wq}{w w' w1 w1' w2 w₁:World}
section
open Go
def xAr(f:Nat):Option Nat:=([(54,1)]:List (Nat × Nat)).lookup f
def zqk(f n:Nat):Bool:=match xAr f with
 | none=>true
 | some k=>n == k
def zdT:Bool:=false
theorem zea{f:Nat}(h:(xAr f).isNone=true)(n:Nat):zqk f n=true:=by
 unfold zqk
 cases hx:xAr f with
 | none=>rfl
 | some k=>rw[hx] at h;cases h
abbrev BR:=Nat->Np
def BR.One(R:BR):Prop:=(∀ b c c',R b c->R b c'->c=c')/\(∀ b b' c,R b c->R b' c->b=b')
def BR.le(R R':BR):Prop:=(∀ b c,R b c->R' b c)/\(R.One->R'.One)
theorem BR.le_refl(R:BR):R.le R:=⟨fun _ _ h=>h,fun h=>h⟩
theorem BR.le_trans{R R' R'':BR}(h:R.le R')(h':R'.le R''):R.le R'':=⟨fun b c x=>h'.1 b c (h.1 b c x),fun x=>h'.2 (h.2 x)⟩
def BR.more(R:BR)(x y:Nat):BR:=fun b c=>R b c\/(b=x/\c=y)
def zbY(R:BR)(a c:Addr):Prop:=R a.block c.block/\a.off=c.off/\a.spot=c.spot
theorem zbY.mono{R R':BR}(hR:R.le R'){c:Addr}(h:zbY R a c):zbY R' a c:=⟨hR.1 _ _ h.1,h.2⟩
def zos:Fn->Bool
 | .func f=>(xAr f).isNone
 | .via _ path f _=>path.isEmpty && (xAr f).isNone
 | _=>false
def zfF:Value->Bool
 | .bool _|.int _ _|.string _|.agg _|.tuple _|.iface _ _|.nilIface|.pointer none|.nilFunc|.func (.method _) _ _=>false
 | _=>true
inductive zaj(R:BR):Value->Value->Prop
 | bool (b:Bool):zaj R (.bool b) (.bool b)
 | int (k:IntKind) (n:Int):zaj R (.int k n) (.int k n)
 | string (s:ByteArray):zaj R (.string s) (.string s)
 | ptr {a c:Addr}:zbY R a c->zaj R (.pointer (some a)) (.pointer (some c))
 | nilPtr:zaj R (.pointer none) (.pointer none)
 | slice {a c:Addr} (n m:Nat):zbY R a c->zaj R (.slice (some a) n m) (.slice (some c) n m)
 | nilSlice (n m:Nat):zaj R (.slice none n m) (.slice none n m)
 | empty (a c:Addr):zaj R (.slice (some a) 0 0) (.slice (some c) 0 0)
 | map {r s:Nat}:R r s->zaj R (.map (some r)) (.map (some s))
 | nilMap:zaj R (.map none) (.map none)
 | nilChan:zaj R (.chan none) (.chan none)
 | func (fn:Fn) {f f' c c':Array Value}:zos fn=true->f.size=f'.size->(∀ i (h:i<f.size) (h':i<f'.size),zaj R f[i] f'[i])->c.size=c'.size->(∀ i (h:i<c.size) (h':i<c'.size),zaj R c[i] c'[i])->zaj R (.func fn f c) (.func fn f' c')
 | nilFunc:zaj R .nilFunc .nilFunc
 | iface (t:TypeId) {v v':Value}:zaj R v v'->zaj R (.iface t v) (.iface t v')
 | nilIface:zaj R .nilIface .nilIface
 | agg {c c':Array Value}:c.size=c'.size->(∀ i (h:i<c.size) (h':i<c'.size),zaj R c[i] c'[i])->zaj R (.agg c) (.agg c')
 | junkM {n n':String} {f c:Array Value}:zdT=false->zaj R (.func (.method n) #[.nilIface] #[]) (.func (.method n') f c)
 | junk {v':Value}:zdT=false->zfF v'=true->zaj R (.tuple #[]) v'
 | tuple {c c':Array Value}:c.size=c'.size->(∀ i (h:i<c.size) (h':i<c'.size),zaj R c[i] c'[i])->zaj R (.tuple c) (.tuple c')
theorem zaj.mono{R R':BR}(hR:R.le R')(h:zaj R v v'):zaj R' v v':=by
 induction h with
 | bool b=>exact .bool b
 | int k n=>exact .int k n
 | string s=>exact .string s
 | ptr h=>exact .ptr (h.mono hR)
 | nilPtr=>exact .nilPtr
 | slice n m h=>exact .slice n m (h.mono hR)
 | nilSlice n m=>exact .nilSlice n m
 | empty a c=>exact .empty a c
 | map h=>exact .map (hR.1 _ _ h)
 | nilMap=>exact .nilMap
 | nilChan=>exact .nilChan
 | func fn h0 h1 _ h3 _ i1 i2=>exact .func fn h0 h1 i1 h3 i2
 | nilFunc=>exact .nilFunc
 | iface t _ i=>exact .iface t i
 | nilIface=>exact .nilIface
 | agg h1 _ i=>exact .agg h1 i
 | junkM h0=>exact .junkM h0
 | junk h0 h=>exact .junk h0 h
 | tuple h1 _ i=>exact .tuple h1 i
def zay(R:BR)(c c':Array Value):Prop:=c.size=c'.size/\∀ i (h:i<c.size) (h':i<c'.size),zaj R c[i] c'[i]
theorem zay.mono{R R':BR}(hR:R.le R')(h:zay R c c'):zay R' c c':=⟨h.1,fun i a b=>(h.2 i a b).mono hR⟩
structure zqd(R:BR)(e e':MapEntry):Prop where
 key:zaj R e.key e'.key
 val:zaj R e.val e'.val
 born:e.born=e'.born
def zc4(R:BR)(c c':Array MapEntry):Prop:=c.size=c'.size/\∀ i (h:i<c.size) (h':i<c'.size),zqd R c[i] c'[i]
theorem zqd.mono{R R':BR}(hR:R.le R'){e e':MapEntry}(h:zqd R e e'):zqd R' e e':=⟨h.key.mono hR,h.val.mono hR,h.born⟩
theorem zc4.mono{R R':BR}(hR:R.le R'){c c':Array MapEntry}(h:zc4 R c c'):zc4 R' c c':=⟨h.1,fun i a b=>(h.2 i a b).mono hR⟩
inductive zqf(R:BR):Obj->Obj->Prop
 | map {c c':Array MapEntry} {n:Nat}:zc4 R c c'->zqf R (.map c n) (.map c' n)
 | hid {c':Array MapEntry} {n:Nat}:zqf R (.coro none) (.map c' n)
 | number {a a':Addr} {l:Bool}:zbY R a a'->zqf R (.number a l) (.number a' l)
theorem zqf.mono{R R':BR}(hR:R.le R')(h:zqf R o o'):zqf R' o o':=by
 cases h with
 | map h=>exact .map (h.mono hR)
 | hid=>exact .hid
 | number h=>exact .number (h.mono hR)
inductive zp7(R:BR)(ro:Prop):Obj->Obj->Prop
 | cells {c c':Array Value} {e:TypeId} {f f':Nat × Nat}:zay R c c'->(ro->∀ i,i<c.size->f.1<=i/\i<f.2)->(¬ ro->f=f')->zp7 R ro (.cells c e f) (.cells c' e f')
 | other {o o':Obj}:zqf R o o'->(∀ c n,o=.map c n->¬ ro)->zp7 R ro o o'
theorem zp7.mono{R R':BR}(hR:R.le R'){ro:Prop}(h:zp7 R ro o o'):zp7 R' ro o o':=by
 cases h with
 | cells h1 h2 h3=>exact .cells (h1.mono hR) h2 h3
 | other h1 h2=>exact .other (h1.mono hR) h2
inductive zr6:Halt->Prop
 | panic (v:Value):zr6 (.panic v)
 | unsupported (u:Unsupported):zr6 (.unsupported u)
 | stuck (s:String):zr6 (.stuck s)
class zmi(h:Halt):Prop where
 soft:zr6 h
instance (v:Value):zmi (.panic v):=⟨.panic v⟩
instance (u:Unsupported):zmi (.unsupported u):=⟨.unsupported u⟩
instance (s:String):zmi (.stuck s):=⟨.stuck s⟩
def zcM{α:Type}(P:Program)(s:Sem α):Prop:=∀ w,∃ h w',s.run P w=.halt h w'/\zr6 h
class zaN{α:Type}(P:Program)(s:Sem α):Prop where
 soft:∀ w h w',s.run P w=.halt h w'->zr6 h
class zaD where
 low:Nat
inductive zag[low:zaD]{α:Type}(L M:Program)(Q:BR->α->α->Prop):BR->Sem α->Sem α->Prop
 | pure {R:BR} {a a':α}:Q R a a'->zag L M Q R (.pure a) (.pure a')
 | load {R:BR} {a a':Addr} {k k':Value->Sem α}:zbY R a a'->(∀ R':BR,R.le R'->∀ v v',zaj R' v v'->zag L M Q R' (k v) (k' v'))->zag L M Q R (.load .plain a k) (.load .plain a' k')
 | store {R:BR} {a a':Addr} {v v':Value} {k k':Sem α}:zbY R a a'->zaj R v v'->zag L M Q R k k'->zag L M Q R (.store .plain a v k) (.store .plain a' v' k')
 | new {R:BR} {o o':Obj} {k k':Nat->Sem α}:zp7 R False o o'->(∀ R':BR,R.le R'->∀ r r',R' r r'->zag L M Q R' (k r) (k' r'))->zag L M Q R (.new o k) (.new o' k')
 | shape {R:BR} {r r':Nat} {k k':Option (TypeId × Nat)->Sem α}:R r r'->(∀ s,zag L M Q R (k s) (k' s))->zag L M Q R (.shape r k) (.shape r' k')
 | getObj {R:BR} {r r':Nat} {k k':Obj->Sem α}:R r r'->(∀ R':BR,R.le R'->∀ o o',zqf R' o o'->(∀ c n,o=.map c n->low.low<=r)->zag L M Q R' (k o) (k' o'))->zag L M Q R (.getObj r k) (.getObj r' k')
 | setObj {R:BR} {r r':Nat} {c c':Array MapEntry} {n:Nat} {k k':Sem α}:low.low<=r->R r r'->zc4 R c c'->zag L M Q R k k'->zag L M Q R (.setObj r (.map c n) k) (.setObj r' (.map c' n) k')
 | choose {R:BR} {q:Question} {k k':Nat->Sem α}:(∀ n,zag L M Q R (k n) (k' n))->zag L M Q R (.choose q k) (.choose q k')
 | program {R:BR} {k k':Program->Sem α}:zag L M Q R (k L) (k' M)->zag L M Q R (.program k) (.program k')
 | mark {R:BR} {k k':Sem α}:zag L M Q R k k'->zag L M Q R (.mark .noRoom k) (.mark .noRoom k')
 | never {R:BR} {s s':Sem α}:zcM L s->zag L M Q R s s'
theorem zag.halt[low:zaD]{α:Type}{L M:Program}{Q:BR->α->α->Prop}{R:BR}{h:Halt}[S:zmi h]{s:Sem α}:zag L M Q R (.halt h) s:=.never (fun w=>⟨h,w,rfl,S.soft⟩)
theorem zaq{α β:Type}{s:Sem α}{f:α->Sem β}(h:zcM P s):zcM P (s.bind f):=by
 intro w
 obtain⟨hh,w',e,hs⟩:=h w
 have e2:=Sem.run_bind' P s f w
 rw[e] at e2
 exact⟨hh,w',e2,hs⟩
theorem zcM.not{α:Type}{s:Sem α}(h:zcM P s){x:α} :s.run P w≠.ok x w':=by
 obtain⟨hh,w2,e,_⟩:=h w
 rw[e]
 intro q
 cases q
theorem zag.imp[low:zaD]{α:Type}{L M:Program}{Q Q':BR->α->α->Prop}(hQ:∀ R a a',Q R a a'->Q' R a a'){R:BR}{s s':Sem α}(h:zag L M Q R s s'):zag L M Q' R s s':=by
 induction h with
 | pure h=>exact .pure (hQ _ _ _ h)
 | load h _ ih=>exact .load h ih
 | store h hv _ ih=>exact .store h hv ih
 | new h _ ih=>exact .new h ih
 | shape h _ ih=>exact .shape h ih
 | getObj h _ ih=>exact .getObj h ih
 | setObj hx h hc _ ih=>exact .setObj hx h hc ih
 | choose _ ih=>exact .choose ih
 | program _ ih=>exact .program ih
 | mark _ ih=>exact .mark ih
 | never h=>exact .never h
theorem zag.bind[low:zaD]{α β:Type}{L M:Program}{Q:BR->α->α->Prop}{Q':BR->β->β->Prop}{R:BR}{s s':Sem α}{f f':α->Sem β}(h:zag L M Q R s s')(hf:∀ R':BR,R.le R'->∀ a a',Q R' a a'->zag L M Q' R' (f a) (f' a')):zag L M Q' R (s.bind f) (s'.bind f'):=by
 induction h with
 | pure h=>exact hf _ (BR.le_refl _) _ _ h
 | load h _ ih=>exact .load h (fun R' hR v v' hv=>ih R' hR v v' hv (fun R'' hR''=>hf R'' (BR.le_trans hR hR'')))
 | store h hv _ ih=>exact .store h hv (ih hf)
 | new h _ ih=>exact .new h (fun R' hR r r' hr=>ih R' hR r r' hr (fun R'' hR''=>hf R'' (BR.le_trans hR hR'')))
 | shape h _ ih=>exact .shape h (fun s=>ih s hf)
 | getObj h _ ih=>exact .getObj h (fun R' hR o o' hc hn=>ih R' hR o o' hc hn (fun R'' hR''=>hf R'' (BR.le_trans hR hR'')))
 | setObj hx h hc _ ih=>exact .setObj hx h hc (ih hf)
 | choose _ ih=>exact .choose (fun n=>ih n hf)
 | program _ ih=>exact .program (ih hf)
 | mark _ ih=>exact .mark (ih hf)
 | never h=>exact .never (zaq h)
structure zbh(N:Nat)(R:BR)(w w':World):Prop where
 one:R.One
 blk:∀ b c,R b c->∃ o o',w.heap[b]?=some o/\w'.heap[c]?=some o'/\zp7 R (b<N) o o'
 tape:w.tape=w'.tape
 drawn:w.drawn=w'.drawn
 low:N<=w.heap.size
theorem zbh.lt{R:BR}(h:zbh N R w w'){b c:Nat}(hb:R b c):b<w.heap.size/\c<w'.heap.size:=by
 obtain⟨o,o',e1,e2,_⟩:=h.blk b c hb
 exact⟨(gei e1).1,(gei e2).1⟩
structure zeL(N:Nat)(R R':BR)(w w' w1 w1':World):Prop where
 le:R.le R'
 rel:zbh N R' w1 w1'
 new:∀ b c,R' b c->R b c\/(w.heap.size<=b/\w'.heap.size<=c)
 size:w'.heap.size<=w1'.heap.size
 sizeL:w.heap.size<=w1.heap.size
 kept:∀ c,c<w'.heap.size->(∀ b,R b c->b<N)->w1'.heap[c]?=w'.heap[c]?
 tp:w1'.tape=w'.tape
 os:w1'.os=w'.os
 out:w1'.output=w'.output
theorem zeL.refl{R:BR}(h:zbh N R w w'):zeL N R R w w' w w':=⟨BR.le_refl R,h,fun _ _ x=>Or.inl x,Nat.le_refl _,Nat.le_refl _,fun _ _ _=>rfl,rfl,rfl,rfl⟩
theorem zeL.trans{R R' R'':BR}{w2':World}(h:zeL N R R' w w' w1 w1')(h2:zeL N R' R'' w1 w1' w2 w2'):zeL N R R'' w w' w2 w2':=by
 refine⟨BR.le_trans h.le h2.le,h2.rel,fun b c x=>?_,Nat.le_trans h.size h2.size,Nat.le_trans h.sizeL h2.sizeL,fun c hc hn=>?_,h2.tp.trans h.tp,h2.os.trans h.os,h2.out.trans h.out⟩
 ·rcases h2.new b c x with y|y
  ·exact h.new b c y
  ·exact Or.inr ⟨Nat.le_trans h.sizeL y.1,Nat.le_trans h.size y.2⟩
 ·rw[h2.kept c (nll hc h.size) (fun b x=>?_)]
  ·exact h.kept c hc hn
  ·rcases h.new b c x with y|y
   ·exact hn b y
   ·omega
theorem zbh.cell{R:BR}(h:zbh N R w w'){c:Addr}(ha:zbY R a c)(hv:w.cell? a=some v):∃ v',w'.cell? c=some v'/\zaj R v v':=by
 obtain⟨h1,h2,h3⟩:=ha
 obtain⟨o,o',e1,e2,ho⟩:=h.blk _ _ h1
 cases ho with
 | @cells x y e f f' hr _ _ =>
  obtain⟨hs,hr⟩:=hr
  unfold World.cell? at hv ⊢
  rw[e1] at hv
  rw[e2]
  simp only at hv ⊢
  rw[<- h3,<- h2]
  by_cases hsp:a.spot.isSome=true
  ·rw[if_pos hsp] at hv;cases hv
  ·rw[if_neg hsp] at hv ⊢
   obtain⟨hi,rfl⟩:=gei hv
   have hi':a.off<y.size:=by rw[<- hs];exact hi
   exact⟨y[a.off],Array.getElem?_eq_getElem hi',hr _ hi hi'⟩
 | other hj _ =>
  unfold World.cell? at hv
  rw[e1] at hv
  cases hj <;> simp at hv
theorem zn1(h:w.cell? a=some v):∃ c e f,w.heap[a.block]?=some (.cells c e f)/\a.off<c.size/\a.spot.isSome=false:=by
 unfold World.cell? at h
 split at h
 ·rename_i c e f hc
  split at h
  ·cases h
  ·rename_i hs
   exact⟨c,e,f,hc,(gei h).1,by simpa using hs⟩
 ·cases h
theorem zbh.mine{R:BR}(h:zbh N R w w'){c:Addr}(ha:zbY R a c)(hv:w.cell? a=some v)(hf:w.frozen? a=false):N<=a.block/\w'.frozen? c=false:=by
 obtain⟨h1,h2,h3⟩:=ha
 obtain⟨x,e,f,e1,h0,_⟩:=zn1 hv
 obtain⟨o,o',e1',e2,ho⟩:=h.blk _ _ h1
 rw[e1] at e1'
 cases e1'
 cases ho with
 | other hj _=>cases hj
 | cells hr h4 h5 =>
  obtain⟨f1,f2⟩:=f
  have hN:N<=a.block:=by
   apply Nat.le_of_not_lt
   intro hlt'
   have hh:=h4 hlt' _ h0
   simp only[World.frozen?,e1] at hf
   simp only[Bool.and_eq_false_iff,decide_eq_false_iff_not] at hf
   omega
  refine⟨hN,?_⟩
  have e5:=h5 qg
  subst e5
  simp only[World.frozen?,e1] at hf
  simp only[World.frozen?,e2,<- h2]
  exact hf
theorem zbh.shp{R:BR}(h:zbh N R w w'){s:Nat}(hr:R r s):w.shape? r=w'.shape? s:=by
 obtain⟨o,o',e1,e2,ho⟩:=h.blk _ _ hr
 cases ho with
 | cells hr _ _=>simp only[World.shape?,e1,e2,hr.1]
 | other hj _=>cases hj <;> simp only[World.shape?,e1,e2]
theorem zay.set{R:BR}{x y:Array Value}(h:zay R x y)(i:Nat)(hv:zaj R v v'):zay R (x.setIfInBounds i v) (y.setIfInBounds i v'):=by
 refine⟨by simpa using h.1,fun j h1 h2=>?_⟩
 simp only[Array.size_setIfInBounds] at h1 h2
 rw[Array.getElem_setIfInBounds h1,Array.getElem_setIfInBounds h2]
 split
 ·exact hv
 ·exact h.2 j h1 h2
theorem zeL.store{R:BR}(h:zbh N R w w'){c:Addr}(ha:zbY R a c)(hN:N<=a.block)(hv:zaj R v v'):zeL N R R w w' (w.setCell a v) (w'.setCell c v'):=by
 have h6:zbh N R (w.setCell a v) (w'.setCell c v'):=by
  obtain⟨h1,h2,h3⟩:=ha
  refine⟨h.one,fun b d h0=>?_,h.tape,h.drawn,by simpa [World.setCell] using h.low⟩
  by_cases e:a.block=b
  ·subst e
   have ed:c.block=d:=h.one.1 _ _ _ h1 h0
   subst ed
   obtain⟨o,o',e1,e2,ho⟩:=h.blk _ _ h1
   cases ho with
   | @cells x y e f f' hr h4 h5 =>
    refine⟨.cells (if a.spot.isSome then x else x.setIfInBounds a.off v) e f,.cells (if c.spot.isSome then y else y.setIfInBounds c.off v') e f',by simp[World.setCell,Array.getElem?_modify,e1],by simp[World.setCell,Array.getElem?_modify,e2],.cells ?_ ?_ h5⟩
    ·rw[<- h3,<- h2]
     split
     ·exact hr
     ·exact hr.set _ hv
    ·intro h7
     omega
   | @other o o' hj h4=>exact⟨o,o',by cases hj <;> simp[World.setCell,Array.getElem?_modify,e1],by cases hj <;> simp[World.setCell,Array.getElem?_modify,e2],.other hj h4⟩
  ·have ed:¬ c.block=d:=fun q=>e (h.one.2 _ _ _ h1 (by rw[q];exact h0))
   have g1:(w.setCell a v).heap[b]?=w.heap[b]?:=by simp[World.setCell,Array.getElem?_modify,e]
   have g2:(w'.setCell c v').heap[d]?=w'.heap[d]?:=by simp[World.setCell,Array.getElem?_modify,ed]
   rw[g1,g2]
   exact h.blk _ _ h0
 refine⟨BR.le_refl _,h6,fun _ _ x=>Or.inl x,by simp[World.setCell],by simp[World.setCell],fun d _ hn=>?_,rfl,rfl,rfl⟩
 have:¬ c.block=d:=fun q=>by
  have:=hn a.block (by rw[<- q];exact ha.1)
  omega
 simp[World.setCell,Array.getElem?_modify,this]
theorem zeL.push{R:BR}(h:zbh N R w w')(ho:zp7 R False o o') :
  zeL N R (R.more w.heap.size w'.heap.size) w w' { w with heap:=w.heap.push o } { w' with heap:=w'.heap.push o' }:=by
 have h0:(R.more w.heap.size w'.heap.size).One:=by
  refine⟨fun b c c' x y=>?_,fun b b' c x y=>?_⟩
  ·rcases x with x|⟨rfl,rfl⟩
   ·rcases y with y|⟨rfl,rfl⟩
    ·exact h.one.1 _ _ _ x y
    ·exact absurd (h.lt x).1 qg
   ·rcases y with y|⟨_,rfl⟩
    ·exact absurd (h.lt y).1 qg
    ·rfl
  ·rcases x with x|⟨rfl,rfl⟩
   ·rcases y with y|⟨rfl,rfl⟩
    ·exact h.one.2 _ _ _ x y
    ·exact absurd (h.lt x).2 qg
   ·rcases y with y|⟨rfl,_⟩
    ·exact absurd (h.lt y).2 qg
    ·rfl
 have h4:R.le (R.more w.heap.size w'.heap.size):=⟨fun _ _ h=>Or.inl h,fun _=>h0⟩
 refine⟨h4,⟨h0,fun b c x=>?_,h.tape,h.drawn,by simp;have:=h.low;omega⟩,fun b c x=>?_,qm,qm,fun c hc _=>?_,rfl,rfl,rfl⟩
 ·rcases x with x|⟨rfl,rfl⟩
  ·have hl:=h.lt x
   have g1:(w.heap.push o)[b]?=w.heap[b]?:=by rw[Array.getElem?_push];rw[if_neg qg]
   have g2:(w'.heap.push o')[c]?=w'.heap[c]?:=by rw[Array.getElem?_push];rw[if_neg qg]
   simp only[g1,g2]
   obtain⟨p,p',e1,e2,hr⟩:=h.blk _ _ x
   exact⟨p,p',e1,e2,hr.mono h4⟩
  ·have hN:¬ w.heap.size<N:=by have:=h.low;omega
   refine⟨o,o',qm,qm,?_⟩
   cases ho.mono h4 with
   | cells h1 h2 h3=>exact .cells h1 (fun q=>absurd q hN) (fun _=>h3 (fun q=>q))
   | other h1 h2=>exact .other h1 (fun _ _ _=>hN)
 ·rcases x with x|⟨rfl,rfl⟩
  ·exact Or.inl x
  ·exact Or.inr ⟨Nat.le_refl _,Nat.le_refl _⟩
 ·simp only[Array.getElem?_push];rw[if_neg qg]
theorem zeL.remap{R:BR}(h:zbh N R w w'){s:Nat}(hr:R r s){c c':Array MapEntry}(hN:N<=r)(hc:zc4 R c c') :
  zeL N R R w w' { w with heap:=w.heap.setIfInBounds r (.map c n) } { w' with heap:=w'.heap.setIfInBounds s (.map c' n) }:=by
 have hl:=h.lt hr
 refine⟨BR.le_refl _,⟨h.one,fun b d h0=>?_,h.tape,h.drawn,by simpa using h.low⟩,fun _ _ x=>Or.inl x,qm,qm,fun d _ hn=>?_,rfl,rfl,rfl⟩
 ·by_cases e:r=b
  ·subst e
   have ed:s=d:=h.one.1 _ _ _ hr h0
   subst ed
   exact⟨_,_,Array.getElem?_setIfInBounds_self_of_lt hl.1,Array.getElem?_setIfInBounds_self_of_lt hl.2,.other (.map hc) (fun _ _ _=>qg)⟩
  ·have ed:¬ s=d:=fun q=>e (h.one.2 _ _ _ hr (by rw[q];exact h0))
   simp only[Array.getElem?_setIfInBounds_ne e,Array.getElem?_setIfInBounds_ne ed]
   exact h.blk _ _ h0
 ·have:s≠d:=fun q=>by
   have:=hn r (by rw[<- q];exact hr)
   omega
  simp only[Array.getElem?_setIfInBounds_ne this]
theorem zaj.flat{R:BR}(h:zaj R v v')(h1:∀ c,v≠.agg c)(h2:∀ c,v≠.tuple c):(∀ c,v'≠.agg c)/\(∀ c,v'≠.tuple c):=by
 cases h with
 | agg _ _=>exact absurd rfl (h1 _)
 | tuple _ _=>exact absurd rfl (h2 _)
 | junk _ _=>exact absurd rfl (h2 _)
 | _=>exact⟨fun c q=>(by cases q),fun c q=>(by cases q)⟩
theorem run_store{α:Type}(P:Program)(m:Mode)(a:Addr)(v:Value)(k:Sem α)(w:World)(h1:∀ c,v≠.agg c)(h2:∀ c,v≠.tuple c)(hc:w.cell? a=some u)(hf:w.frozen? a=false) :
  (Sem.store m a v k).run P w=k.run P (w.setCell a v):=by
 cases v with
 | agg c=>exact absurd rfl (h1 c)
 | tuple c=>exact absurd rfl (h2 c)
 | _=>simp only[Sem.run,hc,hf];rfl
theorem zm4{α:Type}(P:Program)(a:Addr)(v:Value)(k:Sem α)(w:World)(es:Array Event)(h1:∀ c,v≠.agg c)(h2:∀ c,v≠.tuple c)(hc:w.cell? a=some u)(hf:w.frozen? a=false) :
  (Sem.store .plain a v k).runT P w es=k.runT P (w.setCell a v) (es.push ⟨.cell a,true,false⟩):=by
 cases v with
 | agg c=>exact absurd rfl (h1 c)
 | tuple c=>exact absurd rfl (h2 c)
 | _=>simp only[Sem.runT,hc,hf];rfl
theorem zqD{R:BR}(hw:zbh N R w w'){c:Addr}(ha:zbY R a c)(m:Bool):∃ hh,w.farLoad P a m=.error hh:=by
 obtain⟨o,o',e1,e2,ho⟩:=hw.blk _ _ ha.1
 cases ho with
 | cells _ _ _=>exact⟨_,by simp[World.farLoad,e1];rfl⟩
 | other hj _=>cases hj <;> exact⟨_,by simp[World.farLoad,e1];rfl⟩
theorem zon{R:BR}(hw:zbh N R w w'){c:Addr}(ha:zbY R a c)(v:Value)(m:Bool):∃ hh,w.farStore P a v m=.error hh:=by
 obtain⟨o,o',e1,e2,ho⟩:=hw.blk _ _ ha.1
 cases ho with
 | cells _ _ _=>exact⟨_,by simp[World.farStore,e1];rfl⟩
 | other hj _=>cases hj <;> exact⟨_,by simp[World.farStore,e1];rfl⟩
theorem zig{α:Type}{m:Mode}{k:Sem α}{x:α}{R:BR}{c:Addr}(hw:zbh N R w w')(ha:zbY R a c)(h:(Sem.store m a v k).run P w=.ok x w1) :
  (∀ c,v≠.agg c)/\(∀ c,v≠.tuple c)/\(∃ u,w.cell? a=some u)/\w.frozen? a=false:=by
 have far:w.cell? a=none->False:=fun hn=>by
  obtain⟨hh,e⟩:=zon (P:=P) hw ha v (m == .atomic)
  cases v <;> simp[Sem.run,hn,e] at h
 have go:∃ u,w.cell? a=some u:=by
  cases hc:w.cell? a with
  | none=>exact(far hc).elim
  | some u=>exact⟨u,rfl⟩
 obtain⟨u,hu⟩:=go
 have h0:w.frozen? a=false:=by
  cases hf:w.frozen? a with
  | false=>rfl
  | true=>cases v <;> simp[Sem.run,hu,hf] at h
 refine⟨fun c q=>?_,fun c q=>?_,⟨u,hu⟩,h0⟩
 ·subst q;simp[Sem.run] at h
 ·subst q;simp[Sem.run] at h
theorem zjB{α:Type}{m:Mode}{k:Value->Sem α}{x:α}{R:BR}{c:Addr}(hw:zbh N R w w')(ha:zbY R a c)(h:(Sem.load m a k).run P w=.ok x w1):∃ u,w.cell? a=some u:=by
 cases hc:w.cell? a with
 | some u=>exact⟨u,rfl⟩
 | none =>
  obtain⟨hh,e⟩:=zqD (P:=P) hw ha (m == .atomic)
  simp[Sem.run,hc,e] at h
def EvR(N:Nat)(R:BR)(e:Event):Prop :=
 (∃ a b wr,e=⟨.cell a,wr,false⟩/\R b a.block/\(wr=true->N<=b))\/(∃ r b wr,e=⟨.obj r,wr,false⟩/\R b r/\(wr=true->N<=b))\/e=⟨.mark .noRoom,false,true⟩
theorem EvR.mono{R R':BR}(h:R.le R')(he:EvR N R e):EvR N R' e:=by
 rcases he with ⟨a,b,wr,e,h1,h2⟩|⟨r,b,wr,e,h1,h2⟩|e
 ·exact Or.inl ⟨a,b,wr,e,h.1 _ _ h1,h2⟩
 ·exact Or.inr (Or.inl ⟨r,b,wr,e,h.1 _ _ h1,h2⟩)
 ·exact Or.inr (Or.inr e)
def _root_.Go.World.tp(w:World)(τ:Nat->Question->Nat)(d:Nat):World:={ w with tape:=τ,drawn:=d }
def zst{α:Type}(L:Program)(s:Sem α)(w:World)(x:α)(w1:World):Prop :=
 ∃ k,w1.tape=w.tape/\w1.drawn=w.drawn+k/\∀ τ d,(∀ i,i<k->∀ q,τ (d+i) q=w.tape (w.drawn+i) q)->s.run L (w.tp τ d)=.ok x (w1.tp τ (d+k))
theorem zil{α:Type}{Q:BR->α->α->Prop}{L M:Program}{R:BR}{s s':Sem α}(h:@zag ⟨N⟩ α L M Q R s s') :
  ∀ {w w' w1:World} {x:α},zbh N R w w'->s.run L w=.ok x w1 ->
   ∃ R' x' w1' es,(∀ es0,s'.runT M w' es0=(.ok x' w1',es0++es))/\zeL N R R' w w' w1 w1'/\Q R' x x'/\(∀ e∈es,EvR N R' e)/\zst L s w x w1:=by
 induction h with
 | pure h =>
  intro w w' w1 x hw hr
  simp only[Sem.run,Result.ok.injEq] at hr
  obtain⟨rfl,rfl⟩:=hr
  exact⟨_,_,_,#[],fun es0=>by simp[Sem.runT],zeL.refl hw,h,qm,0,rfl,rfl,fun τ d _=>rfl⟩
 | @load R a a' k k' ha _ ih =>
  intro w w' w1 x hw hr
  obtain⟨u,hu⟩:=zjB hw ha hr
  obtain⟨u',hu',hv⟩:=hw.cell ha hu
  simp only[Sem.run,hu] at hr
  obtain⟨R',x',w1',es,e,hg,hq,h1,k0,l1,l2,l3⟩:=ih _ (BR.le_refl _) u u' hv hw hr
  refine⟨R',x',w1',#[⟨.cell a',false,false⟩]++es,fun es0=>?_,hg,hq,?_,k0,l1,l2,fun τ d ht=>?_⟩
  ·simp only[Sem.runT,hu']
   rw[e]
   simp
   rfl
  ·intro x hx
   rcases Array.mem_append.1 hx with hx|hx
   ·have:x=⟨.cell a',false,false⟩:=by simpa using hx
    subst this
    exact Or.inl ⟨a',a.block,false,rfl,hg.le.1 _ _ ha.1,qm⟩
   ·exact h1 x hx
  ·have h4:(w.tp τ d).cell? a=some u:=hu
   simp only[Sem.run,h4]
   exact l3 τ d ht
 | @store R a a' v v' k k' ha hv _ ih =>
  intro w w' w1 x hw hr
  obtain⟨n1,n2,⟨u,hu⟩,hf⟩:=zig hw ha hr
  rw[run_store L _ _ _ _ _ n1 n2 hu hf] at hr
  obtain⟨m1,m2⟩:=hv.flat n1 n2
  obtain⟨u',hu',_⟩:=hw.cell ha hu
  obtain⟨hN,hf'⟩:=hw.mine ha hu hf
  have h2:=zeL.store hw ha hN hv
  obtain⟨R',x',w1',es,e,hg,hq,h1,k0,l1,l2,l3⟩:=ih h2.rel hr
  refine⟨R',x',w1',#[⟨.cell a',true,false⟩]++es,fun es0=>?_,h2.trans hg,hq,?_,k0,l1,l2,fun τ d ht=>?_⟩
  ·rw[zm4 M _ _ _ _ _ m1 m2 hu' hf',e]
   simp
  ·intro x hx
   rcases Array.mem_append.1 hx with hx|hx
   ·have:x=⟨.cell a',true,false⟩:=by simpa using hx
    subst this
    exact Or.inl ⟨a',a.block,true,rfl,hg.le.1 _ _ ha.1,fun _=>hN⟩
   ·exact h1 x hx
  ·rw[run_store L _ _ _ _ _ n1 n2 (show (w.tp τ d).cell? a=some u from hu) (show (w.tp τ d).frozen? a=false from hf)]
   exact l3 τ d ht
 | new ho _ ih =>
  intro w w' w1 x hw hr
  simp only[Sem.run] at hr
  have hp:=zeL.push hw ho
  obtain⟨R',x',w1',es,e,hg,hq,h1,k0,l1,l2,l3⟩:=ih _ hp.le _ _ (Or.inr ⟨rfl,rfl⟩) hp.rel hr
  exact⟨R',x',w1',es,fun es0=>by simp only[Sem.runT];exact e es0,hp.trans hg,hq,h1,k0,l1,l2,fun τ d ht=>by simp only[Sem.run];exact l3 τ d ht⟩
 | shape hrs _ ih =>
  intro w w' w1 x hw hr
  simp only[Sem.run,hw.shp hrs] at hr
  obtain⟨R',x',w1',es,e,hg,hq,h1,k0,l1,l2,l3⟩:=ih _ hw hr
  exact⟨R',x',w1',es,fun es0=>by simp only[Sem.runT];exact e es0,hg,hq,h1,k0,l1,l2,fun τ d ht=>by
   have h5:(w.tp τ d).shape? _=_:=hw.shp hrs
   simp only[Sem.run,h5]
   exact l3 τ d ht⟩
 | @getObj R r r' k k' hrs _ ih =>
  intro w w' w1 x hw hr
  obtain⟨o,o',e1,e2,ho⟩:=hw.blk _ _ hrs
  simp only[Sem.run,e1] at hr
  cases ho with
  | cells _ _ _=>simp at hr
  | @other o o' hj hN =>
   have hr2:(k o).run L w=.ok x w1:=by cases hj <;> exact hr
   obtain⟨R',x',w1',es,e,hg,hq,h1,k0,l1,l2,l3⟩:=ih _ (BR.le_refl _) _ _ hj (fun c n q=>Nat.le_of_not_lt (hN c n q)) hw hr2
   have hT:∀ es0,(Sem.getObj r' k').runT M w' es0=(k' o').runT M w' (es0.push ⟨.obj r',false,false⟩):=by
    intro es0
    cases hj <;> (simp only[Sem.runT,e2];rfl)
   refine⟨R',x',w1',#[⟨.obj r',false,false⟩]++es,fun es0=>?_,hg,hq,?_,k0,l1,l2,fun τ d ht=>?_⟩
   ·rw[hT,e]
    simp
   ·intro x hx
    rcases Array.mem_append.1 hx with hx|hx
    ·have:x=⟨.obj r',false,false⟩:=by simpa using hx
     subst this
     exact Or.inr (Or.inl ⟨r',r,false,rfl,hg.le.1 _ _ hrs,fun q=>by cases q⟩)
    ·exact h1 x hx
   ·have e1':(w.tp τ d).heap[r]?=some o:=e1
    have:=l3 τ d ht
    cases hj <;> (simp only[Sem.run,e1'];exact this)
 | @setObj R r r' c c' n k k' hx hrs hc _ ih =>
  intro w w' w1 x hw hr
  obtain⟨o,o',e1,e2,ho⟩:=hw.blk _ _ hrs
  simp only[Sem.run,e1] at hr
  cases ho with
  | cells _ _ _=>simp at hr
  | @other o o' hj hN =>
   have hr2:k.run L { w with heap:=w.heap.setIfInBounds r (.map c n) }=.ok x w1:=by cases hj <;> exact hr
   have h2:=zeL.remap (n:=n) hw hrs hx hc
   obtain⟨R',x',w1',es,e,hg,hq,h1,k0,l1,l2,l3⟩:=ih h2.rel hr2
   have hT:∀ es0,(Sem.setObj r' (.map c' n) k').runT M w' es0=k'.runT M { w' with heap:=w'.heap.setIfInBounds r' (.map c' n) } (es0.push ⟨.obj r',true,false⟩):=by
    intro es0
    cases hj <;> (simp only[Sem.runT,e2];rfl)
   refine⟨R',x',w1',#[⟨.obj r',true,false⟩]++es,fun es0=>?_,h2.trans hg,hq,?_,k0,l1,l2,fun τ d ht=>?_⟩
   ·rw[hT,e]
    simp
   ·intro x hx'
    rcases Array.mem_append.1 hx' with hx'|hx'
    ·have:x=⟨.obj r',true,false⟩:=by simpa using hx'
     subst this
     exact Or.inr (Or.inl ⟨r',r,true,rfl,hg.le.1 _ _ hrs,fun _=>hx⟩)
    ·exact h1 x hx'
   ·have e1':(w.tp τ d).heap[r]?=some o:=e1
    have:=l3 τ d ht
    cases hj <;> (simp only[Sem.run,e1'];exact this)
 | @choose R q k k' _ ih =>
  intro w w' w1 x hw hr
  simp only[Sem.run] at hr
  by_cases hq:q.forced=true
  ·rw[if_pos hq] at hr
   obtain⟨R',x',w1',es,e,hg,h3,h1,k0,l1,l2,l3⟩:=ih _ hw hr
   exact⟨R',x',w1',es,fun es0=>by simp only[Sem.runT];rw[if_pos hq];exact e es0,hg,h3,h1,k0,l1,l2,fun τ d ht=>by simp only[Sem.run];rw[if_pos hq];exact l3 τ d ht⟩
  ·rw[if_neg hq] at hr
   have ht:w.tape w.drawn q=w'.tape w'.drawn q:=by rw[hw.tape,hw.drawn]
   rw[ht] at hr
   have h6:zbh N R { w with drawn:=w.drawn+1 } { w' with drawn:=w'.drawn+1 }:=⟨hw.one,hw.blk,hw.tape,by simp[hw.drawn],hw.low⟩
   obtain⟨R',x',w1',es,e,hg,h3,h1,k0,l1,l2,l3⟩:=ih _ h6 hr
   exact⟨R',x',w1',es,fun es0=>by simp only[Sem.runT];rw[if_neg hq];exact e es0,⟨hg.le,hg.rel,hg.new,hg.size,hg.sizeL,hg.kept,hg.tp,hg.os,hg.out⟩,h3,h1,k0+1,l1,by simp at l2;omega,fun τ d ht=>by
    simp only[Sem.run]
    rw[if_neg hq]
    have h0:(w.tp τ d).tape (w.tp τ d).drawn q=w'.tape w'.drawn q:=by rw[<- hw.tape,<- hw.drawn];exact ht 0 qg q
    rw[h0]
    have:=l3 τ (d+1) (fun i hi q=>by have:=ht (i+1) qg q;simpa [Nat.add_assoc,Nat.add_comm 1 i] using this)
    simpa [World.tp,Nat.add_assoc,Nat.add_comm 1 k0] using this⟩
 | program _ ih =>
  intro w w' w1 x hw hr
  simp only[Sem.run] at hr
  obtain⟨R',x',w1',es,e,hg,hq,h1,k0,l1,l2,l3⟩:=ih hw hr
  exact⟨R',x',w1',es,fun es0=>by simp only[Sem.runT];exact e es0,hg,hq,h1,k0,l1,l2,fun τ d ht=>by simp only[Sem.run];exact l3 τ d ht⟩
 | mark _ ih =>
  intro w w' w1 x hw hr
  simp only[Sem.run] at hr
  obtain⟨R',x',w1',es,e,hg,hq,h1,k0,l1,l2,l3⟩:=ih hw hr
  refine⟨R',x',w1',#[⟨.mark .noRoom,false,true⟩]++es,fun es0=>?_,hg,hq,?_,k0,l1,l2,fun τ d ht=>?_⟩
  ·simp only[Sem.runT]
   rw[e]
   simp
  ·intro x hx
   rcases Array.mem_append.1 hx with hx|hx
   ·have:x=⟨.mark .noRoom,false,true⟩:=by simpa using hx
    subst this
    exact Or.inr (Or.inr rfl)
   ·exact h1 x hx
  ·simp only[Sem.run]
   exact l3 τ d ht
 | never h =>
  intro w w' w1 x hw hr
  exact absurd hr h.not
theorem zl3{α:Type}{Q:BR->α->α->Prop}{L M:Program}{R:BR}{s s':Sem α}(h:@zag ⟨N⟩ α L M Q R s s') :
  ∀ {w w' w1:World} {hh:Halt},zbh N R w w'->s.run L w=.halt hh w1->zr6 hh:=by
 have noc:∀(w:World) (a:Addr) (t:String),zr6 (w.noCell a t):=by
  intro w a t
  unfold World.noCell
  split
  ·exact .unsupported _
  ·exact .unsupported _
  ·exact .stuck _
 induction h with
 | pure h=>intro w w' w1 hh hw hr;simp[Sem.run] at hr
 | @load R a a' k k' ha _ ih =>
  intro w w' w1 hh hw hr
  cases hc:w.cell? a with
  | some u =>
   obtain⟨u',hu',hv⟩:=hw.cell ha hc
   simp only[Sem.run,hc] at hr
   exact ih _ (BR.le_refl _) u u' hv hw hr
  | none =>
   obtain⟨o,o',e1,e2,ho⟩:=hw.blk _ _ ha.1
   have e:w.farLoad L a (Mode.plain == .atomic)=.error (w.noCell a "load: no such cell"):=by
    cases ho with
    | cells _ _ _=>simp[World.farLoad,e1]
    | other hj _=>cases hj <;> simp[World.farLoad,e1]
   simp only[Sem.run,hc,e,Result.halt.injEq] at hr
   rw[<- hr.1]
   exact noc _ _ _
 | @store R a a' v v' k k' ha hv _ ih =>
  intro w w' w1 hh hw hr
  by_cases n1:∃ c,v=.agg c
  ·obtain⟨c,rfl⟩:=n1
   simp only[Sem.run,Result.halt.injEq] at hr
   rw[<- hr.1]
   exact .stuck _
  by_cases n2:∃ c,v=.tuple c
  ·obtain⟨c,rfl⟩:=n2
   simp only[Sem.run,Result.halt.injEq] at hr
   rw[<- hr.1]
   exact .stuck _
  have m1:∀ c,v≠.agg c:=fun c q=>n1 ⟨c,q⟩
  have m2:∀ c,v≠.tuple c:=fun c q=>n2 ⟨c,q⟩
  cases hc:w.cell? a with
  | some u =>
   cases hf:w.frozen? a with
   | false =>
    rw[run_store L _ _ _ _ _ m1 m2 hc hf] at hr
    exact ih (zeL.store hw ha (hw.mine ha hc hf).1 hv).rel hr
   | true =>
    cases v with
    | agg c=>exact absurd rfl (m1 c)
    | tuple c=>exact absurd rfl (m2 c)
    | _ =>
     simp only[Sem.run,hc,hf,if_true,Result.halt.injEq] at hr
     rw[<- hr.1]
     exact .unsupported _
  | none =>
   obtain⟨o,o',e1,e2,ho⟩:=hw.blk _ _ ha.1
   have e:w.farStore L a v (Mode.plain == .atomic)=.error (w.noCell a "store: no such cell"):=by
    cases ho with
    | cells _ _ _=>simp[World.farStore,e1]
    | other hj _=>cases hj <;> simp[World.farStore,e1]
   cases v with
   | agg c=>exact absurd rfl (m1 c)
   | tuple c=>exact absurd rfl (m2 c)
   | _ =>
    simp only[Sem.run,hc,e,Result.halt.injEq] at hr
    rw[<- hr.1]
    exact noc _ _ _
 | new ho _ ih =>
  intro w w' w1 hh hw hr
  simp only[Sem.run] at hr
  have hp:=zeL.push hw ho
  exact ih _ hp.le _ _ (Or.inr ⟨rfl,rfl⟩) hp.rel hr
 | shape hrs _ ih =>
  intro w w' w1 hh hw hr
  simp only[Sem.run,hw.shp hrs] at hr
  exact ih _ hw hr
 | @getObj R r r' k k' hrs _ ih =>
  intro w w' w1 hh hw hr
  obtain⟨o,o',e1,e2,ho⟩:=hw.blk _ _ hrs
  simp only[Sem.run,e1] at hr
  cases ho with
  | cells _ _ _ =>
   simp only[Result.halt.injEq] at hr
   rw[<- hr.1]
   exact .stuck _
  | @other o o' hj hN =>
   have hr2:(k o).run L w=.halt hh w1:=by cases hj <;> exact hr
   exact ih _ (BR.le_refl _) _ _ hj (fun c n q=>Nat.le_of_not_lt (hN c n q)) hw hr2
 | @setObj R r r' c c' n k k' hx hrs hc _ ih =>
  intro w w' w1 hh hw hr
  obtain⟨o,o',e1,e2,ho⟩:=hw.blk _ _ hrs
  simp only[Sem.run,e1] at hr
  cases ho with
  | cells _ _ _ =>
   simp only[Result.halt.injEq] at hr
   rw[<- hr.1]
   exact .stuck _
  | @other o o' hj hN =>
   have hr2:k.run L { w with heap:=w.heap.setIfInBounds r (.map c n) }=.halt hh w1:=by cases hj <;> exact hr
   exact ih (zeL.remap (n:=n) hw hrs hx hc).rel hr2
 | @choose R q k k' _ ih =>
  intro w w' w1 hh hw hr
  simp only[Sem.run] at hr
  split at hr
  ·exact ih _ hw hr
  ·have h0:zbh N R { w with drawn:=w.drawn+1 } { w' with drawn:=w'.drawn+1 }:=⟨hw.one,hw.blk,hw.tape,by simp[hw.drawn],hw.low⟩
   exact ih _ h0 hr
 | program _ ih=>intro w w' w1 hh hw hr;simp only[Sem.run] at hr;exact ih hw hr
 | mark _ ih=>intro w w' w1 hh hw hr;simp only[Sem.run] at hr;exact ih hw hr
 | never h =>
  intro w w' w1 hh hw hr
  obtain⟨h2,w2,e,hs⟩:=h w
  rw[e] at hr
  cases hr
  exact hs
class Twin(L M:Program):Prop where
 info:∀ t,M.info? t=L.info? t
 und:∀ t,M.underlying t=L.underlying t
variable{L M:Program}
abbrev QEq{α:Type}:BR->α->α->Prop:=fun _ a b=>a=b
abbrev QV:BR->Value->Value->Prop:=fun R v v'=>zaj R v v'
abbrev QA:BR->Addr->Addr->Prop:=fun R a a'=>zbY R a a'
abbrev QR:BR->Array Value->Array Value->Prop:=fun R c c'=>zay R c c'
theorem zad[low:zaD]{α:Type}{Q:BR->α->α->Prop}{R:BR}{a a':α}(h:Q R a a'):zag L M Q R (pure a) (pure a'):=.pure h
theorem zac[low:zaD]{α β:Type}{Q:BR->α->α->Prop}{Q':BR->β->β->Prop}{R:BR}{s s':Sem α}{f f':α->Sem β}(h:zag L M Q R s s')(hf:∀ R':BR,R.le R'->∀ a a',Q R' a a'->zag L M Q' R' (f a) (f' a')):zag L M Q' R (s >>= f) (s' >>= f'):=zag.bind h hf
theorem zaB[low:zaD]{α:Type}{Q:BR->α->α->Prop}{R:BR}{w:String}{s:Sem α}:zag L M Q R (stuck w) s:=.halt
abbrev QP(L M:Program):BR->Program->Program->Prop:=fun _ p p'=>p=L/\p'=M
theorem zaZ[low:zaD]{R:BR}:zag L M (QP L M) R program program:=.program (.pure ⟨rfl,rfl⟩)
theorem zpN[low:zaD]{R:BR}(h:zbY R a a'):zag L M QV R (load a) (load a'):=.load h fun _ _ _ _ hv=>.pure hv
theorem zrH[low:zaD]{R:BR}(h:zbY R a a')(hv:zaj R v v'):zag L M QEq R (store a v) (store a' v'):=.store h hv (.pure rfl)
theorem zbr[low:zaD][Twin L M]{R:BR}(t:TypeId):zag L M QEq R (typeInfo t) (typeInfo t):=by
 unfold typeInfo
 refine zac zaZ ?_
 rintro R' _ p p' ⟨rfl,rfl⟩
 rw[Twin.info (L:=p) (M:=p') t]
 split
 ·exact zad rfl
 ·exact zaB
theorem zai[low:zaD][Twin L M]{R:BR}(t:TypeId):zag L M QEq R (underlying t) (underlying t):=by
 unfold underlying
 refine zac zaZ ?_
 rintro R' _ p p' ⟨rfl,rfl⟩
 rw[Twin.und (L:=p) (M:=p') t]
 split
 ·exact zad rfl
 ·exact zaB
theorem zaE[low:zaD][Twin L M]{R:BR}(t:TypeId):zag L M QEq R (sizeOf t) (sizeOf t):=by
 unfold Go.sizeOf
 refine zac (zbr t) ?_
 rintro R' _ p _ rfl
 exact zad rfl
theorem zl7[low:zaD][Twin L M]{R:BR}(t:TypeId):zag L M QEq R (isAgg t) (isAgg t):=by
 unfold isAgg
 refine zac (zai t) ?_
 rintro R' _ p _ rfl
 split <;> exact zad rfl
theorem zbY.add{R:BR}(h:zbY R a a')(n:Nat):zbY R (a.add n) (a'.add n):=by
 unfold Addr.add
 split
 ·exact h
 ·exact⟨h.1,by simp[h.2.1],rfl⟩
theorem zay.push{R:BR}(h:zay R c c')(hv:zaj R v v'):zay R (c.push v) (c'.push v'):=by
 refine⟨by simp[h.1],fun i h1 h2=>?_⟩
 rw[Array.getElem_push,Array.getElem_push]
 simp only[Array.size_push] at h1 h2
 by_cases hi:i<c.size
 ·have hi':i<c'.size:=by rw[<- h.1];exact hi
  rw[dif_pos hi,dif_pos hi']
  exact h.2 i hi hi'
 ·rw[dif_neg hi,dif_neg (by rw[<- h.1];exact hi)]
  exact hv
theorem zff[low:zaD]{R:BR}(h:zbY R a a'):∀(n i:Nat) {acc acc':Array Value},zay R acc acc'->zag L M QR R (loadCellsFrom a i n acc) (loadCellsFrom a' i n acc'):=by
 intro n
 induction n generalizing R with
 | zero=>exact fun i acc acc' hr=>zad hr
 | succ n ih =>
  intro i acc acc' hr
  refine zac (zpN (h.add i)) ?_
  intro R' hR v v' hv
  exact ih (h.mono hR) (i+1) ((hr.mono hR).push hv)
theorem zay.nil{R:BR}:zay R #[] #[]:=⟨rfl,fun i h _=>absurd h qm⟩
theorem ze5[low:zaD]{R:BR}(h:zbY R a a')(n:Nat):zag L M QR R (loadCells a n) (loadCells a' n):=zff h n 0 zay.nil
theorem zeV[low:zaD][Twin L M]{R:BR}(t:TypeId)(h:zbY R a a'):zag L M QV R (loadVar t a) (loadVar t a'):=by
 unfold loadVar
 refine zac (zl7 t) ?_
 rintro R' hR b _ rfl
 cases b with
 | true =>
  refine zac (zaE t) ?_
  rintro R2 h0 n _ rfl
  refine zac (ze5 ((h.mono hR).mono h0) n) ?_
  intro R3 h1 c c' hc
  exact zad (.agg hc.1 hc.2)
 | false=>exact zpN (h.mono hR)
theorem zay.one{R:BR}(h:zaj R v v'):zay R #[v] #[v']:=zay.nil.push h
theorem zaj.cells{R:BR}(h:zaj R v v'):zay R v.cells v'.cells:=by
 cases h with
 | agg h1 h2=>exact⟨h1,h2⟩
 | bool b=>exact zay.one (.bool b)
 | int k n=>exact zay.one (.int k n)
 | map h=>exact zay.one (.map h)
 | nilMap=>exact zay.one .nilMap
 | nilChan=>exact zay.one .nilChan
 | string s=>exact zay.one (.string s)
 | ptr h=>exact zay.one (.ptr h)
 | nilPtr=>exact zay.one .nilPtr
 | slice n m h=>exact zay.one (.slice n m h)
 | nilSlice n m=>exact zay.one (.nilSlice n m)
 | empty a c=>exact zay.one (.empty a c)
 | func fn h0 h1 h2 h3 h4=>exact zay.one (.func fn h0 h1 h2 h3 h4)
 | nilFunc=>exact zay.one .nilFunc
 | iface t h=>exact zay.one (.iface t h)
 | nilIface=>exact zay.one .nilIface
 | tuple h1 h2=>exact zay.one (.tuple h1 h2)
 | junkM h0=>exact zay.one (.junkM h0)
 | @junk v' hj0 hj =>
  have e:v'.cells=#[v']:=by cases v' with|agg c=>cases hj|_=>rfl
  rw[e]
  exact zay.one (.junk hj0 hj)
theorem zaj.slice_at{R:BR}{c:Nat}(h:zaj R (.slice (some a) n c) v')(hc:0<c):∃ a',v'=.slice (some a') n c/\zbY R a a':=by
 cases h with
 | slice _ _ h=>exact⟨_,rfl,h⟩
 | empty _ _=>omega
inductive zhC(R:BR):List Value->List Value->Prop
 | nil:zhC R [] []
 | cons {v v':Value} {r r':List Value}:zaj R v v'->zhC R r r'->zhC R (v::r) (v'::r')
theorem zhC.mono{R R':BR}(hR:R.le R'){l l':List Value}(h:zhC R l l'):zhC R' l l':=by
 induction h with
 | nil=>exact .nil
 | cons hv _ ih=>exact .cons (hv.mono hR) ih
theorem zhC.of_get{R:BR}:∀(l l':List Value),l.length=l'.length->(∀ i (h:i<l.length) (h':i<l'.length),zaj R l[i] l'[i])->zhC R l l'
 | [],[],_,_=>.nil
 | [],_::_,h,_=>by simp at h
 | _::_,[],h,_=>by simp at h
 | v::r,v'::r',h,hg=>.cons (hg 0 qm qm) (zhC.of_get r r' (by simpa using h) (fun i h1 h2=>hg (i+1) (Nat.succ_lt_succ h1) (Nat.succ_lt_succ h2)))
theorem zay.all{R:BR}(h:zay R c c'):zhC R c.toList c'.toList :=
 zhC.of_get _ _ (by simpa using h.1) (fun i h1 h2=>by simpa using h.2 i (by simpa using h1) (by simpa using h2))
theorem zcV[low:zaD]{R:BR}(h:zbY R a a'){vs vs':List Value}(hf:zhC R vs vs'):∀(i:Nat),zag L M QEq R (storeCells a vs i) (storeCells a' vs' i):=by
 induction vs generalizing R vs' with
 | nil=>intro i;cases hf;exact zad rfl
 | cons v r ih =>
  intro i
  cases hf with
  | cons hv hr =>
   refine zac (zrH (h.add i) hv) ?_
   intro R' hR _ _ _
   exact ih (h.mono hR) (hr.mono hR) (i+1)
theorem zkX[low:zaD][Twin L M]{R:BR}(t:TypeId)(h:zbY R a a')(hv:zaj R v v'):zag L M QEq R (storeVar t a v) (storeVar t a' v'):=by
 unfold storeVar
 refine zac (zaE t) ?_
 rintro R' hR n _ rfl
 have hc:=(hv.mono hR).cells
 rw[<- hc.1]
 split
 ·exact zag.halt
 ·exact zcV (h.mono hR) (zay.all hc) 0
theorem zb9[low:zaD]{R:BR}(h:zaj R v v'):zag L M QA R (Instr.sureAddr v) (Instr.sureAddr v'):=by
 cases h with
 | ptr h=>exact zad h
 | _=>exact zag.halt
theorem zpO[low:zaD][Twin L M]{R:BR}(t:TypeId)(h:zaj R v v'):zag L M QV R (Instr.loadAt t v) (Instr.loadAt t v') :=
 zac (zb9 h) fun _ _ _ _ ha=>zeV t ha
theorem znu[low:zaD][Twin L M]{R:BR}(t:TypeId)(h:zaj R v v')(hx:zaj R x x'):zag L M QEq R (Instr.storeAt t v x) (Instr.storeAt t v' x') :=
 zac (zb9 h) fun _ hR _ _ ha=>zkX t ha (hx.mono hR)
theorem zgr[low:zaD]{R:BR}(h:zp7 R False o o'):zag L M (fun R r r'=>R r r') R (newObj o) (newObj o'):=.new h fun _ _ _ _ hr=>.pure hr
theorem zey[low:zaD]{R:BR}(e:TypeId)(h:zay R c c'):zag L M QA R (newRow e c) (newRow e c') :=
 zac (zgr (.cells h (fun q=>q.elim) (fun _=>rfl))) fun _ _ _ _ hr=>zad ⟨hr,rfl,rfl⟩
theorem zjL[low:zaD]{R:BR}(e:TypeId)(h:zaj R v v'):zag L M QA R (newVar e v) (newVar e v'):=zey e h.cells
theorem ztW[low:zaD]{R:BR}(e:TypeId)(h:zaj R v v'):zag L M QV R (Instr.box e v) (Instr.box e v') :=
 zac (zjL e h) fun _ _ _ _ ha=>zad (.ptr ha)
theorem zno[low:zaD]{R:BR}(h:zaj R v v')(i:Nat):zag L M QV R (Instr.extract v i) (Instr.extract v' i):=by
 cases h with
 | tuple h1 h2 =>
  unfold Instr.extract
  rename_i c c'
  by_cases hi:i<c.size
  ·have hi':i<c'.size:=by rw[<- h1];exact hi
   simp only[Array.getElem?_eq_getElem hi,Array.getElem?_eq_getElem hi']
   exact zad (h2 i hi hi')
  ·simp only[Array.getElem?_eq_none (Nat.le_of_not_lt hi)]
   exact zaB
 | _=>exact zag.halt
instance softly_pure {P:Program} {α:Type} (a:α):zaN P (pure a:Sem α):=⟨fun w h w' q=>by simp[pure] at q⟩
instance softly_bind {P:Program} {α β:Type} (s:Sem α) (f:α->Sem β) [S:zaN P s] [F:∀ a,zaN P (f a)]:zaN P (s >>= f):=⟨fun w h w' q=>by
 rw[Sem.run_bind] at q
 cases hs:s.run P w with
 | ok y v=>rw[hs] at q;exact(F y).soft v h w' q
 | halt hh v =>
  rw[hs] at q
  have:hh=h:=by simp[Result.andThen] at q;exact q.1
  subst this
  exact S.soft w hh v hs⟩
instance softly_halt {P:Program} {α:Type} (h:Halt) [S:zmi h]:zaN P (Sem.halt h:Sem α):=⟨fun w hh w' q=>by simp[Sem.run] at q;rw[<- q.1];exact S.soft⟩
instance softly_stuck {P:Program} {α:Type} (t:String):zaN P (stuck t:Sem α):=softly_halt (.stuck t)
instance softly_unsup {P:Program} {α:Type} (u:Unsupported):zaN P (unsupported u:Sem α):=softly_halt (.unsupported u)
instance softly_choose {P:Program} (q:Question):zaN P (choose q):=⟨fun w h w' e=>by simp only[choose,Sem.run] at e;split at e <;> simp at e⟩
instance softly_program {P:Program}:zaN P program:=⟨fun w h w' e=>by simp[program,Sem.run] at e⟩
instance softly_shape {P:Program} (r:Nat):zaN P (shape r):=⟨fun w h w' e=>by simp[shape,Sem.run] at e⟩
instance softly_frozen {P:Program} (a:Addr):zaN P (frozen a):=⟨fun w h w' e=>by simp[frozen,Sem.run] at e⟩
instance softly_mark {P:Program} (m:Mark):zaN P (mark m):=⟨fun w h w' e=>by simp[mark,Sem.run] at e⟩
instance softly_newObj {P:Program} (o:Obj):zaN P (newObj o):=⟨fun w h w' e=>by simp[newObj,Sem.run] at e⟩
instance softly_getObj {P:Program} (r:Nat):zaN P (getObj r):=⟨fun w h w' e=>by
 simp only[getObj,Sem.run] at e
 split at e
 ·simp at e;rw[<- e.1];exact .stuck _
 ·simp at e
 ·simp at e;rw[<- e.1];exact .stuck _⟩
instance softly_ite {P:Program} {α:Type} (c:Prop) [Decidable c] (a b:Sem α) [A:zaN P a] [B:zaN P b]:zaN P (if c then a else b):=by split <;> assumption
instance softly_typeInfo {P:Program} (t:TypeId):zaN P (typeInfo t):=by
 unfold typeInfo
 have:∀ p:Program,zaN P (match p.info? t with|some i=>(pure i:Sem TypeInfo)|none=>stuck "no such type"):=fun p=>by split <;> infer_instance
 infer_instance
instance softly_underlying {P:Program} (t:TypeId):zaN P (underlying t):=by
 unfold underlying
 have:∀ p:Program,zaN P (match p.underlying t with|some i=>(pure i:Sem TypeDesc)|none=>stuck "no such type"):=fun p=>by split <;> infer_instance
 infer_instance
instance softly_newVar {P:Program} (t:TypeId) (v:Value):zaN P (newVar t v):=by
 unfold newVar newRow
 infer_instance
instance softly_elemOf {P:Program} (t:TypeId):zaN P (elemOf t):=by
 unfold elemOf
 have:∀ d:TypeDesc,zaN P (match d with|.pointer e=>(pure e:Sem TypeId)|_=>stuck "pointer type expected"):=fun d=>by split <;> infer_instance
 infer_instance
theorem zat{α β:Type}{s:Sem α}[S:zaN P s]{f:α->Sem β}(h:∀ a,zcM P (f a)):zcM P (s >>= f):=fun w=>by
 rw[Sem.run_bind]
 cases hs:s.run P w with
 | ok y v=>exact h y v
 | halt hh v=>exact⟨hh,v,rfl,S.soft w hh v hs⟩
theorem zan{α:Type}{hh:Halt}[S:zmi hh]:zcM P (Sem.halt hh:Sem α):=fun w=>⟨hh,w,rfl,S.soft⟩
theorem zao{α:Type}(e:RuntimeError):zcM P (runtimePanic e:Sem α):=by
 unfold runtimePanic
 refine zat fun p=>?_
 cases e with
 | bounds=>exact zan
 | error=>exact zan
 | plain=>exact zan
 | nilDeref=>exact zan
 | typeAssertion=>exact zat fun _=>zat fun _=>zan
 | panicNil=>exact zat fun _=>zat fun _=>zan
 | unhashable=>exact zan
theorem za2{α:Type}(k:IntKind)(x y:Int)(c:BoundsCode):zcM P (boundsPanic k x y c:Sem α):=by
 unfold boundsPanic
 split
 ·rw[<- bind_pure_comp]
  exact zat fun _=>zao _
 ·exact zat fun _=>zao _
def Plain(v:Value):Prop:=∀ R:BR,zaj R v v
def zbt(P:Program):Prop:=∀ t i v,P.info? t=some i->i.zero=some v->Plain v
theorem zdv[low:zaD][Twin L M]{R:BR}(t:TypeId):zag L M (fun _ i i'=>i=i'/\L.info? t=some i) R (typeInfo t) (typeInfo t):=by
 unfold typeInfo
 refine zac zaZ ?_
 rintro R' _ p p' ⟨rfl,rfl⟩
 rw[Twin.info (L:=p) (M:=p') t]
 split
 ·next i hi=>exact zad ⟨rfl,hi⟩
 ·exact zaB
theorem zbs[low:zaD][Twin L M](hz:zbt L){R:BR}(t:TypeId):zag L M QV R (zeroValue t) (zeroValue t):=by
 unfold zeroValue
 refine zac (zdv t) ?_
 rintro R' _ i _ ⟨rfl,hi⟩
 split
 ·next v hv=>exact zad (hz t i v hi hv R')
 ·exact zag.halt
theorem zry[low:zaD][Twin L M](hz:zbt L){R:BR}(e:TypeId):zag L M QV R (Instr.alloc e true (.tuple #[])) (Instr.alloc e true (.tuple #[])):=by
 unfold Instr.alloc
 refine zac (zbs hz e) ?_
 intro R' _ v v' hv
 exact zac (zjL e hv) fun _ _ _ _ ha=>zad (.ptr ha)
theorem zfg[low:zaD][Twin L M]{R:BR}(t:TypeId)(h:zaj R v v'):zag L M QV R (Instr.makeInterface t v) (Instr.makeInterface t v'):=by
 unfold Instr.makeInterface
 refine zac (zai t) ?_
 rintro R' hR d _ rfl
 split
 ·exact zaB
 ·exact zad (.iface t (h.mono hR))
theorem zrz[low:zaD]{R:BR}(h:zaj R v v'):zag L M QR R (asAgg v) (asAgg v'):=by
 cases h with
 | agg h1 h2=>exact zad ⟨h1,h2⟩
 | _=>exact zag.halt
theorem zay.ext{R:BR}(h:zay R c c')(i j:Nat):zay R (c.extract i j) (c'.extract i j):=by
 refine⟨by simp[h.1],fun k h1 h2=>?_⟩
 simp only[Array.getElem_extract]
 exact h.2 _ _ _
theorem zgt[low:zaD][Twin L M]{R:BR}(t:TypeId)(h:zay R c c')(off:Nat):zag L M QV R (part t c off) (part t c' off):=by
 unfold part
 refine zac (zl7 t) ?_
 rintro R' hR b _ rfl
 cases b with
 | true =>
  refine zac (zaE t) ?_
  rintro R2 h0 n _ rfl
  have:=((h.mono hR).mono h0).ext off (off+n)
  exact zad (.agg this.1 this.2)
 | false =>
  by_cases hi:off<c.size
  ·have hi':off<c'.size:=by rw[<- h.1];exact hi
   simp only[Bool.false_eq_true,if_false,Array.getElem?_eq_getElem hi,Array.getElem?_eq_getElem hi']
   exact zad ((h.2 off hi hi').mono hR)
  ·simp only[Bool.false_eq_true,if_false,Array.getElem?_eq_none (Nat.le_of_not_lt hi)]
   exact zaB
theorem zrC[low:zaD][Twin L M]{R:BR}(t:TypeId)(h:zaj R v v')(f:Nat):zag L M QV R (Instr.field t v f) (Instr.field t v' f):=by
 unfold Instr.field
 refine zac (zai t) ?_
 rintro R' hR d _ rfl
 split
 ·split
  ·exact zac (zrz (h.mono hR)) fun _ _ _ _ hc=>zgt _ hc _
  ·exact zaB
 ·exact zaB
theorem zcI[low:zaD]{R:BR}(h:zaj R v v'):zag L M QEq R (asIntOf v) (asIntOf v'):=by
 cases h with
 | int k n=>exact zad rfl
 | _=>exact zag.halt
theorem zex[low:zaD]{R:BR}(h:zaj R v v'):zag L M QEq R (asInt v) (asInt v'):=by
 unfold asInt
 refine zac (zcI h) ?_
 rintro R' _ p _ rfl
 exact zad rfl
theorem zpF[low:zaD]{R:BR}(h:zaj R v v'):zag L M QEq R (asBool v) (asBool v'):=by
 cases h with
 | bool b=>exact zad rfl
 | _=>exact zag.halt
theorem zrD[low:zaD][Twin L M]{R:BR}(t:TypeId){i i':Value}(h:zaj R v v')(hi:zaj R i i'):zag L M QV R (Instr.index t v i) (Instr.index t v' i'):=by
 unfold Instr.index
 refine zac (zcI hi) ?_
 rintro R' hR ⟨k,n⟩ _ rfl
 refine zac (zai t) ?_
 rintro R2 h0 d _ rfl
 replace h:=(h.mono hR).mono h0
 cases h with
 | agg h1 h2 =>
  split
  ·split
   ·refine zac (zaE _) ?_
    rintro R3 h3 m _ rfl
    rename_i e1 e2 _
    cases e2
    exact zgt _ (zay.mono h3 ⟨h1,h2⟩) _
   ·exact zag.never (za2 _ _ _ _)
  ·next e2=>cases e2
  ·exact zaB
 | string s =>
  split
  ·next e2=>cases e2
  ·next e2=>cases e2;split
            · exact zad (.int _ _)
            · exact zag.never (za2 _ _ _ _)
  ·exact zaB
 | _=>split <;> first|(next e2=>cases e2)|exact zaB
end
section
open Go
variable{L M:Program}
theorem zeA[low:zaD]{R:BR}(h:R r r'):zag L M QEq R (shape r) (shape r'):=.shape h fun _=>.pure rfl
theorem zem{α:Type}{c:Prop}[Decidable c]{a b:Sem α}(ha:zcM P a)(hb:zcM P b):zcM P (if c then a else b):=by
 split
 ·exact ha
 ·exact hb
theorem zaJ[low:zaD][Twin L M]{R:BR}(t:TypeId):zag L M (fun _ d d'=>d=d'/\L.underlying t=some d) R (underlying t) (underlying t):=by
 unfold underlying
 refine zac zaZ ?_
 rintro R' _ p p' ⟨rfl,rfl⟩
 rw[Twin.und (L:=p) (M:=p') t]
 split
 ·next d hd=>exact zad ⟨rfl,hd⟩
 ·exact zaB
theorem znp[low:zaD][Twin L M]{R:BR}(s:TypeId)(h:zaj R v v')(f:Nat)(hp:∀ fs fd,L.underlying s=some (.struct fs)->fs[f]?=some fd->∀ i,L.info? fd.type=some i->i.size≠0):zag L M QV R (Instr.fieldAt s v f) (Instr.fieldAt s v' f):=by
 unfold Instr.fieldAt
 refine zac (zaJ s) ?_
 rintro R' hR d _ ⟨rfl,hd⟩
 split
 ·next fs =>
  split
  ·next fd hfd =>
   refine zac (zb9 (h.mono hR)) ?_
   intro R2 h2 a a' ha
   refine zac (Q:=QA) ?_ (fun _ _ _ _ hx=>zad (.ptr hx))
   unfold fieldPlace
   have h0:zag L M (fun _ n n'=>n=n'/\n≠0) R2 (Go.sizeOf fd.type) (Go.sizeOf fd.type):=by
    unfold Go.sizeOf
    refine zac (zdv fd.type) ?_
    rintro R3 _ i _ ⟨rfl,hi⟩
    exact zad ⟨rfl,hp fs fd hd hfd i hi⟩
   refine zac h0 ?_
   rintro R3 h1 n _ ⟨rfl,hn⟩
   rw[if_neg hn,if_neg hn]
   exact zad ((ha.mono h1).add _)
  ·exact zaB
 ·exact zaB
theorem znq[low:zaD][Twin L M]{R:BR}(t:TypeId){i i':Value}(h:zaj R x x')(hi:zaj R i i'):zag L M QV R (Instr.indexAt t x i) (Instr.indexAt t x' i'):=by
 unfold Instr.indexAt
 refine zac (zcI hi) ?_
 rintro R' hR ⟨k,n⟩ _ rfl
 refine zac (zai t) ?_
 rintro R2 h3 d _ rfl
 replace h:=(h.mono hR).mono h3
 cases d with
 | array len elem =>
  refine zac (zb9 h) ?_
  intro R3 h4 a a' ha
  show zag L M QV R3 (underlying t >>= _) (underlying t >>= _)
  refine zac (zai t) ?_
  rintro R4 h1 d2 _ rfl
  by_cases h0:0<=n/\n<((len:Nat):Int)
  ·simp only[if_pos h0]
   refine zac (zaE _) ?_
   rintro R5 h2 m _ rfl
   exact zad (.ptr ((((ha)).mono h1).mono h2 |>.add _))
  ·simp only[if_neg h0]
   exact zag.never (zem zan (za2 _ _ _ _))
 | slice elem =>
  cases h with
  | slice n2 m ha =>
   show zag L M QV R2 (underlying t >>= _) (underlying t >>= _)
   refine zac (zai t) ?_
   rintro R4 h1 d2 _ rfl
   by_cases h0:0<=n/\n<((n2:Nat):Int)
   ·simp only[if_pos h0]
    refine zac (zaE _) ?_
    rintro R5 h2 m _ rfl
    exact zad (.ptr ((((ha)).mono h1).mono h2 |>.add _))
   ·simp only[if_neg h0]
    exact zag.never (zem zan (za2 _ _ _ _))
  | empty a c =>
   show zag L M QV R2 (underlying t >>= _) (underlying t >>= _)
   refine zac (zai t) ?_
   rintro R4 h1 d2 _ rfl
   have h0:¬ (0<=n/\n<((0:Nat):Int)):=qg
   simp only[if_neg h0]
   exact zag.never (zem zan (za2 _ _ _ _))
  | nilSlice n2 m =>
   show zag L M QV R2 (underlying t >>= _) (underlying t >>= _)
   refine zac (zai t) ?_
   rintro R4 h1 d2 _ rfl
   exact zag.never (za2 _ _ _ _)
  | _=>exact zag.halt
 | _=>cases h <;> exact zag.halt
theorem zbe[low:zaD]{R:BR}(h:zaj R x x')(y:Nat)(c:BoundsCode):zag L M QEq R (Instr.sliceBound x y c) (Instr.sliceBound x' y c):=by
 unfold Instr.sliceBound
 refine zac (zcI h) ?_
 rintro R' _ ⟨k,n⟩ _ rfl
 simp only
 split
 ·exact zad rfl
 ·exact zag.never (za2 _ _ _ _)
theorem zbL[low:zaD]{R:BR}(h:zaj R x x')(c:BoundsCode):zag L M (fun _ a b=>a=0/\b=0) R (Instr.sliceBound x 0 c) (Instr.sliceBound x' 0 c):=by
 unfold Instr.sliceBound
 refine zac (zcI h) ?_
 rintro R' _ ⟨k,n⟩ _ rfl
 simp only
 split
 ·exact zad ⟨qg,qg⟩
 ·exact zag.never (za2 _ _ _ _)
theorem zhl[low:zaD]{R:BR}(n:Nat):zag L M QEq R (askRoom n) (askRoom n):=by
 unfold askRoom
 split
 ·exact .mark (.pure rfl)
 ·exact zad rfl
theorem zay.plainMap{R:BR}(h:zay R c c')(hd:Plain default)(n:Nat):zay R ((Array.range n).map (c[· % c.size]!)) ((Array.range n).map (c'[· % c'.size]!)):=by
 refine⟨qm,fun i h1 h2=>?_⟩
 simp only[Array.getElem_map,Array.getElem_range]
 rw[<- h.1]
 by_cases hs:i % c.size<c.size
 ·have hs':i % c.size<c'.size:=by rw[<- h.1];exact hs
  rw[getElem!_pos c _ hs,getElem!_pos c' _ hs']
  exact h.2 _ hs hs'
 ·rw[getElem!_neg c _ hs,getElem!_neg c' _ (by rw[<- h.1];exact hs)]
  exact hd R
theorem zcT:Plain (default:Value):=fun _=>zaj.bool _
theorem zaj.slice'{R:BR}{a a':Od}(n m:Nat)(h:(a=none/\a'=none)\/∃ x x',a=some x/\a'=some x'/\zbY R x x'):zaj R (.slice a n m) (.slice a' n m):=by
 rcases h with ⟨rfl,rfl⟩|⟨x,x',rfl,rfl,h⟩
 ·exact .nilSlice n m
 ·exact .slice n m h
def zcC(R:BR)(o o':Option Value):Prop:=(o=none/\o'=none)\/∃ v v',o=some v/\o'=some v'/\zaj R v v'
theorem zcC.mono{R R':BR}(hR:R.le R'){o o':Option Value}(h:zcC R o o'):zcC R' o o':=by
 rcases h with h|⟨v,v',a,b,c⟩
 ·exact Or.inl h
 ·exact Or.inr ⟨v,v',a,b,c.mono hR⟩
theorem zdu[low:zaD]{R:BR}(s:Bool)(len cap:Nat)(h1:zcC R lo lo')(h2:zcC R hi hi'):zag L M QEq R (Instr.sliceBounds s len cap lo hi none) (Instr.sliceBounds s len cap lo' hi' none):=by
 unfold Instr.sliceBounds
 rcases h2 with ⟨rfl,rfl⟩|⟨v,v',rfl,rfl,hv⟩
 ·rcases h1 with ⟨rfl,rfl⟩|⟨u,u',rfl,rfl,hu⟩
  ·exact zad rfl
  ·show zag L M QEq R (Instr.sliceBound _ _ _ >>= _) (Instr.sliceBound _ _ _ >>= _)
   refine zac (zbe hu _ _) ?_
   rintro R' _ l _ rfl
   exact zad rfl
 ·show zag L M QEq R (Instr.sliceBound _ _ _ >>= _) (Instr.sliceBound _ _ _ >>= _)
  refine zac (zbe hv _ _) ?_
  rintro R' hR b _ rfl
  rcases h1 with ⟨rfl,rfl⟩|⟨u,u',rfl,rfl,hu⟩
  ·exact zad rfl
  ·refine zac (zbe (hu.mono hR) _ _) ?_
   rintro R2 _ l _ rfl
   exact zad rfl
theorem zsn[low:zaD][Twin L M](hz:zbt L){α:Type}{Q:BR->α->α->Prop}{R:BR}(e:TypeId)(n:Nat){k k':Array Value->Sem α}(hk:∀ R':BR,R.le R'->∀ z z',zay R' z z'->zag L M Q R' (k z) (k' z')) :
  zag L M Q R (if n=0 then (pure #[] >>= k) else (zeroValue e >>= fun v=>pure v.cells >>= k)) (if n=0 then (pure #[] >>= k') else (zeroValue e >>= fun v=>pure v.cells >>= k')):=by
 split
 ·exact hk R (BR.le_refl _) _ _ zay.nil
 ·exact zac (zbs hz e) fun R' hR v v' hv=>hk R' hR _ _ hv.cells
theorem zjJ[low:zaD][Twin L M](hz:zbt L){R:BR}(t:TypeId){l l' c c':Value}(hl:zaj R l l')(hc:zaj R c c'):zag L M QV R (Instr.makeSlice t l c) (Instr.makeSlice t l' c'):=by
 unfold Instr.makeSlice
 refine zac (zai t) ?_
 rintro R1 h0 d _ rfl
 split
 ·next elem =>
  refine zac (zex (hl.mono h0)) ?_
  rintro R2 h1 len _ rfl
  refine zac (zex ((hc.mono h0).mono h1)) ?_
  rintro R3 h3 cap _ rfl
  refine zac (zbr elem) ?_
  rintro R4 h4 i _ rfl
  dsimp only
  split
  ·refine zag.never ?_
   split
   ·exact zaq (zao _)
   ·split
    ·exact zaq (zao _)
    ·first
     | exact zaq (zat fun _=>zao _)
     | exact zat fun _=>zaq (zao _)
     | exact zat fun _=>zao _
  ·refine zac (zhl _) ?_
   rintro R5 h5 _ _ _
   refine zac (zaE elem) ?_
   rintro R6 h6 n _ rfl
   refine zsn hz elem _ ?_
   intro R7 h7 z z' h2
   refine zac (zey elem (h2.plainMap zcT _)) ?_
   intro R8 h8 a a' ha
   exact zad (.slice _ _ ha)
 ·exact zaB
inductive zp8(R:BR):List (Nat × Value)->List (Nat × Value)->Prop
 | nil:zp8 R [] []
 | cons (i:Nat) {v v':Value} {r r':List (Nat × Value)}:zaj R v v'->zp8 R r r'->zp8 R ((i,v)::r) ((i,v')::r')
theorem zp8.mono{R R':BR}(hR:R.le R')(h:zp8 R l l'):zp8 R' l l':=by
 induction h with
 | nil=>exact .nil
 | cons i hv _ ih=>exact .cons i (hv.mono hR) ih
theorem zpn{R:BR}(off:Nat):∀(l l':List Value),zhC R l l'->∀(j:Nat) {cs cs':Array Value},zay R cs cs' ->
  zay R ((l.zipIdx j).foldl (fun cs (p:Value × Nat)=>cs.setIfInBounds (off+p.2) p.1) cs) ((l'.zipIdx j).foldl (fun cs (p:Value × Nat)=>cs.setIfInBounds (off+p.2) p.1) cs'):=by
 intro l l' h
 induction h with
 | nil=>exact fun j cs cs' hr=>hr
 | cons hv _ ih =>
  intro j cs cs' hr
  simp only[List.zipIdx_cons,List.foldl_cons]
  exact ih (j+1) (hr.set _ hv)
theorem zm3{R:BR}(off:Nat)(h:zay R c c'){cs cs':Array Value}(hr:zay R cs cs') :
  zay R (c.zipIdx.foldl (fun cs (p:Value × Nat)=>cs.setIfInBounds (off+p.2) p.1) cs) (c'.zipIdx.foldl (fun cs (p:Value × Nat)=>cs.setIfInBounds (off+p.2) p.1) cs'):=by
 have:=zpn off _ _ h.all 0 hr
 rw[<- Array.foldl_toList,<- Array.foldl_toList,Array.toList_zipIdx,Array.toList_zipIdx]
 exact this
theorem zhQ{R:BR}(pl:Nat->Option (Nat × Nat)):∀ {ps ps':List (Nat × Value)},zp8 R ps ps'->∀ {cs cs':Array Value},zay R cs cs' ->
  (Instr.fill pl cs ps=none)\/∃ d d',Instr.fill pl cs ps=some d/\Instr.fill pl cs' ps'=some d'/\zay R d d':=by
 intro ps ps' h
 induction h with
 | nil=>exact fun hr=>Or.inr ⟨_,_,rfl,rfl,hr⟩
 | cons i hv _ ih =>
  intro cs cs' hr
  have h0:=hv.cells
  unfold Instr.fill
  cases hp:pl i with
  | none=>exact Or.inl rfl
  | some q =>
   obtain⟨off,size⟩:=q
   simp only
   rw[<- h0.1,<- hr.1]
   split
   ·exact Or.inl rfl
   ·exact ih (zm3 off h0 hr)
theorem zim[low:zaD][Twin L M](hz:zbt L){R:BR}(t:TypeId)(len:Nat)(h:zp8 R ps.toList ps'.toList):zag L M QV R (Instr.buildSlice t len ps) (Instr.buildSlice t len ps'):=by
 unfold Instr.buildSlice
 refine zac (zai t) ?_
 rintro R1 h0 d _ rfl
 split
 ·next elem =>
  refine zac (zaE elem) ?_
  rintro R2 h1 size _ rfl
  dsimp only
  split
  ·exact zag.never (zaq zan)
  ·refine zsn hz elem _ ?_
   intro R3 h2 z z' h3
   have hf:=zhQ (fun i=>some (i * size,size)) (((h.mono h0).mono h1).mono h2) (h3.plainMap zcT (len * size))
   rcases hf with hf|⟨d,d',e1,e2,hd⟩
   ·rw[hf];exact zaB
   ·rw[e1,e2]
    exact zac (zey elem hd) fun _ _ _ _ ha=>zad (.slice _ _ ha)
 ·exact zaB
theorem zgm[low:zaD]{R:BR}(op:BinOp)(k:IntKind)(x y:Int):zag L M QV R (Op.intArith op k x y) (Op.intArith op k x y):=by
 unfold Op.intArith
 split <;> first|exact zad (.int _ _)|exact zaB
theorem zpL[low:zaD]{R:BR}(op:BinOp)(k:IntKind)(x y:Int):zag L M QV R (Op.intDiv op k x y) (Op.intDiv op k x y):=by
 unfold Op.intDiv
 split
 ·exact zag.never (zao _)
 ·split <;> first|exact zad (.int _ _)|exact zaB
theorem zhn[low:zaD]{R:BR}(op:BinOp)(k:IntKind)(x y:Int):zag L M QV R (Op.intBits op k x y) (Op.intBits op k x y):=by
 unfold Op.intBits
 dsimp only
 split <;> first|exact zad (.int _ _)|exact zaB
theorem zpK[low:zaD]{R:BR}(op:BinOp)(x y:Int):zag L M QV R (Op.intCmp op x y) (Op.intCmp op x y):=by
 unfold Op.intCmp
 split <;> first|exact zad (.bool _)|exact zaB
theorem zrI[low:zaD]{R:BR}(op:UnOp)(h:zaj R v v'):zag L M QV R (Op.unary op v) (Op.unary op v'):=by
 cases h with
 | int k n=>cases op <;> (simp only[Op.unary];first|exact zgm _ _ _ _|exact zhn _ _ _ _|exact zaB)
 | bool b=>cases op <;> first|exact zad (.bool _)|exact zag.halt
 | _=>cases op <;> exact zag.halt
theorem zpG[low:zaD]{R:BR}(op:BinOp)(t:TypeId)(k:IntKind)(x y:Int)(hs:op≠.shl/\op≠.shr):zag L M QV R (binOp op t (.int k x) (.int k y)) (binOp op t (.int k x) (.int k y)):=by
 obtain⟨h1,h2⟩:=hs
 cases op <;> first
  | exact absurd rfl h1
  | exact absurd rfl h2
  | (simp only[binOp,ne_eq,not_true,if_false];first|exact zgm _ _ _ _|exact zpL _ _ _ _|exact zhn _ _ _ _|exact zpK _ _ _)
theorem za0[low:zaD]{α:Type}{Q:BR->α->α->Prop}{R:BR}{c:Prop}[Decidable c]{a a' b b':Sem α}(h1:c->zag L M Q R a a')(h2:¬ c->zag L M Q R b b'):zag L M Q R (if c then a else b) (if c then a' else b'):=by
 split
 ·exact h1 qp
 ·exact h2 qp
theorem zbM[low:zaD]{R:BR}(s:Bool)(len cap:Nat)(h1:zcC R lo lo')(h2:zcC R hi hi')(h3:zcC R mx mx'):zag L M QEq R (Instr.sliceBounds s len cap lo hi mx) (Instr.sliceBounds s len cap lo' hi' mx'):=by
 rcases h3 with ⟨rfl,rfl⟩|⟨v,v',rfl,rfl,hv⟩
 ·exact zdu s len cap h1 h2
 ·unfold Instr.sliceBounds
  show zag L M QEq R (Instr.sliceBound _ _ _ >>= _) (Instr.sliceBound _ _ _ >>= _)
  refine zac (zbe hv _ _) ?_
  rintro R1 h0 m _ rfl
  replace h2:=h2.mono h0
  rcases h2 with ⟨rfl,rfl⟩|⟨u,u',rfl,rfl,hu⟩
  ·exact zag.halt
  ·show zag L M QEq R1 (Instr.sliceBound _ _ _ >>= _) (Instr.sliceBound _ _ _ >>= _)
   refine zac (zbe hu _ _) ?_
   rintro R2 h4 h _ rfl
   replace h1:=(h1.mono h0).mono h4
   rcases h1 with ⟨rfl,rfl⟩|⟨x,x',rfl,rfl,hx⟩
   ·exact zad rfl
   ·refine zac (zbe hx _ _) ?_
    rintro R3 _ l _ rfl
    exact zad rfl
theorem zgu[low:zaD]{R:BR}(h1:zcC R lo lo')(h2:zcC R hi hi')(h3:zcC R mx mx'):zag L M (fun _ a b=>a=(0,0,0)/\b=(0,0,0)) R (Instr.sliceBounds true 0 0 lo hi mx) (Instr.sliceBounds true 0 0 lo' hi' mx'):=by
 have low:∀ {R':BR},R.le R'->∀(c:BoundsCode),zag L M (fun _ a b=>a=(0,0,0)/\b=(0,0,0)) R' (do
   let l <- match lo with
    | some v=>Instr.sliceBound v 0 c
    | none=>pure 0
   pure (l,0,0)) (do
   let l <- match lo' with
    | some v=>Instr.sliceBound v 0 c
    | none=>pure 0
   pure (l,0,0)):=by
  intro R' hR c
  rcases h1 with ⟨rfl,rfl⟩|⟨u,u',rfl,rfl,hu⟩
  ·exact zad ⟨rfl,rfl⟩
  ·refine zac (zbL (hu.mono hR) _) ?_
   rintro R2 _ l l' ⟨rfl,rfl⟩
   exact zad ⟨rfl,rfl⟩
 unfold Instr.sliceBounds
 rcases h3 with ⟨rfl,rfl⟩|⟨v,v',rfl,rfl,hv⟩
 ·rcases h2 with ⟨rfl,rfl⟩|⟨u,u',rfl,rfl,hu⟩
  ·exact low (BR.le_refl _) _
  ·show zag L M _ R (Instr.sliceBound _ _ _ >>= _) (Instr.sliceBound _ _ _ >>= _)
   refine zac (zbL hu _) ?_
   rintro R' hR b b' ⟨rfl,rfl⟩
   exact low hR _
 ·show zag L M _ R (Instr.sliceBound _ _ _ >>= _) (Instr.sliceBound _ _ _ >>= _)
  refine zac (zbL hv _) ?_
  rintro R1 h0 m m' ⟨rfl,rfl⟩
  replace h2:=h2.mono h0
  rcases h2 with ⟨rfl,rfl⟩|⟨u,u',rfl,rfl,hu⟩
  ·exact zag.halt
  ·show zag L M _ R1 (Instr.sliceBound _ _ _ >>= _) (Instr.sliceBound _ _ _ >>= _)
   refine zac (zbL hu _) ?_
   rintro R2 h4 b b' ⟨rfl,rfl⟩
   exact low (BR.le_trans h0 h4) _
theorem zgk[low:zaD]{R:BR}(h:zaj R v v'):zag L M QA R (asAddr v) (asAddr v'):=by
 cases h with
 | ptr h=>exact zad h
 | nilPtr=>exact zag.never (zao (α:=Addr) .nilDeref)
 | _=>exact zag.halt
theorem zbY.cut{R:BR}(h:zbY R a a')(c:Prop)[Decidable c](n:Nat):zbY R (if c then a else a.add n) (if c then a' else a'.add n):=by
 split
 ·exact h
 ·exact h.add n
theorem zrG[low:zaD][Twin L M]{R:BR}(t:TypeId)(h:zaj R x x')(h1:zcC R lo lo')(h2:zcC R hi hi')(h3:zcC R mx mx'):zag L M QV R (Instr.slice t x lo hi mx) (Instr.slice t x' lo' hi' mx'):=by
 unfold Instr.slice
 refine zac (zai t) ?_
 rintro R1 h5 d _ rfl
 replace h:=h.mono h5
 replace h1:=h1.mono h5
 replace h2:=h2.mono h5
 replace h3:=h3.mono h5
 cases d with
 | string =>
  cases h with
  | string s =>
   have e3:mx.isSome=mx'.isSome:=by rcases h3 with ⟨rfl,rfl⟩|⟨_,_,rfl,rfl,_⟩ <;> rfl
   dsimp only
   rw[e3]
   refine za0 (fun _=>zag.halt) (fun _=>?_)
   refine zac (zdu false _ _ h1 h2) ?_
   rintro R2 _ ⟨l,hh,m⟩ _ rfl
   exact zad (.string _)
  | _=>exact zag.halt
 | slice e =>
  cases h with
  | slice n m ha =>
   refine zac (zbM true n m h1 h2 h3) ?_
   rintro R2 h4 ⟨l,hh,mm⟩ _ rfl
   refine zac (zaE e) ?_
   rintro R3 h0 k _ rfl
   refine zad (zaj.slice' _ _ ?_)
   by_cases q:mm=l
   ·simp only[if_pos q]
    exact Or.inr ⟨_,_,rfl,rfl,(ha.mono h4).mono h0⟩
   ·simp only[if_neg q]
    exact Or.inr ⟨_,_,rfl,rfl,((ha.mono h4).mono h0).add _⟩
  | empty a c =>
   refine zac (zgu h1 h2 h3) ?_
   rintro R2 h4 p p' ⟨rfl,rfl⟩
   refine zac (zaE e) ?_
   rintro R3 h0 k _ rfl
   exact zad (.empty _ _)
  | nilSlice n m =>
   refine zac (zbM true n m h1 h2 h3) ?_
   rintro R2 h4 ⟨l,hh,mm⟩ _ rfl
   refine zac (zaE e) ?_
   rintro R3 h0 k _ rfl
   refine zad (zaj.slice' _ _ ?_)
   by_cases q:mm=l
   ·exact Or.inl ⟨qm,qm⟩
   ·exact Or.inl ⟨qm,qm⟩
  | _=>exact zag.halt
 | pointer arr =>
  have hh:zag L M QV R1 (asAddr x >>= fun a=>underlying arr >>= fun d=>match d with
    | .array n elem=>Instr.sliceBounds false n n lo hi mx >>= fun p=>sizeOf elem >>= fun size=>pure (.slice (some (if p.2.2=p.1 then a else a.add (p.1 * size))) (p.2.1 - p.1) (p.2.2 - p.1))
    | _=>stuck "Slice: array type expected") (asAddr x' >>= fun a=>underlying arr >>= fun d=>match d with
    | .array n elem=>Instr.sliceBounds false n n lo' hi' mx' >>= fun p=>sizeOf elem >>= fun size=>pure (.slice (some (if p.2.2=p.1 then a else a.add (p.1 * size))) (p.2.1 - p.1) (p.2.2 - p.1))
    | _=>stuck "Slice: array type expected"):=by
   refine zac (zgk h) ?_
   intro R2 h4 a a' ha
   refine zac (zai arr) ?_
   rintro R3 h0 d _ rfl
   split
   ·refine zac (zbM false _ _ ((h1.mono h4).mono h0) ((h2.mono h4).mono h0) ((h3.mono h4).mono h0)) ?_
    rintro R4 h6 ⟨l,hh,m⟩ _ rfl
    refine zac (zaE _) ?_
    rintro R5 h7 k _ rfl
    exact zad (.slice _ _ ((((ha.mono h0).mono h6).mono h7).cut _ _))
   ·exact zag.halt
  cases h <;> exact hh
 | _=>cases h <;> exact zag.halt
theorem znt[low:zaD][Twin L M]{R:BR}(t:TypeId)(h:zaj R x x')(h1:zcC R lo lo')(h2:zcC R hi hi')(h3:zcC R mx mx'):zag L M QV R (Instr.sliceAt t x lo hi mx) (Instr.sliceAt t x' lo' hi' mx'):=by
 unfold Instr.sliceAt
 refine zac (zai t) ?_
 rintro R1 h0 d _ rfl
 cases d with
 | array n elem =>
  refine zac (zb9 (h.mono h0)) ?_
  intro R2 h4 a a' ha
  refine zac (zbM false n n ((h1.mono h0).mono h4) ((h2.mono h0).mono h4) ((h3.mono h0).mono h4)) ?_
  rintro R3 h5 ⟨l,hh,m⟩ _ rfl
  refine zac (zaE elem) ?_
  rintro R4 h6 k _ rfl
  exact zad (.slice _ _ (((ha.mono h5).mono h6).cut _ _))
 | _=>exact zrG t (h.mono h0) (h1.mono h0) (h2.mono h0) (h3.mono h0)
theorem zrE[low:zaD]{R:BR}(h:zaj R v v'):zag L M QEq R (Builtin.lenOf v) (Builtin.lenOf v'):=by
 cases h with
 | slice n m _=>exact zad rfl
 | nilSlice n m=>exact zad rfl
 | empty a c=>exact zad rfl
 | string s=>exact zad rfl
 | _=>exact zag.halt
theorem zgp[low:zaD]{R:BR}(h:zaj R v v'):zag L M (fun _ a b=>a=b/\∀ p,v=.slice p 0 0->a=0) R (Builtin.lenOf v) (Builtin.lenOf v'):=by
 cases h with
 | slice n m _=>exact zad ⟨rfl,fun p e=>by cases e;rfl⟩
 | nilSlice n m=>exact zad ⟨rfl,fun p e=>by cases e;rfl⟩
 | empty a c=>exact zad ⟨rfl,fun p e=>rfl⟩
 | string s=>exact zad ⟨rfl,fun p e=>by cases e⟩
 | _=>exact zag.halt
theorem zay.plain{R:BR}(h:∀ i (h:i<c.size),zaj R c[i] c[i]):zay R c c:=⟨rfl,fun i h1 _=>h i h1⟩
theorem zbB[low:zaD]{R:BR}(size n:Nat)(h:zaj R v v')(hn:∀ a,v=.slice a 0 0->n=0):zag L M QR R (Builtin.firstCells size n v) (Builtin.firstCells size n v'):=by
 cases h with
 | slice _ _ ha=>exact ze5 ha _
 | nilSlice _ _=>exact zad zay.nil
 | empty a c =>
  obtain rfl:=hn _ rfl
  show zag L M QR R (loadCells _ (0 * size)) (loadCells _ (0 * size))
  rw[Nat.zero_mul]
  exact zad zay.nil
 | string s=>exact zad (zay.plain fun i hi=>by simp only[Array.getElem_map];exact .int _ _)
 | _=>exact zag.halt
theorem zdQ[low:zaD]{R:BR}(size:Nat)(h:zaj R v v'):zag L M (fun _ c c'=>c=#[]/\c'=#[]) R (Builtin.firstCells size 0 v) (Builtin.firstCells size 0 v'):=by
 have z:∀ a:Addr,(loadCells a (0 * size):Sem (Array Value))=pure #[]:=fun a=>by rw[Nat.zero_mul];rfl
 cases h with
 | slice _ _ ha =>
  show zag L M _ R (loadCells _ (0 * size)) (loadCells _ (0 * size))
  rw[z,z]
  exact zad ⟨rfl,rfl⟩
 | nilSlice _ _=>exact zad ⟨rfl,rfl⟩
 | empty a c =>
  show zag L M _ R (loadCells _ (0 * size)) (loadCells _ (0 * size))
  rw[z,z]
  exact zad ⟨rfl,rfl⟩
 | string s=>exact zad ⟨qm,qm⟩
 | _=>exact zag.halt
theorem zay.app{R:BR}{d d':Array Value}(h:zay R c c')(h2:zay R d d'):zay R (c++d) (c'++d'):=by
 refine⟨by simp[h.1,h2.1],fun i h3 h4=>?_⟩
 by_cases q:i<c.size
 ·rw[Array.getElem_append_left q,Array.getElem_append_left (by rw[<- h.1];exact q)]
  exact h.2 i q _
 ·have q':c'.size<=i:=by have:=h.1;omega
  rw[Array.getElem_append_right qg,Array.getElem_append_right q']
  have e:i - c'.size=i - c.size:=by rw[h.1]
  have h5:i - c.size<d.size:=by simp at h3;omega
  have:=h2.2 (i - c.size) h5 (by rw[<- h2.1];exact h5)
  simpa only[e] using this
theorem zay.zeros{R:BR}{z z':Array Value}(h:zay R z z')(n:Nat):zay R (Builtin.zeroCells z n) (Builtin.zeroCells z' n):=by
 unfold Builtin.zeroCells
 rw[<- h.1]
 have:=h.plainMap zcT (n * z.size)
 rw[<- h.1] at this
 exact this
theorem zay.get?{R:BR}(h:zay R c c')(i:Nat):zcC R c[i]? c'[i]?:=by
 by_cases q:i<c.size
 ·have q':i<c'.size:=by rw[<- h.1];exact q
  exact Or.inr ⟨_,_,Array.getElem?_eq_getElem q,Array.getElem?_eq_getElem q',h.2 i q q'⟩
 ·exact Or.inl ⟨Array.getElem?_eq_none qg,Array.getElem?_eq_none (by have:=h.1;omega)⟩
def zr3(L:Program)(ts:Array TypeId):Prop:=∃ t d,ts[1]?=some t/\L.underlying t=some d/\∀ k,d≠.int k
theorem zt1[low:zaD]{R:BR}[Twin L M]{d:TypeDesc}(h:L.underlying t=some d):zag L M (fun _ a b=>a=d/\b=d) R (underlying t) (underlying t):=by
 unfold underlying
 refine zac zaZ ?_
 rintro R' _ p p' ⟨rfl,rfl⟩
 rw[Twin.und (L:=p) (M:=p') t,h]
 exact zad ⟨rfl,rfl⟩
instance softly_holds {P:Program} (a:Addr) (n:Nat):zaN P (Builtin.holdsCells a n):=by
 unfold Builtin.holdsCells
 have:∀ o:Option (TypeId × Nat),zaN P (match o with|some (_,k)=>(pure (a.spot.isNone && a.off+n<=k):Sem Bool)|none=>pure false):=fun o=>by split <;> infer_instance
 infer_instance
instance softly_mayShare {P:Program} (size sLen n:Nat) (base:Od) (x:Value):zaN P (Builtin.mayShare size sLen n base x):=by
 have tail:∀(base:Od) (t:Bool),zaN P (if (!t)=true then (pure true:Sem Bool) else (match x with|.slice (some b) _ _=>(do pure (!(<- Builtin.holdsCells b (n * size)) || base.any (·.block == b.block)):Sem Bool)|_=>pure false)):=by
  intro base t
  split
  ·infer_instance
  ·split <;> infer_instance
 unfold Builtin.mayShare
 cases base with
 | none=>exact tail none true
 | some a=>exact softly_bind _ _ (F:=fun c=>softly_bind _ _ (F:=fun d=>tail (some a) _))
theorem zpE[low:zaD][Twin L M](hz:zbt L){R:BR}(ts:Array TypeId)(ty:TypeId)(h:zay R as as')(hm:zr3 L ts):zag L M QV R (Builtin.append_ ts ty as) (Builtin.append_ ts ty as'):=by
 obtain⟨t1,d1,hl,h7,h1⟩:=hm
 unfold Builtin.append_
 rw[hl]
 cases ts[0]? with
 | none=>exact zag.halt
 | some t0 =>
 rcases h.get? 0 with ⟨e1,e2⟩|⟨s,s',e1,e2,hs⟩
 ·rw[e1,e2];exact zag.halt
 rcases h.get? 1 with ⟨e3,e4⟩|⟨x,x',e3,e4,hx⟩
 ·rw[e1,e2,e3,e4];exact zag.halt
 rw[e1,e2,e3,e4]
 dsimp only
 refine zac (zai t0) ?_
 rintro R1 hg d _ rfl
 replace hs:=hs.mono hg
 replace hx:=hx.mono hg
 cases d with
 | slice elem =>
  have hf:∃ base base' n m,s=.slice base n m/\s'=.slice base' n m/\((base=none/\base'=none)\/(∃ x x',base=some x/\base'=some x'/\zbY R1 x x')\/∃ x x',base=some x/\base'=some x'/\n=0/\m=0)\/∀ b n m,s≠.slice b n m:=by
   cases hs with
   | slice n m ha=>exact⟨_,_,n,m,Or.inl ⟨rfl,rfl,Or.inr (Or.inl ⟨_,_,rfl,rfl,ha⟩)⟩⟩
   | empty a c=>exact⟨_,_,0,0,Or.inl ⟨rfl,rfl,Or.inr (Or.inr ⟨_,_,rfl,rfl,rfl,rfl⟩)⟩⟩
   | nilSlice n m=>exact⟨none,none,n,m,Or.inl ⟨rfl,rfl,Or.inl ⟨rfl,rfl⟩⟩⟩
   | _=>exact⟨none,none,0,0,Or.inr (fun _ _ _ q=>by cases q)⟩
  obtain⟨base,base',sLen,sCap,hb|hb⟩:=hf
  ·obtain⟨rfl,rfl,hb⟩:=hb
   dsimp only
   refine zac (zaE elem) ?_
   rintro R2 h4 size _ rfl
   refine zac (zt1 h7) ?_
   rintro R3 h2 _ _ ⟨rfl,rfl⟩
   rename_i dd
   refine zac (Q:=fun _ a b=>a=false/\b=false) (zad ⟨?_,?_⟩) ?_
   ·revert h1
    clear h7
    intro h1
    cases dd <;> first|rfl|exact absurd rfl (h1 _)
   ·revert h1
    clear h7
    intro h1
    cases dd <;> first|rfl|exact absurd rfl (h1 _)
   rintro R3' hR3' _ _ ⟨rfl,rfl⟩
   replace h2:=BR.le_trans h2 hR3'
   show zag L M QV R3' (Builtin.lenOf x >>= _) (Builtin.lenOf x' >>= _)
   refine zac (zgp ((hx.mono h4).mono h2)) ?_
   rintro R4 h8 n _ ⟨rfl,hj⟩
   have h9:=((hx.mono h4).mono h2).mono h8
   have hp:=((hs.mono h4).mono h2).mono h8
   have h5:(base=none/\base'=none)\/(∃ x x',base=some x/\base'=some x'/\zbY R4 x x')\/∃ x x',base=some x/\base'=some x'/\sLen=0/\sCap=0:=by
    rcases hb with hb|⟨a,a',q1,q2,q3⟩|hb
    ·exact Or.inl hb
    ·exact Or.inr (Or.inl ⟨a,a',q1,q2,((q3.mono h4).mono h2).mono h8⟩)
    ·exact Or.inr (Or.inr hb)
   refine za0 (fun hD=>?_) (fun _=>?_)
   ·have hq:((base=none/\base'=none)\/∃ x x',base=some x/\base'=some x'/\zbY R4 x x')\/∃ x x',base=some x/\base'=some x'/\sLen=0/\sCap=0:=by
     rcases h5 with h|h|h
     ·exact Or.inl (Or.inl h)
     ·exact Or.inl (Or.inr h)
     ·exact Or.inr h
    clear h5
    rcases hq with h5|⟨a,a',rfl,rfl,rfl,rfl⟩
    rotate_left
    ·obtain rfl:n=0:=qg
     refine zac (zdQ size h9) ?_
     rintro R5 h0 c c' ⟨rfl,rfl⟩
     exact zad (.empty _ _)
    refine zac (zbB size n h9 hj) ?_
    intro R5 h0 c c' hc
    rcases h5 with ⟨rfl,rfl⟩|⟨a,a',rfl,rfl,ha⟩
    ·exact zad (.nilSlice _ _)
    ·refine zac (zcV ((ha.mono h0).add _) (zay.all hc) 0) ?_
     intro R6 h3 _ _ _
     exact zad (.slice _ _ ((ha.mono h0).mono h3))
   ·have tail:∀ R5:BR,R4.le R5->zag L M QV R5
      (choose (Question.appendCap (sLen+n) sCap elem) >>= fun newCap=>typeInfo elem >>= fun i=>askRoom (newCap * i.bytes) >>= fun _=>Builtin.firstCells size sLen (Value.slice base sLen sCap) >>= fun old =>
       Builtin.firstCells size n x >>= fun new=>zeroValue elem >>= fun z=>newRow elem (old++new++Builtin.zeroCells z.cells (newCap - (sLen+n))) >>= fun a=>pure (Value.slice (some a) (sLen+n) newCap))
      (choose (Question.appendCap (sLen+n) sCap elem) >>= fun newCap=>typeInfo elem >>= fun i=>askRoom (newCap * i.bytes) >>= fun _=>Builtin.firstCells size sLen (Value.slice base' sLen sCap) >>= fun old =>
       Builtin.firstCells size n x' >>= fun new=>zeroValue elem >>= fun z=>newRow elem (old++new++Builtin.zeroCells z.cells (newCap - (sLen+n))) >>= fun a=>pure (Value.slice (some a) (sLen+n) newCap)):=by
     intro R5 h0
     refine zac (Q:=QEq) (.choose fun n=>.pure rfl) ?_
     rintro R6 h3 newCap _ rfl
     refine zac (zbr elem) ?_
     rintro R7 hu i _ rfl
     refine zac (zhl _) ?_
     rintro R8 hw _ _ _
     have up:R4.le R8:=BR.le_trans h0 (BR.le_trans h3 (BR.le_trans hu hw))
     refine zac (zbB size sLen (hp.mono up) (fun a e=>by cases e;rfl)) ?_
     intro R9 hy c c' hc
     refine zac (zbB size n ((h9.mono up).mono hy) hj) ?_
     intro R10 hk e e' he
     refine zac (zbs hz elem) ?_
     intro R11 h6 z z' hA
     refine zac (zey elem ((((hc.mono hk).mono h6).app (he.mono h6)).app (hA.cells.zeros _))) ?_
     intro R12 hE a a' ha
     exact zad (.slice _ _ ha)
    refine zac (zbr elem) ?_
    rintro R5 h0 i _ rfl
    refine za0 (fun _=>zag.never (zaq (zao _))) (fun _=>?_)
    refine zac (zbr elem) ?_
    rintro R6 h3 i _ rfl
    refine za0 (fun _=>zag.never (zaq (zat fun b=>?_))) (fun _=>tail R6 (BR.le_trans h0 h3))
    split
    ·exact zat fun _=>zan
    ·exact zan
  ·cases s <;> first|exact absurd rfl (hb _ _ _)|exact zag.halt
 | _=>exact zag.halt
theorem zta[low:zaD][Twin L M]{R:BR}(ts:Array TypeId)(ty:TypeId)(h:zay R as as'):zag L M QV R (Builtin.copy_ ts ty as) (Builtin.copy_ ts ty as'):=by
 unfold Builtin.copy_
 cases ts[0]? with
 | none=>exact zag.halt
 | some t0 =>
 rcases h.get? 0 with ⟨e1,e2⟩|⟨s,s',e1,e2,hs⟩
 ·rw[e1,e2];exact zag.halt
 rcases h.get? 1 with ⟨e3,e4⟩|⟨x,x',e3,e4,hx⟩
 ·rw[e1,e2,e3,e4];exact zag.halt
 rw[e1,e2,e3,e4]
 dsimp only
 refine zac (zai t0) ?_
 rintro R1 h4 d _ rfl
 replace hs:=hs.mono h4
 replace hx:=hx.mono h4
 cases d with
 | slice elem =>
  cases hs with
  | empty a c =>
   refine zac (zrE hx) ?_
   rintro R2 h0 k _ rfl
   refine zac (zaE elem) ?_
   rintro R3 h1 size _ rfl
   rw[show Nat.min k 0=0 from Nat.min_zero k]
   refine zac (zdQ size ((hx.mono h0).mono h1)) ?_
   rintro R4 h2 c c' ⟨rfl,rfl⟩
   exact zad (.int _ _)
  | slice n m ha =>
   refine zac (zgp hx) ?_
   rintro R2 h0 k _ ⟨rfl,h3⟩
   refine zac (zaE elem) ?_
   rintro R3 h1 size _ rfl
   refine zac (zbB size _ ((hx.mono h0).mono h1) (fun a e=>by rw[h3 a e];exact Nat.zero_min _)) ?_
   intro R4 h2 c c' hc
   refine zac (zcV (((ha.mono h0).mono h1).mono h2) (zay.all hc) 0) ?_
   intro R5 h5 _ _ _
   exact zad (.int _ _)
  | nilSlice n m =>
   refine zac (zgp hx) ?_
   rintro R2 h0 k _ ⟨rfl,h3⟩
   refine zac (zaE elem) ?_
   rintro R3 h1 size _ rfl
   refine zac (zbB size _ ((hx.mono h0).mono h1) (fun a e=>by rw[h3 a e];exact Nat.zero_min _)) ?_
   intro R4 h2 c c' hc
   exact zad (.int _ _)
  | _=>exact zag.halt
 | _=>exact zag.halt
theorem zdt[low:zaD]{R:BR}(h:R r r'):zag L M (fun R o o'=>zqf R o o'/\∀ c n,o=.map c n->low.low<=r) R (getObj r) (getObj r') :=
 .getObj h fun _ _ _ _ hc hn=>.pure ⟨hc,hn⟩
theorem zjM[low:zaD]{R:BR}(hx:low.low<=r)(h:R r r'){c c':Array MapEntry}(n:Nat)(hc:zc4 R c c'):zag L M QEq R (setObj r (.map c n)) (setObj r' (.map c' n)):=.setObj hx h hc (.pure rfl)
theorem ztZ[low:zaD][Twin L M]{R:BR}(ts:Array TypeId)(ty:TypeId)(h:zay R as as'):zag L M QV R (Builtin.len_ ts ty as) (Builtin.len_ ts ty as'):=by
 unfold Builtin.len_
 cases ts[0]? with
 | none=>exact zag.halt
 | some t0 =>
 rcases h.get? 0 with ⟨e1,e2⟩|⟨s,s',e1,e2,hs⟩
 ·rw[e1,e2];exact zag.halt
 rw[e1,e2]
 dsimp only
 refine zac (zai t0) ?_
 rintro R1 h0 d _ rfl
 replace hs:=hs.mono h0
 cases d with
 | string=>cases hs <;> first|exact zad (.int _ _)|exact zag.halt
 | slice e=>cases hs <;> first|exact zad (.int _ _)|exact zag.halt
 | array n e=>cases hs <;> exact zad (.int _ _)
 | map k e =>
  cases hs with
  | map hr =>
   refine zac (zdt hr) ?_
   rintro R2 h1 _ _ ⟨@⟨c,c',n,hc⟩|_|_,_⟩
   rotate_left
   ·exact zag.halt
   ·exact zag.halt
   dsimp only
   rw[hc.1]
   exact zad (.int _ _)
  | nilMap=>exact zad (.int _ _)
  | _=>exact zag.halt
 | pointer arr =>
  have hh:zag L M QV R1 (underlying arr >>= fun d=>match d with|.array n _=>pure (goInt n)|_=>stuck "len: pointer to array expected") (underlying arr >>= fun d=>match d with|.array n _=>pure (goInt n)|_=>stuck "len: pointer to array expected"):=by
   refine zac (zai arr) ?_
   rintro R2 h1 d _ rfl
   split
   ·exact zad (.int _ _)
   ·exact zag.halt
  cases hs <;> exact hh
 | chan _ _=>cases hs <;> first|exact zad (.int _ _)|exact zag.halt
 | _=>cases hs <;> exact zag.halt
theorem ztX[low:zaD][Twin L M]{R:BR}(ts:Array TypeId)(ty:TypeId)(h:zay R as as'):zag L M QV R (Builtin.cap_ ts ty as) (Builtin.cap_ ts ty as'):=by
 unfold Builtin.cap_
 cases ts[0]? with
 | none=>exact zag.halt
 | some t0 =>
 rcases h.get? 0 with ⟨e1,e2⟩|⟨s,s',e1,e2,hs⟩
 ·rw[e1,e2];exact zag.halt
 rw[e1,e2]
 dsimp only
 refine zac (zai t0) ?_
 rintro R1 h0 d _ rfl
 replace hs:=hs.mono h0
 cases d with
 | slice e=>cases hs <;> first|exact zad (.int _ _)|exact zag.halt
 | array n e=>cases hs <;> exact zad (.int _ _)
 | pointer arr =>
  have hh:zag L M QV R1 (underlying arr >>= fun d=>match d with|.array n _=>pure (goInt n)|_=>stuck "cap: pointer to array expected") (underlying arr >>= fun d=>match d with|.array n _=>pure (goInt n)|_=>stuck "cap: pointer to array expected"):=by
   refine zac (zai arr) ?_
   rintro R2 h1 d _ rfl
   split
   ·exact zad (.int _ _)
   ·exact zag.halt
  cases hs <;> exact hh
 | chan _ _=>cases hs <;> first|exact zad (.int _ _)|exact zag.halt
 | _=>cases hs <;> exact zag.halt
theorem zpQ[low:zaD]{α β:Type}{f:α->Sem β}(hf:∀ a R',zag L M QEq R' (f a) (f a)):∀(as:List α) (R:BR),zag L M QEq R (as.mapM f) (as.mapM f)
 | [],R=>by rw[List.mapM_nil];exact zad rfl
 | a::as,R=>by
  rw[List.mapM_cons]
  refine zac (hf a R) ?_
  rintro R1 h0 b _ rfl
  refine zac (zpQ hf as R1) ?_
  rintro R2 h1 bs _ rfl
  exact zad rfl
theorem ztb[low:zaD]{α β:Type}{R:BR}{f:α->Sem β}(hf:∀ a R',zag L M QEq R' (f a) (f a))(as:Array α):zag L M QEq R (as.mapM f) (as.mapM f):=by
 rw[Array.mapM_eq_mapM_toList,<- bind_pure_comp]
 exact zac (zpQ hf as.toList R) fun _ _ _ _ e=>zad (by rw[e])
theorem zrB[low:zaD][Twin L M](hz:zbt L){R:BR}(t:TypeId)(h:zp8 R ps.toList ps'.toList):zag L M QV R (Instr.build t ps) (Instr.build t ps'):=by
 unfold Instr.build
 refine zac (zbs hz t) ?_
 intro R1 h3 z z' h4
 refine zac (zai t) ?_
 rintro R2 h1 d _ rfl
 have h2:=(h4.mono h1).cells
 replace h:=(h.mono h3).mono h1
 cases d with
 | struct fields =>
  refine zac (ztb (fun f R'=>zac (zaE f.type) fun _ _ _ _ e=>zad (by rw[e])) fields) ?_
  rintro R3 h0 places _ rfl
  rcases zhQ (places[·]?) (h.mono h0) (h2.mono h0) with hf|⟨d,d',e1,e2,hd⟩
  ·rw[hf];exact zag.halt
  ·rw[e1,e2]
   exact zad (.agg hd.1 hd.2)
 | array n elem =>
  refine zac (zaE elem) ?_
  rintro R3 h0 size _ rfl
  rcases zhQ (fun i=>some (i * size,size)) (h.mono h0) (h2.mono h0) with hf|⟨d,d',e1,e2,hd⟩
  ·rw[hf];exact zag.halt
  ·rw[e1,e2]
   exact zad (.agg hd.1 hd.2)
 | _=>exact zag.halt
theorem zay.two{R:BR}{u':Value}(h:zaj R v v')(h2:zaj R u u'):zay R #[v,u] #[v',u']:=(zay.one h).push h2
theorem zay.tup{R:BR}(h:zay R c c'):zaj R (.tuple c) (.tuple c'):=.tuple h.1 h.2
theorem zip[low:zaD][Twin L M](hz:zbt L){R:BR}(h:zaj R x x')(t a:TypeId)(ok:Bool):zag L M QV R (Instr.typeAssert x t a ok) (Instr.typeAssert x' t a ok):=by
 have holds:∀ {R:BR} {v v':Value},zaj R v v'->zag L M QV R (pure (if ok=true then .tuple #[v,.bool true] else v)) (pure (if ok=true then .tuple #[v',.bool true] else v')):=by
  intro R v v' hv
  cases ok
  ·exact zad hv
  ·exact zad (zay.two hv (.bool true)).tup
 have fails:∀ {R:BR} (e:RuntimeError),zag L M QV R (if ok=true then (zeroValue a >>= fun z=>pure (.tuple #[z,.bool false])) else runtimePanic e) (if ok=true then (zeroValue a >>= fun z=>pure (.tuple #[z,.bool false])) else runtimePanic e):=by
  intro R e
  cases ok
  ·exact zag.never (zao e)
  ·exact zac (zbs hz a) fun _ _ _ _ hv=>zad (zay.two hv (.bool false)).tup
 unfold Instr.typeAssert
 refine zac (zai a) ?_
 rintro R1 h0 d _ rfl
 replace h:=h.mono h0
 cases h with
 | nilIface=>cases d <;> exact fails _
 | @iface t' v v' hv =>
  cases d with
  | interface want =>
   refine zac (zbr t') ?_
   rintro R2 h1 i _ rfl
   split
   ·exact holds (.iface t' (hv.mono h1))
   ·exact fails _
  | _=>exact za0 (fun _=>holds hv) (fun _=>fails _)
 | _=>cases d <;> exact zag.halt
theorem zkW[low:zaD]{R:BR}{fn:Fn}(hf:zos fn=true){a a':Array Value}(h:zay R a a')(h2:zay R c c'):zag L M QV R (Instr.makeFunc fn a c) (Instr.makeFunc fn a' c'):=zad (.func fn hf h.1 h.2 h2.1 h2.2)
theorem znr[low:zaD][Twin L M]{R:BR}(t:TypeId){o o':Option Value}(h:zcC R o o'):zag L M QV R (Instr.makeMap t o) (Instr.makeMap t o'):=by
 have tail:∀ R:BR,zag L M QV R (newObj (.map #[] 0) >>= fun r=>pure (.map (some r))) (newObj (.map #[] 0) >>= fun r=>pure (.map (some r))):=fun R =>
  zac (zgr (.other (.map ⟨rfl,fun i h=>absurd h qm⟩) (fun _ _ _ q=>q))) fun _ _ _ _ hr=>zad (.map hr)
 unfold Instr.makeMap
 rcases h with ⟨rfl,rfl⟩|⟨v,v',rfl,rfl,hv⟩
 ·exact tail R
 ·refine zac (zai t) ?_
  rintro R1 h0 d _ rfl
  cases d with
  | map _ _ =>
   refine zac (zex (hv.mono h0)) ?_
   rintro R2 h1 n _ rfl
   exact tail R2
  | _=>exact zag.halt
theorem zh9{α β:Type}{s:Sem α}[S:zaN P s]{f:α->Sem β}(Q:α->Prop)(hs:∀ w x w',s.run P w=.ok x w'->Q x)(hf:∀ a,Q a->zcM P (f a)):zcM P (s >>= f):=fun w=>by
 rw[Sem.run_bind]
 cases hr:s.run P w with
 | ok y v=>exact hf y (hs w y v hr) v
 | halt hh v=>exact⟨hh,v,rfl,S.soft w hh v hr⟩
instance softly_numberAt {P:Program} (r:Nat):zaN P (numberAt r):=by
 unfold numberAt
 have:∀ o:Obj,zaN P (match o with|.number a lost=>(pure (some (a,lost)):Sem (Option (Addr × Bool)))|_=>pure none):=fun o=>by split <;> infer_instance
 infer_instance
instance softly_behind {P:Program} (a:Addr):zaN P (behindNumber a):=by
 unfold behindNumber
 infer_instance
theorem run_program{x:Program}(h:(program).run P w=.ok x w'):x=P:=by
 simp[program,Sem.run] at h
 exact h.1.symm
theorem run_typeInfo{x:TypeInfo}(h:(typeInfo t).run P w=.ok x w'):P.info? t=some x:=by
 unfold typeInfo at h
 rw[Sem.run_bind] at h
 simp only[program,Sem.run,Result.andThen] at h
 cases hi:P.info? t with
 | none=>rw[hi] at h;simp[stuck] at h
 | some i=>rw[hi] at h;simp[pure] at h;rw[h.1]
def zia(L:Program)(t:TypeId):Bool:=match L.info? t with
 | some i=>(match i.desc with|.named n _=>n != "sync.copyChecker"|_=>true)
 | none=>true
def zsa(L:Program):Nat->TypeId->Bool
 | 0,_=>false
 | d+1,t=>match L.underlying t with
  | some .bool|some .string|some (.slice _)|some (.map ..)|some (.func ..)=>true
  | some (.int _)=>zia L t
  | some (.struct fs)=>!L.stoodInHeld t && fs.all fun f=>zsa L d f.type
  | _=>false
class zbG(L M:Program):Prop extends Twin L M where
 stood:∀ t,M.stoodInHeld t=L.stoodInHeld t
 eqg:∀ d t,M.eqGuardType d t=L.eqGuardType d t
 depth:M.depth=L.depth
 globals:L.globals.size=0
 boc:∀ d e n,byteOfCell M d e n=byteOfCell L d e n
 cab:∀ d e c o n,cellAtBytes M d e c o n=cellAtBytes L d e c o n
theorem zpJ[low:zaD]{α β:Type}{Q:BR->β->β->Prop}(hQ:∀ R R':BR,R.le R'->∀ a b,Q R a b->Q R' a b){f f':α->β->Sem (ForInStep β)}:∀(as:List α) (R:BR) (b b':β),Q R b b' ->
  (∀ a∈as,∀ R':BR,R.le R'->∀ c c',Q R' c c'->zag L M (fun R x x'=>(∃ d d',x=.done d/\x'=.done d'/\Q R d d')\/(∃ d d',x=.yield d/\x'=.yield d'/\Q R d d')) R' (f a c) (f' a c')) ->
  zag L M Q R (forIn as b f) (forIn as b' f')
 | [],R,b,b',h,_=>by rw[List.forIn_nil,List.forIn_nil];exact zad h
 | a::as,R,b,b',h,hf=>by
  rw[List.forIn_cons,List.forIn_cons]
  refine zac (hf a qm R (BR.le_refl R) b b' h) ?_
  rintro R1 h0 x x' (⟨d,d',rfl,rfl,hd⟩|⟨d,d',rfl,rfl,hd⟩)
  ·exact zad hd
  ·exact zpJ hQ as R1 d d' hd (fun a ha R' hR'=>hf a (by simp[ha]) R' (BR.le_trans h0 hR'))
theorem ze2(hg:P.globals.size=0)(ht:zia P t=true)(a b:Addr):zcM P (do
   let (a,b):=((<- behindNumber a).1,(<- behindNumber b).1)
   if a.block == b.block && a.block<(<- program).globals.size then return (<- byteOf a) == (<- byteOf b)
   let .named "sync.copyChecker" _:=(<- typeInfo t).desc|unsupported .addressObserved
   if a == b then pure true else unsupported .addressObserved:Sem Bool):=by
 refine zat fun p=>zat fun q=>zh9 (fun x=>x=P) (fun w x w' h=>run_program h) ?_
 intro y hy
 rw[hy]
 have e:¬ ((p.fst.block == q.fst.block && decide (p.fst.block<P.globals.size))=true):=by rw[hg];simp
 simp only[e]
 refine zh9 (fun i=>P.info? t=some i) (fun w x w' h=>run_typeInfo h) ?_
 intro i hi
 have hd:∀ u,i.desc≠.named "sync.copyChecker" u:=by
  intro u q
  simp[zia,hi,q] at ht
 split
 ·rename_i u hu
  exact absurd hu (hd _)
 ·exact zan
theorem znn[low:zaD][T:zbG L M]:∀(D d:Nat) (t:TypeId),zsa L d t=true->∀(R:BR) {x x' y y':Value},zaj R x x'->zaj R y y'->zag L M QEq R (Op.equalIn D t x y) (Op.equalIn D t x' y'):=by
 intro D
 induction D with
 | zero=>exact fun d t _ R x x' y y' _ _=>zag.halt
 | succ D ih =>
  intro d t ht R x x' y y' hx hy
  cases d with
  | zero=>simp[zsa] at ht
  | succ d =>
  unfold Op.equalIn
  refine zac (zaJ t) ?_
  rintro R1 h5 ds _ ⟨rfl,h7⟩
  replace hx:=hx.mono h5
  replace hy:=hy.mono h5
  simp only[zsa,h7] at ht
  cases ds with
  | bool=>cases hx <;> cases hy <;> first|exact zad rfl|exact zag.halt
  | string=>cases hx <;> cases hy <;> first|exact zad rfl|exact zag.halt
  | int k =>
   have hn:∀ a b:Addr,zcM L (do
     let (a,b):=((<- behindNumber a).1,(<- behindNumber b).1)
     if a.block == b.block && a.block<(<- program).globals.size then return (<- byteOf a) == (<- byteOf b)
     let .named "sync.copyChecker" _:=(<- typeInfo t).desc|unsupported .addressObserved
     if a == b then pure true else unsupported .addressObserved:Sem Bool):=fun a b=>ze2 T.globals ht a b
   cases hx with
   | int k1 n1 =>
    cases hy with
    | int k2 n2=>exact za0 (fun _=>zad rfl) (fun _=>zag.halt)
    | ptr h =>
     cases n1 with
     | ofNat m=>cases m <;> first|exact zad rfl|exact zag.halt
     | negSucc m=>exact zag.halt
    | nilPtr =>
     cases n1 with
     | ofNat m=>cases m <;> exact zag.halt
     | negSucc m=>exact zag.halt
    | _=>exact zag.halt
   | ptr h =>
    cases hy with
    | int k2 n2 =>
     cases n2 with
     | ofNat m=>cases m <;> first|exact zad rfl|exact zag.halt
     | negSucc m=>exact zag.halt
    | ptr h2=>exact zag.never (hn _ _)
    | _=>exact zag.halt
   | nilPtr =>
    cases hy with
    | int k2 n2 =>
     cases n2 with
     | ofNat m=>cases m <;> exact zag.halt
     | negSucc m=>exact zag.halt
    | _=>exact zag.halt
   | _=>cases hy <;> exact zag.halt
  | slice e=>cases hx <;> cases hy <;> first|exact zad rfl|exact zag.halt
  | map k e=>cases hx <;> cases hy <;> first|exact zad rfl|exact zag.halt
  | func a b c=>cases hx <;> cases hy <;> first|exact zad rfl|exact zag.halt
  | struct fields =>
   cases hx with
   | agg h1 h2 =>
    cases hy with
    | agg h3 h4 =>
     refine zac zaZ ?_
     rintro R2 h6 p p' ⟨rfl,rfl⟩
     simp only[Bool.and_eq_true,Bool.not_eq_true',Array.all_eq_true_iff_forall_mem] at ht
     rw[T.stood,ht.1]
     simp only[Bool.false_eq_true,if_false]
     rw[<- Array.forIn_toList,<- Array.forIn_toList]
     refine zac (zpJ (Q:=QEq) (fun _ _ _ _ _ e=>e) fields.toList R2 _ _ rfl ?_) ?_
     ·rintro f hf R3 h0 c _ rfl
      refine za0 (fun _=>?_) (fun _=>zad (Or.inr ⟨_,_,rfl,rfl,rfl⟩))
      refine zac (zgt f.type (zay.mono h0 (zay.mono h6 ⟨h1,h2⟩)) _) ?_
      intro R4 h8 u u' hu
      refine zac (zgt f.type (zay.mono h8 (zay.mono h0 (zay.mono h6 ⟨h3,h4⟩))) _) ?_
      intro R5 h9 v v' hv
      refine zac (ih d f.type (ht.2 f (by simpa using hf)) R5 (hu.mono h9) hv) ?_
      rintro R6 he b _ rfl
      refine za0 (fun _=>zad (Or.inl ⟨_,_,rfl,rfl,rfl⟩)) (fun _=>zad (Or.inr ⟨_,_,rfl,rfl,rfl⟩))
     ·rintro R3 h0 c _ rfl
      split <;> exact zad rfl
    | _=>exact zag.halt
   | _=>cases hy <;> exact zag.halt
  | _=>simp at ht
def zkr(L:Program)(t:TypeId):Bool:=match L.underlying t with
 | some .bool|some .string=>true
 | some (.int _)=>zia L t
 | _=>false
theorem zgl[low:zaD][Twin L M]{R:BR}(h:zkr L t=true)(b:Bool)(n:Nat)(hv:zaj R v v'):zag L M QEq R (Instr.checkKey b (n+1) t v) (Instr.checkKey b (n+1) t v'):=by
 unfold Instr.checkKey
 refine zac (zaJ t) ?_
 rintro R1 h0 d _ ⟨rfl,hd⟩
 simp only[zkr,hd] at h
 cases d <;> first|(simp at h;done)|(cases hv <;> exact zad rfl)
abbrev QF:BR->Option (Nat × Value)->Option (Nat × Value)->Prop:=fun R a b=>(a=none/\b=none)\/∃ i v v',a=some (i,v)/\b=some (i,v')/\zaj R v v'
inductive zd6(R:BR):List MapEntry->List MapEntry->Prop
 | nil:zd6 R [] []
 | cons {v v':MapEntry} {r r':List MapEntry}:zqd R v v'->zd6 R r r'->zd6 R (v::r) (v'::r')
theorem zd6.mono{R R':BR}(hR:R.le R'){l l':List MapEntry}(h:zd6 R l l'):zd6 R' l l':=by
 induction h with
 | nil=>exact .nil
 | cons hv _ ih=>exact .cons (hv.mono hR) ih
theorem zd6.of_get{R:BR}:∀(l l':List MapEntry),l.length=l'.length->(∀ i (h:i<l.length) (h':i<l'.length),zqd R l[i] l'[i])->zd6 R l l'
 | [],[],_,_=>.nil
 | [],_::_,h,_=>by simp at h
 | _::_,[],h,_=>by simp at h
 | v::r,v'::r',h,hg=>.cons (hg 0 qm qm) (zd6.of_get r r' (by simpa using h) (fun i h1 h2=>hg (i+1) (Nat.succ_lt_succ h1) (Nat.succ_lt_succ h2)))
theorem zc4.all{R:BR}{c c':Array MapEntry}(h:zc4 R c c'):zd6 R c.toList c'.toList :=
 zd6.of_get _ _ (by simpa using h.1) (fun i h1 h2=>by simpa using h.2 i (by simpa using h1) (by simpa using h2))
def zjX:Value->Bool
 | .bool _|.int _ _|.string _=>true
 | _=>false
theorem zgg(d:TypeDesc)(h:zjX k=false)(e:Value):Instr.sameNow d k e=none:=by
 cases k <;> first|(cases h;done)|(cases d <;> rfl)
theorem zgh(d:TypeDesc)(k:Value){e:Value}(h:zjX e=false):Instr.sameNow d k e=none:=by
 cases e <;> first|(cases h;done)|(cases d <;> first|rfl|(cases k <;> rfl))
theorem zg7(h:zfF v=true):zjX v=false:=by cases v with|bool b=>cases h|int k n=>cases h|string s=>cases h|_=>rfl
theorem zoL{R:BR}(h:zaj R v v')(hk:zjX v=true):v'=v:=by cases h <;> first|rfl|(cases hk;done)
def KF(k:Value)(es:List MapEntry)(i:Nat)(a:Option (Nat × Value)):Prop:=∀ j v,a=some (j,v)->zjX k=true/\i<=j/\∃ e,es[j - i]?=some e/\zjX e.key=true
theorem KF.none(k:Value)(es:List MapEntry)(i:Nat):KF k es i none:=fun _ _ q=>by cases q
theorem KF.here{e:MapEntry}{es:List MapEntry}(hk:zjX k=true)(he:zjX e.key=true)(v:Value):KF k (e::es) i (some (i,v)):=fun j u q=>by
 cases q
 exact⟨hk,Nat.le_refl _,e,qm,he⟩
theorem KF.next{e:MapEntry}{es:List MapEntry}{a:Option (Nat × Value)}(h:KF k es (i+1) a):KF k (e::es) i a:=fun j v q=>by
 obtain⟨h1,h2,e',h3,h4⟩:=h j v q
 refine⟨h1,qg,e',?_,h4⟩
 have:j - i=(j - (i+1))+1:=qg
 rw[this,List.getElem?_cons_succ]
 exact h3
theorem zkV[low:zaD][T:zbG L M](D:Nat)(ht:zkr L t=true)(R:BR)(hx:zaj R x x')(hy:zaj R y y'):zag L M (fun _ a b=>a=b/\(a=true->zjX x=true/\zjX y=true)) R (Op.equalIn D t x y) (Op.equalIn D t x' y'):=by
 cases D with
 | zero=>exact zag.halt
 | succ D =>
 unfold Op.equalIn
 refine zac (zaJ t) ?_
 rintro R1 h0 ds _ ⟨rfl,h1⟩
 replace hx:=hx.mono h0
 replace hy:=hy.mono h0
 simp only[zkr,h1] at ht
 cases ds with
 | bool=>cases hx <;> cases hy <;> first|exact zad ⟨rfl,fun _=>⟨rfl,rfl⟩⟩|exact zag.halt
 | string=>cases hx <;> cases hy <;> first|exact zad ⟨rfl,fun _=>⟨rfl,rfl⟩⟩|exact zag.halt
 | int k =>
  have hn:∀ a b:Addr,zcM L (do
    let (a,b):=((<- behindNumber a).1,(<- behindNumber b).1)
    if a.block == b.block && a.block<(<- program).globals.size then return (<- byteOf a) == (<- byteOf b)
    let .named "sync.copyChecker" _:=(<- typeInfo t).desc|unsupported .addressObserved
    if a == b then pure true else unsupported .addressObserved:Sem Bool):=fun a b=>ze2 T.globals ht a b
  cases hx with
  | int k1 n1 =>
   cases hy with
   | int k2 n2=>exact za0 (fun _=>zad ⟨rfl,fun _=>⟨rfl,rfl⟩⟩) (fun _=>zag.halt)
   | ptr h =>
    cases n1 with
    | ofNat m=>cases m <;> first|exact zad ⟨rfl,fun q=>(by cases q)⟩|exact zag.halt
    | negSucc m=>exact zag.halt
   | nilPtr =>
    cases n1 with
    | ofNat m=>cases m <;> exact zag.halt
    | negSucc m=>exact zag.halt
   | _=>exact zag.halt
  | ptr h =>
   cases hy with
   | int k2 n2 =>
    cases n2 with
    | ofNat m=>cases m <;> first|exact zad ⟨rfl,fun q=>(by cases q)⟩|exact zag.halt
    | negSucc m=>exact zag.halt
   | ptr h2=>exact zag.never (hn _ _)
   | _=>exact zag.halt
  | nilPtr =>
   cases hy with
   | int k2 n2 =>
    cases n2 with
    | ofNat m=>cases m <;> exact zag.halt
    | negSucc m=>exact zag.halt
   | _=>exact zag.halt
  | _=>cases hy <;> exact zag.halt
 | _=>simp at ht
abbrev QFK(k:Value)(es:List MapEntry)(i:Nat):BR->Option (Nat × Value)->Option (Nat × Value)->Prop:=fun R a b=>QF R a b/\KF k es i a
theorem zio[low:zaD][zbG L M](ht:zkr L t=true){R0:BR}{es es':List MapEntry}(h:zd6 R0 es es'):∀ {R:BR},R0.le R->∀ {k k':Value},zaj R k k'->∀ i,zag L M (QFK k es i) R (Instr.findAsking t k es i) (Instr.findAsking t k' es' i):=by
 induction h with
 | nil=>exact fun _ _ _ _ _=>zad ⟨Or.inl ⟨rfl,rfl⟩,KF.none _ _ _⟩
 | cons he _ ih =>
  intro R hR k k' hk i
  unfold Instr.findAsking
  refine zac (zkV _ ht R hk (he.key.mono hR)) ?_
  rintro R1 h0 b _ ⟨rfl,hb⟩
  cases b
  ·exact(ih (BR.le_trans hR h0) (hk.mono h0) (i+1)).imp fun R a b q=>⟨q.1,q.2.next⟩
  ·exact zad ⟨Or.inr ⟨_,_,_,rfl,rfl,(he.val.mono hR).mono h0⟩,KF.here (hb rfl).1 (hb rfl).2 _⟩
theorem zkN{R:BR}(d:TypeDesc){e e':Value}(hk:zaj R k k')(he:zaj R e e'):Instr.sameNow d k e=Instr.sameNow d k' e':=by
 by_cases q1:∃ h:zfF k'=true,k=.tuple #[]
 ·obtain⟨h,rfl⟩:=q1
  rw[zgg d rfl,zgg d (zg7 h)]
 by_cases q2:∃ h:zfF e'=true,e=.tuple #[]
 ·obtain⟨h,rfl⟩:=q2
  rw[zgh d k rfl,zgh d k' (zg7 h)]
 cases hk with
 | junk _ h=>exact absurd ⟨h,rfl⟩ q1
 | _ =>
  cases he with
  | junk _ h=>exact absurd ⟨h,rfl⟩ q2
  | _=>cases d <;> rfl
theorem zkh{R:BR}(d:TypeDesc)(hk:zaj R k k'){es es':List MapEntry}(h:zd6 R es es'):∀ i,(Instr.findNow d k es i=none/\Instr.findNow d k' es' i=none)\/∃ r r',Instr.findNow d k es i=some r/\Instr.findNow d k' es' i=some r'/\QF R r r':=by
 induction h with
 | nil=>exact fun i=>Or.inr ⟨_,_,rfl,rfl,Or.inl ⟨rfl,rfl⟩⟩
 | cons he _ ih =>
  intro i
  unfold Instr.findNow
  rw[<- zkN d hk he.key]
  cases Instr.sameNow d k _ with
  | none=>exact Or.inl ⟨rfl,rfl⟩
  | some b =>
   cases b
   ·exact ih (i+1)
   ·exact Or.inr ⟨_,_,rfl,rfl,Or.inr ⟨_,_,_,rfl,rfl,he.val⟩⟩
theorem zgf{d:TypeDesc}{e:Value}(h:Instr.sameNow d k e=some b):zjX k=true/\zjX e=true:=by
 refine⟨?_,?_⟩
 ·cases q:zjX k with
  | true=>rfl
  | false=>rw[zgg d q] at h;cases h
 ·cases q:zjX e with
  | true=>rfl
  | false=>rw[zgh d k q] at h;cases h
theorem zkg(d:TypeDesc)(k:Value):∀(es:List MapEntry) (i:Nat) (r:Option (Nat × Value)),Instr.findNow d k es i=some r->KF k es i r:=by
 intro es
 induction es with
 | nil=>intro i r h;cases h;exact KF.none _ _ _
 | cons e es ih =>
  intro i r h
  unfold Instr.findNow at h
  cases hs:Instr.sameNow d k e.key with
  | none=>rw[hs] at h;cases h
  | some b =>
   rw[hs] at h
   cases b
   ·exact(ih _ _ h).next
   ·cases h
    exact KF.here (zgf hs).1 (zgf hs).2 _
theorem zhm[low:zaD][zbG L M]{R:BR}(ht:zkr L t=true)(hk:zaj R k k'){es es':List MapEntry}(h:zd6 R es es'):zag L M (QFK k es 0) R (Instr.findKey t k es) (Instr.findKey t k' es'):=by
 unfold Instr.findKey
 refine zac (zai t) ?_
 rintro R1 h0 d _ rfl
 rcases zkh d (hk.mono h0) (h.mono h0) 0 with ⟨e1,e2⟩|⟨r,r',e1,e2,hr⟩
 ·rw[e1,e2]
  exact zio ht h h0 (hk.mono h0) 0
 ·rw[e1,e2]
  exact zad ⟨hr,zkg _ _ _ _ _ e1⟩
def zmL(L:Program)(t:TypeId):Bool:=match L.underlying t with
 | some (.map k _)=>zkr L k
 | _=>true
theorem zpP[low:zaD][zbG L M](hz:zbt L){R:BR}(ht:zmL L t=true)(hx:zaj R x x')(hk:zaj R k k')(ok:Bool):zag L M QV R (Instr.lookup t x k ok) (Instr.lookup t x' k' ok):=by
 unfold Instr.lookup
 refine zac (zaJ t) ?_
 rintro R1 h1 d _ ⟨rfl,hd⟩
 simp only[zmL,hd] at ht
 replace hx:=hx.mono h1
 replace hk:=hk.mono h1
 cases d with
 | map key elem =>
  simp only at ht
  have tail:∀(R:BR) {es es':Array MapEntry},zc4 R es es'->zaj R k k'->zag L M QV R
    (Instr.checkKey es.isEmpty 10000 key k >>= fun _=>Instr.findKey key k es.toList >>= fun r=>match r with|some (_,v)=>pure (if ok then .tuple #[v,.bool true] else v)|none=>zeroValue elem >>= fun z=>pure (if ok then .tuple #[z,.bool false] else z))
    (Instr.checkKey es'.isEmpty 10000 key k' >>= fun _=>Instr.findKey key k' es'.toList >>= fun r=>match r with|some (_,v)=>pure (if ok then .tuple #[v,.bool true] else v)|none=>zeroValue elem >>= fun z=>pure (if ok then .tuple #[z,.bool false] else z)):=by
   intro R es es' h2 hk
   have ee:es'.isEmpty=es.isEmpty:=by rw[Bool.eq_iff_iff];simp[Array.isEmpty_iff,<- Array.size_eq_zero_iff,h2.1]
   rw[ee]
   refine zac (zgl ht _ 9999 hk) ?_
   rintro R2 h0 _ _ _
   refine zac (zhm ht (hk.mono h0) (h2.mono h0).all) ?_
   rintro R3 h4 r r' ⟨⟨rfl,rfl⟩|⟨i,v,v',rfl,rfl,hv⟩,_⟩
   ·refine zac (zbs hz elem) ?_
    intro R4 h5 z z' h3
    cases ok
    ·exact zad h3
    ·exact zad (zay.two h3 (.bool false)).tup
   ·cases ok
    ·exact zad hv
    ·exact zad (zay.two hv (.bool true)).tup
  cases hx with
  | map hr =>
   refine zac (zdt hr) ?_
   rintro R2 h0 _ _ ⟨@⟨c,c',n,hc⟩|_|_,_⟩
   rotate_left
   ·exact zag.halt
   ·exact zag.halt
   exact tail R2 hc (hk.mono h0)
  | nilMap=>exact tail R1 (es:=#[]) (es':=#[]) ⟨rfl,fun i h=>absurd h qm⟩ hk
  | _=>exact zag.halt
 | _=>exact zag.halt
theorem zgo[low:zaD]{R:BR}{a a' b b':Value}(ha:zaj R a a')(hb:zaj R b b')(ka:zjX a=true)(kb:zjX b=true):zag L M QV R (Instr.keyThatStays a b) (Instr.keyThatStays a' b'):=by
 obtain rfl:=zoL ha ka
 obtain rfl:=zoL hb kb
 unfold Instr.keyThatStays
 refine za0 (fun _=>zad hb) (fun _=>?_)
 refine zac (Q:=QEq) (.choose fun n=>.pure rfl) ?_
 rintro R1 h0 n _ rfl
 refine zad ?_
 split
 ·exact hb.mono h0
 ·exact ha.mono h0
theorem zc4.modify{R:BR}{c c':Array MapEntry}(h:zc4 R c c')(i:Nat){f f':MapEntry->MapEntry}(hf:∀ e e',zqd R e e'->zqd R (f e) (f' e')):zc4 R (c.modify i f) (c'.modify i f'):=by
 refine⟨by simp[h.1],fun j h1 h2=>?_⟩
 simp only[Array.size_modify] at h1 h2
 rw[Array.getElem_modify,Array.getElem_modify]
 split
 ·exact hf _ _ (h.2 j h1 h2)
 ·exact h.2 j h1 h2
theorem zc4.push{R:BR}{c c':Array MapEntry}(h:zc4 R c c'){e e':MapEntry}(he:zqd R e e'):zc4 R (c.push e) (c'.push e'):=by
 refine⟨by simp[h.1],fun i h1 h2=>?_⟩
 rw[Array.getElem_push,Array.getElem_push]
 simp only[Array.size_push] at h1 h2
 by_cases hi:i<c.size
 ·have hi':i<c'.size:=by rw[<- h.1];exact hi
  rw[dif_pos hi,dif_pos hi']
  exact h.2 i hi hi'
 ·rw[dif_neg hi,dif_neg (by rw[<- h.1];exact hi)]
  exact he
theorem zc4.keyAt{R:BR}{c c':Array MapEntry}(h:zc4 R c c')(i:Nat)(hk:zaj R k k'):zaj R (((c[i]?).map (·.key)).getD k) (((c'[i]?).map (·.key)).getD k'):=by
 by_cases q:i<c.size
 ·have q':i<c'.size:=by rw[<- h.1];exact q
  rw[Array.getElem?_eq_getElem q,Array.getElem?_eq_getElem q']
  exact(h.2 i q q').key
 ·rw[Array.getElem?_eq_none qg,Array.getElem?_eq_none (by have:=h.1;omega)]
  exact hk
theorem ze6[low:zaD][zbG L M]{R:BR}(_h1:R.One)(ht:zmL L t=true){m m':Value}(hm:zaj R m m')(hk:zaj R k k')(hv:zaj R v v'):zag L M QEq R (Instr.mapUpdate t m k v) (Instr.mapUpdate t m' k' v'):=by
 unfold Instr.mapUpdate
 refine zac (zaJ t) ?_
 rintro R1 h3 d _ ⟨rfl,hd⟩
 simp only[zmL,hd] at ht
 replace hm:=hm.mono h3
 replace hk:=hk.mono h3
 replace hv:=hv.mono h3
 cases d with
 | map key elem =>
  simp only at ht
  cases hm with
  | map hr =>
   refine zac (zdt hr) ?_
   rintro R2 h1 _ _ ⟨@⟨c,c',n,hc⟩|_|_,h7⟩
   rotate_left
   ·exact zag.halt
   ·exact zag.halt
   have h5:=h7 _ _ rfl
   dsimp only
   refine zac (zgl ht false 9999 (hk.mono h1)) ?_
   rintro R3 h0 _ _ _
   refine zac (zhm ht ((hk.mono h1).mono h0) (hc.mono h0).all) ?_
   rintro R4 h2 r r' ⟨⟨rfl,rfl⟩|⟨i,u,u',rfl,rfl,hu⟩,h8⟩
   ·have up:R1.le R4:=BR.le_trans h1 (BR.le_trans h0 h2)
    exact zjM h5 (up.1 _ _ hr) _ (((hc.mono h0).mono h2).push ⟨hk.mono up,hv.mono up,rfl⟩)
   ·have up:R1.le R4:=BR.le_trans h1 (BR.le_trans h0 h2)
    have h6:=(hc.mono h0).mono h2
    obtain⟨k1,_,e0,k2,k3⟩:=h8 _ _ rfl
    have k4:((c[i]?).map (·.key)).getD k=e0.key:=by
     have k2':c[i]?=some e0:=by simpa using k2
     rw[k2']
     rfl
    refine zac (zgo (h6.keyAt i (hk.mono up)) (hk.mono up) (by rw[k4];exact k3) k1) ?_
    intro R5 h4 kk kk' h9
    exact zjM h5 ((BR.le_trans up h4).1 _ _ hr) _ ((h6.mono h4).modify i fun e e' he=>⟨h9,(hv.mono up).mono h4,he.born⟩)
  | nilMap=>exact zag.never (zao _)
  | _=>exact zag.halt
 | _=>exact zag.halt
theorem zft[low:zaD]{R:BR}(op:BinOp)(k:IntKind)(x:Int)(yk:IntKind)(y:Int):zag L M QV R (Op.shift op k x yk y) (Op.shift op k x yk y):=by
 unfold Op.shift
 split
 ·exact zag.never (zao _)
 ·dsimp only
  split <;> first|exact zad (.int _ _)|exact zaB
theorem zd1[low:zaD]{R:BR}(op:BinOp)(x y:ByteArray):zag L M QV R (Op.stringOp op x y) (Op.stringOp op x y):=by
 unfold Op.stringOp
 dsimp only
 split
 ·split
  ·exact zag.halt
  ·exact zad (.string _)
 all_goals first|exact zad (.bool _)|exact zaB
theorem zl6[low:zaD][zbG L M]{R:BR}(ht:zsa L 40 t=true)(hx:zaj R x x')(hy:zaj R y y'):zag L M QEq R (Op.equal t x y) (Op.equal t x' y'):=znn _ 40 t ht R hx hy
theorem zg1[Twin L M](t:TypeId):M.cellsOf t=L.cellsOf t:=by unfold Program.cellsOf;rw[Twin.info (L:=L) (M:=M)]
theorem zmr[Twin L M](t:TypeId):M.bytesOf t=L.bytesOf t:=by unfold Program.bytesOf;rw[Twin.info (L:=L) (M:=M)]
theorem zjN[low:zaD]{R:BR}(h:R r r'):zag L M (fun _ a b=>a=none/\b=none) R (viewAt r) (viewAt r'):=by
 unfold viewAt
 refine zac (zeA h) ?_
 rintro R1 h0 s _ rfl
 refine za0 (fun _=>zad ⟨rfl,rfl⟩) (fun _=>?_)
 refine zac (zdt (h0.1 _ _ h)) ?_
 rintro R2 h1 o o' ⟨ho,_⟩
 cases ho <;> exact zad ⟨rfl,rfl⟩
theorem zpR[low:zaD]{R:BR}(h:zbY R a a'):zag L M QEq R (noView a) (noView a'):=by
 unfold noView
 refine zac (zjN h.1) ?_
 rintro R1 h0 _ _ ⟨rfl,rfl⟩
 exact zad rfl
abbrev QN:BR->Addr × Bool->Addr × Bool->Prop:=fun R a b=>zbY R a.1 b.1/\a.2=b.2
theorem zgs[low:zaD]{R:BR}(h:R r r'):zag L M (fun R a b=>(a=none/\b=none)\/∃ x x',a=some x/\b=some x'/\QN R x x') R (numberAt r) (numberAt r'):=by
 unfold numberAt
 refine zac (zeA h) ?_
 rintro R1 h0 s _ rfl
 refine za0 (fun _=>zad (Or.inl ⟨rfl,rfl⟩)) (fun _=>?_)
 refine zac (zdt (h0.1 _ _ h)) ?_
 rintro R2 h1 o o' ⟨ho,_⟩
 cases ho with
 | map _=>exact zad (Or.inl ⟨rfl,rfl⟩)
 | hid=>exact zad (Or.inl ⟨rfl,rfl⟩)
 | number ha=>exact zad (Or.inr ⟨_,_,rfl,rfl,ha,rfl⟩)
theorem zds[low:zaD]{R:BR}(h:zbY R a a'):zag L M QN R (behindNumber a) (behindNumber a'):=by
 unfold behindNumber
 refine zac (zgs h.1) ?_
 rintro R1 h0 _ _ (⟨rfl,rfl⟩|⟨x,x',rfl,rfl,hx⟩)
 ·exact zad ⟨h.mono h0,rfl⟩
 ·exact zad hx
theorem zpH[low:zaD][zbG L M]{R:BR}(h:zbY R a a'):zag L M QEq R (byteOf a) (byteOf a'):=by
 unfold byteOf
 rw[<- h.2.2]
 cases a.spot with
 | some s=>exact zad rfl
 | none =>
  refine zac zaZ ?_
  rintro R1 h0 p p' ⟨rfl,rfl⟩
  refine zac (zpR (h.mono h0)) ?_
  rintro R2 h1 _ _ _
  refine zac (zeA ((h.mono h0).mono h1).1) ?_
  rintro R3 h2 s _ rfl
  cases s with
  | none=>exact zag.halt
  | some e =>
   obtain⟨e,n⟩:=e
   dsimp only
   rw[zg1 (L:=p) (M:=p'),zmr (L:=p) (M:=p'),zbG.boc (L:=p) (M:=p'),zbG.depth (L:=p) (M:=p'),h.2.1]
   refine za0 (fun _=>zad rfl) (fun _=>?_)
   split
   ·exact zad rfl
   ·exact zag.halt
theorem zkU[low:zaD]{R:BR}(h:zbY R a a')(l:Bool):zag L M QV R (asNumber a l) (asNumber a' l):=by
 unfold asNumber
 exact zac (zgr (.other (.number h) (fun _ _ _ q=>q))) fun _ _ _ _ hr=>zad (.ptr ⟨hr,rfl,rfl⟩)
abbrev QPt:BR->Value->Value->Prop:=fun R v v'=>∃ a a',v=.pointer (some a)/\v'=.pointer (some a')/\zbY R a a'
theorem ptP{R:BR}(h:zbY R a a'):QPt R (.pointer (some a)) (.pointer (some a')):=⟨a,a',rfl,rfl,h⟩
theorem zeB[low:zaD][zbG L M]{R:BR}(ts:Array TypeId)(t:TypeId)(hx:zaj R x x')(hy:zaj R y y'):zag L M QPt R (Builtin.unsafeAdd_ ts t #[x,y]) (Builtin.unsafeAdd_ ts t #[x',y']):=by
 unfold Builtin.unsafeAdd_
 cases hx with
 | ptr ha =>
  refine zac (zex hy) ?_
  rintro R1 h0 n _ rfl
  refine za0 (fun _=>?_) (fun _=>?_)
  ·refine zac (zjN (ha.mono h0).1) ?_
   rintro R2 h1 _ _ ⟨rfl,rfl⟩
   exact zad (ptP ((ha.mono h0).mono h1))
  ·refine za0 (fun _=>zag.never (zaq zan)) (fun _=>?_)
   refine zac (zeA (ha.mono h0).1) ?_
   rintro R2 h1 s _ rfl
   cases s with
   | none=>exact zag.halt
   | some e =>
    obtain⟨e,c⟩:=e
    refine zac zaZ ?_
    rintro R3 h2 p p' ⟨rfl,rfl⟩
    rw[zg1 (L:=p) (M:=p'),zbG.cab (L:=p) (M:=p'),zbG.depth (L:=p) (M:=p'),ha.2.1]
    split
    ·exact zad (ptP ⟨(((ha.mono h0).mono h1).mono h2).1,rfl,ha.2.2⟩)
    ·exact zag.halt
 | nilPtr =>
  refine zac (zex hy) ?_
  rintro R1 h0 n _ rfl
  exact za0 (fun _=>zag.halt) (fun _=>za0 (fun _=>zag.never (zaq zan)) (fun _=>zag.halt))
 | _=>exact zag.halt
theorem zdw[low:zaD][zbG L M]{R:BR}(ts:Array TypeId)(t:TypeId)(hx:zaj R x x')(hy:zaj R y y'):zag L M QV R (Builtin.unsafeAdd_ ts t #[x,y]) (Builtin.unsafeAdd_ ts t #[x',y']) :=
 (zeB ts t hx hy).imp fun R v v' h=>by
  obtain⟨a,a',rfl,rfl,h⟩:=h
  exact .ptr h
theorem zbm[low:zaD][zbG L M]{R:BR}(t:TypeId)(hx:zaj R x x')(hy:zaj R y y'):zag L M QV R (movedNumber t x y) (movedNumber t x' y'):=by
 unfold movedNumber
 refine zac (zai t) ?_
 rintro R1 h0 d _ rfl
 replace hx:=hx.mono h0
 replace hy:=hy.mono h0
 have h3:=hx
 cases hx with
 | ptr ha =>
  rename_i n n'
  have tail:zag L M QV R1 (behindNumber n >>= fun p=>match p with
     | (a,lost)=>Builtin.unsafeAdd_ #[] t #[.pointer (some a),y] >>= fun v=>match v with|.pointer (some b)=>asNumber b lost|v=>pure v)
    (behindNumber n' >>= fun p=>match p with
     | (a,lost)=>Builtin.unsafeAdd_ #[] t #[.pointer (some a),y'] >>= fun v=>match v with|.pointer (some b)=>asNumber b lost|v=>pure v):=by
   refine zac (zds ha) ?_
   rintro R2 h4 ⟨a,l⟩ ⟨a',l'⟩ ⟨h1,h2⟩
   simp only at h1 h2
   subst h2
   refine zac (zeB #[] t (.ptr h1) (hy.mono h4)) ?_
   rintro R3 h5 _ _ ⟨b,b',rfl,rfl,hb⟩
   exact zkU hb _
  cases d <;> first|exact tail|exact zag.halt
 | _=>cases d <;> first|exact zdw #[] t h3 hy|exact zag.halt
theorem zgq[low:zaD][zbG L M]{R:BR}(t:TypeId)(hx:zaj R x x')(hy:zaj R y y'):zag L M QV R (movedPointer t x y) (movedPointer t x' y'):=by
 unfold movedPointer
 have h0:=hx
 cases hx with
 | ptr ha =>
  refine zac (zgs ha.1) ?_
  rintro R1 h1 _ _ (⟨rfl,rfl⟩|⟨u,u',rfl,rfl,_⟩)
  ·exact zdw #[] t (h0.mono h1) (hy.mono h1)
  ·exact zag.halt
 | junk _ _=>exact zag.halt
 | _=>exact zdw #[] t h0 hy
theorem zdj(hg:P.globals.size=0)(a b:Addr):zcM P (Op.twoPlaces a b):=by
 unfold Op.twoPlaces
 refine zh9 (fun x=>x=P) (fun w x w' h=>run_program h) ?_
 intro y hy
 rw[hy,hg]
 have e:(a.block != b.block || decide (a.block ≥ 0))=true:=qm
 rw[if_pos e]
 exact zaq zan
theorem znj[low:zaD][zbG L M]{R:BR}(k:IntKind)(h:zbY R a a')(n:Int):zag L M QV R (Op.addrMod k a n) (Op.addrMod k a' n):=by
 unfold Op.addrMod
 refine zac (zeA h.1) ?_
 rintro R1 h0 s _ rfl
 cases s with
 | none=>exact zag.halt
 | some e =>
  obtain⟨e,c⟩:=e
  refine zac (zbr e) ?_
  rintro R2 h1 i _ rfl
  refine za0 (fun _=>zag.never (zaq zan)) (fun _=>?_)
  refine zac (zpH ((h.mono h0).mono h1)) ?_
  rintro R3 h2 b _ rfl
  exact zad (.int _ _)
def zmm(L:Program)(op:BinOp)(t:TypeId):Bool:=match op with
 | .eql|.neq=>zsa L 40 t && !L.eqGuardType L.depth t
 | _=>true
def zoA:Value->Bool
 | .nilIface|.agg _=>true
 | _=>false
theorem zoB(op:BinOp)(t:TypeId)(x y:Operand){a:Value}(h:zoA a=false)(b:Value):eqGuard op t x y a b=pure ():=by
 unfold eqGuard
 cases a <;> first|(cases h;done)|(cases op <;> rfl)
theorem zhV(op:BinOp)(t:TypeId)(x y:Operand)(a:Value){b:Value}(h:zoA b=false):eqGuard op t x y a b=pure ():=by
 unfold eqGuard
 cases b <;> first|(cases h;done)|(cases op <;> first|rfl|(cases a <;> rfl))
theorem ze1(h:zfF v=true):zoA v=false:=by cases v with|nilIface=>cases h|agg c=>cases h|_=>rfl
theorem znm[low:zaD][zbG L M]{R:BR}(op:BinOp)(ht:zmm L op t=true)(x y:Operand){a a' b b':Value}(ha:zaj R a a')(hb:zaj R b b'):zag L M QEq R (eqGuard op t x y a b) (eqGuard op t x y a' b'):=by
 by_cases q1:zfF a'=true/\a=.tuple #[]
 ·obtain⟨h,rfl⟩:=q1
  rw[zoB op t x y rfl,zoB op t x y (ze1 h)]
  exact zad rfl
 by_cases q2:zfF b'=true/\b=.tuple #[]
 ·obtain⟨h,rfl⟩:=q2
  rw[zhV op t x y a rfl,zhV op t x y a' (ze1 h)]
  exact zad rfl
 by_cases h:op=.eql\/op=.neq
 ·have hg:L.eqGuardType L.depth t=false:=by rcases h with rfl|rfl <;> (simp[zmm] at ht;exact ht.2)
  have e2:zag L M QEq R (if ((match x with|.const _=>true|_=>false) || (match y with|.const _=>true|_=>false))=true then pure () else Op.eqGuardIn Op.maxDepth t .nilIface .nilIface >>= fun g=>if g=true then unsupported (.noEntry "binop/eql: two nil values of an interface type with methods, neither of them the literal nil") else pure ()) (if ((match x with|.const _=>true|_=>false) || (match y with|.const _=>true|_=>false))=true then pure () else Op.eqGuardIn Op.maxDepth t .nilIface .nilIface >>= fun g=>if g=true then unsupported (.noEntry "binop/eql: two nil values of an interface type with methods, neither of them the literal nil") else pure ()):=by
   refine za0 (fun _=>zad rfl) (fun _=>?_)
   refine zac (Q:=QEq) ?_ ?_
   ·show zag L M QEq R (Op.eqGuardIn (9999+1) t .nilIface .nilIface) (Op.eqGuardIn (9999+1) t .nilIface .nilIface)
    unfold Op.eqGuardIn
    refine zac (zai t) ?_
    rintro R1 h0 d _ rfl
    cases d <;> exact zad rfl
   ·rintro R1 h0 g _ rfl
    exact za0 (fun _=>zag.halt) (fun _=>zad rfl)
  have e3:∀ u u' v v':Value,zag L M QEq R (program >>= fun p=>program >>= fun q=>if (!p.eqGuardType q.depth t)=true then pure () else Op.eqGuardIn Op.maxDepth t u v >>= fun g=>if g=true then unsupported (.noEntry "binop/eql: two nil values of an interface type with methods, in a part of a struct or an array") else pure ()) (program >>= fun p=>program >>= fun q=>if (!p.eqGuardType q.depth t)=true then pure () else Op.eqGuardIn Op.maxDepth t u' v' >>= fun g=>if g=true then unsupported (.noEntry "binop/eql: two nil values of an interface type with methods, in a part of a struct or an array") else pure ()):=by
   intro u u' v v'
   refine zac zaZ ?_
   rintro R1 h0 p p' ⟨rfl,rfl⟩
   refine zac zaZ ?_
   rintro R2 h1 q q' ⟨rfl,rfl⟩
   rw[zbG.eqg (L:=q) (M:=q'),zbG.depth (L:=q) (M:=q'),hg]
   exact zad rfl
  rcases h with rfl|rfl
  ·cases ha with
   | nilIface =>
    cases hb with
    | nilIface=>exact e2
    | junk _ h=>exact absurd ⟨h,rfl⟩ q2
    | _=>exact zad rfl
   | agg _ _ =>
    cases hb with
    | agg _ _=>exact e3 _ _ _ _
    | junk _ h=>exact absurd ⟨h,rfl⟩ q2
    | _=>exact zad rfl
   | junk _ h=>exact absurd ⟨h,rfl⟩ q1
   | _ =>
    cases hb with
    | junk _ h=>exact absurd ⟨h,rfl⟩ q2
    | _=>exact zad rfl
  ·cases ha with
   | nilIface =>
    cases hb with
    | nilIface=>exact e2
    | junk _ h=>exact absurd ⟨h,rfl⟩ q2
    | _=>exact zad rfl
   | agg _ _ =>
    cases hb with
    | agg _ _=>exact e3 _ _ _ _
    | junk _ h=>exact absurd ⟨h,rfl⟩ q2
    | _=>exact zad rfl
   | junk _ h=>exact absurd ⟨h,rfl⟩ q1
   | _ =>
    cases hb with
    | junk _ h=>exact absurd ⟨h,rfl⟩ q2
    | _=>exact zad rfl
 ·have e1:∀ a b,eqGuard op t x y a b=pure ():=by
   intro a b
   unfold eqGuard
   cases op <;> first|rfl|exact absurd (Or.inl rfl) h|exact absurd (Or.inr rfl) h
  rw[e1,e1]
  exact zad rfl
theorem zgn[low:zaD]{R:BR}(op:BinOp)(t:TypeId)(k k':IntKind)(x y:Int):zag L M QV R (binOp op t (.int k x) (.int k' y)) (binOp op t (.int k x) (.int k' y)):=by
 by_cases hk:k=k'
 ·subst hk
  by_cases h:op=.shl\/op=.shr
  ·rcases h with rfl|rfl
   ·exact zft .shl k x k y
   ·exact zft .shr k x k y
  ·exact zpG op t k x y ⟨fun q=>h (Or.inl q),fun q=>h (Or.inr q)⟩
 ·cases op <;> first
   | exact zft .shl k x k' y
   | exact zft .shr k x k' y
   | (simp only[binOp,ne_eq,hk,not_false_eq_true,if_true];exact zaB)
theorem zdF(t:TypeId)(y:Value):zcM P (Op.equal t (.tuple #[]) y):=by
 show zcM P (Op.equalIn (9999+1) t (.tuple #[]) y)
 unfold Op.equalIn
 refine zat fun d=>?_
 cases d <;> (cases y <;> exact zan)
theorem zb2(t:TypeId)(x:Value):zcM P (Op.equal t x (.tuple #[])):=by
 show zcM P (Op.equalIn (9999+1) t x (.tuple #[]))
 unfold Op.equalIn
 refine zat fun d=>?_
 cases x with
 | pointer o=>cases o <;> (cases d <;> exact zan)
 | slice o _ _=>cases o <;> (cases d <;> exact zan)
 | map o=>cases o <;> (cases d <;> exact zan)
 | _=>cases d <;> exact zan
theorem ztY[low:zaD][zbG L M]{R:BR}(ht:zsa L 40 t=true)(hx:zaj R x x')(hy:zaj R y y'):zag L M QV R (binOp .eql t x y) (binOp .eql t x' y'):=by
 have tail:zag L M QV R (Op.equal t x y >>= fun b=>pure (.bool b)) (Op.equal t x' y' >>= fun b=>pure (.bool b)) :=
  zac (zl6 ht hx hy) fun _ _ _ _ e=>by rw[e];exact zad (.bool _)
 cases hx with
 | int k n =>
  cases hy with
  | int k' n'=>exact zgn _ _ _ _ _ _
  | junk _ _=>exact zag.never (show zcM L (Op.equal t _ (.tuple #[]) >>= (fun b=>pure (Value.bool b):Bool->Sem Value)) from zaq (zb2 t _))
  | _=>exact tail
 | string s =>
  cases hy with
  | string s'=>exact zd1 .eql s s'
  | junk _ _=>exact zag.never (show zcM L (Op.equal t _ (.tuple #[]) >>= (fun b=>pure (Value.bool b):Bool->Sem Value)) from zaq (zb2 t _))
  | _=>exact tail
 | junk _ _=>exact zag.never (show zcM L (Op.equal t (.tuple #[]) _ >>= (fun b=>pure (Value.bool b):Bool->Sem Value)) from zaq (zdF t _))
 | _ =>
  cases hy with
  | junk _ _=>exact zag.never (show zcM L (Op.equal t _ (.tuple #[]) >>= (fun b=>pure (Value.bool b):Bool->Sem Value)) from zaq (zb2 t _))
  | _=>exact tail
theorem zt0[low:zaD][zbG L M]{R:BR}(ht:zsa L 40 t=true)(hx:zaj R x x')(hy:zaj R y y'):zag L M QV R (binOp .neq t x y) (binOp .neq t x' y'):=by
 have tail:zag L M QV R (Op.equal t x y >>= fun b=>pure (.bool (!b))) (Op.equal t x' y' >>= fun b=>pure (.bool (!b))) :=
  zac (zl6 ht hx hy) fun _ _ _ _ e=>by rw[e];exact zad (.bool _)
 cases hx with
 | int k n =>
  cases hy with
  | int k' n'=>exact zgn _ _ _ _ _ _
  | junk _ _=>exact zag.never (show zcM L (Op.equal t _ (.tuple #[]) >>= (fun b=>pure (Value.bool (!b)):Bool->Sem Value)) from zaq (zb2 t _))
  | _=>exact tail
 | string s =>
  cases hy with
  | string s'=>exact zd1 .neq s s'
  | junk _ _=>exact zag.never (show zcM L (Op.equal t _ (.tuple #[]) >>= (fun b=>pure (Value.bool (!b)):Bool->Sem Value)) from zaq (zb2 t _))
  | _=>exact tail
 | junk _ _=>exact zag.never (show zcM L (Op.equal t (.tuple #[]) _ >>= (fun b=>pure (Value.bool (!b)):Bool->Sem Value)) from zaq (zdF t _))
 | _ =>
  cases hy with
  | junk _ _=>exact zag.never (show zcM L (Op.equal t _ (.tuple #[]) >>= (fun b=>pure (Value.bool (!b)):Bool->Sem Value)) from zaq (zb2 t _))
  | _=>exact tail
theorem zoV(hg:P.globals.size=0)(op:BinOp)(a b:Addr):zcM P (behindNumber a >>= fun p=>behindNumber b >>= fun q=>Op.addrCmp op p.1 q.1:Sem Value) :=
 zat fun _=>zat fun _=>zaq (zdj hg _ _)
theorem zoW(hg:P.globals.size=0)(k:IntKind)(a b:Addr):zcM P (behindNumber a >>= fun p=>behindNumber b >>= fun q=>Op.addrSub k p.1 q.1:Sem Value) :=
 zat fun _=>zat fun _=>zaq (zdj hg _ _)
theorem zso[low:zaD][zbG L M]{R:BR}(k:IntKind)(h:zbY R a a')(n:Int):zag L M QV R (behindNumber a >>= fun p=>Op.addrMod k p.1 n) (behindNumber a' >>= fun p=>Op.addrMod k p.1 n) :=
 zac (zds h) fun _ _ _ _ hp=>znj k hp.1 n
theorem zl8[low:zaD][zbG L M]{R:BR}(t:TypeId)(hx:zaj R x x')(hy:zaj R y y'):zag L M QV R (underlying t >>= fun d=>if (match d with|.unsafePointer=>true|_=>false)=true then movedPointer t x y else movedNumber t x y) (underlying t >>= fun d=>if (match d with|.unsafePointer=>true|_=>false)=true then movedPointer t x' y' else movedNumber t x' y'):=by
 refine zac (zai t) ?_
 rintro R1 h0 d _ rfl
 exact za0 (fun _=>zgq t (hx.mono h0) (hy.mono h0)) (fun _=>zbm t (hx.mono h0) (hy.mono h0))
theorem zrA[low:zaD][T:zbG L M]{R:BR}(op:BinOp)(ht:zmm L op t=true)(hx:zaj R x x')(hy:zaj R y y'):zag L M QV R (binOp op t x y) (binOp op t x' y'):=by
 by_cases h:op=.eql\/op=.neq
 ·rcases h with rfl|rfl
  ·exact ztY (by simp[zmm] at ht;exact ht.1) hx hy
  ·exact zt0 (by simp[zmm] at ht;exact ht.1) hx hy
 have n1:op≠.eql:=fun q=>h (Or.inl q)
 have n2:op≠.neq:=fun q=>h (Or.inr q)
 have h0:=hx
 have h1:=hy
 cases hx with
 | int k n =>
  cases hy with
  | int k' n'=>exact zgn _ _ _ _ _ _
  | ptr ha =>
   cases op <;> first
    | exact zag.halt
    | exact zbm t h1 h0
    | exact zso _ ha _
    | exact absurd rfl n1
    | exact absurd rfl n2
  | nilPtr =>
   cases op <;> first
    | exact zag.halt
    | exact zbm t h1 h0
    | exact absurd rfl n1
    | exact absurd rfl n2
  | _=>cases op <;> first|exact zag.halt|exact absurd rfl n1|exact absurd rfl n2
 | ptr ha =>
  cases hy with
  | int k n =>
   cases op <;> first
    | exact zag.halt
    | exact zl8 t h0 h1
    | exact zbm t h0 (.int _ _)
    | exact zso _ ha _
    | exact absurd rfl n1
    | exact absurd rfl n2
  | ptr hb =>
   cases op <;> first
    | exact zag.halt
    | exact zag.never (zoV T.globals _ _ _)
    | exact zag.never (zoW T.globals _ _ _)
    | exact absurd rfl n1
    | exact absurd rfl n2
  | _=>cases op <;> first|exact zag.halt|exact absurd rfl n1|exact absurd rfl n2
 | nilPtr =>
  cases hy with
  | int k n =>
   cases op <;> first
    | exact zag.halt
    | exact zl8 t h0 h1
    | exact zbm t h0 (.int _ _)
    | exact absurd rfl n1
    | exact absurd rfl n2
  | _=>cases op <;> first|exact zag.halt|exact absurd rfl n1|exact absurd rfl n2
 | string s =>
  cases hy with
  | string s'=>cases op <;> first|(simp only[binOp];exact zd1 _ _ _)|exact absurd rfl n1|exact absurd rfl n2
  | _=>cases op <;> first|exact zag.halt|exact absurd rfl n1|exact absurd rfl n2
 | _=>cases hy <;> (cases op <;> first|exact zag.halt|exact absurd rfl n1|exact absurd rfl n2)
def zn7(L:Program)(s d:TypeId):Bool:=match L.underlying s,L.underlying d with
 | some (.int _),some (.int _)=>true
 | some .string,some .string=>true
 | _,_=>false
theorem znl[low:zaD][Twin L M]{R:BR}{d:TypeId}(h:zn7 L s d=true)(hx:zaj R x x'):zag L M QV R (convert s d x) (convert s d x'):=by
 unfold convert
 refine zac (zaJ s) ?_
 rintro R1 h0 ds _ ⟨rfl,h1⟩
 refine zac (zaJ d) ?_
 rintro R2 h3 dd _ ⟨rfl,h2⟩
 simp only[zn7,h1,h2] at h
 replace hx:=(hx.mono h0).mono h3
 cases ds <;> cases dd <;> first
  | (simp at h;done)
  | (cases hx <;> first|exact zad (.int _ _)|exact zad (.string _)|exact zag.halt)
class zaF(L M:Program):Prop extends zbG L M where
 fn:∀(f:Nat) (fn:Func),L.funcs[f]?=some fn->fn.body.isSome=true->(fn.name == "runtime.NumGoroutine")=false/\∃ fn':Func,M.funcs[f]?=some fn'/\fn'.body.isSome=true/\(fn'.name == "runtime.NumGoroutine")=false
 dead:∀(f:Nat) (fn:Func),L.funcs[f]?=some fn->fn.body.isSome=false->∀ args,zcM L (callFunc f args)
 types:M.types.size=L.types.size
inductive zt8(L:Program)(R:BR):Next->Next->Prop
 | value {v v':Value}:zaj R v v'->zt8 L R (.value v) (.value v')
 | skip:zt8 L R .skip .skip
 | enter (f:FuncId) {a a':Array Value}:(∃ fn:Func,L.funcs[f]?=some fn/\fn.body.isSome=true)->zqk f a.size=true->zay R a a'->zt8 L R (.enter f a) (.enter f a')
abbrev QX(L:Program):BR->Next->Next->Prop:=fun R a b=>zt8 L R a b
theorem zcU[low:zaD][T:zaF L M]{R:BR}(f:FuncId){a a':Array Value}(h0:zqk f a.size=true)(h:zay R a a'):zag L M (QX L) R (callFunc f a) (callFunc f a'):=by
 by_cases hd:∃ fn,L.funcs[f]?=some fn/\fn.body.isSome=false
 ·obtain⟨fn,h1,h2⟩:=hd
  exact zag.never (T.dead f fn h1 h2 a)
 ·unfold callFunc
  refine zac zaZ ?_
  rintro R1 h3 p p' ⟨rfl,rfl⟩
  cases hf:p.funcs[f]? with
  | none=>exact zag.halt
  | some fn =>
   have hb:fn.body.isSome=true:=by
    cases hb:fn.body.isSome with
    | true=>rfl
    | false=>exact absurd ⟨fn,hf,hb⟩ hd
   obtain⟨n1,fn',hf',hb',n2⟩:=T.fn f fn hf hb
   rw[hf']
   have e1:fn.body.isNone=false:=by cases q:fn.body <;> simp_all
   have e2:fn'.body.isNone=false:=by cases q:fn'.body <;> simp_all
   simp only[n1,n2,e1,e2]
   exact zad (.enter f ⟨fn,hf,hb⟩ h0 (h.mono h3))
theorem znv[low:zaD]{R:BR}(ts:Array TypeId)(t:TypeId)(h:zaj R v v')(m:String):zag L M QV R (Builtin.ssaWrapNilChk_ ts t #[v,strVal "",strVal m]) (Builtin.ssaWrapNilChk_ ts t #[v',strVal "",strVal m]):=by
 cases h with
 | ptr h=>exact zad (.ptr h)
 | nilPtr =>
  refine zag.never (zat (s:=choose (.extern "ssa:wrapnilchk.dereferenced" 2)) fun n=>?_)
  refine zem (zaq (zao _)) ?_
  split
  ·refine zat fun d=>?_
   split
   ·refine zat fun i=>?_
    split
    ·split
     ·dsimp only
      split
      ·exact zao _
      ·exact zan
     ·exact zan
    ·exact zan
   ·exact zan
  ·exact zan
 | _=>exact zag.halt
theorem zez[low:zaD][Twin L M]{R:BR}(t:TypeId)(h:zaj R v v')(p:Bool)(wr:Option String):zag L M QV R (receiverAt t (.val v) p wr) (receiverAt t (.val v') p wr):=by
 unfold receiverAt
 refine zac (zai t) ?_
 rintro R1 h0 d _ rfl
 replace h:=h.mono h0
 cases p with
 | true=>cases d <;> first|exact zad h|exact zag.halt
 | false =>
  cases d with
  | pointer elem =>
   have tail:∀(R2:BR),R1.le R2->∀ {u u':Value},zaj R2 u u'->zag L M QV R2 (asAddr u >>= fun a=>loadVar elem a) (asAddr u' >>= fun a=>loadVar elem a) :=
    fun R2 _ u u' hu=>zac (zgk hu) fun _ _ _ _ ha=>zeV elem ha
   cases wr with
   | none=>exact tail R1 (BR.le_refl _) h
   | some m =>
    show zag L M QV R1 (Builtin.ssaWrapNilChk_ #[t] t #[v,strVal "",strVal m] >>= fun u=>asAddr u >>= fun a=>loadVar elem a) (Builtin.ssaWrapNilChk_ #[t] t #[v',strVal "",strVal m] >>= fun u=>asAddr u >>= fun a=>loadVar elem a)
    exact zac (znv _ _ h m) fun R2 h1 u u' hu=>tail R2 h1 hu
  | _=>exact zad h
def zjm(L:Program)(name:String):Bool:=L.types.toList.all fun i=>match i.methods.find? (·.name == name) with|some m=>m.path.toList.all (fun s=>!s.deref) && (match m.func with|some q=>(xAr q.1).isNone|none=>true)|none=>true
theorem zje{info:TypeId->Option TypeInfo}{d:TypeDesc}{i:TypeInfo}(h:Made.reckon info d=some i):i.methods=#[]:=by
 unfold Made.reckon at h
 cases d with
 | pointer e =>
  obtain⟨j,hj,h⟩:=Option.bind_eq_some_iff.1 h
  simp only at h
  split at h
  ·cases h
  ·split at h
   ·cases h
   ·obtain⟨s,hs,h⟩:=Option.bind_eq_some_iff.1 h
    cases h
    rfl
  ·obtain⟨s,hs,h⟩:=Option.bind_eq_some_iff.1 h
   cases h
   rfl
 | slice e =>
  obtain⟨j,hj,h⟩:=Option.bind_eq_some_iff.1 h
  obtain⟨s,hs,h⟩:=Option.bind_eq_some_iff.1 h
  cases h
  rfl
 | map k e =>
  obtain⟨j,hj,h⟩:=Option.bind_eq_some_iff.1 h
  obtain⟨s,hs,h⟩:=Option.bind_eq_some_iff.1 h
  obtain⟨j2,h0,h⟩:=Option.bind_eq_some_iff.1 h
  obtain⟨s2,h1,h⟩:=Option.bind_eq_some_iff.1 h
  cases h
  rfl
 | chan dir e =>
  obtain⟨j,hj,h⟩:=Option.bind_eq_some_iff.1 h
  obtain⟨s,hs,h⟩:=Option.bind_eq_some_iff.1 h
  cases h
  rfl
 | func ps rs v =>
  obtain⟨s,hs,h⟩:=Option.bind_eq_some_iff.1 h
  cases h
  rfl
 | array n e =>
  obtain⟨j,hj,h⟩:=Option.bind_eq_some_iff.1 h
  obtain⟨s,hs,h⟩:=Option.bind_eq_some_iff.1 h
  have e:=Option.some.inj h
  subst e
  rfl
 | struct fs =>
  have h':Made.reckonStruct info fs=some i:=h
  unfold Made.reckonStruct at h'
  simp only[<- Array.forIn_toList] at h'
  obtain⟨s,hs,h'⟩:=Option.bind_eq_some_iff.1 h'
  split at h'
  all_goals
   have e:=Option.some.inj h'
   subst e
   rfl
 | _=>cases h
theorem zoU(hn:zjm L name=true){i:TypeInfo}{m:Method}(hi:L.info? t=some i)(hm:i.methods.find? (·.name == name)=some m):(∀ s∈m.path.toList,s.deref=false)/\∀ q,m.func=some q->(xAr q.1).isNone=true:=by
 have tab:∀(t:Nat) (i:TypeInfo),L.types[t]?=some i->i.methods.find? (·.name == name)=some m->(∀ s∈m.path.toList,s.deref=false)/\∀ q,m.func=some q->(xAr q.1).isNone=true:=by
  intro t i h2 hm
  have h0:i∈L.types.toList:=by
   rw[Array.mem_toList_iff]
   exact Array.mem_of_getElem? h2
  have:=List.all_eq_true.1 hn i h0
  simp only[hm,Bool.and_eq_true] at this
  refine⟨fun s hs=>?_,fun q hq=>?_⟩
  ·have h3:=List.all_eq_true.1 this.1 s hs
   simpa using h3
  ·have h4:=this.2
   rw[hq] at h4
   exact h4
 have made:∀(n:Nat) (t:TypeId) (i:TypeInfo),Made.infoAt L.toTables n t=some i->i.methods.find? (·.name == name)=some m->(∀ s∈m.path.toList,s.deref=false)/\∀ q,m.func=some q->(xAr q.1).isNone=true:=by
  intro n t i h hm
  cases n with
  | zero=>cases h
  | succ n =>
   unfold Made.infoAt at h
   split at h
   ·exact tab t i h hm
   ·obtain⟨d,hd,h⟩:=Option.bind_eq_some_iff.1 h
    rw[zje h] at hm
    simp at hm
 have hi':(if t<L.types.size then L.types[t]? else Made.infoAt L.toTables Made.depth t)=some i:=hi
 split at hi'
 ·exact tab t i hi' hm
 ·exact made _ t i hi' hm
abbrev QPl:BR->TypeId × Place->TypeId × Place->Prop:=fun R x x'=>∃ t u u',x=(t,.val u)/\x'=(t,.val u')/\zaj R u u'
theorem zjI[low:zaD][T:zaF L M]:∀(l:List FieldStep),(∀ s∈l,s.deref=false)->∀ {R:BR} (t:TypeId) {v v':Value},zaj R v v'->zag L M QPl R (follow l t (.val v)) (follow l t (.val v'))
 | [],_,_,t,v,v',h=>zad ⟨t,v,v',rfl,rfl,h⟩
 | s::l,hl,R,t,v,v',h=>by
  unfold follow
  refine zac (zai s.struct) ?_
  rintro R1 h0 d _ rfl
  replace h:=h.mono h0
  cases d with
  | struct fields =>
   dsimp only
   cases hf:fields[s.index]? with
   | none=>exact zag.halt
   | some f =>
    simp only[hl s mcs,Bool.false_eq_true,↓reduceIte]
    cases h with
    | agg h1 h2 =>
     refine zac (zgt f.type ⟨h1,h2⟩ f.offset) ?_
     intro R2 h3 u u' hu
     exact zjI l (fun s hs=>hl s (mcm hs)) f.type hu
    | _=>exact zag.halt
  | _=>exact zag.halt
abbrev QM:BR->FuncId × Value->FuncId × Value->Prop:=fun R a b=>a.1=b.1/\zaj R a.2 b.2/\(xAr a.1).isNone=true
theorem zjK[low:zaD][T:zaF L M]{name:String}(hn:zjm L name=true):∀(n:Nat) {R:BR} (t:TypeId) {v v':Value},zaj R v v'->zag L M QM R (Go.method n t v name) (Go.method n t v' name)
 | 0,_,_,_,_,_=>zag.halt
 | n+1,R,t,v,v',h=>by
  unfold Go.method
  refine zac (zdv t) ?_
  rintro R1 h0 i _ ⟨rfl,hi⟩
  cases hm:i.methods.find? (·.name == name) with
  | none=>exact zag.halt
  | some m =>
   obtain⟨hp,hq⟩:=zoU hn hi hm
   dsimp only
   refine zac (zjI m.path.toList hp t (h.mono h0)) ?_
   rintro R2 h1 _ _ ⟨xt,u,u',rfl,rfl,hu⟩
   dsimp only
   cases hmf:m.func with
   | none =>
    show zag L M QM R2 ((pure u:Sem Value) >>= fun u=>match u with|.iface t' v'=>Go.method n t' v' name|.nilIface=>runtimePanic .nilDeref|_=>stuck "method row: interface value expected") ((pure u':Sem Value) >>= fun u=>match u with|.iface t' v'=>Go.method n t' v' name|.nilIface=>runtimePanic .nilDeref|_=>stuck "method row: interface value expected")
    cases hu with
    | iface t' hv=>exact zjK hn n t' hv
    | nilIface=>exact zag.never (zao (α:=FuncId × Value) .nilDeref)
    | _=>exact zag.halt
   | some q =>
    obtain⟨f,pr⟩:=q
    exact zac (zez xt hu pr _) fun _ _ _ _ hr=>zad ⟨rfl,hr,hq _ hmf⟩
theorem zin[low:zaD][T:zaF L M]{R:BR}(h:zaj R v v')(hn:zjm L name=true){a a':Array Value}(ha:zay R a a'):zag L M (QX L) R (callMethod v name a) (callMethod v' name a'):=by
 unfold callMethod
 cases h with
 | iface t hv =>
  refine zac zaZ ?_
  rintro R1 h0 p p' ⟨rfl,rfl⟩
  rw[T.types]
  refine zac (zjK hn _ t (hv.mono h0)) ?_
  rintro R2 h1 ⟨f,r⟩ ⟨f',r'⟩ ⟨e,hr,hx⟩
  simp only at e hr hx
  subst e
  exact zcU f (zea hx _) ((zay.one hr).app ((ha.mono h0).mono h1))
 | nilIface=>exact zag.never (zao (α:=Next) .nilDeref)
 | _=>exact zag.halt
inductive zqh(R:BR):Target->Target->Prop
 | fn (fn:Fn) {c c':Array Value}:zos fn=true->zay R c c'->zqh R (.fn fn c) (.fn fn c')
 | dir (f:FuncId):zqh R (.fn (.func f) #[]) (.fn (.func f) #[])
 | nil:zqh R .nil .nil
 | meth (name:String):zqh R (.fn (.method name) #[]) (.fn (.method name) #[])
 | builtin (b:Builtin) (ts:Array TypeId) (t:TypeId) (cs:Array Bool):zqh R (.builtin b ts t cs) (.builtin b ts t cs)
structure ztr(R:BR)(d d':Deferred):Prop where
 target:zqh R d.target d'.target
 args:zay R d.args d'.args
theorem zqh.mono{R R':BR}(hR:R.le R'){t t':Target}(h:zqh R t t'):zqh R' t t':=by
 cases h with
 | fn f h0 h=>exact .fn f h0 (h.mono hR)
 | dir f=>exact .dir f
 | nil=>exact .nil
 | meth n=>exact .meth n
 | builtin b ts t cs=>exact .builtin b ts t cs
theorem ztr.mono{R R':BR}(hR:R.le R')(h:ztr R d d'):ztr R' d d':=⟨h.target.mono hR,h.args.mono hR⟩
def zbx:Nat->Value->Bool
 | 0,_=>false
 | _,.bool _|_,.int _ _|_,.string _|_,.pointer none|_,.slice none _ _|_,.map none|_,.chan none|_,.nilFunc|_,.nilIface=>true
 | n+1,.iface _ v=>zbx n v
 | n+1,.agg c|n+1,.tuple c=>c.all (zbx n)
 | n+1,.func f a b=>zos f && a.all (zbx n) && b.all (zbx n)
 | _,_=>false
theorem zet:∀(n:Nat) (v:Value),zbx n v=true->Plain v
 | 0,v,h=>by simp[zbx] at h
 | n+1,v,h=>by
  intro R
  have row:∀ c:Array Value,c.all (zbx n)=true->∀ i (h:i<c.size),zaj R c[i] c[i]:=by
   intro c hc i hi
   rw[Array.all_eq_true] at hc
   exact zet n _ (hc i hi) R
  cases v with
  | bool b=>exact .bool b
  | int k n=>exact .int k n
  | string s=>exact .string s
  | pointer a=>cases a with|none=>exact .nilPtr|some a=>simp[zbx] at h
  | slice a n m=>cases a with|none=>exact .nilSlice n m|some a=>simp[zbx] at h
  | map r=>cases r with|none=>exact .nilMap|some a=>simp[zbx] at h
  | chan r=>cases r with|none=>exact .nilChan|some a=>simp[zbx] at h
  | nilFunc=>exact .nilFunc
  | nilIface=>exact .nilIface
  | iface t v=>exact .iface t (zet n v (by simpa [zbx] using h) R)
  | agg c=>exact .agg rfl (fun i h1 _=>row c (by simpa [zbx] using h) i h1)
  | tuple c=>exact .tuple rfl (fun i h1 _=>row c (by simpa [zbx] using h) i h1)
  | func f a b =>
   simp only[zbx,Bool.and_eq_true] at h
   exact .func f h.1.1 rfl (fun i h1 _=>row a h.1.2 i h1) rfl (fun i h1 _=>row b h.2 i h1)
  | float k n=>simp[zbx] at h
  | complex k n m=>simp[zbx] at h
def zbb:Operand->Bool
 | .tmp _=>true
 | .func f=>(xAr f).isNone
 | .const v=>zbx 9 v
 | .global _=>false
def ze8(R:BR)(ρ ρ':Operand->Value):Prop:=∀ x,zbb x=true->zaj R (ρ x) (ρ' x)
theorem ze8.mono{R R':BR}(hR:R.le R')(h:ze8 R ρ ρ'):ze8 R' ρ ρ':=fun x hx=>(h x hx).mono hR
theorem ze8.row{R:BR}(h:ze8 R ρ ρ'){as:Array Operand}(ha:as.all zbb=true):zay R (as.map ρ) (as.map ρ'):=by
 refine⟨qm,fun i h1 h2=>?_⟩
 simp only[Array.getElem_map]
 rw[Array.all_eq_true] at ha
 exact h _ (ha i (by simpa using h1))
theorem ze8.opt{R:BR}(h:ze8 R ρ ρ'){o:Option Operand}(ho:o.all zbb=true):zcC R (o.map ρ) (o.map ρ'):=by
 cases o with
 | none=>exact Or.inl ⟨rfl,rfl⟩
 | some x=>exact Or.inr ⟨_,_,rfl,rfl,h x (by simpa using ho)⟩
theorem ze8.parts{R:BR}(h:ze8 R ρ ρ'){ps:Array (Nat × Operand)}(hp:ps.all (fun p=>zbb p.2)=true):zp8 R (ps.map fun (i,x)=>(i,ρ x)).toList (ps.map fun (i,x)=>(i,ρ' x)).toList:=by
 rw[Array.toList_map,Array.toList_map]
 rw[<- Array.all_toList] at hp
 revert hp
 generalize ps.toList=l
 intro hp
 induction l with
 | nil=>exact .nil
 | cons p l ih =>
  simp only[List.all_cons,Bool.and_eq_true] at hp
  simp only[List.map_cons]
  exact .cons _ (h _ hp.1) (ih hp.2)
def zc9(L:Program)(b:Builtin)(ts:Array TypeId):Bool:=match b with
 | .len|.cap|.copy=>true
 | .append=>match ts[1]? with
  | some t=>(match L.underlying t with|some (.int _)=>false|some _=>true|none=>false)
  | none=>false
 | _=>false
def zdz(L:Program)(c:Call):Bool:=match c.callee with
 | .value (.func f)=>zqk f c.args.size
 | .value f=>zbb f
 | .invoke r name=>zbb r && zjm L name
 | .builtin b=>zc9 L b c.argTypes
theorem znk[low:zaD][zaF L M](hz:zbt L){R:BR}{b:Builtin}(h:zc9 L b ts=true)(t:TypeId)(cs:Array Bool){a a':Array Value}(ha:zay R a a'):zag L M (QX L) R (builtin b ts t cs a) (builtin b ts t cs a'):=by
 cases b with
 | len=>exact zac (ztZ ts t ha) fun _ _ _ _ hv=>zad (.value hv)
 | cap=>exact zac (ztX ts t ha) fun _ _ _ _ hv=>zad (.value hv)
 | copy=>exact zac (zta ts t ha) fun _ _ _ _ hv=>zad (.value hv)
 | append =>
  have hm:zr3 L ts:=by
   simp only[zc9] at h
   split at h
   ·rename_i x hx
    split at h
    ·cases h
    ·rename_i d hk hd
     exact⟨x,d,hx,hd,fun k q=>hk k (by rw[<- q])⟩
    ·cases h
   ·cases h
  exact zac (zpE hz ts t ha hm) fun _ _ _ _ hv=>zad (.value hv)
 | _=>simp[zc9] at h
def ztv(L:Program)(t:Target):Prop:=(∀ b ts ty cs,t=.builtin b ts ty cs->zc9 L b ts=true)/\∀ name c,t=.fn (.method name) c->zjm L name=true
def ztq(d:Deferred):Prop:=∀ f,d.target=.fn (.func f) #[]->zqk f d.args.size=true
theorem zns[low:zaD]{R:BR}(h6:∀ f,ρ (.func f)=.func (.func f) #[] #[]/\ρ' (.func f)=.func (.func f) #[] #[])(h:ze8 R ρ ρ'){c:Call}(hc:zdz L c=true)(ha:c.args.all zbb=true)(t:TypeId)(hM:∀ x,c.callee=.value x->∀ n,ρ x≠.func (.method n) #[.nilIface] #[]):zag L M (fun R d d'=>ztr R d d'/\ztv L d.target/\ztq d) R (resolve ρ c t) (resolve ρ' c t):=by
 unfold resolve
 have hr:=h.row ha
 cases hcc:c.callee with
 | builtin b =>
  simp only[zdz,hcc] at hc
  refine zad ⟨⟨.builtin _ _ _ _,hr⟩,⟨?_,?_⟩,fun f e=>by cases e⟩
  ·intro b' ts ty cs e
   cases e
   exact hc
  ·intro n c e
   cases e
 | invoke r name =>
  simp only[zdz,hcc,Bool.and_eq_true] at hc
  refine zad ⟨⟨.meth _,(zay.one (h r hc.1)).app hr⟩,⟨?_,?_⟩,fun f e=>by cases e⟩
  ·intro b' ts ty cs e
   cases e
  ·intro n c e
   cases e
   exact hc.2
 | value f =>
  by_cases hdir:∃ g,f=.func g
  ·obtain⟨g,rfl⟩:=hdir
   simp only[zdz,hcc] at hc
   dsimp only
   rw[(h6 g).1,(h6 g).2]
   refine zad ⟨⟨.dir g,by simpa using hr⟩,⟨fun _ _ _ _ e=>(by cases e),fun _ _ e=>(by cases e)⟩,fun f e=>?_⟩
   cases e
   simpa using hc
  have hc:zbb f=true:=by
   cases f with
   | func g=>exact absurd ⟨g,rfl⟩ hdir
   | _=>simpa only[zdz,hcc] using hc
  have hv:=h f hc
  have h5:=hM f hcc
  dsimp only
  revert hv h5
  generalize ρ f=u
  generalize ρ' f=u'
  intro hv h5
  cases hv with
  | junkM _=>exact absurd rfl (h5 _)
  | func fn h0 h1 h2 h3 h4 =>
   refine zad ⟨⟨.fn fn h0 ⟨h3,h4⟩,zay.app ⟨h1,h2⟩ hr⟩,⟨?_,?_⟩,fun f e=>?_⟩
   ·intro b' ts ty cs e
    cases e
   ·intro n c e
    cases e
    simp[zos] at h0
   ·have e':fn=.func f:=by
     injection e
    subst e'
    exact zea h0 _
  | nilFunc =>
   refine zad ⟨⟨.nil,hr⟩,⟨?_,?_⟩,fun f e=>by cases e⟩
   ·intro b' ts ty cs e
    cases e
   ·intro n c e
    cases e
  | _=>exact zag.halt
theorem zpM[low:zaD][zaF L M](hz:zbt L){R:BR}(h:ztr R d d')(hb:ztv L d.target)(hA:ztq d):zag L M (QX L) R (invoke d.target d.args) (invoke d'.target d'.args):=by
 obtain⟨t,a⟩:=d
 obtain⟨t',a'⟩:=d'
 obtain⟨ht,ha⟩:=h
 simp only at ht ha hb
 unfold invoke
 cases ht with
 | dir f=>exact zcU f (by have:=hA f rfl;simpa using this) (by simpa using ha)
 | nil=>exact zag.never (zao (α:=Next) .nilDeref)
 | builtin b ts ty cs=>exact znk hz (hb.1 _ _ _ _ rfl) ty cs ha
 | meth name =>
  rcases ha.get? 0 with ⟨e1,e2⟩|⟨v,v',e1,e2,hv⟩
  ·simp only[e1,e2];exact zag.halt
  ·simp only[e1,e2]
   rw[<- ha.1]
   exact zin hv (hb.2 _ _ rfl) (ha.ext 1 _)
 | fn fn h0 hc =>
  cases fn with
  | func f=>exact zcU f (zea h0 _) (ha.app hc)
  | method name=>simp[zos] at h0
  | methodOf t name=>simp[zos] at h0
  | via t path f p =>
   simp only[zos,Bool.and_eq_true,Array.isEmpty_iff] at h0
   obtain⟨h0,hx⟩:=h0
   subst h0
   rcases ha.get? 0 with ⟨e1,e2⟩|⟨v,v',e1,e2,hv⟩
   ·simp only[e1,e2];exact zag.halt
   ·simp only[e1,e2]
    rw[<- ha.1]
    refine zac (Q:=QV) (zez t hv p none) ?_
    intro R1 h1 u u' hu
    exact zcU f (zea hx _) ((zay.one hu).app ((ha.mono h1).ext 1 _))
  | yield l=>simp[zos] at h0
def zkf(L:Program)(s:TypeId)(f:Nat):Bool:=match L.underlying s with
 | some (.struct fs)=>(match fs[f]? with
  | some fd=>(match L.info? fd.type with|some i=>i.size != 0|none=>true)
  | none=>true)
 | _=>true
def nilTy(L:Program)(op:BinOp)(t:TypeId)(y:Operand):Bool :=
 (match op with
  | .eql|.neq=>true
  | _=>false) && (match y with
  | .const (.pointer none)=>true
  | _=>false) && (match L.underlying t with
  | some (.pointer _)=>true
  | _=>false)
theorem zrb{op:BinOp}{y:Operand}(h:nilTy L op t y=true):(op=.eql\/op=.neq)/\y=.const (.pointer none)/\∃ e,L.underlying t=some (.pointer e):=by
 simp only[nilTy,Bool.and_eq_true] at h
 obtain⟨⟨h1,h2⟩,h3⟩:=h
 refine⟨?_,?_,?_⟩
 ·revert h1
  cases op <;> first|exact fun _=>Or.inl rfl|exact fun _=>Or.inr rfl|(intro q;cases q)
 ·cases y with
  | const v =>
   cases v with
   | pointer o =>
    cases o with
    | none=>rfl
    | some a=>cases h2
   | _=>cases h2
  | _=>cases h2
 ·revert h3
  cases L.underlying t with
  | none=>intro q;cases q
  | some d =>
   cases d with
   | pointer e=>exact fun _=>⟨e,rfl⟩
   | _=>intro q;cases q
theorem zl9[low:zaD][Twin L M]{R:BR}{e:TypeId}(ht:L.underlying t=some (.pointer e))(hx:zaj R x x'):zag L M QEq R (Op.equal t x (.pointer none)) (Op.equal t x' (.pointer none)):=by
 show zag L M QEq R (Op.equalIn (9999+1) t x (.pointer none)) (Op.equalIn (9999+1) t x' (.pointer none))
 unfold Op.equalIn
 refine zac (zaJ t) ?_
 rintro R1 h0 d _ ⟨rfl,hd⟩
 obtain rfl:d=.pointer e:=by rw[ht] at hd;exact(Option.some.inj hd).symm
 cases hx with
 | ptr _=>exact zad rfl
 | nilPtr=>exact zad rfl
 | _=>exact zag.halt
theorem zrF[low:zaD][Twin L M]{R:BR}{op:BinOp}(h0:op=.eql\/op=.neq){e:TypeId}(ht:L.underlying t=some (.pointer e))(hx:zaj R x x'):zag L M QV R (binOp op t x (.pointer none)) (binOp op t x' (.pointer none)):=by
 rcases h0 with rfl|rfl
 ·have tail:zag L M QV R (Op.equal t x (.pointer none) >>= fun b=>pure (.bool b)) (Op.equal t x' (.pointer none) >>= fun b=>pure (.bool b)) :=
   zac (zl9 ht hx) fun _ _ _ _ e=>by rw[e];exact zad (.bool _)
  cases hx with
  | junk _ _=>exact zag.never (show zcM L (Op.equal t (.tuple #[]) _ >>= (fun b=>pure (Value.bool b):Bool->Sem Value)) from zaq (zdF t _))
  | _=>exact tail
 ·have tail:zag L M QV R (Op.equal t x (.pointer none) >>= fun b=>pure (.bool (!b))) (Op.equal t x' (.pointer none) >>= fun b=>pure (.bool (!b))) :=
   zac (zl9 ht hx) fun _ _ _ _ e=>by rw[e];exact zad (.bool _)
  cases hx with
  | junk _ _=>exact zag.never (show zcM L (Op.equal t (.tuple #[]) _ >>= (fun b=>pure (Value.bool (!b)):Bool->Sem Value)) from zaq (zdF t _))
  | _=>exact tail
def zhe(L:Program)(o:Op):Bool:=match o with
 | .move x|.assign x|.box _ x|.load _ x|.unOp _ _ x|.makeInterface _ x|.field _ x _|.extract x _|.typeAssert x _ _ _=>zbb x
 | .nilCheck x=>zbb x
 | .pick c a b=>zbb c && zbb a && zbb b
 | .alloc _=>true
 | .build _ ps|.buildSlice _ _ ps=>ps.all fun p=>zbb p.2
 | .store _ a x|.makeSlice _ a x|.indexAddr _ a x|.index _ a x=>zbb a && zbb x
 | .binOp op t x y _=>(zmm L op t || nilTy L op t y) && zbb x && zbb y
 | .convert s d x=>zn7 L s d && zbb x
 | .makeFunc fn a c=>zos fn && a.all zbb && c.all zbb
 | .makeMap _ r=>r.all zbb
 | .slice _ x lo hi mx=>zbb x && lo.all zbb && hi.all zbb && mx.all zbb
 | .fieldAddr s x f=>zkf L s f && zbb x
 | .lookup t x k _=>zmL L t && zbb x && zbb k
 | .mapUpdate t m k x|.insert t m k x=>zmL L t && zbb m && zbb k && zbb x
 | .call c=>zdz L c && c.args.all zbb
 | _=>false
theorem sv[low:zaD]{R:BR}{s s':Sem Value}(h:zag L M QV R s s'):zag L M (QX L) R (s >>= fun v=>pure (.value v)) (s' >>= fun v=>pure (.value v)):=zac h fun _ _ _ _ hv=>zad (.value hv)
theorem su[low:zaD]{R:BR}{s s':Sem Unit}(h:zag L M QEq R s s'):zag L M (QX L) R (s >>= fun _=>pure .skip) (s' >>= fun _=>pure .skip):=zac h fun _ _ _ _ _=>zad .skip
theorem zmA{f:Nat}(h:zkf L s f=true):∀ fs fd,L.underlying s=some (.struct fs)->fs[f]?=some fd->∀ i,L.info? fd.type=some i->i.size≠0:=by
 intro fs fd h1 h2 i h3
 simp only[zkf,h1,h2,h3] at h
 simpa using h
theorem zpI[low:zaD][T:zaF L M](hz:zbt L){R:BR}(h1:R.One)(h6:∀ f,ρ (.func f)=.func (.func f) #[] #[]/\ρ' (.func f)=.func (.func f) #[] #[])(h3:ρ (.const (.pointer none))=.pointer none/\ρ' (.const (.pointer none))=.pointer none)(h:ze8 R ρ ρ'){o:Oper}(ho:zhe L o.op=true):zag L M (QX L) R (execOp ρ o) (execOp ρ' o):=by
 obtain⟨dst,op,ty,pos,after,guard⟩:=o
 simp only at ho
 cases op with
 | move x=>exact zad (.value (h x ho))
 | assign x=>exact zad (.value (h x ho))
 | pick c a b =>
  simp only[zhe,Bool.and_eq_true] at ho
  refine zac (zpF (h c ho.1.1)) ?_
  rintro R1 h2 t _ rfl
  cases t
  ·exact zad (.value ((h b ho.2).mono h2))
  ·exact zad (.value ((h a ho.1.2).mono h2))
 | alloc e=>exact sv (zry hz e)
 | box e x=>exact sv (ztW e (h x ho))
 | build t ps=>exact sv (zrB hz t (h.parts ho))
 | buildSlice t n ps=>exact sv (zim hz t n (h.parts ho))
 | load t a=>exact sv (zpO t (h a ho))
 | store t a x =>
  simp only[zhe,Bool.and_eq_true] at ho
  exact su (znu t (h a ho.1) (h x ho.2))
 | nilCheck x =>
  have hx:=h x ho
  show zag L M (QX L) R (match ρ x with
   | .pointer none|.nilIface|.nilFunc=>runtimePanic .nilDeref
   | .func (.method name) first captured =>
    match (first[0]?:Option Value) with
    | some .nilIface=>runtimePanic .nilDeref
    | some (.iface t w)=>do
     if (<- nilAhead ((<- program).types.size+Made.depth) t w name) != some false then
      unsupported (.noEntry "op/nilCheck.the method's receiver behind this interface value is a nil pointer, or cannot be seen to be none, and the arguments act or may panic (ledger 612)")
     pure (.value (.func (.method name) first captured))
    | _=>pure (.value (.func (.method name) first captured))
   | x=>pure (.value x)) (match ρ' x with
   | .pointer none|.nilIface|.nilFunc=>runtimePanic .nilDeref
   | .func (.method name) first captured =>
    match (first[0]?:Option Value) with
    | some .nilIface=>runtimePanic .nilDeref
    | some (.iface t w)=>do
     if (<- nilAhead ((<- program).types.size+Made.depth) t w name) != some false then
      unsupported (.noEntry "op/nilCheck.the method's receiver behind this interface value is a nil pointer, or cannot be seen to be none, and the arguments act or may panic (ledger 612)")
     pure (.value (.func (.method name) first captured))
    | _=>pure (.value (.func (.method name) first captured))
   | x=>pure (.value x))
  revert hx
  generalize ρ x=u
  generalize ρ' x=u'
  intro hx
  cases hx with
  | nilPtr=>exact zag.never (zao _)
  | nilIface=>exact zag.never (zao _)
  | nilFunc=>exact zag.never (zao _)
  | func fn h0 q1 q2 q3 q4 =>
   cases fn with
   | method name=>simp[zos] at h0
   | _=>exact zad (.value (.func _ h0 q1 q2 q3 q4))
  | ptr a=>exact zad (.value (.ptr a))
  | bool b=>exact zad (.value (.bool b))
  | int k n=>exact zad (.value (.int k n))
  | string s=>exact zad (.value (.string s))
  | slice n m a=>exact zad (.value (.slice n m a))
  | nilSlice n m=>exact zad (.value (.nilSlice n m))
  | empty a c=>exact zad (.value (.empty a c))
  | map r=>exact zad (.value (.map r))
  | nilMap=>exact zad (.value .nilMap)
  | nilChan=>exact zad (.value .nilChan)
  | iface t v=>exact zad (.value (.iface t v))
  | agg q1 q2=>exact zad (.value (.agg q1 q2))
  | tuple q1 q2=>exact zad (.value (.tuple q1 q2))
  | junkM h0=>exact zag.never (zao _)
  | junk h0 hj =>
   have e:(match u' with
    | .pointer none|.nilIface|.nilFunc=>(runtimePanic .nilDeref:Sem Next)
    | .func (.method name) first captured =>
     match (first[0]?:Option Value) with
     | some .nilIface=>runtimePanic .nilDeref
     | some (.iface t w)=>do
      if (<- nilAhead ((<- program).types.size+Made.depth) t w name) != some false then
       unsupported (.noEntry "op/nilCheck.the method's receiver behind this interface value is a nil pointer, or cannot be seen to be none, and the arguments act or may panic (ledger 612)")
      pure (.value (.func (.method name) first captured))
     | _=>pure (.value (.func (.method name) first captured))
    | x=>pure (.value x))=pure (.value u'):=by
    cases u' with
    | pointer o=>cases o <;> first|rfl|cases hj
    | func fn _ _=>cases fn <;> first|rfl|cases hj
    | nilIface=>cases hj
    | nilFunc=>cases hj
    | _=>rfl
   exact e ▸ zad (.value (.junk h0 hj))
 | binOp op t x y yt =>
  simp only[zhe,Bool.and_eq_true,Bool.or_eq_true] at ho
  rcases ho with ⟨⟨hb|hb,h4⟩,h5⟩
  ·refine sv (zac (znm op hb x y (h x h4) (h y h5)) ?_)
   rintro R1 h2 _ _ _
   exact zrA op hb ((h x h4).mono h2) ((h y h5).mono h2)
  ·obtain⟨h7,rfl,e,he⟩:=zrb hb
   refine sv (s:=eqGuard op t x (.const (.pointer none)) (ρ x) (ρ (.const (.pointer none))) >>= fun _=>binOp op t (ρ x) (ρ (.const (.pointer none)))) (s':=eqGuard op t x (.const (.pointer none)) (ρ' x) (ρ' (.const (.pointer none))) >>= fun _=>binOp op t (ρ' x) (ρ' (.const (.pointer none)))) ?_
   rw[h3.1,h3.2,zhV op t x _ (ρ x) rfl,zhV op t x _ (ρ' x) rfl]
   refine zac (Q:=QEq) (zad rfl) ?_
   rintro R1 h2 _ _ _
   exact zrF h7 he ((h x h4).mono h2)
 | unOp op t x=>exact sv (zrI op (h x ho))
 | convert s d x =>
  simp only[zhe,Bool.and_eq_true] at ho
  exact sv (znl ho.1 (h x ho.2))
 | makeInterface t x=>exact sv (zfg t (h x ho))
 | makeFunc fn a c =>
  simp only[zhe,Bool.and_eq_true] at ho
  exact sv (zkW ho.1.1 (h.row ho.1.2) (h.row ho.2))
 | makeMap t r =>
  exact sv (znr t (h.opt ho))
 | makeSlice t l c =>
  simp only[zhe,Bool.and_eq_true] at ho
  exact sv (zjJ hz t (h l ho.1) (h c ho.2))
 | slice t x lo hi mx =>
  simp only[zhe,Bool.and_eq_true] at ho
  exact sv (znt t (h x ho.1.1.1) (h.opt ho.1.1.2) (h.opt ho.1.2) (h.opt ho.2))
 | fieldAddr s x f =>
  simp only[zhe,Bool.and_eq_true] at ho
  exact sv (znp s (h x ho.2) f (zmA ho.1))
 | field t x f=>exact sv (zrC t (h x ho) f)
 | indexAddr t x i =>
  simp only[zhe,Bool.and_eq_true] at ho
  exact sv (znq t (h x ho.1) (h i ho.2))
 | index t x i =>
  simp only[zhe,Bool.and_eq_true] at ho
  exact sv (zrD t (h x ho.1) (h i ho.2))
 | lookup t x k ok =>
  simp only[zhe,Bool.and_eq_true] at ho
  exact sv (zpP hz ho.1.1 (h x ho.1.2) (h k ho.2) ok)
 | mapUpdate t m k x =>
  simp only[zhe,Bool.and_eq_true] at ho
  exact su (ze6 h1 ho.1.1.1 (h m ho.1.1.2) (h k ho.1.2) (h x ho.2))
 | insert t m k x =>
  simp only[zhe,Bool.and_eq_true] at ho
  exact su (ze6 h1 ho.1.1.1 (h m ho.1.1.2) (h k ho.1.2) (h x ho.2))
 | typeAssert x t a ok=>exact sv (zip hz (h x ho) t a ok)
 | extract x i=>exact sv (zno (h x ho) i)
 | call c =>
  simp only[zhe,Bool.and_eq_true] at ho
  by_cases hj:∃ x n,c.callee=.value x/\ρ x=.func (.method n) #[.nilIface] #[]
  ·obtain⟨x,n,e1,e2⟩:=hj
   refine zag.never ?_
   have e3:resolve ρ c ty=pure { target:=.fn (.method n) #[],args:=#[.nilIface]++c.args.map ρ }:=by
    unfold resolve
    simp only[e1,e2]
    rfl
   show zcM L (resolve ρ c ty >>= fun d=>invoke d.target d.args)
   rw[e3]
   show zcM L (invoke (.fn (.method n) #[]) (#[.nilIface]++c.args.map ρ))
   unfold invoke
   have e4:(#[Value.nilIface]++c.args.map ρ)[0]?=some .nilIface:=by rw[Array.getElem?_append_left qm];rfl
   simp only[e4]
   exact zao (α:=Next) .nilDeref
  exact zac (zns h6 h ho.1 ho.2 ty (fun x e n q=>hj ⟨x,n,e,q⟩)) fun _ _ _ _ hd=>zpM hz hd.1 hd.2.1 hd.2.2
 | _=>simp[zhe] at ho
end
section
open Go Go.Conc
variable{L M:Program}
def codeOk(L:Program):Code->Bool
 | .region _ ops _=>ops.all fun o=>zhe L o.op
 | .seq a b=>codeOk L a && codeOk L b
 | .cond c a b=>zbb c && codeOk L a && codeOk L b
 | .block _ c|.loop c|.scope c=>codeOk L c
 | .rangeFunc ..=>false
 | _=>true
def zaT(L:Program):Item->Bool
 | .code c|.inLoop c|.inScope c=>codeOk L c
 | .inBlock _=>true
 | .inRegion ops _=>ops.all fun o=>zhe L o.op
 | _=>false
structure ztk(L:Program)(fr:Frame):Prop where
 ok:fr.todo.all (zaT L)=true
 defers:fr.defers=[]
 mode:fr.mode=.run\/fr.mode=.returning
 kind:fr.kind=.normal
 round:fr.roundOf=none
 fnok:∃ fn:Func,L.funcs[fr.fn]?=some fn/\fn.body.isSome=true
def zgQ(L:Program)(R:BR)(fr fr':Frame):Prop:=ztk L fr/\∃ t,fr'={ fr with tmps:=t }/\zay R fr.tmps t
theorem zgQ.mono{R R':BR}(hR:R.le R')(h:zgQ L R fr fr'):zgQ L R' fr fr':=let ⟨a,t,b,c⟩:=h;⟨a,t,b,c.mono hR⟩
inductive zco(L:Program)(R:BR):List Frame->List Frame->Prop
 | nil:zco L R [] []
 | cons {f f':Frame} {r r':List Frame}:zgQ L R f f'->f.mode=.run->zco L R r r'->zco L R (f::r) (f'::r')
theorem zco.mono{R R':BR}(hR:R.le R'){l l':List Frame}(h:zco L R l l'):zco L R' l l':=by
 induction h with
 | nil=>exact .nil
 | cons hv hm _ ih=>exact .cons (hv.mono hR) hm ih
theorem zay.getD{R:BR}(h:zay R c c')(i:Nat):zaj R (c.getD i undef) (c'.getD i undef):=by
 rw[Array.getD_eq_getD_getElem?,Array.getD_eq_getD_getElem?]
 rcases h.get? i with ⟨e1,e2⟩|⟨v,v',e1,e2,hv⟩
 ·rw[e1,e2];exact .tuple rfl (fun i h=>absurd h qm)
 ·rw[e1,e2];exact hv
theorem zhL{R:BR}{t:Array Value}(h:zay R fr.tmps t):ze8 R fr.eval ({ fr with tmps:=t }:Frame).eval:=by
 intro x hx
 cases x with
 | tmp i=>exact h.getD i
 | const v=>exact zet 9 v hx R
 | func f=>exact .func (.func f) hx rfl (fun i h=>absurd h qm) rfl (fun i h=>absurd h qm)
 | global g=>simp[zbb] at hx
theorem zaj.undef{R:BR}:zaj R undef undef:=.tuple rfl (fun i h=>absurd h qm)
theorem zld{R:BR}{t:Array Value}(h:zay R t t')(ops:Array Oper)(j:Nat):yielded ops t j=yielded ops t' j:=by
 unfold yielded
 cases (ops[j]?).bind (·.dst) with
 | none=>rfl
 | some d =>
  simp only[Option.bind_some]
  rcases h.get? d with ⟨e1,e2⟩|⟨v,v',e1,e2,hv⟩
  ·rw[e1,e2]
  ·rw[e1,e2]
   cases hv with
   | junk _ hj=>cases v' with|bool b=>cases hj|_=>rfl
   | _=>rfl
theorem zb0{R:BR}{t:Array Value}(ho:ztk L fr)(h:zay R fr.tmps t)(hv:zaj R v v'):zgQ L R (fr.finish v) (({ fr with tmps:=t }:Frame).finish v'):=by
 have h0:=ho.ok
 unfold Frame.finish
 dsimp only
 split
 ·rename_i ops i rest k h1
  rw[h1] at h0
  have h2:(Item.inRegion ops rest::k).all (zaT L)=true:=by simpa [zaT] using h0
  cases hd:(ops[i]?).bind (·.dst) with
  | none=>exact⟨⟨h2,ho.defers,ho.mode,ho.kind,ho.round,ho.fnok⟩,t,rfl,h⟩
  | some d=>exact⟨⟨h2,ho.defers,ho.mode,ho.kind,ho.round,ho.fnok⟩,t.setIfInBounds d v',rfl,h.set d hv⟩
 ·rename_i h1;rw[h1] at h0;simp[zaT] at h0
 ·rename_i h1;rw[h1] at h0;simp[zaT] at h0
 ·rename_i h1;rw[h1] at h0;simp[zaT] at h0
 ·rename_i h1;rw[h1] at h0;simp[zaT] at h0
 ·exact⟨ho,t,rfl,h⟩
structure Bodies(L M:Program)(X:FuncId->Prop):Prop where
 same:∀(f:Nat) (fn:Func),L.funcs[f]?=some fn->fn.body.isSome=true->¬ X f->M.funcs[f]?=some fn
 code:∀(f:Nat) (fn:Func) (c:Code),L.funcs[f]?=some fn->fn.body=some c->¬ X f->codeOk L c=true
 res:∀(f:Nat) (fn fn':Func),L.funcs[f]?=some fn->M.funcs[f]?=some fn'->fn'.results=fn.results
 early:∀ g,L.stepOf g=none
 ahead:L.follows .staticDataAhead=true
 mixed:M.follows .mixedOrders=L.follows .mixedOrders
theorem zed{R:BR}(B:Bodies L M X){f:Nat}{fn:Func}(hf:L.funcs[f]?=some fn)(hb:fn.body.isSome=true)(hx:¬ X f){a a':Array Value}(h:zay R a a'):zgQ L R (Frame.enter L f a .normal) (Frame.enter M f a' .normal):=by
 have hM:=B.same f fn hf hb hx
 cases hc:fn.body with
 | none=>rw[hc] at hb;cases hb
 | some c =>
  have h0:=B.code f fn c hf hc hx
  unfold Frame.enter
  simp only[hf,hM,hc,Option.map_some,Option.getD_some,Option.bind_some]
  refine⟨⟨by simpa [zaT] using h0,rfl,Or.inl rfl,rfl,rfl,fn,hf,by rw[hc];rfl⟩,a'++Array.replicate (fn.ntmps - a'.size) undef,rfl,?_⟩
  rw[<- h.1]
  refine h.app ⟨qm,fun i h1 h2=>?_⟩
  simp only[Array.getElem_replicate]
  exact zaj.undef
theorem zeT{dy:Option Dying}(h:GStep.go { frame:=fr,callers:=cs,status:=st,dying:=dy } w es=.go (G fr1 cs1) w1 es1):st=.running/\dy=none/\fr=fr1/\cs=cs1/\w=w1:=by
 simp only[G,GStep.go.injEq,Goroutine.mk.injEq] at h
 exact⟨h.1.2.2.1,h.1.2.2.2.1,h.1.1,h.1.2.1,h.2.1⟩
theorem raise_mode(fr:Frame)(vs:List PanicEntry):∃ c,(fr.raise vs).mode=.panicking c:=by
 unfold Frame.raise
 split <;> exact⟨_,rfl⟩
def zr2(L M:Program)(X:FuncId->Prop)(R:BR)(fr fr':Frame)(cs cs':List Frame):Prop :=
 (zgQ L R fr fr'/\zco L R cs cs')\/∃ f a a',X f/\zqk f a.size=true/\fr=Frame.enter L f a .normal/\fr'=Frame.enter M f a' .normal/\zay R a a'/\zco L R cs cs'/\(∃ fn fn':Func,L.funcs[f]?=some fn/\M.funcs[f]?=some fn'/\fn.body.isSome=true)/\cs≠[]
def zfA(w w1:World)(f:World->GStep)(fr1:Frame)(cs1:List Frame):Prop :=
 ∃ k,w1.tape=w.tape/\w1.drawn=w.drawn+k/\∀ τ d,(∀ i,i<k->∀ q,τ (d+i) q=w.tape (w.drawn+i) q)->∃ es,f (w.tp τ d)=.go (G fr1 cs1) (w1.tp τ (d+k)) es
structure zhE(L M:Program)(X:FuncId->Prop)(N:Nat)(R R':BR)(w w' w1 w1':World)(fr1 fr1':Frame)(cs1 cs1':List Frame)(es:Array Event):Prop where
 went:zeL N R R' w w' w1 w1'
 after:zr2 L M X R' fr1 fr1' cs1 cs1'
 evs:∀ e∈es,EvR N R' e
theorem zfI(B:Bodies L M X)(fr:Frame)(cs:List Frame)(g:Nat)(w:World):∃ o w' es,early L fr cs none g w=.ended o w' es:=by
 unfold early
 simp only[B.ahead,B.early,Bool.not_true,Bool.false_eq_true,if_false]
 exact⟨_,_,_,rfl⟩
theorem zoo(h:endFatal L fr cs none m w=.go (G fr1 cs1) w1 es1):False:=by
 unfold endFatal at h
 dsimp only at h
 split at h
 ·unfold dieOf at h
  have:=(zeT h).2.1
  cases this
 ·cases h
 ·cases h
theorem zpX(h:endThrow fr m w=.go (G fr1 cs1) w1 es1):False:=by
 unfold endThrow dieOf at h
 have:=(zeT h).2.1
 cases this
theorem zd8{s:GStep}(h:GStep.after es s=.go g w es1):∃ es2,s=.go g w es2/\es1=es++es2:=by
 cases s <;> simp only[GStep.after] at h <;> first|(cases h;exact⟨_,rfl,rfl⟩)|cases h
theorem ziF(B:Bodies L M X){s:Sem Next}(h:stepG.apply L true fr cs none s w=.go (G fr1 cs1) w1 es1)(hm:fr1.mode=.run\/fr1.mode=.returning):∃ x w2,s.run L w=.ok x w2:=by
 cases hr:s.run L w with
 | ok x w2=>exact⟨x,w2,rfl⟩
 | halt hh w2 =>
  exfalso
  unfold stepG.apply at h
  simp only[Sem.runT_eq,if_true,hr] at h
  obtain⟨es2,h,_⟩:=zd8 h
  cases hh with
  | panic v =>
   obtain⟨_,_,e,_,_⟩:=zeT h
   obtain⟨c,hc⟩:=raise_mode fr [{ v,recovered:=false }]
   rw[e] at hc
   rcases hm with hm|hm <;> (rw[hm] at hc;cases hc)
  | goexit =>
   obtain⟨_,_,e,_,_⟩:=zeT h
   obtain⟨c,hc⟩:=raise_mode fr [goexitEntry]
   rw[e] at hc
   rcases hm with hm|hm <;> (rw[hm] at hc;cases hc)
  | blocked=>have:=(zeT h).1;cases this
  | waiting=>have:=(zeT h).1;cases this
  | exit c=>cases h
  | fatal m=>exact zoo h
  | throw m=>exact zpX h
  | unsupported u =>
   cases u with
   | initOrder g =>
    obtain⟨o,w',es,e⟩:=zfI B fr cs g w2
    have h':early L fr cs none g w2=.go (G fr1 cs1) w1 es2:=h
    rw[e] at h'
    cases h'
   | _=>cases h
  | stuck s=>cases h
theorem zfD{s:Sem Next}(hk:(fr.kind == CallKind.early)=false)(h:s.run P w=.ok (.value v) w2):∃ es,stepG.apply P true fr cs none s w=.go (G (fr.finish v) cs) w2 es:=by
 unfold stepG.apply
 simp only[Sem.runT_eq,if_true,h,hk]
 exact⟨_,rfl⟩
theorem zg0{s:Sem Next}(hk:(fr.kind == CallKind.early)=false)(h:s.run P w=.ok .skip w2):∃ es,stepG.apply P true fr cs none s w=.go (G (fr.finish undef) cs) w2 es:=by
 unfold stepG.apply
 simp only[Sem.runT_eq,if_true,h,hk]
 exact⟨_,rfl⟩
theorem zfC{s:Sem Next}{a:Array Value}(hk:(fr.kind == CallKind.early)=false)(h0:∃ ops i r k,fr.todo=.inRegion ops (i::r)::k)(h:s.run P w=.ok (.enter f a) w2) :
  ∃ es,stepG.apply P true fr cs none s w=.go (G (Frame.enter P f a .normal) (fr::cs)) w2 es:=by
 obtain⟨ops,i,r,k,h0⟩:=h0
 unfold stepG.apply
 simp only[Sem.runT_eq,if_true,h,hk]
 simp only[h0]
 exact⟨_,rfl⟩
theorem znT[zaF L M](B:Bodies L M X){R:BR}{t:Array Value}{s s':Sem Next}(ho:ztk L fr)(h8:fr.mode=.run)(ht:zay R fr.tmps t)(h6:zco L R cs cs')(hw:zbh N R w w')(hs:@zag ⟨N⟩ _ L M (QX L) R s s')(h2:∃ ops i r k,fr.todo=.inRegion ops (i::r)::k)(h:stepG.apply L true fr (cs++base) none s w=.go (G fr1 csx) w1 es1)(hm:fr1.mode=.run\/fr1.mode=.returning) :
  ∃ R' fr1' cs1 cs1' w1' es',csx=cs1++base/\stepG.apply M true { fr with tmps:=t } (cs'++rest) none s' w'=.go (G fr1' (cs1'++rest)) w1' es'/\zhE L M X N R R' w w' w1 w1' fr1 fr1' cs1 cs1' es'/\zfA w w1 (stepG.apply L true fr (cs++base) none s) fr1 csx:=by
 obtain⟨x,w2,hx⟩:=ziF B h hm
 obtain⟨R',x',w2',es',h9,h0,hg,hj,k0,l1,l2,l3⟩:=zil hs hw hx
 have h7:=h2
 obtain⟨ops,i,r,k,h2⟩:=h2
 have h1:(fr.kind == CallKind.early)=false:=by rw[ho.kind];rfl
 have hk:(({ fr with tmps:=t }:Frame).kind == CallKind.early)=false:=h1
 have hr2:=h9 #[]
 unfold stepG.apply at h
 simp only[Sem.runT_eq,if_true,hx,h1] at h
 have hl:∀(g:Goroutine),(∀ es,GStep.after (seen M fr.fn (#[]++es')) (.go g w2' es)=.go g w2' (seen M fr.fn (#[]++es')++es)):=fun g es=>rfl
 have h3:∀ e∈seen M fr.fn (#[]++es')++#[],EvR N R' e:=by
  intro e he
  have:=mem_seen (by simpa using he)
  exact hj e this
 cases hg with
 | value hv =>
  obtain⟨es2,h,_⟩:=zd8 h
  obtain⟨_,_,rfl,rfl,rfl⟩:=zeT h
  refine⟨R',_,cs,cs',w2',_,rfl,?_,⟨h0,Or.inl ⟨zb0 ho (ht.mono h0.le) hv,h6.mono h0.le⟩,h3⟩,k0,l1,l2,fun τ d hh=>zfD h1 (l3 τ d hh)⟩
  unfold stepG.apply
  simp only[if_true,hr2,h1]
  rfl
 | skip =>
  obtain⟨es2,h,_⟩:=zd8 h
  obtain⟨_,_,rfl,rfl,rfl⟩:=zeT h
  refine⟨R',_,cs,cs',w2',_,rfl,?_,⟨h0,Or.inl ⟨zb0 ho (ht.mono h0.le) zaj.undef,h6.mono h0.le⟩,h3⟩,k0,l1,l2,fun τ d hh=>zg0 h1 (l3 τ d hh)⟩
  unfold stepG.apply
  simp only[if_true,hr2,h1]
  rfl
 | @enter f a a' hfn har ha =>
  obtain⟨es2,h,_⟩:=zd8 h
  obtain⟨fn,hf,hb⟩:=hfn
  have h4:(match fr.todo with|.call _ true _ _::_=>CallKind.wrapped|_=>CallKind.normal)=CallKind.normal:=by rw[h2]
  have h':GStep.go { frame:=Frame.enter L f a (match fr.todo with|.call _ true _ _::_=>CallKind.wrapped|_=>CallKind.normal),callers:=fr::(cs++base),status:=.running,dying:=none } w2=GStep.go (G fr1 csx) w1 es2:=h
  rw[h4] at h'
  obtain⟨_,_,rfl,rfl,rfl⟩:=zeT h'
  have h5:zco L R' (fr::cs) ({ fr with tmps:=t }::cs'):=.cons ⟨ho,t,rfl,ht.mono h0.le⟩ h8 (h6.mono h0.le)
  refine⟨R',Frame.enter M f a' .normal,fr::cs,{ fr with tmps:=t }::cs',w2',seen M fr.fn (#[]++es')++#[],rfl,?_,⟨h0,?_,h3⟩,k0,l1,l2,fun τ d hh=>zfC h1 h7 (l3 τ d hh)⟩
  ·unfold stepG.apply
   simp only[if_true,hr2,h1]
   show GStep.after _ (GStep.go { frame:=Frame.enter M f a' (match fr.todo with|.call _ true _ _::_=>CallKind.wrapped|_=>CallKind.normal),callers:=_,status:=.running,dying:=none } w2')=_
   rw[h4]
   rfl
  ·by_cases hX:X f
   ·obtain⟨_,fn',hf',_,_⟩:=zaF.fn (L:=L) (M:=M) f fn hf hb
    exact Or.inr ⟨f,a,a',hX,har,rfl,rfl,ha,h5,⟨fn,fn',hf,hf',hb⟩,qm⟩
   ·exact Or.inl ⟨zed B hf hb hX ha,h5⟩
theorem zeC(P:Program)(main:Bool)(fr:Frame)(cs:List Frame)(w:World)(h:fr.mode=.run):stepG P main (G fr cs) w=stepG.exec P main true fr cs none w:=by
 unfold stepG G
 simp only[h]
theorem zbn(P:Program)(main:Bool)(fr:Frame)(cs:List Frame)(w:World)(h:fr.mode=.returning):stepG P main (G fr cs) w=unwind P main fr cs none w:=by
 unfold stepG G
 simp only[h]
theorem zeW[low:zaD][Twin L M]{R:BR}{fn:Func}(hr:fn'.results=fn.results){t:Array Value}(h:zay R t t'):zag L M QV R (results fn t) (results fn' t'):=by
 unfold results
 rw[hr,Array.mapM_eq_mapM_toList,Array.mapM_eq_mapM_toList,<- bind_pure_comp,<- bind_pure_comp]
 have key:∀(l:List ResultVar) (R1:BR),R.le R1->zag L M (fun R a b=>zhC R a b) R1
   (l.mapM fun|.tmp t'=>pure (t.getD t' undef)|.cell a ty=>do loadVar ty (<- asAddr (t.getD a undef)))
   (l.mapM fun|.tmp t=>pure (t'.getD t undef)|.cell a ty=>do loadVar ty (<- asAddr (t'.getD a undef))):=by
  intro l
  induction l with
  | nil=>intro R1 _;rw[List.mapM_nil,List.mapM_nil];exact zad .nil
  | cons x l ih =>
   intro R1 h3
   rw[List.mapM_cons,List.mapM_cons]
   have hx:zag L M QV R1 ((fun|.tmp t'=>pure (t.getD t' undef)|.cell a ty=>do loadVar ty (<- asAddr (t.getD a undef)):ResultVar->Sem Value) x) ((fun|.tmp t=>pure (t'.getD t undef)|.cell a ty=>do loadVar ty (<- asAddr (t'.getD a undef)):ResultVar->Sem Value) x):=by
    cases x with
    | tmp i=>exact zad ((h.mono h3).getD i)
    | cell a ty=>exact zac (zgk ((h.mono h3).getD a)) fun _ _ _ _ ha=>zeV ty ha
   refine zac hx ?_
   intro R2 h5 v v' hv
   refine zac (ih R2 (BR.le_trans h3 h5)) ?_
   intro R3 h6 vs vs' h0
   exact zad (.cons (hv.mono h6) h0)
 refine zac (zac (key fn.results.toList R (BR.le_refl R)) fun R1 h3 vs vs' h0=>zad (Q:=fun R (a b:Array Value)=>zhC R a.toList b.toList) (by simpa using h0)) ?_
 intro R1 h3 vs vs' h0
 refine zad ?_
 obtain⟨vs⟩:=vs
 obtain⟨vs'⟩:=vs'
 replace h0:zhC R1 vs vs':=h0
 cases h0 with
 | nil=>exact .tuple rfl (fun i h=>absurd h qm)
 | cons hv hr =>
  cases hr with
  | nil=>exact hv
  | cons hv2 hr2 =>
   have hl:zhC R1 (_::_::_) (_::_::_):=.cons hv (.cons hv2 hr2)
   rw[dif_neg qm,dif_neg qm]
   have len:∀ {a b:List Value},zhC R1 a b->a.length=b.length:=by
    intro a b h4
    induction h4 with
    | nil=>rfl
    | cons _ _ ih=>simp[ih]
   have get:∀ {a b:List Value},zhC R1 a b->∀ i (h:i<a.length) (h':i<b.length),zaj R1 a[i] b[i]:=by
    intro a b h4
    induction h4 with
    | nil=>intro i h;simp at h
    | cons hv _ ih =>
     intro i h h'
     cases i with
     | zero=>exact hv
     | succ i=>exact ih i (by simpa using h) (by simpa using h')
   exact .tuple (by simpa using len hl) (fun i h1 h2=>by simpa using get hl i (by simpa using h1) (by simpa using h2))
theorem zfM{id:Nat}:∀ {k k':List Item},exitTo id k=some k'->k.all (zaT L)=true->k'.all (zaT L)=true
 | [],k',h,_=>by simp[exitTo] at h
 | i::k,k',h,hk=>by
  simp only[List.all_cons,Bool.and_eq_true] at hk
  cases i with
  | inBlock id' =>
   simp only[exitTo] at h
   split at h
   ·cases h;exact hk.2
   ·exact zfM h hk.2
  | _=>simp only[exitTo] at h;exact zfM h hk.2
theorem zdd{l:Nat}:∀ {c c':Code},findLabel c l=some c'->codeOk L c=true->codeOk L c'=true
 | .seq a b,c',h,hc=>by
  simp only[codeOk,Bool.and_eq_true] at hc
  unfold findLabel at h
  split at h
  ·rename_i r hr
   cases h
   simp only[codeOk,Bool.and_eq_true]
   exact⟨zdd hr hc.1,hc.2⟩
  ·exact zdd h hc.2
 | .label l',c',h,_=>by
  unfold findLabel at h
  split at h
  ·cases h;rfl
  ·cases h
 | .skip,_,h,_|.region _ _ _,_,h,_|.cond _ _ _,_,h,_|.block _ _,_,h,_|.loop _,_,h,_|.rangeFunc _ _ _ _,_,h,_|.exit _,_,h,_|.scope _,_,h,_|.goto _,_,h,_|.ret,_,h,_|.refuse _,_,h,_=>by simp[findLabel] at h
theorem zfO{l:Nat}:∀ {k k':List Item},gotoIn l k=some k'->k.all (zaT L)=true->k'.all (zaT L)=true
 | [],k',h,_=>by simp[gotoIn] at h
 | i::k,k',h,hk=>by
  simp only[List.all_cons,Bool.and_eq_true] at hk
  cases i with
  | inScope body =>
   simp only[gotoIn] at h
   split at h
   ·rename_i r hr
    cases h
    have hb:codeOk L body=true:=by simpa [zaT] using hk.1
    simp only[List.all_cons,zaT,Bool.and_eq_true]
    exact⟨zdd hr hb,hb,hk.2⟩
   ·exact zfO h hk.2
  | _=>simp only[gotoIn] at h;exact zfO h hk.2
theorem zaj.bool_of{R:BR}(h:zaj R v v')(e:v=.bool b):v'=.bool b:=by
 subst e
 cases h
 rfl
theorem zbi{R:BR}{t:Array Value}(main:Bool)(ht:zay R fr.tmps t)(h0:zco L R cs cs')(hw:zbh N R w w'){fr2:Frame}(h1:ztk L fr2)(h2:fr2.tmps=fr.tmps)(h:GStep.go { frame:=fr2,callers:=cs++base,status:=.running,dying:=none } w=.go (G fr1 csx) w1 es1)(hL:∀ ww,stepG L true (G fr (cs++base)) ww=.go { frame:=fr2,callers:=cs++base,status:=.running,dying:=none } ww)(hM:stepG M main (G { fr with tmps:=t } (cs'++rest)) w'=.go { frame:={ fr2 with tmps:=t },callers:=cs'++rest,status:=.running,dying:=none } w') :
  ∃ R' fr1' cs1 cs1' w1' es',csx=cs1++base/\stepG M main (G { fr with tmps:=t } (cs'++rest)) w'=.go (G fr1' (cs1'++rest)) w1' es'/\zhE L M X N R R' w w' w1 w1' fr1 fr1' cs1 cs1' es'/\zfA w w1 (stepG L true (G fr (cs++base))) fr1 csx:=by
 obtain⟨_,_,rfl,rfl,rfl⟩:=zeT h
 exact⟨R,{ fr2 with tmps:=t },cs,cs',w',#[],rfl,hM,⟨zeL.refl hw,Or.inl ⟨⟨h1,t,rfl,by rw[h2];exact ht⟩,h0⟩,qm⟩,0,rfl,rfl,fun τ d _=>⟨#[],hL (w.tp τ d)⟩⟩
theorem ziq[T:zaF L M](B:Bodies L M X)(hz:zbt L){R:BR}(main:Bool)(hf:zgQ L R fr fr')(h4:zco L R cs cs')(hw:zbh N R w w')(h:stepG L true (G fr (cs++base)) w=.go (G fr1 csx) w1 es1)(hm:fr1.mode=.run\/fr1.mode=.returning)(hF:fr.mode=.returning->cs≠[]) :
  ∃ R' fr1' cs1 cs1' w1' es',csx=cs1++base/\stepG M main (G fr' (cs'++rest)) w'=.go (G fr1' (cs1'++rest)) w1' es'/\zhE L M X N R R' w w' w1 w1' fr1 fr1' cs1 cs1' es'/\zfA w w1 (stepG L true (G fr (cs++base))) fr1 csx:=by
 obtain⟨ho,t,rfl,ht⟩:=hf
 obtain⟨hp,hq,hj,hl,h9,hA⟩:=ho
 obtain⟨fn,tmps,todo,defers,mode,kind,roundOf⟩:=fr
 simp only at hp hq hj hl h9 hA ht hF
 subst hq hl h9
 have ho:∀ {td:List Item} {md:FrameMode},td.all (zaT L)=true->(md=.run\/md=.returning)->ztk L { fn:=fn,tmps:=tmps,todo:=td,defers:=[],mode:=md,kind:=.normal,roundOf:=none }:=fun a b=>⟨a,rfl,b,rfl,rfl,hA⟩
 rcases hj with rfl|rfl
 ·skip
  cases todo with
  | nil=>exact zbi main ht h4 hw (ho hp (Or.inr rfl)) rfl h (fun _=>rfl) rfl
  | cons it k =>
   simp only[List.all_cons,Bool.and_eq_true] at hp
   obtain⟨hit,hk⟩:=hp
   have hg:(it::k).all (zaT L)=true:=by simp only[List.all_cons,Bool.and_eq_true];exact⟨hit,hk⟩
   cases it with
   | code c =>
    cases c with
    | ret=>exact zbi main ht h4 hw (ho hg (Or.inr rfl)) rfl h (fun _=>rfl) rfl
    | skip=>exact zbi main ht h4 hw (ho hk (Or.inl rfl)) rfl h (fun _=>rfl) rfl
    | label l=>exact zbi main ht h4 hw (ho hk (Or.inl rfl)) rfl h (fun _=>rfl) rfl
    | seq a b =>
     simp only[zaT,codeOk,Bool.and_eq_true] at hit
     exact zbi main ht h4 hw (ho (td:=.code a::.code b::k) (by simp only[List.all_cons,zaT,Bool.and_eq_true];exact⟨hit.1,hit.2,hk⟩) (Or.inl rfl)) rfl h (fun _=>rfl) rfl
    | cond c a b =>
     simp only[zaT,codeOk,Bool.and_eq_true] at hit
     have hD:=zhL (fr:={ fn:=fn,tmps:=tmps,todo:=.code (.cond c a b)::k,defers:=[],mode:=.run,kind:=.normal,roundOf:=none }) ht c hit.1.1
     have h3:∀(P:Program) (main:Bool) (tm:Array Value) (cc:List Frame) (ww:World),stepG P main (G { fn:=fn,tmps:=tm,todo:=.code (.cond c a b)::k,defers:=[],mode:=.run,kind:=.normal,roundOf:=none } cc) ww =
       match ({ fn:=fn,tmps:=tm,todo:=.code (.cond c a b)::k,defers:=[],mode:=.run,kind:=.normal,roundOf:=none }:Frame).eval c with
       | .bool bb=>.go { frame:={ fn:=fn,tmps:=tm,todo:=.code (if bb then a else b)::k,defers:=[],mode:=.run,kind:=.normal,roundOf:=none },callers:=cc,status:=.running,dying:=none } ww
       | _=>.ended (.stuck "cond: bool expected" (({ fn:=fn,tmps:=tm,todo:=.code (.cond c a b)::k,defers:=[],mode:=.run,kind:=.normal,roundOf:=none }:Frame).pos P)) ww:=fun _ _ _ _ _=>rfl
     have h5:=h3 M main t (cs'++rest) w'
     rw[h3] at h
     split at h
     ·rename_i bb hG
      have hbb':=hD.bool_of hG
      refine zbi main ht h4 hw (ho (td:=.code (if bb then a else b)::k) (by simp only[List.all_cons,zaT,Bool.and_eq_true];exact⟨by cases bb <;> simp[hit.2,hit.1.2],hk⟩) (Or.inl rfl)) rfl h (fun ww=>by rw[h3];simp only[hG]) ?_
      refine h5.trans ?_
      simp only[hbb']
     ·cases h
    | block id c=>exact zbi main ht h4 hw (ho (td:=.code c::.inBlock id::k) (by simp only[List.all_cons,zaT,Bool.and_eq_true,true_and];exact⟨hit,hk⟩) (Or.inl rfl)) rfl h (fun _=>rfl) rfl
    | loop c=>exact zbi main ht h4 hw (ho (td:=.code c::.inLoop c::k) (by simp only[List.all_cons,zaT,Bool.and_eq_true];exact⟨hit,hit,hk⟩) (Or.inl rfl)) rfl h (fun _=>rfl) rfl
    | scope c=>exact zbi main ht h4 hw (ho (td:=.code c::.inScope c::k) (by simp only[List.all_cons,zaT,Bool.and_eq_true];exact⟨hit,hit,hk⟩) (Or.inl rfl)) rfl h (fun _=>rfl) rfl
    | exit id =>
     have h3:∀(P:Program) (main:Bool) (tm:Array Value) (cc:List Frame) (ww:World),stepG P main (G { fn:=fn,tmps:=tm,todo:=.code (.exit id)::k,defers:=[],mode:=.run,kind:=.normal,roundOf:=none } cc) ww =
       (exitTo id k).elim (.ended (.stuck "exit, goto: no such block or label" (({ fn:=fn,tmps:=tm,todo:=.code (.exit id)::k,defers:=[],mode:=.run,kind:=.normal,roundOf:=none }:Frame).pos P)) ww)
        fun k'=>.go { frame:={ fn:=fn,tmps:=tm,todo:=k',defers:=[],mode:=.run,kind:=.normal,roundOf:=none },callers:=cc,status:=.running,dying:=none } ww:=fun _ _ _ _ _=>rfl
     have h5:=h3 M main t (cs'++rest) w'
     rw[h3] at h
     cases hx:exitTo id k with
     | none=>rw[hx] at h;cases h
     | some k' =>
      rw[hx] at h h5
      exact zbi main ht h4 hw (ho (zfM hx hk) (Or.inl rfl)) rfl h (fun ww=>by rw[h3,hx];rfl) h5
    | goto l =>
     have h3:∀(P:Program) (main:Bool) (tm:Array Value) (cc:List Frame) (ww:World),stepG P main (G { fn:=fn,tmps:=tm,todo:=.code (.goto l)::k,defers:=[],mode:=.run,kind:=.normal,roundOf:=none } cc) ww =
       (gotoIn l k).elim (.ended (.stuck "exit, goto: no such block or label" (({ fn:=fn,tmps:=tm,todo:=.code (.goto l)::k,defers:=[],mode:=.run,kind:=.normal,roundOf:=none }:Frame).pos P)) ww)
        fun k'=>.go { frame:={ fn:=fn,tmps:=tm,todo:=k',defers:=[],mode:=.run,kind:=.normal,roundOf:=none },callers:=cc,status:=.running,dying:=none } ww:=fun _ _ _ _ _=>rfl
     have h5:=h3 M main t (cs'++rest) w'
     rw[h3] at h
     cases hx:gotoIn l k with
     | none=>rw[hx] at h;cases h
     | some k' =>
      rw[hx] at h h5
      exact zbi main ht h4 hw (ho (zfO hx hk) (Or.inl rfl)) rfl h (fun ww=>by rw[h3,hx];rfl) h5
    | rangeFunc f ps a b=>simp[zaT,codeOk] at hit
    | refuse why=>cases h
    | region id ops draw =>
     have hs:∀ l,(Item.inRegion ops l::k).all (zaT L)=true:=fun l=>by simp only[List.all_cons,zaT,Bool.and_eq_true];exact⟨hit,hk⟩
     cases draw with
     | false=>exact zbi main ht h4 hw (ho (hs _) (Or.inl rfl)) rfl h (fun _=>rfl) rfl
     | true =>
      have h3:∀(P:Program) (main:Bool) (tm:Array Value) (cc:List Frame) (ww:World),stepG P main (G { fn:=fn,tmps:=tm,todo:=.code (.region id ops true)::k,defers:=[],mode:=.run,kind:=.normal,roundOf:=none } cc) ww =
        .go { frame:={ fn:=fn,tmps:=tm,todo:=.inRegion ops (Region.schedule (P.follows .mixedOrders) ops (ww.tape ww.drawn (.order fn id)))::k,defers:=[],mode:=.run,kind:=.normal,roundOf:=none },callers:=cc,status:=.running,dying:=none } { ww with drawn:=ww.drawn+1 }:=fun _ _ _ _ _=>rfl
      rw[h3] at h
      obtain⟨_,_,rfl,rfl,rfl⟩:=zeT h
      refine⟨R,_,cs,cs',_,#[],rfl,h3 M main t (cs'++rest) w',⟨?_,Or.inl ⟨⟨ho (hs _) (Or.inl rfl),t,?_,ht⟩,h4⟩,qm⟩,1,rfl,rfl,fun τ d hh=>⟨#[],?_⟩⟩
      ·exact⟨BR.le_refl R,⟨hw.one,hw.blk,hw.tape,by simp[hw.drawn],hw.low⟩,fun _ _ x=>Or.inl x,Nat.le_refl _,Nat.le_refl _,fun _ _ _=>rfl,rfl,rfl,rfl⟩
      ·rw[B.mixed,<- hw.tape,<- hw.drawn]
      ·refine(h3 L true tmps (cs++base) (w.tp τ d)).trans ?_
       have h0:(w.tp τ d).tape (w.tp τ d).drawn (.order fn id)=w.tape w.drawn (.order fn id):=hh 0 qg _
       rw[h0]
       rfl
   | inBlock id=>exact zbi main ht h4 hw (ho hk (Or.inl rfl)) rfl h (fun _=>rfl) rfl
   | inScope c=>exact zbi main ht h4 hw (ho hk (Or.inl rfl)) rfl h (fun _=>rfl) rfl
   | inLoop c=>exact zbi main ht h4 hw (ho (td:=.code c::.inLoop c::k) (by simp only[List.all_cons,zaT,Bool.and_eq_true];exact⟨hit,hit,hk⟩) (Or.inl rfl)) rfl h (fun _=>rfl) rfl
   | inRegion ops td =>
    cases td with
    | nil=>exact zbi main ht h4 hw (ho hk (Or.inl rfl)) rfl h (fun _=>rfl) rfl
    | cons i r =>
     have hy:yielded ops tmps=yielded ops t:=funext (zld ht ops)
     have h3:∀(P:Program) (main:Bool) (tm:Array Value) (cc:List Frame) (ww:World),stepG P main (G { fn:=fn,tmps:=tm,todo:=.inRegion ops (i::r)::k,defers:=[],mode:=.run,kind:=.normal,roundOf:=none } cc) ww =
       if ((ops[i]?).map (Region.wanted · (yielded ops tm))).getD false=true then stepG.oper P true { fn:=fn,tmps:=tm,todo:=.inRegion ops (i::r)::k,defers:=[],mode:=.run,kind:=.normal,roundOf:=none } cc none ww
       else .go { frame:=({ fn:=fn,tmps:=tm,todo:=.inRegion ops (i::r)::k,defers:=[],mode:=.run,kind:=.normal,roundOf:=none }:Frame).finish undef,callers:=cc,status:=.running,dying:=none } ww:=fun _ _ _ _ _=>rfl
     have h5:=h3 M main t (cs'++rest) w'
     rw[<- hy] at h5
     rw[h3] at h
     split at h
     ·rename_i h6
      rw[if_pos h6] at h5
      simp only[stepG.oper,Frame.oper?] at h
      cases hoi:ops[i]? with
      | none=>rw[hoi] at h6;cases h6
      | some o =>
       rw[hoi] at h
       simp only at h
       have hJ:zhe L o.op=true:=by
        simp only[zaT] at hit
        rw[Array.all_eq_true_iff_forall_mem] at hit
        exact hit o (Array.mem_of_getElem? hoi)
       have hE:=zpI (low:=⟨N⟩) (M:=M) hz hw.one (fun _=>⟨rfl,rfl⟩) ⟨rfl,rfl⟩ (zhL (fr:={ fn:=fn,tmps:=tmps,todo:=.inRegion ops (i::r)::k,defers:=[],mode:=.run,kind:=.normal,roundOf:=none }) ht) (o:=o) hJ
       obtain⟨R',fr1',cs1,cs1',w1',es',hK,h1,h2,k0,l1,l2,l3⟩:=znT (rest:=rest) B (ho hg (Or.inl rfl)) rfl ht h4 hw hE ⟨ops,i,r,k,rfl⟩ h hm
       refine⟨R',fr1',cs1,cs1',w1',es',hK,h5.trans ?_,h2,k0,l1,l2,fun τ d hh=>?_⟩
       rotate_left
       ·obtain⟨es,he⟩:=l3 τ d hh
        refine⟨es,?_⟩
        refine(h3 L true tmps (cs++base) (w.tp τ d)).trans ?_
        rw[if_pos h6]
        simp only[stepG.oper,Frame.oper?,hoi]
        exact he
       simp only[stepG.oper,Frame.oper?,hoi]
       exact h1
     ·rename_i h6
      rw[if_neg h6] at h5
      obtain⟨_,_,rfl,rfl,rfl⟩:=zeT h
      exact⟨R,_,cs,cs',w',#[],rfl,h5,⟨zeL.refl hw,Or.inl ⟨zb0 (ho hg (Or.inl rfl)) ht zaj.undef,h4⟩,qm⟩,0,rfl,rfl,fun τ d _=>⟨#[],(h3 L true tmps (cs++base) (w.tp τ d)).trans (by rw[if_neg h6];rfl)⟩⟩
   | _=>simp[zaT] at hit
 ·skip
  cases h4 with
  | nil=>exact absurd rfl (hF rfl)
  | @cons c c' r r' hc hcm hcr =>
   obtain⟨fun1,h8,hb⟩:=hA
   obtain⟨_,fun2,hu,_,_⟩:=zaF.fn (L:=L) (M:=M) fn fun1 h8 hb
   have hE:=zeW (low:=⟨N⟩) (L:=L) (M:=M) (B.res _ _ _ h8 hu) ht
   rw[zbn _ _ _ _ _ rfl] at h
   simp only[unwind,h8,Sem.runT_eq,List.cons_append] at h
   obtain⟨es2,h,_⟩:=zd8 h
   cases hr:(results fun1 tmps).run L w with
   | halt hh w2 =>
    rw[hr] at h
    exfalso
    cases hh <;> cases h
   | ok v w2 =>
    rw[hr] at h
    obtain⟨R',v',w2',es',hL,h7,hv,hD,k0,l1,l2,l3⟩:=zil hE hw hr
    simp only[doReturn] at h
    obtain⟨_,_,rfl,rfl,rfl⟩:=zeT h
    obtain⟨hM,tc,rfl,hN⟩:=hc
    refine⟨R',({ c with tmps:=tc }:Frame).finish v',r,r',w2',seen M fn (#[]++es')++#[],rfl,?_,⟨h7,Or.inl ⟨zb0 hM (hN.mono h7.le) hv,hcr.mono h7.le⟩,?_⟩,k0,l1,l2,fun τ d hh=>?_⟩
    ·rw[zbn _ _ _ _ _ rfl]
     simp only[unwind,hu,hL,List.cons_append,doReturn]
     rfl
    ·intro e he
     exact hD e (by simpa using mem_seen (by simpa using he))
    ·dsimp only
     rw[zbn _ _ _ _ _ rfl]
     simp only[unwind,h8,Sem.runT_eq,l3 τ d hh,doReturn,List.cons_append]
     exact⟨_,rfl⟩
theorem zj3[zaF L M](B:Bodies L M X){R:BR}{s s':Sem Next}(ho:ztk L fr)(h0:fr.mode=.run)(hw:zbh N R w w')(hs:@zag ⟨N⟩ _ L M (QX L) R s s')(h2:∃ ops i r k,fr.todo=.inRegion ops (i::r)::k) :
  (∃ fr1 csx w1 es,stepG.apply L true fr cs none s w=.go (G fr1 csx) w1 es/\(fr1.mode=.run\/fr1.mode=.returning)) \/
  (∃ fr1 w1 es ch,stepG.apply L true fr cs none s w=.go (G fr1 cs) w1 es/\fr1.mode=.panicking ch/\fr1.defers=[]) \/
  (∃ o w1 es,stepG.apply L true fr cs none s w=.ended o w1 es):=by
 have h1:(fr.kind == CallKind.early)=false:=by rw[ho.kind];rfl
 have h3:∀ v,(fr.finish v).mode=.run:=by
  intro v
  obtain⟨ops,i,r,k,e⟩:=h2
  unfold Frame.finish
  rw[e]
  exact h0
 cases hr:s.run L w with
 | ok x w2 =>
  obtain⟨R',x',w2',es',h7,h6,h5,h8,_⟩:=zil hs hw hr
  refine Or.inl ?_
  cases h5 with
  | value hv =>
   obtain⟨es,e⟩:=zfD (cs:=cs) h1 hr
   exact⟨_,_,_,es,e,Or.inl (h3 _)⟩
  | skip =>
   obtain⟨es,e⟩:=zg0 (cs:=cs) h1 hr
   exact⟨_,_,_,es,e,Or.inl (h3 _)⟩
  | enter f hfn _ ha =>
   obtain⟨es,e⟩:=zfC (cs:=cs) h1 h2 hr
   exact⟨_,_,_,es,e,Or.inl rfl⟩
 | halt hh w2 =>
  have h4:=zl3 hs hw hr
  refine Or.inr ?_
  unfold stepG.apply
  simp only[Sem.runT_eq,if_true,hr,h1]
  cases h4 with
  | panic v =>
   refine Or.inl ⟨fr.raise [{ v,recovered:=false }],w2,_,[{ v,recovered:=false }],rfl,?_,?_⟩
   ·unfold Frame.raise;rw[h0]
   ·unfold Frame.raise;rw[h0];exact ho.defers
  | unsupported u =>
   refine Or.inr ?_
   cases u with
   | initOrder g =>
    obtain⟨o,w',es,e⟩:=zfI B fr cs g w2
    simp only[e]
    exact⟨_,_,_,rfl⟩
   | _=>exact⟨_,_,_,rfl⟩
  | stuck t=>exact Or.inr ⟨_,_,_,rfl⟩
theorem zmI[T:zaF L M](B:Bodies L M X)(hz:zbt L){R:BR}(hf:zgQ L R fr fr')(hl:zco L R cs cs')(hw:zbh N R w w')(h9:fr.mode=.returning->cs≠[]) :
  (∃ fr1 csx w1 es,stepG L true (G fr (cs++base)) w=.go (G fr1 csx) w1 es/\(fr1.mode=.run\/fr1.mode=.returning)) \/
  (∃ fr1 w1 es ch,stepG L true (G fr (cs++base)) w=.go (G fr1 (cs++base)) w1 es/\fr1.mode=.panicking ch/\fr1.defers=[]) \/
  (∃ o w1 es,stepG L true (G fr (cs++base)) w=.ended o w1 es):=by
 obtain⟨ho,t,rfl,ht⟩:=hf
 obtain⟨h5,h6,h2,h3,h1,h7⟩:=ho
 obtain⟨fn,tmps,todo,defers,mode,kind,roundOf⟩:=fr
 simp only at h5 h6 h2 h3 h1 h7 ht h9
 subst h6 h3 h1
 rcases h2 with rfl|rfl
 ·cases todo with
  | nil=>exact Or.inl ⟨_,_,_,_,rfl,Or.inr rfl⟩
  | cons it k =>
   have he:=h5
   simp only[List.all_cons,Bool.and_eq_true] at h5
   obtain⟨hit,hk⟩:=h5
   cases it with
   | code c =>
    cases c with
    | ret=>exact Or.inl ⟨_,_,_,_,rfl,Or.inr rfl⟩
    | cond c a b =>
     have h0:stepG L true (G { fn:=fn,tmps:=tmps,todo:=.code (.cond c a b)::k,defers:=[],mode:=.run,kind:=.normal,roundOf:=none } (cs++base)) w =
       match ({ fn:=fn,tmps:=tmps,todo:=.code (.cond c a b)::k,defers:=[],mode:=.run,kind:=.normal,roundOf:=none }:Frame).eval c with
       | .bool bb=>.go { frame:={ fn:=fn,tmps:=tmps,todo:=.code (if bb then a else b)::k,defers:=[],mode:=.run,kind:=.normal,roundOf:=none },callers:=cs++base,status:=.running,dying:=none } w
       | _=>.ended (.stuck "cond: bool expected" (({ fn:=fn,tmps:=tmps,todo:=.code (.cond c a b)::k,defers:=[],mode:=.run,kind:=.normal,roundOf:=none }:Frame).pos L)) w:=rfl
     rw[h0]
     split
     ·exact Or.inl ⟨_,_,_,_,rfl,Or.inl rfl⟩
     ·exact Or.inr (Or.inr ⟨_,_,_,rfl⟩)
    | exit id =>
     have h0:stepG L true (G { fn:=fn,tmps:=tmps,todo:=.code (.exit id)::k,defers:=[],mode:=.run,kind:=.normal,roundOf:=none } (cs++base)) w =
       (exitTo id k).elim (.ended (.stuck "exit, goto: no such block or label" (({ fn:=fn,tmps:=tmps,todo:=.code (.exit id)::k,defers:=[],mode:=.run,kind:=.normal,roundOf:=none }:Frame).pos L)) w)
        fun k'=>.go { frame:={ fn:=fn,tmps:=tmps,todo:=k',defers:=[],mode:=.run,kind:=.normal,roundOf:=none },callers:=cs++base,status:=.running,dying:=none } w:=rfl
     rw[h0]
     cases exitTo id k with
     | none=>exact Or.inr (Or.inr ⟨_,_,_,rfl⟩)
     | some k'=>exact Or.inl ⟨_,_,_,_,rfl,Or.inl rfl⟩
    | goto l =>
     have h0:stepG L true (G { fn:=fn,tmps:=tmps,todo:=.code (.goto l)::k,defers:=[],mode:=.run,kind:=.normal,roundOf:=none } (cs++base)) w =
       (gotoIn l k).elim (.ended (.stuck "exit, goto: no such block or label" (({ fn:=fn,tmps:=tmps,todo:=.code (.goto l)::k,defers:=[],mode:=.run,kind:=.normal,roundOf:=none }:Frame).pos L)) w)
        fun k'=>.go { frame:={ fn:=fn,tmps:=tmps,todo:=k',defers:=[],mode:=.run,kind:=.normal,roundOf:=none },callers:=cs++base,status:=.running,dying:=none } w:=rfl
     rw[h0]
     cases gotoIn l k with
     | none=>exact Or.inr (Or.inr ⟨_,_,_,rfl⟩)
     | some k'=>exact Or.inl ⟨_,_,_,_,rfl,Or.inl rfl⟩
    | rangeFunc f ps a b=>simp[zaT,codeOk] at hit
    | refuse why=>exact Or.inr (Or.inr ⟨_,_,_,rfl⟩)
    | region id ops draw=>cases draw <;> exact Or.inl ⟨_,_,_,_,rfl,Or.inl rfl⟩
    | _=>exact Or.inl ⟨_,_,_,_,rfl,Or.inl rfl⟩
   | inBlock id=>exact Or.inl ⟨_,_,_,_,rfl,Or.inl rfl⟩
   | inScope c=>exact Or.inl ⟨_,_,_,_,rfl,Or.inl rfl⟩
   | inLoop c=>exact Or.inl ⟨_,_,_,_,rfl,Or.inl rfl⟩
   | inRegion ops td =>
    cases td with
    | nil=>exact Or.inl ⟨_,_,_,_,rfl,Or.inl rfl⟩
    | cons i r =>
     have h0:stepG L true (G { fn:=fn,tmps:=tmps,todo:=.inRegion ops (i::r)::k,defers:=[],mode:=.run,kind:=.normal,roundOf:=none } (cs++base)) w =
       if ((ops[i]?).map (Region.wanted · (yielded ops tmps))).getD false=true then stepG.oper L true { fn:=fn,tmps:=tmps,todo:=.inRegion ops (i::r)::k,defers:=[],mode:=.run,kind:=.normal,roundOf:=none } (cs++base) none w
       else .go { frame:=({ fn:=fn,tmps:=tmps,todo:=.inRegion ops (i::r)::k,defers:=[],mode:=.run,kind:=.normal,roundOf:=none }:Frame).finish undef,callers:=cs++base,status:=.running,dying:=none } w:=rfl
     rw[h0]
     split
     ·cases hoi:ops[i]? with
      | none=>rename_i h4;rw[hoi] at h4;cases h4
      | some o =>
       have hg:zhe L o.op=true:=by
        simp only[zaT] at hit
        rw[Array.all_eq_true_iff_forall_mem] at hit
        exact hit o (Array.mem_of_getElem? hoi)
       have h8:=zpI (low:=⟨N⟩) (M:=M) hz hw.one (fun _=>⟨rfl,rfl⟩) ⟨rfl,rfl⟩ (zhL (fr:={ fn:=fn,tmps:=tmps,todo:=.inRegion ops (i::r)::k,defers:=[],mode:=.run,kind:=.normal,roundOf:=none }) ht) (o:=o) hg
       simp only[stepG.oper,Frame.oper?,hoi]
       exact zj3 B (fr:={ fn:=fn,tmps:=tmps,todo:=.inRegion ops (i::r)::k,defers:=[],mode:=.run,kind:=.normal,roundOf:=none }) ⟨he,rfl,Or.inl rfl,rfl,rfl,h7⟩ rfl hw h8 ⟨ops,i,r,k,rfl⟩
     ·exact Or.inl ⟨_,_,_,_,rfl,Or.inl rfl⟩
   | _=>simp[zaT] at hit
 ·cases hl with
  | nil=>exact absurd rfl (h9 rfl)
  | @cons c c' r r' hc hcm hcr =>
   obtain⟨fun1,hj,hb⟩:=h7
   have h8:=zeW (low:=⟨N⟩) (L:=L) (M:=M) (fn':=fun1) rfl ht
   rw[zbn _ _ _ _ _ rfl]
   simp only[unwind,hj,Sem.runT_eq,List.cons_append]
   cases hr:(results fun1 tmps).run L w with
   | halt hh w2 =>
    refine Or.inr (Or.inr ?_)
    cases zl3 h8 hw hr with
    | panic v=>exact⟨_,_,_,rfl⟩
    | unsupported u=>exact⟨_,_,_,rfl⟩
    | stuck t=>exact⟨_,_,_,rfl⟩
   | ok v w2 =>
    refine Or.inl ⟨c.finish v,_,w2,_,rfl,?_⟩
    obtain⟨hp,tc,rfl,hq⟩:=hc
    exact(zb0 hp hq (zaj.undef)).1.mode.imp (fun h=>by unfold Frame.finish at h ⊢;split at h <;> simp_all) (fun h=>by unfold Frame.finish at h ⊢;split at h <;> simp_all)
def zaR(L:Program):Frame:={ fn:=L.funcs.size,tmps:=#[],todo:=[.call default false "fmt's door" #[]],defers:=[],mode:=.run,kind:=.normal }
theorem ztc(h:stepG L true (G fr cs) w=.go (G fr1 cs1) w1 es):step L (lone fr cs w)=.next (lone fr1 cs1 w1):=by
 refine step_lone_go ?_
 have:stepG L true { frame:=fr,callers:=cs,status:=.running,dying:=none } w=.go (G fr1 cs1) w1 es:=h
 rw[this]
 rfl
theorem step_end{o:Outcome}(h:stepG L true (G fr cs) w=.ended o w1 es):step L (lone fr cs w)=.ended o w1:=by
 refine step_lone_ended ?_
 have:stepG L true { frame:=fr,callers:=cs,status:=.running,dying:=none } w=.ended o w1 es:=h
 rw[this]
 rfl
theorem zct(h:stepG L true (G fr cs) w=.go (G fr1 cs1) w1 es)(n:Nat):runN L (n+1) (lone fr cs w)=runN L n (lone fr1 cs1 w1):=by
 simp only[runN,ztc h]
theorem zcl{o:Outcome}(h:stepG L true (G fr cs) w=.ended o w1 es)(n:Nat):runN L (n+1) (lone fr cs w)=.ended o w1:=by
 simp only[runN,step_end h]
theorem zcj(h:Stepped.next (lone fr cs w)=.next (lone fr1 cs1 w1)):fr=fr1/\cs=cs1/\w=w1:=by
 simp only[lone,Stepped.next.injEq,Machine.mk.injEq] at h
 obtain⟨h1,h2,_⟩:=h
 have h3:=congrArg (fun a=>a[0]?) h2
 simp at h3
 exact⟨h3.1,h3.2,h1⟩
theorem ziI(h1:fr.fn=L.funcs.size)(h2:fr.todo=[.call default false "fmt's door" #[]]):fr.catches L=true:=by
 have e:L.funcs[fr.fn]?=none:=by rw[h1];exact Array.getElem?_eq_none (Nat.le_refl _)
 unfold Frame.catches
 rw[e,h2]
 simp
theorem zsY:∀(cs:List Frame),(∀ c∈cs,c.defers=[])->∀(fr:Frame) (ch:List PanicEntry) (w:World),fr.mode=.panicking ch->fr.defers=[]->∀(n:Nat) (m:Machine),runN L n (lone fr (cs++[zaR L]) w)=.next m->∃ fr' cs' w' ch',m=lone fr' cs' w'/\fr'.mode=.panicking ch':=by
 have h0:∀(fr c:Frame) (r:List Frame) (ch:List PanicEntry) (w:World),fr.mode=.panicking ch->fr.defers=[]->(∃ o w1 es,stepG L true (G fr (c::r)) w=.ended o w1 es)\/∃ es,stepG L true (G fr (c::r)) w=.go (G (c.raise ch) r) w es:=by
  intro fr c r ch w h1 h2
  have e:stepG L true (G fr (c::r)) w=unwind L true fr (c::r) none w:=by unfold stepG G;simp only[h1]
  rw[e]
  simp only[unwind,h2,h1]
  split
  ·exact Or.inl ⟨_,_,_,rfl⟩
  ·exact Or.inr ⟨_,rfl⟩
 intro cs
 induction cs with
 | nil =>
  intro _ fr ch w h1 h2 n m hr
  cases n with
  | zero=>simp only[runN,Stepped.next.injEq] at hr;exact⟨_,_,_,ch,hr.symm,h1⟩
  | succ n =>
   rcases h0 fr (zaR L) [] ch w h1 h2 with ⟨o,w1,es,e⟩|⟨es,e⟩
   ·rw[List.nil_append,zcl e] at hr;cases hr
   ·rw[List.nil_append,zct e] at hr
    have hm:((zaR L).raise ch).mode=.panicking ch:=rfl
    cases n with
    | zero=>simp only[runN,Stepped.next.injEq] at hr;exact⟨_,_,_,ch,hr.symm,hm⟩
    | succ n =>
     have e2:stepG L true (G ((zaR L).raise ch) []) w=.ended (.unsupported (.noEntry "a panic or Goexit out of a method that fmt calls behind a cut's door") (((zaR L).raise ch).pos L)) w:=by
      have e3:stepG L true (G ((zaR L).raise ch) []) w=unwind L true ((zaR L).raise ch) [] none w:=by unfold stepG G;simp only[hm]
      rw[e3]
      have hc:((zaR L).raise ch).catches L=true:=ziI rfl rfl
      have hd:((zaR L).raise ch).defers=[]:=rfl
      simp only[unwind,hd,hm,hc,if_true]
     rw[zcl e2] at hr
     cases hr
 | cons c cs ih =>
  intro h3 fr ch w h1 h2 n m hr
  cases n with
  | zero=>simp only[runN,Stepped.next.injEq] at hr;exact⟨_,_,_,ch,hr.symm,h1⟩
  | succ n =>
   rcases h0 fr c (cs++[zaR L]) ch w h1 h2 with ⟨o,w1,es,e⟩|⟨es,e⟩
   ·rw[List.cons_append,zcl e] at hr;cases hr
   ·rw[List.cons_append,zct e] at hr
    obtain⟨ch',hm⟩:=raise_mode c ch
    have hd:(c.raise ch).defers=[]:=by
     have:=h3 c qm
     unfold Frame.raise
     split <;> exact this
    exact ih (fun x hx=>h3 x (by simp[hx])) (c.raise ch) ch' w hm hd n m hr
theorem zsc:Extern.next "fmt's door"=none:=qj
theorem zly{fn:Func}(h1:fr.mode=.returning)(h2:fr.defers=[])(h3:fr.kind=.normal)(h4:L.funcs[fr.fn]?=some fn)(n:Nat)(h:runN L (n+1) (lone fr [zaR L] w)=.next (lone fr' [zaR L] w')):False:=by
 have e:stepG L true (G fr [zaR L]) w=unwind L true fr [zaR L] none w:=zbn _ _ _ _ _ h1
 simp only[unwind,h2,h1,h4,Sem.runT_eq] at e
 cases hr:(results fn fr.tmps).run L w with
 | halt hh w2 =>
  rw[hr] at e
  cases hh <;> (rw[zcl e] at h;cases h)
 | ok v w2 =>
  rw[hr] at e
  simp only[doReturn,h3] at e
  have e':stepG L true (G fr [zaR L]) w=.go (G ((zaR L).finish v) []) w2 (seen L fr.fn ((results fn fr.tmps).events L w #[])++#[]):=e
  rw[zct e'] at h
  cases n with
  | zero=>obtain⟨_,hc,_⟩:=zcj h;cases hc
  | succ n =>
   have e2:stepG L true (G ((zaR L).finish v) []) w2=.ended (.stuck ("no extern row "++ "fmt's door") (((zaR L).finish v).pos L)) w2:=by
    have hm:((zaR L).finish v).mode=.run:=rfl
    rw[zeC _ _ _ _ _ hm]
    have ht:((zaR L).finish v).todo=[.extern "fmt's door" (#[].push v)]:=rfl
    simp only[stepG.exec,ht,zsc,Option.elim_none]
   rw[zcl e2] at h
   cases h
end
section
open Go Go.Conc
variable{L:Program}
def zmh(L:Program)(fr:Frame)(cs:List Frame)(w:World):Prop:=∃ N R fr' cs' w',zgQ L R fr fr'/\zco L R cs cs'/\zbh N R w w'
theorem zbh.tp{R:BR}(h:zbh N R w w')(τ:Nat->Question->Nat)(d:Nat):zbh N R (w.tp τ d) (w'.tp τ d):=⟨h.one,h.blk,rfl,rfl,h.low⟩
theorem zmh.tp(h:zmh L fr cs w)(τ:Nat->Question->Nat)(d:Nat):zmh L fr cs (w.tp τ d):=let ⟨N,R,fr',cs',w',a,b,c⟩:=h;⟨N,R,fr',cs',w'.tp τ d,a,b,c.tp τ d⟩
theorem ztf(w:World)(τ τ':Nat->Question->Nat)(d d':Nat):(w.tp τ d).tp τ' d'=w.tp τ' d':=rfl
theorem zis{τ:Nat->Question->Nat}{d:Nat}(h1:w.tape=τ)(h2:w.drawn=d):w.tp τ d=w:=by subst h1 h2;rfl
structure Whole(L:Program):Prop extends Bodies L L (fun _=>False) where
 zero:zbt L
theorem zco.defers{R:BR}(h:zco L R cs cs'):∀ c∈cs,c.defers=[]:=by
 induction h with
 | nil=>intro c hc;simp at hc
 | cons hf _ _ ih =>
  intro c hc
  rcases List.mem_cons.1 hc with rfl|hc
  ·exact hf.1.defers
  ·exact ih c hc
theorem zlN[zaF L L](W:Whole L)(hS:zmh L fr cs w)(h3:fr.mode=.returning->cs≠[])(hr:runN L (n+1) (lone fr (cs++[zaR L]) w)=.next (lone fr' [zaR L] w'))(hm':fr'.mode=.returning) :
  ∃ fr1 cs1 w1 es,stepG L true (G fr (cs++[zaR L])) w=.go (G fr1 (cs1++[zaR L])) w1 es/\(fr1.mode=.run\/fr1.mode=.returning)/\zmh L fr1 cs1 w1/\zfA w w1 (stepG L true (G fr (cs++[zaR L]))) fr1 (cs1++[zaR L])/\runN L n (lone fr1 (cs1++[zaR L]) w1)=.next (lone fr' [zaR L] w'):=by
 obtain⟨N,R,frp,csp,wp,hf,h0,hw⟩:=hS
 rcases zmI (base:=[zaR L]) W.toBodies W.zero hf h0 hw h3 with ⟨fr1,csx,w1,es,e,hm⟩|⟨fr1,w1,es,ch,e,hm,hd⟩|⟨o,w1,es,e⟩
 ·obtain⟨R',fr1',cs1,cs1',w1',es',rfl,hM,h4,h6⟩:=ziq (rest:=[]) (base:=[zaR L]) W.toBodies W.zero true hf h0 hw e hm h3
  rw[zct e] at hr
  refine⟨fr1,cs1,w1,es,e,hm,?_,h6,hr⟩
  rcases h4.after with ⟨h1,h2⟩|⟨_,_,_,hx,_⟩
  ·exact⟨N,R',fr1',cs1',w1',h1,h2,h4.went.rel⟩
  ·exact hx.elim
 ·rw[zct e] at hr
  obtain⟨f2,c2,w2,ch',e2,h5⟩:=zsY cs h0.defers fr1 ch w1 hm hd n _ hr
  obtain⟨rfl,_,_⟩:=zcj (congrArg Stepped.next e2)
  rw[hm'] at h5
  cases h5
 ·rw[zcl e] at hr
  cases hr
theorem zjC[zaF L L](W:Whole L):∀(n:Nat) {fr:Frame} {cs:List Frame} {w:World},zmh L fr cs w->∀ {fr':Frame} {w':World},runN L n (lone fr (cs++[zaR L]) w)=.next (lone fr' [zaR L] w')->fr'.mode=.returning ->
  ∀ {τ:Nat->Question->Nat} {d:Nat},(∀ i q,τ (d+i) q=w.tape (w.drawn+i) q)->∃ d',runN L n (lone fr (cs++[zaR L]) (w.tp τ d))=.next (lone fr' [zaR L] (w'.tp τ d'))
 | 0,fr,cs,w,_,fr',w',hr,_,τ,d,_=>by
  simp only[runN] at hr
  obtain⟨rfl,hc,rfl⟩:=zcj hr
  exact⟨d,by simp only[runN];rw[hc]⟩
 | n+1,fr,cs,w,hS,fr',w',hr,hm',τ,d,ht=>by
  by_cases hne:fr.mode=.returning->cs≠[]
  ·obtain⟨fr1,cs1,w1,es,e,hm,h0,⟨k,l1,l2,l3⟩,h3⟩:=zlN W hS hne hr hm'
   obtain⟨es2,e2⟩:=l3 τ d (fun i _ q=>ht i q)
   obtain⟨d',h'⟩:=zjC W n h0 h3 hm' (τ:=τ) (d:=d+k) (fun i q=>by rw[l1,l2,Nat.add_assoc,Nat.add_assoc];exact ht (k+i) q)
   refine⟨d',?_⟩
   rw[zct e2]
   exact h'
  ·have h1:fr.mode=.returning:=Classical.byContradiction fun q=>hne (fun h=>absurd h q)
   have h2:cs=[]:=Classical.byContradiction fun q=>hne (fun _=>q)
   subst h2
   obtain⟨N,R,frp,csp,wp,hf,_,_⟩:=hS
   obtain⟨fn,h4,_⟩:=hf.1.fnok
   exact(zly h1 hf.1.defers hf.1.kind h4 n hr).elim
def Good(L:Program)(FinP:Frame->Wq)(fr:Frame)(cs:List Frame)(w:World):Prop :=
 ∀ τ d,∃ n fr' w',runN L n (lone fr (cs++[zaR L]) (w.tp τ d))=.next (lone fr' [zaR L] w')/\fr'.mode=.returning/\FinP fr' w'
inductive zb5(L:Program)(FinP:Frame->Wq):Frame->List Frame->Wq
 | fin {fr:Frame} {w:World}:fr.mode=.returning->(∀ τ d,FinP fr (w.tp τ d))->zmh L fr [] w->zb5 L FinP fr [] w
 | step {fr:Frame} {cs:List Frame} {w:World}:(fr.mode=.returning->cs≠[])->zmh L fr cs w->(F:(Nat->Question->Nat)->Nat->Frame)->(C:(Nat->Question->Nat)->Nat->List Frame)->(V:(Nat->Question->Nat)->Nat->World) ->
   (∀ τ d,(∃ es,stepG L true (G fr (cs++[zaR L])) (w.tp τ d)=.go (G (F τ d) (C τ d++[zaR L])) (V τ d) es)/\((F τ d).mode=.run\/(F τ d).mode=.returning))->(∀ τ d,zb5 L FinP (F τ d) (C τ d) (V τ d))->zb5 L FinP fr cs w
theorem good_step[zaF L L](W:Whole L)(hF:∀ fr w τ d,FinP fr w->FinP fr (w.tp τ d))(hG:Good L FinP fr cs w)(hS:zmh L fr cs w)(h1:fr.mode=.returning->cs≠[])(τ:Nat->Question->Nat)(d:Nat) :
  ∃ fr1 cs1 w1 es,stepG L true (G fr (cs++[zaR L])) (w.tp τ d)=.go (G fr1 (cs1++[zaR L])) w1 es/\(fr1.mode=.run\/fr1.mode=.returning)/\Good L FinP fr1 cs1 w1/\zmh L fr1 cs1 w1/\zfA (w.tp τ d) w1 (stepG L true (G fr (cs++[zaR L]))) fr1 (cs1++[zaR L]):=by
 have notz:∀ {τ:Nat->Question->Nat} {d:Nat} {fr':Frame} {w':World},runN L 0 (lone fr (cs++[zaR L]) (w.tp τ d))=.next (lone fr' [zaR L] w')->fr'.mode=.returning->False:=by
  intro τ d fr' w' hr hm'
  simp only[runN] at hr
  obtain⟨rfl,hc,_⟩:=zcj hr
  have:cs=[]:=by
   cases cs with
   | nil=>rfl
   | cons c cs=>simp at hc
  exact h1 hm' this
 obtain⟨n,fr',w',hr,hm',_⟩:=hG τ d
 cases n with
 | zero=>exact(notz hr hm').elim
 | succ n =>
 obtain⟨fr1,cs1,w1,es,e,hm,h2,⟨k,l1,l2,l3⟩,h5⟩:=zlN W (hS.tp τ d) h1 hr hm'
 refine⟨fr1,cs1,w1,es,e,hm,?_,h2,k,l1,l2,l3⟩
 intro τ' d'
 let σ:Nat->Question->Nat:=fun i q=>if i<k then τ (d+i) q else τ' (d'+(i - k)) q
 obtain⟨es2,e2⟩:=l3 σ 0 (fun i hi q=>by show (if 0+i<k then _ else _)=_;rw[Nat.zero_add,if_pos hi];rfl)
 obtain⟨n2,f2,w2,hr2,h0,h4⟩:=hG σ 0
 cases n2 with
 | zero=>exact(notz hr2 h0).elim
 | succ n2 =>
  have e2':stepG L true (G fr (cs++[zaR L])) (w.tp σ 0)=.go (G fr1 (cs1++[zaR L])) (w1.tp σ (0+k)) es2:=e2
  rw[zct e2'] at hr2
  obtain⟨d3,h3⟩:=zjC W n2 (h2.tp σ (0+k)) hr2 h0 (τ:=τ') (d:=d') (fun i q=>by
   show τ' (d'+i) q=(if 0+k+i<k then τ (d+(0+k+i)) q else τ' (d'+(0+k+i - k)) q)
   rw[if_neg qg,show 0+k+i - k=i by omega])
  exact⟨n2,f2,_,h3,h0,hF _ _ _ _ h4⟩
structure Bad(L:Program)(FinP:Frame->Wq)(c:Frame × List Frame × World):Prop where
 good:Good L FinP c.1 c.2.1 c.2.2
 self:zmh L c.1 c.2.1 c.2.2
 not:¬ zb5 L FinP c.1 c.2.1 c.2.2
theorem Bad.going{c:Frame × List Frame × World}(h:Bad L FinP c):c.1.mode=.returning->c.2.1≠[]:=by
 obtain⟨fr,cs,w⟩:=c
 obtain⟨hG,hS,hT⟩:=h
 simp only at hG hS hT ⊢
 intro hm hc
 subst hc
 refine hT (.fin hm (fun τ d=>?_) hS)
 obtain⟨n,fr',w',hr,hm',hf⟩:=hG τ d
 cases n with
 | zero =>
  simp only[runN] at hr
  obtain⟨rfl,_,rfl⟩:=zcj hr
  exact hf
 | succ n =>
  obtain⟨N,R,frp,csp,wp,h0,_,_⟩:=hS
  obtain⟨fn,h1,_⟩:=h0.1.fnok
  exact(zly hm h0.1.defers h0.1.kind h1 n hr).elim
theorem Bad.next[zaF L L](W:Whole L)(hF:∀ fr w τ d,FinP fr w->FinP fr (w.tp τ d)){c:Frame × List Frame × World}(h:Bad L FinP c) :
  ∃ (τ:Nat->Question->Nat) (d k:Nat) (c1:Frame × List Frame × World),Bad L FinP c1/\∀ τ' d',(∀ i,i<k->∀ q,τ' (d'+i) q=τ (d+i) q)->∃ es,stepG L true (G c.1 (c.2.1++[zaR L])) (c.2.2.tp τ' d')=.go (G c1.1 (c1.2.1++[zaR L])) (c1.2.2.tp τ' (d'+k)) es:=by
 have h1:=h.going
 obtain⟨fr,cs,w⟩:=c
 obtain⟨hG,hS,hT⟩:=h
 simp only at hG hS hT h1 ⊢
 have h0:=fun τ d=>good_step W hF hG hS h1 τ d
 refine Classical.byContradiction fun h2=>hT ?_
 have hs:=fun τ d=>(h0 τ d).choose_spec.choose_spec.choose_spec.choose_spec
 refine .step h1 hS (fun τ d=>(h0 τ d).choose) (fun τ d=>(h0 τ d).choose_spec.choose) (fun τ d=>(h0 τ d).choose_spec.choose_spec.choose) (fun τ d=>⟨⟨_,(hs τ d).1⟩,(hs τ d).2.1⟩) (fun τ d=>?_)
 refine Classical.byContradiction fun h5=>h2 ?_
 obtain⟨_,_,h3,h4,k,l1,l2,l3⟩:=hs τ d
 exact⟨τ,d,k,(_,_,_),⟨h3,h4,h5⟩,fun τ' d' ha=>l3 τ' d' ha⟩
def atK(k:Nat->Nat):Nat->Nat
 | 0=>0
 | j+1=>atK k j+k j
theorem zr8(k:Nat->Nat):∀ {i j:Nat},i<=j->atK k i<=atK k j:=by
 intro i j h
 induction j with
 | zero=>have:i=0:=qg
         subst this;exact Nat.le_refl _
 | succ j ih =>
  rcases Nat.lt_or_ge i (j+1) with q|q
  ·exact Nat.le_trans (ih qg) (by simp only[atK];omega)
  ·have:i=j+1:=qg
   subst this;exact Nat.le_refl _
theorem zsy(k:Nat->Nat){j p:Nat}(h1:atK k i<=p)(h2:p<atK k (i+1))(h3:atK k j<=p)(h4:p<atK k (j+1)):i=j:=by
 rcases Nat.lt_trichotomy i j with q|q|q
 ·have:=zr8 k (i:=i+1) (j:=j) qg;omega
 ·exact q
 ·have:=zr8 k (i:=j+1) (j:=i) qg;omega
open Classical in
noncomputable def zj2(k:Nat->Nat)(τ:Nat->Nat->Question->Nat)(d:Nat->Nat):Nat->Question->Nat:=fun p q =>
 if h:∃ j,atK k j<=p/\p<atK k (j+1) then τ h.choose (d h.choose+(p - atK k h.choose)) q else 0
theorem zml(k:Nat->Nat)(τ:Nat->Nat->Question->Nat)(d:Nat->Nat)(j i:Nat)(hi:i<k j)(q:Question):zj2 k τ d (atK k j+i) q=τ j (d j+i) q:=by
 have h:∃ j',atK k j'<=atK k j+i/\atK k j+i<atK k (j'+1):=⟨j,qg,by simp only[atK];omega⟩
 have hj:h.choose=j:=zsy k h.choose_spec.1 h.choose_spec.2 qg (by simp only[atK];omega)
 unfold zj2
 rw[dif_pos h,hj]
 congr 1
 omega
theorem zdx[zaF L L](W:Whole L)(hF:∀ fr w τ d,FinP fr w->FinP fr (w.tp τ d))(hG:Good L FinP fr cs w)(hS:zmh L fr cs w):zb5 L FinP fr cs w:=by
 refine Classical.byContradiction fun hT=>?_
 have h0:Bad L FinP (fr,cs,w):=⟨hG,hS,hT⟩
 let nx:{ c // Bad L FinP c }->{ c // Bad L FinP c }:=fun c=>⟨_,(c.2.next W hF).choose_spec.choose_spec.choose_spec.choose_spec.1⟩
 let sq:Nat->{ c // Bad L FinP c }:=fun n=>Nat.rec ⟨(fr,cs,w),h0⟩ (fun _ c=>nx c) n
 let τs:Nat->Nat->Question->Nat:=fun j=>((sq j).2.next W hF).choose
 let ds:Nat->Nat:=fun j=>((sq j).2.next W hF).choose_spec.choose
 let ks:Nat->Nat:=fun j=>((sq j).2.next W hF).choose_spec.choose_spec.choose
 have h3:∀ j τ' d',(∀ i,i<ks j->∀ q,τ' (d'+i) q=τs j (ds j+i) q)->∃ es,stepG L true (G (sq j).1.1 ((sq j).1.2.1++[zaR L])) ((sq j).1.2.2.tp τ' d')=.go (G (sq (j+1)).1.1 ((sq (j+1)).1.2.1++[zaR L])) ((sq (j+1)).1.2.2.tp τ' (d'+ks j)) es :=
  fun j=>((sq j).2.next W hF).choose_spec.choose_spec.choose_spec.choose_spec.2
 let σ:=zj2 ks τs ds
 have h4:∀ j,∃ es,stepG L true (G (sq j).1.1 ((sq j).1.2.1++[zaR L])) ((sq j).1.2.2.tp σ (atK ks j))=.go (G (sq (j+1)).1.1 ((sq (j+1)).1.2.1++[zaR L])) ((sq (j+1)).1.2.2.tp σ (atK ks (j+1))) es :=
  fun j=>h3 j σ (atK ks j) (fun i hi q=>zml ks τs ds j i hi q)
 have h5:∀ j i,runN L j (lone (sq i).1.1 ((sq i).1.2.1++[zaR L]) ((sq i).1.2.2.tp σ (atK ks i)))=.next (lone (sq (i+j)).1.1 ((sq (i+j)).1.2.1++[zaR L]) ((sq (i+j)).1.2.2.tp σ (atK ks (i+j)))):=by
  intro j
  induction j with
  | zero=>intro i;rfl
  | succ j ih =>
   intro i
   obtain⟨es,e⟩:=h4 i
   rw[zct e,ih (i+1),show i+1+j=i+(j+1) by omega]
 obtain⟨n,fr',w',hr,hm',_⟩:=hG σ 0
 have hr2:=h5 n 0
 have e0:runN L n (lone fr (cs++[zaR L]) (w.tp σ 0))=.next (lone (sq (0+n)).1.1 ((sq (0+n)).1.2.1++[zaR L]) ((sq (0+n)).1.2.2.tp σ (atK ks (0+n)))):=hr2
 rw[hr] at e0
 obtain⟨h1,h2,_⟩:=zcj e0
 have hc:(sq (0+n)).1.2.1=[]:=by
  cases hq:(sq (0+n)).1.2.1 with
  | nil=>rfl
  | cons a b=>rw[hq] at h2;simp at h2
 exact(sq (0+n)).2.going (by rw[<- h1];exact hm') hc
end
section
open Go Go.Conc
variable{L M:Program}
inductive Rk:Type
 | z
 | s (f:World->Rk)
structure zaW(Live:Wq)(K S:Np)(w w₁:World):Prop where
 size:w.heap.size<=w₁.heap.size
 same:∀ c,K c\/S c->w₁.heap[c]?=w.heap[c]?
 tape:w₁.tape=w.tape
 os:w₁.os=w.os
 out:w₁.output=w.output
 live:Live w->Live w₁
theorem zaW.refl{Live:Wq}{K:Np}(w:World):zaW Live K S w w:=⟨Nat.le_refl _,fun _ _=>rfl,rfl,rfl,rfl,fun h=>h⟩
theorem zaW.trans{Live:Wq}{K:Np}{w₂:World}(h:zaW Live K S w w₁)(h':zaW Live K S w₁ w₂):zaW Live K S w w₂ :=
 ⟨Nat.le_trans h.size h'.size,fun c hc=>(h'.same c hc).trans (h.same c hc),h'.tape.trans h.tape,h'.os.trans h.os,h'.out.trans h.out,fun x=>h'.live (h.live x)⟩
theorem zaW.mono{Live:Wq}{K K' S':Np}(h:zaW Live K S w w₁)(hs:∀ c,K' c\/S' c->K c\/S c):zaW Live K' S' w w₁ :=
 ⟨h.size,fun c hc=>h.same c (hs c hc),h.tape,h.os,h.out,h.live⟩
def EvS(K S:Np)(e:Event):Prop :=
 (∃ a wr,e=⟨.cell a,wr,false⟩/\(S a.block\/(K a.block/\wr=false)))\/(∃ r wr,e=⟨.obj r,wr,false⟩/\(S r\/(K r/\wr=false)))\/e=⟨.mark .noRoom,false,true⟩
structure Does(Ex:Event->Prop)(K S S':Np)(w w':World)(es:Array Event):Prop where
 size:w.heap.size<=w'.heap.size
 sub:∀ c,S c->S' c
 new:∀ c,S' c->S c\/(w.heap.size<=c/\c<w'.heap.size)
 kept:∀ c,c<w.heap.size->¬ S c->w'.heap[c]?=w.heap[c]?
 tape:w'.tape=w.tape
 os:w'.os=w.os
 out:w'.output=w.output
 evs:∀ e∈es,EvS K S' e\/Ex e
theorem Does.none{Ex:Event->Prop}{K:Np}(w:World):Does Ex K S S w w #[]:=⟨Nat.le_refl _,fun _ h=>h,fun _ h=>Or.inl h,fun _ _ _=>rfl,rfl,rfl,rfl,qm⟩
section
variable(M:Program)(main:Bool)(Live:Wq)(Ex:Event->Prop)(Stop:Nat->Np->Goroutine->Wq)(Snd:Nat->Np->Value->Wq)(ch:Nat)(K:Np)
def Way:Rk->Nat->Np->Goroutine->Wq
 | .z,σ,S,g,w=>∀ w₁,zaW Live K S w w₁->Stop σ S g w₁
 | .s f,σ,S,g,w=>(∀ w₁,zaW Live K S w w₁->Stop σ S g w₁)\/(g.status=.running/\∀ w₁,zaW Live K S w w₁ ->
   (∃ g' w' es S',stepG M main g w₁=.go g' w' es/\Does Ex K S S' w₁ w' es/\Way (f w₁) σ S' g' w') \/
   (∃ g1 v z S',stepG M main g w₁=.comm g1 #[⟨.chan (some ch),some v,z⟩] true .send w₁ #[]/\(∀ c,S' c->S c)/\Snd σ (fun c=>S c/\¬ S' c) v w₁/\Way (f w₁) (σ+1) S' (g1.finishComm M #[⟨.chan (some ch),some v,z⟩] .send 0 undef false) w₁))
def za5(σ:Nat)(S:Np)(g:Goroutine)(w:World):Prop:=∃ r,Way M main Live Ex Stop Snd ch K r σ S g w
end
section
variable{main:Bool}{Live:Wq}{Ex:Event->Prop}{Stop:Nat->Np->Goroutine->Wq}{Snd:Nat->Np->Value->Wq}{ch:Nat}{K:Np}
theorem Way.rely{r:Rk}(h:Way M main Live Ex Stop Snd ch K r σ S g w)(hs:zaW Live K S w w₁):Way M main Live Ex Stop Snd ch K r σ S g w₁:=by
 cases r with
 | z=>exact fun w₂ h₂=>h w₂ (hs.trans h₂)
 | s f =>
  rcases h with h|⟨hr,h⟩
  ·exact Or.inl fun w₂ h₂=>h w₂ (hs.trans h₂)
  ·exact Or.inr ⟨hr,fun w₂ h₂=>h w₂ (hs.trans h₂)⟩
theorem za5.rely(h:za5 M main Live Ex Stop Snd ch K σ S g w)(hs:zaW Live K S w w₁):za5 M main Live Ex Stop Snd ch K σ S g w₁:=let ⟨r,h⟩:=h;⟨r,h.rely hs⟩
theorem za5.stop(h:∀ w₁,zaW Live K S w w₁->Stop σ S g w₁):za5 M main Live Ex Stop Snd ch K σ S g w:=⟨.z,h⟩
open Classical in
theorem za5.step(hr:g.status=.running)(h:∀ w₁,zaW Live K S w w₁ ->
   (∃ g' w' es S',stepG M main g w₁=.go g' w' es/\Does Ex K S S' w₁ w' es/\za5 M main Live Ex Stop Snd ch K σ S' g' w') \/
   (∃ g1 v z S',stepG M main g w₁=.comm g1 #[⟨.chan (some ch),some v,z⟩] true .send w₁ #[]/\(∀ c,S' c->S c)/\Snd σ (fun c=>S c/\¬ S' c) v w₁/\za5 M main Live Ex Stop Snd ch K (σ+1) S' (g1.finishComm M #[⟨.chan (some ch),some v,z⟩] .send 0 undef false) w₁)) :
  za5 M main Live Ex Stop Snd ch K σ S g w:=by
 have h2:∀ w₁,zaW Live K S w w₁->∃ r,(∃ g' w' es S',stepG M main g w₁=.go g' w' es/\Does Ex K S S' w₁ w' es/\Way M main Live Ex Stop Snd ch K r σ S' g' w') \/
   (∃ g1 v z S',stepG M main g w₁=.comm g1 #[⟨.chan (some ch),some v,z⟩] true .send w₁ #[]/\(∀ c,S' c->S c)/\Snd σ (fun c=>S c/\¬ S' c) v w₁/\Way M main Live Ex Stop Snd ch K r (σ+1) S' (g1.finishComm M #[⟨.chan (some ch),some v,z⟩] .send 0 undef false) w₁):=by
  intro w₁ hs
  rcases h w₁ hs with ⟨g',w',es,S',h1,h2,r,h3⟩|⟨g1,v,z,S',h1,h0,h2,r,h3⟩
  ·exact⟨r,Or.inl ⟨g',w',es,S',h1,h2,h3⟩⟩
  ·exact⟨r,Or.inr ⟨g1,v,z,S',h1,h0,h2,h3⟩⟩
 refine⟨.s (fun w₁=>if hs:zaW Live K S w w₁ then (h2 w₁ hs).choose else .z),Or.inr ⟨hr,fun w₁ hs=>?_⟩⟩
 have e:(fun w₁=>if hs:zaW Live K S w w₁ then (h2 w₁ hs).choose else Rk.z) w₁=(h2 w₁ hs).choose:=dif_pos hs
 rw[e]
 exact(h2 w₁ hs).choose_spec
theorem za5.go(hr:g.status=.running)(h:∀ w₁,zaW Live K S w w₁->∃ g' w' es S',stepG M main g w₁=.go g' w' es/\Does Ex K S S' w₁ w' es/\za5 M main Live Ex Stop Snd ch K σ S' g' w') :
  za5 M main Live Ex Stop Snd ch K σ S g w:=za5.step hr fun w₁ hs=>Or.inl (h w₁ hs)
theorem za5.bind(hb:∀ σ S g w,Stop σ S g w->za5 M main Live Ex Stop2 Snd ch K σ S g w):∀(r:Rk) {σ:Nat} {S:Np} {g:Goroutine} {w:World},Way M main Live Ex Stop Snd ch K r σ S g w->za5 M main Live Ex Stop2 Snd ch K σ S g w:=by
 intro r
 induction r with
 | z=>intro σ S g w h;exact hb _ _ _ _ (h w (zaW.refl w))
 | s f ih =>
  intro σ S g w h
  rcases h with h|⟨hr,h⟩
  ·exact hb _ _ _ _ (h w (zaW.refl w))
  ·refine za5.step hr fun w₁ hs=>?_
   rcases h w₁ hs with ⟨g',w',es,S',h1,h2,h3⟩|⟨g1,v,z,S',h1,h0,h2,h3⟩
   ·exact Or.inl ⟨g',w',es,S',h1,h2,ih w₁ h3⟩
   ·exact Or.inr ⟨g1,v,z,S',h1,h0,h2,ih w₁ h3⟩
theorem za5.sends(h4:∀ σ S v w,Snd σ S v w->Snd2 σ S v w):∀(r:Rk) {σ:Nat} {S:Np} {g:Goroutine} {w:World},Way M main Live Ex Stop Snd ch K r σ S g w->za5 M main Live Ex Stop Snd2 ch K σ S g w:=by
 intro r
 induction r with
 | z=>intro σ S g w h;exact za5.stop h
 | s f ih =>
  intro σ S g w h
  rcases h with h|⟨hr,h⟩
  ·exact za5.stop h
  ·refine za5.step hr fun w₁ hs=>?_
   rcases h w₁ hs with ⟨g',w',es,S',h1,h2,h3⟩|⟨g1,v,z,S',h1,h0,h2,h3⟩
   ·exact Or.inl ⟨g',w',es,S',h1,h2,ih w₁ h3⟩
   ·exact Or.inr ⟨g1,v,z,S',h1,h0,h4 _ _ _ _ h2,ih w₁ h3⟩
theorem za5.then(h:za5 M main Live Ex Stop Snd ch K σ S g w)(hb:∀ σ S g w,Stop σ S g w->za5 M main Live Ex Stop2 Snd ch K σ S g w):za5 M main Live Ex Stop2 Snd ch K σ S g w :=
 let ⟨r,h⟩:=h;za5.bind hb r h
end
def zdh(N:Nat)(R:BR):Np:=fun c=>∃ b,R b c/\b<N
def zbI(N:Nat)(R:BR):Np:=fun c=>∃ b,R b c/\N<=b
theorem zeL.keptSame{R R':BR}(h:zeL N R R' w w' w1 w1')(hN:N<=w.heap.size):zdh N R'=zdh N R:=by
 funext c
 refine propext ⟨fun ⟨b,hb,hn⟩=>?_,fun ⟨b,hb,hn⟩=>⟨b,h.le.1 _ _ hb,hn⟩⟩
 rcases h.new b c hb with x|x
 ·exact⟨b,x,hn⟩
 ·omega
theorem EvR.evS{R:BR}(h:EvR N R e):EvS (zdh N R) (zbI N R) e:=by
 rcases h with ⟨a,b,wr,rfl,h1,h2⟩|⟨r,b,wr,rfl,h1,h2⟩|rfl
 ·refine Or.inl ⟨a,wr,rfl,?_⟩
  by_cases q:N<=b
  ·exact Or.inl ⟨b,h1,q⟩
  ·refine Or.inr ⟨⟨b,h1,qg⟩,?_⟩
   cases wr with
   | false=>rfl
   | true=>exact absurd (h2 rfl) q
 ·refine Or.inr (Or.inl ⟨r,wr,rfl,?_⟩)
  by_cases q:N<=b
  ·exact Or.inl ⟨b,h1,q⟩
  ·refine Or.inr ⟨⟨b,h1,qg⟩,?_⟩
   cases wr with
   | false=>rfl
   | true=>exact absurd (h2 rfl) q
 ·exact Or.inr (Or.inr rfl)
theorem zeL.does{R R':BR}(h:zeL N R R' w w' w1 w1')(hw:zbh N R w w'){Ex:Event->Prop}(he:∀ e∈es,EvR N R' e):Does Ex (zdh N R) (zbI N R) (zbI N R') w' w1' es:=by
 refine⟨h.size,fun c ⟨b,x,y⟩=>⟨b,h.le.1 _ _ x,y⟩,fun c ⟨b,x,y⟩=>?_,fun c hc hn=>h.kept c hc fun b x=>?_,h.tp,h.os,h.out,fun e hx=>?_⟩
 ·rcases h.new b c x with z|z
  ·exact Or.inl ⟨b,z,y⟩
  ·exact Or.inr ⟨z.2,(h.rel.lt x).2⟩
 ·exact Nat.lt_of_not_le fun q=>hn ⟨b,x,q⟩
 ·rw[<- h.keptSame hw.low]
  exact Or.inl (he e hx).evS
theorem zbh.sees{R:BR}{Live:Wq}(h:zbh N R w w')(hs:zaW Live (zdh N R) (zbI N R) w' w₁):zbh N R (w.tp w₁.tape w₁.drawn) w₁:=by
 refine⟨h.one,fun b c hb=>?_,rfl,rfl,h.low⟩
 obtain⟨o,o',e1,e2,ho⟩:=h.blk b c hb
 refine⟨o,o',e1,?_,ho⟩
 rw[hs.same c (by by_cases q:N<=b;exact Or.inr ⟨b,hb,q⟩;exact Or.inl ⟨b,hb,qg⟩)]
 exact e2
def zul(L M:Program)(X:FuncId->Prop)(N:Nat)(K:Np)(FinP:Frame->Wq)(rest:List Frame)(S:Np)(g:Goroutine)(w:World):Prop :=
 (∃ R fr fr' wl,g=G fr' rest/\fr.mode=.returning/\zgQ L R fr fr'/\zbh N R wl w/\S=zbI N R/\K=zdh N R/\∀ τ d,FinP fr (wl.tp τ d)) \/
 (∃ R f a a' cs cs' wl,X f/\g=G (Frame.enter M f a' .normal) (cs'++rest)/\zay R a a'/\zco L R cs cs'/\zbh N R wl w/\S=zbI N R/\K=zdh N R/\zb5 L FinP (Frame.enter L f a .normal) cs wl)
theorem zb5.tp(h:zb5 L FinP fr cs w)(τ:Nat->Question->Nat)(d:Nat):zb5 L FinP fr cs (w.tp τ d):=by
 cases h with
 | fin h1 h2 h3=>exact .fin h1 (fun τ' d'=>h2 τ' d') (h3.tp τ d)
 | step h1 h2 F C V h3 h4=>exact .step h1 (h2.tp τ d) F C V (fun τ' d'=>h3 τ' d') h4
theorem zgI[T:zaF L M](B:Bodies L M X)(hz:zbt L){main:Bool}{Live:Wq}{Ex:Event->Prop}{Snd:Nat->Np->Value->Wq}{ch:Nat}{K:Np}{wl:World}(h:zb5 L FinP fr cs wl):∀ {R:BR} {fr':Frame} {cs':List Frame} {w:World},zgQ L R fr fr'->zco L R cs cs'->zbh N R (wl.tp w.tape w.drawn) w->K=zdh N R ->
   za5 M main Live Ex (fun σ' S g w=>σ'=σ/\zul L M X N K FinP rest S g w) Snd ch K σ (zbI N R) (G fr' (cs'++rest)) w:=by
 induction h with
 | @fin fr wl hm hF hS =>
  intro R fr' cs' w hf h5 hw hK
  cases h5
  subst hK
  refine za5.stop fun w₁ hs=>?_
  exact⟨rfl,Or.inl ⟨R,fr,fr',_,by rw[List.nil_append],hm,hf,hw.sees hs,rfl,rfl,fun τ d=>hF τ d⟩⟩
 | @step fr cs wl hne hS F C V h1 h2 ih =>
  intro R fr' cs' w hf h5 hw hK
  subst hK
  refine za5.go rfl fun w₁ hs=>?_
  have h3:=hw.sees hs
  rw[ztf] at h3
  obtain⟨⟨es,e⟩,hm⟩:=h1 w₁.tape w₁.drawn
  obtain⟨R',fr1',cs1,cs1',w1',es',h8,hM,h0,he⟩:=ziq (rest:=rest) B hz main hf h5 h3 e hm hne
  have hC:cs1=C w₁.tape w₁.drawn:=(List.append_cancel_right h8).symm
  subst hC
  have h4:zbh N R' ((V w₁.tape w₁.drawn).tp w1'.tape w1'.drawn) w1':=by
   rw[zis h0.went.rel.tape h0.went.rel.drawn]
   exact h0.went.rel
  refine⟨_,w1',es',zbI N R',hM,h0.went.does h3 h0.evs,?_⟩
  rcases h0.after with ⟨h9,h6⟩|⟨f,a,a',hX,_,e1,e2,ha,h6,_⟩
  ·exact ih _ _ h9 h6 h4 (h0.went.keptSame h3.low).symm
  ·refine za5.stop fun w₂ h7=>⟨rfl,Or.inr ⟨R',f,a,a',C w₁.tape w₁.drawn,cs1',((V w₁.tape w₁.drawn).tp w1'.tape w1'.drawn).tp w₂.tape w₂.drawn,hX,by rw[e2],ha,h6,?_,rfl,(h0.went.keptSame h3.low).symm,?_⟩⟩
   ·rw[<- h0.went.keptSame h3.low] at h7
    exact h4.sees h7
   ·rw[<- e1]
    exact((h2 w₁.tape w₁.drawn).tp _ _).tp _ _
end
section
open Go Go.Conc
abbrev zmk(L:Program)(X:FuncId->Prop):Prop:=∀ f,X f->∃ t,((L.funcs[f]?).bind (·.body)).getD (.refuse "unsupported: a function without a Go body is entered")=.refuse t
variable{L M:Program}
def zlT(t:Array Value):ResultVar->Value
 | .tmp i=>t.getD i undef
 | .cell _ _=>undef
def packed(vs:Array Value):Value:=if h:vs.size=1 then vs[0] else .tuple vs
def zc5(fn:Func)(t:Array Value):Value:=packed (fn.results.map (zlT t))
def zcJ(fn:Func):Bool:=fn.results.all fun|.tmp _=>true|_=>false
theorem zjh{t:Array Value}{f:ResultVar->Sem Value}(hf:∀ i,f (.tmp i)=pure (t.getD i undef)):∀ l:List ResultVar,(∀ x∈l,∃ i,x=.tmp i)->l.mapM f=pure (l.map (zlT t))
 | [],_=>by rw[List.mapM_nil];rfl
 | x::l,hl=>by
  obtain⟨i,e⟩:=hl x qm
  subst e
  rw[List.mapM_cons,zjh hf l (fun y hy=>hl y (by simp[hy])),hf]
  rfl
theorem zdm{fn:Func}(h:zcJ fn=true)(t:Array Value):results fn t=pure (zc5 fn t):=by
 unfold results
 rw[Array.mapM_eq_mapM_toList,zjh (t:=t) (fun i=>rfl) fn.results.toList (fun x hx=>?_)]
 ·have e:(List.map (zlT t) fn.results.toList).toArray=fn.results.map (zlT t):=by
   rw[<- Array.toList_map]
  simp only[map_pure,pure_bind,zc5,e]
  rfl
 ·unfold zcJ at h
  rw[<- Array.all_toList,List.all_eq_true] at h
  have:=h x hx
  cases x with
  | tmp i=>exact⟨i,rfl⟩
  | cell a ty=>simp at this
theorem zmU{R:BR}(h:zay R c c'):zaj R (packed c) (packed c'):=by
 unfold packed
 by_cases q:c.size=1
 ·rw[dif_pos q,dif_pos (by rw[<- h.1];exact q)]
  exact h.2 0 qg (by rw[<- h.1];omega)
 ·rw[dif_neg q,dif_neg (by rw[<- h.1];exact q)]
  exact h.tup
theorem zjx{R:BR}{fn:Func}(he:fn'.results=fn.results){t:Array Value}(h:zay R t t'):zaj R (zc5 fn t) (zc5 fn' t'):=by
 unfold zc5
 rw[he]
 refine zmU ⟨qm,fun i h1 h2=>?_⟩
 simp only[Array.getElem_map]
 cases fn.results[i]'(by simpa using h1) with
 | tmp j=>exact h.getD j
 | cell a ty=>exact zaj.undef
def ztj(L:Program)(f:FuncId)(Post:Value->Wq)(fr:Frame)(w:World):Prop:=fr.fn=f/\∃ fn,L.funcs[f]?=some fn/\∀ τ d,Post (zc5 fn fr.tmps) (w.tp τ d)
theorem zej{fn:Func}(hf:L.funcs[f]?=some fn)(h4:zcJ fn=true){a:Array Value}(hP:∀ v w τ d,Post v w->Post v (w.tp τ d))(hC:∀ τ d,Calls L f a (w.tp τ d) fun e w'=>∃ v,e=.returned v/\Post v w'):Good L (ztj L f Post) (Frame.enter L f a .normal) [] w:=by
 intro τ d
 obtain⟨e,w',fr,⟨v,rfl,hv⟩,hc,h0,hl⟩:=hC τ d [zaR L]
 obtain⟨n,hn⟩:=hc
 obtain⟨h1,h2,h3,fn',hf',hr⟩:=hl
 rw[h0] at hf'
 rw[hf] at hf'
 cases hf'
 rw[zdm h4] at hr
 have h5:v=zc5 fn fr.tmps:=by
  simp[pure] at hr
  exact hr.symm
 exact⟨n,fr,w',hn,h1,h0,fn,hf,fun τ d=>by rw[<- h5];exact hP _ _ _ _ hv⟩
theorem ztj.tp :∀ fr w τ d,ztj L f Post fr w->ztj L f Post fr (w.tp τ d):=fun _ _ _ _ ⟨h1,fn,h2,h3⟩=>⟨h1,fn,h2,fun τ' d'=>h3 τ' d'⟩
theorem zsh(hx:zdT=false):∀(n:Nat) (v:Value),SizeOf.sizeOf v<=n->∃ u,zaj (fun _ _=>False) u v:=by
 intro n
 induction n with
 | zero=>intro v h;cases v <;> simp at h
 | succ n ih =>
  intro v h
  have row:∀ c:Array Value,SizeOf.sizeOf c<=n->∃ d:Array Value,d.size=c.size/\∀ i (h1:i<d.size) (h2:i<c.size),zaj (fun _ _=>False) d[i] c[i]:=by
   intro c hc
   have hx:∀ i:Fin c.size,∃ u,zaj (fun _ _=>False) u c[i]:=fun i=>ih _ (by have:=Array.sizeOf_getElem c i.val i.isLt;simp only[Fin.getElem_fin];omega)
   obtain⟨f,hf⟩:=Classical.axiomOfChoice hx
   exact⟨Array.ofFn f,qm,fun i h1 h2=>by simp only[Array.getElem_ofFn];exact hf ⟨i,h2⟩⟩
  cases v with
  | bool b=>exact⟨_,.bool b⟩
  | int k n=>exact⟨_,.int k n⟩
  | string s=>exact⟨_,.string s⟩
  | agg c =>
   obtain⟨d,h1,h2⟩:=row c (by simp at h;omega)
   exact⟨.agg d,.agg h1 h2⟩
  | tuple c =>
   obtain⟨d,h1,h2⟩:=row c (by simp at h;omega)
   exact⟨.tuple d,.tuple h1 h2⟩
  | iface t v =>
   obtain⟨u,hu⟩:=ih v (by simp at h;omega)
   exact⟨.iface t u,.iface t hu⟩
  | nilIface=>exact⟨_,.nilIface⟩
  | pointer o =>
   cases o with
   | none=>exact⟨_,.nilPtr⟩
   | some a=>exact⟨.tuple #[],.junk hx rfl⟩
  | nilFunc=>exact⟨_,.nilFunc⟩
  | func fn f c =>
   cases fn with
   | method n=>exact⟨.func (.method n) #[.nilIface] #[],.junkM hx⟩
   | _=>exact⟨.tuple #[],.junk hx rfl⟩
  | _=>exact⟨.tuple #[],.junk hx rfl⟩
noncomputable def ztn(v:Value):Value:=match v with
 | .bool b=>.bool b
 | .int k n=>.int k n
 | .string s=>.string s
 | v=>if h:zdT=false then Classical.choose (zsh h _ v (Nat.le_refl _)) else v
theorem zlZ{R:BR}(hx:zdT=false)(hR:R.One)(v:Value):zaj R (ztn v) v:=by
 have h0:BR.le (fun _ _=>False) R:=⟨fun _ _ h=>h.elim,fun _=>hR⟩
 cases v with
 | bool b=>exact .bool b
 | int k n=>exact .int k n
 | string s=>exact .string s
 | _=>simp only[ztn,dif_pos hx];exact(Classical.choose_spec (zsh hx _ _ (Nat.le_refl _))).mono h0
noncomputable def _root_.Go.World.frz(w:World):World:={ w with heap:=w.heap.map fun|.cells c e _=>.cells (c.map ztn) e (0,c.size)|.map _ _=>.coro none|o=>o }
theorem zqM(w:World)(a:Addr):w.frz.cell? a=(w.cell? a).map ztn:=by
 unfold World.cell? World.frz
 simp only[Array.getElem?_map]
 cases w.heap[a.block]? with
 | none=>rfl
 | some o =>
  cases o with
  | cells c e f =>
   simp only[Option.map_some]
   split
   ·rfl
   ·simp
  | _=>rfl
theorem zfk(w:World):w.frz.heap.size=w.heap.size:=by simp[World.frz]
def zcN(K:Np):BR:=fun b c=>b=c/\K b
def Closed(K:Np)(w:World):Prop:=∀ b,K b->(∃ c e f,w.heap[b]?=some (.cells c e f)/\zdT=false)\/(zdT=false/\((∃ a l,w.heap[b]?=some (.number a l)/\zbY (zcN K) a a)\/∃ c n,w.heap[b]?=some (.map c n)))
theorem Closed.lt{K:Np}(h:Closed K w){b:Nat}(hb:K b):b<w.heap.size:=by
 rcases h b hb with ⟨_,_,_,hx,_⟩|⟨_,⟨_,_,hx,_⟩|⟨_,_,hx⟩⟩
 ·exact(gei hx).1
 ·exact(gei hx).1
 ·exact(gei hx).1
theorem zfl(K:Np):(zcN K).One:=⟨fun _ _ _ h h'=>h.1.symm.trans h'.1,fun _ _ _ h h'=>h.1.trans h'.1.symm⟩
theorem zox{K:Np}(h:Closed K w):zbh w.heap.size (zcN K) w.frz w:=by
 refine⟨zfl K,?_,rfl,rfl,by rw[zfk];exact Nat.le_refl _⟩
 rintro b c ⟨rfl,hb⟩
 rcases h b hb with ⟨x,e,f,hx,h0⟩|⟨ho,⟨a,l,hx,hr⟩|⟨c,n,hx⟩⟩
 ·exact⟨.cells (x.map ztn) e (0,x.size),.cells x e f,by simp[World.frz,hx],hx,.cells ⟨qm,fun i h1 h2=>by simp only[Array.getElem_map];exact zlZ h0 (zfl K) _⟩ (fun _ i hi=>⟨Nat.zero_le _,by simpa using hi⟩) (fun q=>absurd (gei hx).1 q)⟩
 ·exact⟨.number a l,.number a l,by simp[World.frz,hx],hx,.other (.number hr) (fun _ _ q=>by cases q)⟩
 ·exact⟨.coro none,.map c n,by simp[World.frz,hx],hx,.other .hid (fun _ _ q=>by cases q)⟩
theorem zi5{K:Np}(h:Closed K w):zdh w.heap.size (zcN K)=K:=by
 funext c
 refine propext ⟨fun ⟨b,⟨e,hb⟩,_⟩=>e ▸ hb,fun hc=>⟨c,⟨rfl,hc⟩,?_⟩⟩
 exact h.lt hc
theorem zlO{K:Np}(h:Closed K w):zbI w.heap.size (zcN K)=fun _=>False:=by
 funext c
 refine propext ⟨fun ⟨b,⟨_,hb⟩,hn⟩=>?_,fun q=>q.elim⟩
 have:=h.lt hb
 omega
section
variable{main:Bool}{Live:Wq}{Ex:Event->Prop}{Snd:Nat->Np->Value->Wq}{ch:Nat}
theorem za5.frame{Stop:Nat->Np->Goroutine->Wq}{K K' S₀:Np}(hK:∀ c,K' c->K c)(h4:∀ σ S v w,¬ Snd σ S v w)(h5:∀ w w':World,(∀ c,Lv c->w'.heap[c]?=w.heap[c]?)->Live w->Live w')(w0:World)(h3:∀ c,Lv c->c<w0.heap.size):∀(r:Rk) {σ:Nat} {S:Np} {g:Goroutine} {w:World},Way M main Live Ex Stop Snd ch K' r σ S g w ->
  zaW Live K S₀ w0 w->(∀ c,K c\/S₀ c->c<w0.heap.size)->(∀ c,S c->w0.heap.size<=c) ->
  za5 M main Live Ex (fun σ S₁ g w₁=>∃ S',S₁=(fun c=>S₀ c\/S' c)/\Stop σ S' g w₁/\zaW Live K S₀ w0 w₁/\∀ c,S' c->w0.heap.size<=c) Snd ch K σ (fun c=>S₀ c\/S c) g w:=by
 intro r
 induction r with
 | z =>
  intro σ S g w h hs h1 hS
  refine za5.stop fun w₁ h0=>⟨S,rfl,h w₁ (h0.mono fun c hc=>?_),hs.trans (h0.mono fun c hc=>?_),hS⟩
  ·rcases hc with hc|hc
   ·exact Or.inl (hK c hc)
   ·exact Or.inr (Or.inr hc)
  ·rcases hc with hc|hc
   ·exact Or.inl hc
   ·exact Or.inr (Or.inl hc)
 | s f ih =>
  intro σ S g w h hs h1 hS
  have up1:∀ {w₁},zaW Live K (fun c=>S₀ c\/S c) w w₁->zaW Live K' S w w₁:=fun h0=>h0.mono fun c hc=>by
   rcases hc with hc|hc
   ·exact Or.inl (hK c hc)
   ·exact Or.inr (Or.inr hc)
  have up2:∀ {w₁},zaW Live K (fun c=>S₀ c\/S c) w w₁->zaW Live K S₀ w w₁:=fun h0=>h0.mono fun c hc=>by
   rcases hc with hc|hc
   ·exact Or.inl hc
   ·exact Or.inr (Or.inl hc)
  rcases h with h|⟨hr,h⟩
  ·exact za5.stop fun w₁ h0=>⟨S,rfl,h w₁ (up1 h0),hs.trans (up2 h0),hS⟩
  ·refine za5.go hr fun w₁ h0=>?_
   rcases h w₁ (up1 h0) with ⟨g',w',es,S',e,hd,hw⟩|⟨g1,v,z,S',_,_,h6,_⟩
   ·have h2:=hs.trans (up2 h0)
    have h7:zaW Live K S₀ w₁ w':=by
     refine⟨hd.size,fun c hc=>hd.kept c ?_ ?_,hd.tape,hd.os,hd.out,?_⟩
     ·exact nll (h1 c hc) h2.size
     ·intro q
      have:=hS c q
      have:=h1 c hc
      omega
     ·refine h5 _ _ fun c hc=>hd.kept c ?_ ?_
      ·exact nll (h3 c hc) h2.size
      ·intro q
       have:=hS c q
       have:=h3 c hc
       omega
    refine⟨g',w',es,fun c=>S₀ c\/S' c,e,⟨hd.size,fun c hc=>hc.imp id (hd.sub c),fun c hc=>?_,fun c hc hn=>hd.kept c hc fun q=>hn (Or.inr q),hd.tape,hd.os,hd.out,fun x hx=>?_⟩,?_⟩
    ·rcases hc with hc|hc
     ·exact Or.inl (Or.inl hc)
     ·exact(hd.new c hc).imp Or.inr id
    ·rcases hd.evs x hx with (⟨a,wr,rfl,q⟩|⟨r,wr,rfl,q⟩|rfl)|q
     ·refine Or.inl (Or.inl ⟨a,wr,rfl,?_⟩)
      rcases q with q|q
      ·exact Or.inl (Or.inr q)
      ·exact Or.inr ⟨hK _ q.1,q.2⟩
     ·exact Or.inl (Or.inr (Or.inl ⟨r,wr,rfl,q.elim (fun q=>Or.inl (Or.inr q)) (fun q=>Or.inr ⟨hK _ q.1,q.2⟩)⟩))
     ·exact Or.inl (Or.inr (Or.inr rfl))
     ·exact Or.inr q
    ·refine ih w₁ hw (h2.trans h7) h1 fun c hc=>?_
     rcases hd.new c hc with q|q
     ·exact hS c q
     ·have:=h2.size
      omega
   ·exact(h4 _ _ _ _ h6).elim
theorem zqo[T:zaF L M][zaF L L](W:Whole L)(B:Bodies L M X){Stop:Nat->Np->Goroutine->Wq}{K S₀ Kc:Np}(hs:∀ w w':World,(∀ c,Lv c->w'.heap[c]?=w.heap[c]?)->Live w->Live w')(hX:zmk L X){fn:Func}(hf:L.funcs[f]?=some fn)(hb:fn.body.isSome=true)(hj:¬ X f)(h3:zcJ fn=true){a:Array Value}(hP:∀ v w τ d,Post v w->Post v (w.tp τ d))(hk:∀ c,Kc c->K c)(h7:Closed Kc w)(ha:zay (zcN Kc) a a)(hu:∀ c,K c\/S₀ c->c<w.heap.size)(hw:∀ c,Lv c->c<w.heap.size)(hC:∀ τ d,Calls L f a (w.frz.tp τ d) fun e w'=>∃ v,e=.returned v/\Post v w'){c:Frame}(hy:∀ v' w₁ S',zaW Live K S₀ w w₁->(∀ c,S' c->w.heap.size<=c)->(∃ R wl v,zaj R v v'/\zbh w.heap.size R wl w₁/\Post v wl/\S'=zbI w.heap.size R)->za5 M main Live Ex Stop Snd ch K σ (fun c=>S₀ c\/S' c) (G (c.finish v') cs) w₁) :
  za5 M main Live Ex Stop Snd ch K σ S₀ (G (Frame.enter M f a .normal) (c::cs)) w:=by
 have h4:zgQ L (zcN Kc) (Frame.enter L f a .normal) (Frame.enter M f a .normal):=zed B hf hb hj ha
 have h5:=zox h7
 have hG:=zej hf h3 hP hC
 have hT:=zdx W (ztj.tp (L:=L) (f:=f) (Post:=Post)) hG ⟨_,_,_,[],_,h4,.nil,h5⟩
 have h0:=zgI (M:=M) (main:=main) (Live:=Live) (Ex:=Ex) (Snd:=fun _ _ _ _=>False) (ch:=ch) (rest:=c::cs) (σ:=σ) (K:=Kc) B W.zero hT h4 .nil (w:=w) (by
  have e:w.frz.tp w.tape w.drawn=w.frz:=rfl
  rw[e]
  exact h5) (zi5 h7).symm
 rw[zlO h7] at h0
 obtain⟨r,h0⟩:=h0
 have h2:=za5.frame (K:=K) (S₀:=S₀) hk (fun _ _ _ _ q=>q) hs w hw r h0 (zaW.refl w) hu (fun c q=>q.elim)
 have e0:(fun c=>S₀ c\/(fun _=>False) c)=S₀:=by
  funext c
  simp
 rw[e0] at h2
 obtain⟨r2,h2⟩:=h2
 refine(za5.sends (Snd2:=Snd) (fun _ _ _ _ q=>q.elim) r2 h2).then ?_
 rintro σ₁ S₁ g w₁ ⟨S',rfl,⟨rfl,hz⟩,he,hp⟩
 rcases hz with ⟨R,fr,fr',wl,rfl,hm,hA,h8,rfl,hD,hF⟩|⟨R,f',a1,a2,cs1,cs2,wl,hE,rfl,_,_,_,_,_,hJ⟩
 ·obtain⟨ho,t,rfl,ht⟩:=hA
  obtain⟨rfl,fn1,h6,hg⟩:=hF wl.tape wl.drawn
  rw[hf] at h6
  cases h6
  have hM:=B.same fr.fn fn hf hb hj
  have hq:∀ w₂,stepG M main (G { fr with tmps:=t } (c::cs)) w₂=.go (G (c.finish (zc5 fn t)) cs) w₂ #[]:=by
   intro w₂
   rw[zbn _ _ _ _ _ (show ({ fr with tmps:=t }:Frame).mode=.returning from hm)]
   have hK:(pure (zc5 fn t):Sem Value).events M w₂ #[]=#[]:=rfl
   simp only[unwind,ho.defers,hm,hM,zdm h3,Sem.runT_eq,doReturn,ho.kind,hK]
   have hL:(pure (zc5 fn t):Sem Value).run M w₂=.ok (zc5 fn t) w₂:=rfl
   have hN:seen M fr.fn #[]=#[]:=by rw[seen_def];rfl
   rw[hL,hN]
   rfl
  refine za5.go rfl fun w₂ hl=>⟨_,w₂,#[],_,hq w₂,Does.none w₂,?_⟩
  have hQ:zaW Live K S₀ w w₂:=he.trans (hl.mono fun c hc=>hc.imp id Or.inl)
  have hU:zbh w.heap.size R (wl.tp w₂.tape w₂.drawn) w₂:=by
   refine⟨h8.one,fun b c h9=>?_,rfl,rfl,h8.low⟩
   obtain⟨o,o',e1,e2,hV⟩:=h8.blk b c h9
   refine⟨o,o',e1,?_,hV⟩
   rw[hl.same c ?_]
   ·exact e2
   ·by_cases q:w.heap.size<=b
    ·exact Or.inr (Or.inr ⟨b,h9,q⟩)
    ·refine Or.inl (hk c ?_)
     rw[hD]
     exact⟨b,h9,qg⟩
  exact hy (zc5 fn t) w₂ _ hQ hp ⟨R,wl.tp w₂.tape w₂.drawn,zc5 fn fr.tmps,zjx rfl ht,hU,hP _ _ _ _ (hg wl.tape wl.drawn),rfl⟩
 ·exfalso
  obtain⟨tx,hY⟩:=hX f' hE
  cases hJ with
  | fin h1 _ _=>cases h1
  | step _ _ F C V h1 _ =>
   obtain⟨⟨es,e⟩,_⟩:=h1 wl.tape wl.drawn
   rw[zeC _ _ _ _ _ rfl] at e
   have hZ:(Frame.enter L f' a1 .normal).todo=[.code (.refuse tx)]:=by unfold Frame.enter;dsimp only;rw[hY]
   simp only[stepG.exec,hZ] at e
   cases e
end
end
section
open Go Go.Conc
variable{M:Program}
def Rlt(x y:Rk):Prop:=∃ f w,y=.s f/\x=f w
theorem zpi:∀ r:Rk,Acc Rlt r:=by
 intro r
 induction r with
 | z=>exact⟨_,fun y ⟨f,w,e,_⟩=>by cases e⟩
 | s f ih=>exact⟨_,fun y ⟨f',w,e,e2⟩=>by cases e;rw[e2];exact ih w⟩
def Fam(N:Nat)(ρ' ρ:Nat->Rk):Prop:=∃ i,i<N/\Rlt (ρ' i) (ρ i)/\∀ k,k≠i->ρ' k=ρ k
theorem zsI:∀(N:Nat) (ρ:Nat->Rk),Acc (Fam N) ρ:=by
 intro N
 induction N with
 | zero=>exact fun ρ=>⟨_,fun y ⟨i,h,_⟩=>qg⟩
 | succ N ih =>
  have key:∀ r:Rk,Acc Rlt r->∀ ρ:Nat->Rk,Acc (Fam N) ρ->ρ N=r->Acc (Fam (N+1)) ρ:=by
   intro r hr
   induction hr with
   | intro r _ ihr =>
    intro ρ hρ
    induction hρ with
    | intro ρ _ ihρ =>
     intro e
     refine⟨_,fun ρ' ⟨i,hi,h0,hk⟩=>?_⟩
     by_cases q:i=N
     ·subst q
      exact ihr (ρ' i) (by rw[<- e];exact h0) ρ' (ih ρ') rfl
     ·exact ihρ ρ' ⟨i,qg,h0,hk⟩ (by rw[hk N qg];exact e)
  exact fun ρ=>key _ (zpi _) ρ (ih ρ) rfl
theorem zty(N:Nat):WellFounded (Fam N):=⟨zsI N⟩
theorem ztP:WellFounded Rlt:=⟨zpi⟩
abbrev Mea:=Nat × (Nat->Rk) × Rk
def zdU(N:Nat):Mea->Mea->Prop:=Prod.Lex (· < ·) (Prod.Lex (Fam N) Rlt)
theorem ztF(N:Nat):WellFounded (zdU N):=(Prod.lex ⟨_,Nat.lt_wfRel.wf⟩ (Prod.lex ⟨_,zty N⟩ ⟨_,ztP⟩)).wf
section
variable{main:Bool}{Live:Wq}{Ex:Event->Prop}{Snd:Nat->Np->Value->Wq}{ch:Nat}{K:Np}
theorem za5.ctl{Stop:Nat->Np->Goroutine->Wq}{g':Goroutine}(hr:g.status=.running)(h:∀ w,stepG M main g w=.go g' w #[])(hn:za5 M main Live Ex Stop Snd ch K σ S g' w):za5 M main Live Ex Stop Snd ch K σ S g w :=
 za5.go hr fun w₁ hs=>⟨g',w₁,#[],S,h w₁,Does.none w₁,hn.rely hs⟩
