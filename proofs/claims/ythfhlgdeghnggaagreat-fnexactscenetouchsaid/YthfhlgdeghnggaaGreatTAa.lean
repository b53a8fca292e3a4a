/- Part. -/
import Derived.Test.YthfhlgdeghnggaaGreatTZz
import Derived.Calls
import Derived.Laws.Sem
import Derived.Conc.Listed
namespace Go.Proofs.YthfhlgdeghnggaaGreat
variable{a a':Addr}{ps ps':Array (Nat × Value)}{es es1:Array Event}{ts:Array TypeId}{as as' c c' t':Array Value}{b:Bool}{d d':Deferred}{e:Event}{fr fr' fr1:Frame}{FinP:Frame->World->Prop}{fn':Func}{f:FuncId}{X:FuncId->Prop}{st:GoStatus}{g:Goroutine}{l l':List (Nat × Value)}{base cs cs' cs1 csx rest:List Frame}{N i n r r' σ:Nat}{Stop2:Nat->(Nat->Prop)->Goroutine->World->Prop}{Snd2:Nat->(Nat->Prop)->Value->World->Prop}{K' Lv S S₀:Nat->Prop}{o o':Obj}{ρ ρ':Operand->Value}{hi hi' lo lo' mx mx':Option Value}{P:Program}{m name:String}{s t:TypeId}{k k' u v v' x x' y y':Value}{Post:Value->World->Prop}{w w' w1 w1' w2 w₁:World}
section
open Go
def xAr(f:Nat):Option Nat:=([(54,1)]:List (Nat × Nat)).lookup f
def zpe(f n:Nat):Bool:=match xAr f with
 | none=>true
 | some k=>n == k
def zdy:Bool:=false
theorem zdS{f:Nat}(h:(xAr f).isNone=true)(n:Nat):zpe f n=true:=by
 unfold zpe
 cases hx:xAr f with
 | none=>rfl
 | some k=>rw[hx] at h;cases h
abbrev BR:=Nat->Nat->Prop
def BR.One(R:BR):Prop:=(∀ b c c',R b c->R b c'->c=c')/\(∀ b b' c,R b c->R b' c->b=b')
def BR.le(R R':BR):Prop:=(∀ b c,R b c->R' b c)/\(R.One->R'.One)
theorem BR.le_refl(R:BR):R.le R:=⟨fun _ _ h=>h,fun h=>h⟩
theorem BR.le_trans{R R' R'':BR}(h:R.le R')(h':R'.le R''):R.le R'':=⟨fun b c x=>h'.1 b c (h.1 b c x),fun x=>h'.2 (h.2 x)⟩
def BR.more(R:BR)(x y:Nat):BR:=fun b c=>R b c\/(b=x/\c=y)
def zbQ(R:BR)(a c:Addr):Prop:=R a.block c.block/\a.off=c.off/\a.spot=c.spot
theorem zbQ.mono{R R':BR}(hR:R.le R'){c:Addr}(h:zbQ R a c):zbQ R' a c:=⟨hR.1 _ _ h.1,h.2⟩
def znr:Fn->Bool
 | .func f=>(xAr f).isNone
 | .via _ path f _=>path.isEmpty && (xAr f).isNone
 | _=>false
def zfu:Value->Bool
 | .bool _|.int _ _|.string _|.agg _|.tuple _|.iface _ _|.nilIface|.pointer none|.nilFunc|.func (.method _) _ _=>false
 | _=>true
inductive zao(R:BR):Value->Value->Prop
 | bool (b:Bool):zao R (.bool b) (.bool b)
 | int (k:IntKind) (n:Int):zao R (.int k n) (.int k n)
 | string (s:ByteArray):zao R (.string s) (.string s)
 | ptr {a c:Addr}:zbQ R a c->zao R (.pointer (some a)) (.pointer (some c))
 | nilPtr:zao R (.pointer none) (.pointer none)
 | slice {a c:Addr} (n m:Nat):zbQ R a c->zao R (.slice (some a) n m) (.slice (some c) n m)
 | nilSlice (n m:Nat):zao R (.slice none n m) (.slice none n m)
 | empty (a c:Addr):zao R (.slice (some a) 0 0) (.slice (some c) 0 0)
 | map {r s:Nat}:R r s->zao R (.map (some r)) (.map (some s))
 | nilMap:zao R (.map none) (.map none)
 | nilChan:zao R (.chan none) (.chan none)
 | func (fn:Fn) {f f' c c':Array Value}:znr fn=true->f.size=f'.size->(∀ i (h:i<f.size) (h':i<f'.size),zao R f[i] f'[i])->c.size=c'.size->(∀ i (h:i<c.size) (h':i<c'.size),zao R c[i] c'[i])->zao R (.func fn f c) (.func fn f' c')
 | nilFunc:zao R .nilFunc .nilFunc
 | iface (t:TypeId) {v v':Value}:zao R v v'->zao R (.iface t v) (.iface t v')
 | nilIface:zao R .nilIface .nilIface
 | agg {c c':Array Value}:c.size=c'.size->(∀ i (h:i<c.size) (h':i<c'.size),zao R c[i] c'[i])->zao R (.agg c) (.agg c')
 | junkM {n n':String} {f c:Array Value}:zdy=false->zao R (.func (.method n) #[.nilIface] #[]) (.func (.method n') f c)
 | junk {v':Value}:zdy=false->zfu v'=true->zao R (.tuple #[]) v'
 | tuple {c c':Array Value}:c.size=c'.size->(∀ i (h:i<c.size) (h':i<c'.size),zao R c[i] c'[i])->zao R (.tuple c) (.tuple c')
theorem zao.mono{R R':BR}(hR:R.le R')(h:zao R v v'):zao R' v v':=by
 induction h with
 | bool b=>exact .bool b
 | int k n=>exact .int k n
 | string s=>exact .string s
 | ptr h=>exact .ptr (h.mono hR)
 | nilPtr=>exact .nilPtr
 | slice n m h=>exact .slice n m (h.mono hR)
 | nilSlice n m=>exact .nilSlice n m
 | empty a c=>exact .empty a c
 | map h=>exact .map (hR.1 _ _ h)
 | nilMap=>exact .nilMap
 | nilChan=>exact .nilChan
 | func fn h0 h1 _ h3 _ i1 i2=>exact .func fn h0 h1 i1 h3 i2
 | nilFunc=>exact .nilFunc
 | iface t _ i=>exact .iface t i
 | nilIface=>exact .nilIface
 | agg h1 _ i=>exact .agg h1 i
 | junkM h0=>exact .junkM h0
 | junk h0 h=>exact .junk h0 h
 | tuple h1 _ i=>exact .tuple h1 i
def zaz(R:BR)(c c':Array Value):Prop:=c.size=c'.size/\∀ i (h:i<c.size) (h':i<c'.size),zao R c[i] c'[i]
theorem zaz.mono{R R':BR}(hR:R.le R')(h:zaz R c c'):zaz R' c c':=⟨h.1,fun i a b=>(h.2 i a b).mono hR⟩
structure zo8(R:BR)(e e':MapEntry):Prop where
 key:zao R e.key e'.key
 val:zao R e.val e'.val
 born:e.born=e'.born
def zcO(R:BR)(c c':Array MapEntry):Prop:=c.size=c'.size/\∀ i (h:i<c.size) (h':i<c'.size),zo8 R c[i] c'[i]
theorem zo8.mono{R R':BR}(hR:R.le R'){e e':MapEntry}(h:zo8 R e e'):zo8 R' e e':=⟨h.key.mono hR,h.val.mono hR,h.born⟩
theorem zcO.mono{R R':BR}(hR:R.le R'){c c':Array MapEntry}(h:zcO R c c'):zcO R' c c':=⟨h.1,fun i a b=>(h.2 i a b).mono hR⟩
inductive zo9(R:BR):Obj->Obj->Prop
 | map {c c':Array MapEntry} {n:Nat}:zcO R c c'->zo9 R (.map c n) (.map c' n)
 | hid {c':Array MapEntry} {n:Nat}:zo9 R (.coro none) (.map c' n)
 | number {a a':Addr} {l:Bool}:zbQ R a a'->zo9 R (.number a l) (.number a' l)
theorem zo9.mono{R R':BR}(hR:R.le R')(h:zo9 R o o'):zo9 R' o o':=by
 cases h with
 | map h=>exact .map (h.mono hR)
 | hid=>exact .hid
 | number h=>exact .number (h.mono hR)
inductive zo1(R:BR)(ro:Prop):Obj->Obj->Prop
 | cells {c c':Array Value} {e:TypeId} {f f':Nat × Nat}:zaz R c c'->(ro->∀ i,i<c.size->f.1<=i/\i<f.2)->(¬ ro->f=f')->zo1 R ro (.cells c e f) (.cells c' e f')
 | other {o o':Obj}:zo9 R o o'->(∀ c n,o=.map c n->¬ ro)->zo1 R ro o o'
theorem zo1.mono{R R':BR}(hR:R.le R'){ro:Prop}(h:zo1 R ro o o'):zo1 R' ro o o':=by
 cases h with
 | cells h1 h2 h3=>exact .cells (h1.mono hR) h2 h3
 | other h1 h2=>exact .other (h1.mono hR) h2
inductive zqW:Halt->Prop
 | panic (v:Value):zqW (.panic v)
 | unsupported (u:Unsupported):zqW (.unsupported u)
 | stuck (s:String):zqW (.stuck s)
class zlr(h:Halt):Prop where
 soft:zqW h
instance (v:Value):zlr (.panic v):=⟨.panic v⟩
instance (u:Unsupported):zlr (.unsupported u):=⟨.unsupported u⟩
instance (s:String):zlr (.stuck s):=⟨.stuck s⟩
def zcz{α:Type}(P:Program)(s:Sem α):Prop:=∀ w,∃ h w',s.run P w=.halt h w'/\zqW h
class zaN{α:Type}(P:Program)(s:Sem α):Prop where
 soft:∀ w h w',s.run P w=.halt h w'->zqW h
class zaF where
 low:Nat
inductive zai[low:zaF]{α:Type}(L M:Program)(Q:BR->α->α->Prop):BR->Sem α->Sem α->Prop
 | pure {R:BR} {a a':α}:Q R a a'->zai L M Q R (.pure a) (.pure a')
 | load {R:BR} {a a':Addr} {k k':Value->Sem α}:zbQ R a a'->(∀ R':BR,R.le R'->∀ v v',zao R' v v'->zai L M Q R' (k v) (k' v'))->zai L M Q R (.load .plain a k) (.load .plain a' k')
 | store {R:BR} {a a':Addr} {v v':Value} {k k':Sem α}:zbQ R a a'->zao R v v'->zai L M Q R k k'->zai L M Q R (.store .plain a v k) (.store .plain a' v' k')
 | new {R:BR} {o o':Obj} {k k':Nat->Sem α}:zo1 R False o o'->(∀ R':BR,R.le R'->∀ r r',R' r r'->zai L M Q R' (k r) (k' r'))->zai L M Q R (.new o k) (.new o' k')
 | shape {R:BR} {r r':Nat} {k k':Option (TypeId × Nat)->Sem α}:R r r'->(∀ s,zai L M Q R (k s) (k' s))->zai L M Q R (.shape r k) (.shape r' k')
 | getObj {R:BR} {r r':Nat} {k k':Obj->Sem α}:R r r'->(∀ R':BR,R.le R'->∀ o o',zo9 R' o o'->(∀ c n,o=.map c n->low.low<=r)->zai L M Q R' (k o) (k' o'))->zai L M Q R (.getObj r k) (.getObj r' k')
 | setObj {R:BR} {r r':Nat} {c c':Array MapEntry} {n:Nat} {k k':Sem α}:low.low<=r->R r r'->zcO R c c'->zai L M Q R k k'->zai L M Q R (.setObj r (.map c n) k) (.setObj r' (.map c' n) k')
 | choose {R:BR} {q:Question} {k k':Nat->Sem α}:(∀ n,zai L M Q R (k n) (k' n))->zai L M Q R (.choose q k) (.choose q k')
 | program {R:BR} {k k':Program->Sem α}:zai L M Q R (k L) (k' M)->zai L M Q R (.program k) (.program k')
 | mark {R:BR} {k k':Sem α}:zai L M Q R k k'->zai L M Q R (.mark .noRoom k) (.mark .noRoom k')
 | never {R:BR} {s s':Sem α}:zcz L s->zai L M Q R s s'
theorem zai.halt[low:zaF]{α:Type}{L M:Program}{Q:BR->α->α->Prop}{R:BR}{h:Halt}[S:zlr h]{s:Sem α}:zai L M Q R (.halt h) s:=.never (fun w=>⟨h,w,rfl,S.soft⟩)
theorem zat{α β:Type}{s:Sem α}{f:α->Sem β}(h:zcz P s):zcz P (s.bind f):=by
 intro w
 obtain⟨hh,w',e,hs⟩:=h w
 have e2:=Sem.run_bind' P s f w
 rw[e] at e2
 exact⟨hh,w',e2,hs⟩
theorem zcz.not{α:Type}{s:Sem α}(h:zcz P s){x:α} :s.run P w≠.ok x w':=by
 obtain⟨hh,w2,e,_⟩:=h w
 rw[e]
 intro q
 cases q
theorem zai.imp[low:zaF]{α:Type}{L M:Program}{Q Q':BR->α->α->Prop}(hQ:∀ R a a',Q R a a'->Q' R a a'){R:BR}{s s':Sem α}(h:zai L M Q R s s'):zai L M Q' R s s':=by
 induction h with
 | pure h=>exact .pure (hQ _ _ _ h)
 | load h _ ih=>exact .load h ih
 | store h hv _ ih=>exact .store h hv ih
 | new h _ ih=>exact .new h ih
 | shape h _ ih=>exact .shape h ih
 | getObj h _ ih=>exact .getObj h ih
 | setObj hx h hc _ ih=>exact .setObj hx h hc ih
 | choose _ ih=>exact .choose ih
 | program _ ih=>exact .program ih
 | mark _ ih=>exact .mark ih
 | never h=>exact .never h
theorem zai.bind[low:zaF]{α β:Type}{L M:Program}{Q:BR->α->α->Prop}{Q':BR->β->β->Prop}{R:BR}{s s':Sem α}{f f':α->Sem β}(h:zai L M Q R s s')(hf:∀ R':BR,R.le R'->∀ a a',Q R' a a'->zai L M Q' R' (f a) (f' a')):zai L M Q' R (s.bind f) (s'.bind f'):=by
 induction h with
 | pure h=>exact hf _ (BR.le_refl _) _ _ h
 | load h _ ih=>exact .load h (fun R' hR v v' hv=>ih R' hR v v' hv (fun R'' hR''=>hf R'' (BR.le_trans hR hR'')))
 | store h hv _ ih=>exact .store h hv (ih hf)
 | new h _ ih=>exact .new h (fun R' hR r r' hr=>ih R' hR r r' hr (fun R'' hR''=>hf R'' (BR.le_trans hR hR'')))
 | shape h _ ih=>exact .shape h (fun s=>ih s hf)
 | getObj h _ ih=>exact .getObj h (fun R' hR o o' hc hn=>ih R' hR o o' hc hn (fun R'' hR''=>hf R'' (BR.le_trans hR hR'')))
 | setObj hx h hc _ ih=>exact .setObj hx h hc (ih hf)
 | choose _ ih=>exact .choose (fun n=>ih n hf)
 | program _ ih=>exact .program (ih hf)
 | mark _ ih=>exact .mark (ih hf)
 | never h=>exact .never (zat h)
structure zbb(N:Nat)(R:BR)(w w':World):Prop where
 one:R.One
 blk:∀ b c,R b c->∃ o o',w.heap[b]?=some o/\w'.heap[c]?=some o'/\zo1 R (b<N) o o'
 tape:w.tape=w'.tape
 drawn:w.drawn=w'.drawn
 low:N<=w.heap.size
theorem zbb.lt{R:BR}(h:zbb N R w w'){b c:Nat}(hb:R b c):b<w.heap.size/\c<w'.heap.size:=by
 obtain⟨o,o',e1,e2,_⟩:=h.blk b c hb
 exact⟨(gei e1).1,(gei e2).1⟩
structure zew(N:Nat)(R R':BR)(w w' w1 w1':World):Prop where
 le:R.le R'
 rel:zbb N R' w1 w1'
 new:∀ b c,R' b c->R b c\/(w.heap.size<=b/\w'.heap.size<=c)
 size:w'.heap.size<=w1'.heap.size
 sizeL:w.heap.size<=w1.heap.size
 kept:∀ c,c<w'.heap.size->(∀ b,R b c->b<N)->w1'.heap[c]?=w'.heap[c]?
 tp:w1'.tape=w'.tape
 os:w1'.os=w'.os
 out:w1'.output=w'.output
theorem zew.refl{R:BR}(h:zbb N R w w'):zew N R R w w' w w':=⟨BR.le_refl R,h,fun _ _ x=>Or.inl x,Nat.le_refl _,Nat.le_refl _,fun _ _ _=>rfl,rfl,rfl,rfl⟩
theorem zew.trans{R R' R'':BR}{w2':World}(h:zew N R R' w w' w1 w1')(h2:zew N R' R'' w1 w1' w2 w2'):zew N R R'' w w' w2 w2':=by
 refine⟨BR.le_trans h.le h2.le,h2.rel,fun b c x=>?_,Nat.le_trans h.size h2.size,Nat.le_trans h.sizeL h2.sizeL,fun c hc hn=>?_,h2.tp.trans h.tp,h2.os.trans h.os,h2.out.trans h.out⟩
 ·rcases h2.new b c x with y|y
  ·exact h.new b c y
  ·exact Or.inr ⟨Nat.le_trans h.sizeL y.1,Nat.le_trans h.size y.2⟩
 ·rw[h2.kept c (nll hc h.size) (fun b x=>?_)]
  ·exact h.kept c hc hn
  ·rcases h.new b c x with y|y
   ·exact hn b y
   ·omega
theorem zbb.cell{R:BR}(h:zbb N R w w'){c:Addr}(ha:zbQ R a c)(hv:w.cell? a=some v):∃ v',w'.cell? c=some v'/\zao R v v':=by
 obtain⟨h1,h2,h3⟩:=ha
 obtain⟨o,o',e1,e2,ho⟩:=h.blk _ _ h1
 cases ho with
 | @cells x y e f f' hr _ _ =>
  obtain⟨hs,hr⟩:=hr
  unfold World.cell? at hv ⊢
  rw[e1] at hv
  rw[e2]
  simp only at hv ⊢
  rw[<- h3,<- h2]
  by_cases hsp:a.spot.isSome=true
  ·rw[if_pos hsp] at hv;cases hv
  ·rw[if_neg hsp] at hv ⊢
   obtain⟨hi,rfl⟩:=gei hv
   have hi':a.off<y.size:=by rw[<- hs];exact hi
   exact⟨y[a.off],Array.getElem?_eq_getElem hi',hr _ hi hi'⟩
 | other hj _ =>
  unfold World.cell? at hv
  rw[e1] at hv
  cases hj <;> simp at hv
theorem zm6(h:w.cell? a=some v):∃ c e f,w.heap[a.block]?=some (.cells c e f)/\a.off<c.size/\a.spot.isSome=false:=by
 unfold World.cell? at h
 split at h
 ·rename_i c e f hc
  split at h
  ·cases h
  ·rename_i hs
   exact⟨c,e,f,hc,(gei h).1,by simpa using hs⟩
 ·cases h
theorem zbb.mine{R:BR}(h:zbb N R w w'){c:Addr}(ha:zbQ R a c)(hv:w.cell? a=some v)(hf:w.frozen? a=false):N<=a.block/\w'.frozen? c=false:=by
 obtain⟨h1,h2,h3⟩:=ha
 obtain⟨x,e,f,e1,hlt,_⟩:=zm6 hv
 obtain⟨o,o',e1',e2,ho⟩:=h.blk _ _ h1
 rw[e1] at e1'
 cases e1'
 cases ho with
 | other hj _=>cases hj
 | cells hr h4 h5 =>
  obtain⟨f1,f2⟩:=f
  have hN:N<=a.block:=by
   apply Nat.le_of_not_lt
   intro hlt'
   have hh:=h4 hlt' _ hlt
   simp only[World.frozen?,e1] at hf
   simp only[Bool.and_eq_false_iff,decide_eq_false_iff_not] at hf
   omega
  refine⟨hN,?_⟩
  have e5:=h5 (by omega)
  subst e5
  simp only[World.frozen?,e1] at hf
  simp only[World.frozen?,e2,<- h2]
  exact hf
theorem zbb.shp{R:BR}(h:zbb N R w w'){s:Nat}(hr:R r s):w.shape? r=w'.shape? s:=by
 obtain⟨o,o',e1,e2,ho⟩:=h.blk _ _ hr
 cases ho with
 | cells hr _ _=>simp only[World.shape?,e1,e2,hr.1]
 | other hj _=>cases hj <;> simp only[World.shape?,e1,e2]
theorem zaz.set{R:BR}{x y:Array Value}(h:zaz R x y)(i:Nat)(hv:zao R v v'):zaz R (x.setIfInBounds i v) (y.setIfInBounds i v'):=by
 refine⟨by simpa using h.1,fun j h1 h2=>?_⟩
 simp only[Array.size_setIfInBounds] at h1 h2
 rw[Array.getElem_setIfInBounds h1,Array.getElem_setIfInBounds h2]
 split
 ·exact hv
 ·exact h.2 j h1 h2
theorem zew.store{R:BR}(h:zbb N R w w'){c:Addr}(ha:zbQ R a c)(hN:N<=a.block)(hv:zao R v v'):zew N R R w w' (w.setCell a v) (w'.setCell c v'):=by
 have hrel:zbb N R (w.setCell a v) (w'.setCell c v'):=by
  obtain⟨h1,h2,h3⟩:=ha
  refine⟨h.one,fun b d hbd=>?_,h.tape,h.drawn,by simpa [World.setCell] using h.low⟩
  by_cases e:a.block=b
  ·subst e
   have ed:c.block=d:=h.one.1 _ _ _ h1 hbd
   subst ed
   obtain⟨o,o',e1,e2,ho⟩:=h.blk _ _ h1
   cases ho with
   | @cells x y e f f' hr h4 h5 =>
    refine⟨.cells (if a.spot.isSome then x else x.setIfInBounds a.off v) e f,.cells (if c.spot.isSome then y else y.setIfInBounds c.off v') e f',by simp[World.setCell,Array.getElem?_modify,e1],by simp[World.setCell,Array.getElem?_modify,e2],.cells ?_ ?_ h5⟩
    ·rw[<- h3,<- h2]
     split
     ·exact hr
     ·exact hr.set _ hv
    ·intro hro
     omega
   | @other o o' hj h4=>exact⟨o,o',by cases hj <;> simp[World.setCell,Array.getElem?_modify,e1],by cases hj <;> simp[World.setCell,Array.getElem?_modify,e2],.other hj h4⟩
  ·have ed:¬ c.block=d:=fun q=>e (h.one.2 _ _ _ h1 (by rw[q];exact hbd))
   have g1:(w.setCell a v).heap[b]?=w.heap[b]?:=by simp[World.setCell,Array.getElem?_modify,e]
   have g2:(w'.setCell c v').heap[d]?=w'.heap[d]?:=by simp[World.setCell,Array.getElem?_modify,ed]
   rw[g1,g2]
   exact h.blk _ _ hbd
 refine⟨BR.le_refl _,hrel,fun _ _ x=>Or.inl x,by simp[World.setCell],by simp[World.setCell],fun d _ hn=>?_,rfl,rfl,rfl⟩
 have:¬ c.block=d:=fun q=>by
  have:=hn a.block (by rw[<- q];exact ha.1)
  omega
 simp[World.setCell,Array.getElem?_modify,this]
theorem zew.push{R:BR}(h:zbb N R w w')(ho:zo1 R False o o') :
  zew N R (R.more w.heap.size w'.heap.size) w w' { w with heap:=w.heap.push o } { w' with heap:=w'.heap.push o' }:=by
 have hone:(R.more w.heap.size w'.heap.size).One:=by
  refine⟨fun b c c' x y=>?_,fun b b' c x y=>?_⟩
  ·rcases x with x|⟨rfl,rfl⟩
   ·rcases y with y|⟨rfl,rfl⟩
    ·exact h.one.1 _ _ _ x y
    ·exact absurd (h.lt x).1 (by omega)
   ·rcases y with y|⟨_,rfl⟩
    ·exact absurd (h.lt y).1 (by omega)
    ·rfl
  ·rcases x with x|⟨rfl,rfl⟩
   ·rcases y with y|⟨rfl,rfl⟩
    ·exact h.one.2 _ _ _ x y
    ·exact absurd (h.lt x).2 (by omega)
   ·rcases y with y|⟨rfl,_⟩
    ·exact absurd (h.lt y).2 (by omega)
    ·rfl
 have hle:R.le (R.more w.heap.size w'.heap.size):=⟨fun _ _ h=>Or.inl h,fun _=>hone⟩
 refine⟨hle,⟨hone,fun b c x=>?_,h.tape,h.drawn,by simp;have:=h.low;omega⟩,fun b c x=>?_,by simp,by simp,fun c hc _=>?_,rfl,rfl,rfl⟩
 ·rcases x with x|⟨rfl,rfl⟩
  ·have hl:=h.lt x
   have g1:(w.heap.push o)[b]?=w.heap[b]?:=by rw[Array.getElem?_push];rw[if_neg (by omega)]
   have g2:(w'.heap.push o')[c]?=w'.heap[c]?:=by rw[Array.getElem?_push];rw[if_neg (by omega)]
   simp only[g1,g2]
   obtain⟨p,p',e1,e2,hr⟩:=h.blk _ _ x
   exact⟨p,p',e1,e2,hr.mono hle⟩
  ·have hN:¬ w.heap.size<N:=by have:=h.low;omega
   refine⟨o,o',by simp,by simp,?_⟩
   cases ho.mono hle with
   | cells h1 h2 h3=>exact .cells h1 (fun q=>absurd q hN) (fun _=>h3 (fun q=>q))
   | other h1 h2=>exact .other h1 (fun _ _ _=>hN)
 ·rcases x with x|⟨rfl,rfl⟩
  ·exact Or.inl x
  ·exact Or.inr ⟨Nat.le_refl _,Nat.le_refl _⟩
 ·simp only[Array.getElem?_push];rw[if_neg (by omega)]
theorem zew.remap{R:BR}(h:zbb N R w w'){s:Nat}(hr:R r s){c c':Array MapEntry}(hN:N<=r)(hc:zcO R c c') :
  zew N R R w w' { w with heap:=w.heap.setIfInBounds r (.map c n) } { w' with heap:=w'.heap.setIfInBounds s (.map c' n) }:=by
 have hl:=h.lt hr
 refine⟨BR.le_refl _,⟨h.one,fun b d hbd=>?_,h.tape,h.drawn,by simpa using h.low⟩,fun _ _ x=>Or.inl x,by simp,by simp,fun d _ hn=>?_,rfl,rfl,rfl⟩
 ·by_cases e:r=b
  ·subst e
   have ed:s=d:=h.one.1 _ _ _ hr hbd
   subst ed
   exact⟨_,_,Array.getElem?_setIfInBounds_self_of_lt hl.1,Array.getElem?_setIfInBounds_self_of_lt hl.2,.other (.map hc) (fun _ _ _=>by omega)⟩
  ·have ed:¬ s=d:=fun q=>e (h.one.2 _ _ _ hr (by rw[q];exact hbd))
   simp only[Array.getElem?_setIfInBounds_ne e,Array.getElem?_setIfInBounds_ne ed]
   exact h.blk _ _ hbd
 ·have:s≠d:=fun q=>by
   have:=hn r (by rw[<- q];exact hr)
   omega
  simp only[Array.getElem?_setIfInBounds_ne this]
theorem zao.flat{R:BR}(h:zao R v v')(h1:∀ c,v≠.agg c)(h2:∀ c,v≠.tuple c):(∀ c,v'≠.agg c)/\(∀ c,v'≠.tuple c):=by
 cases h with
 | agg _ _=>exact absurd rfl (h1 _)
 | tuple _ _=>exact absurd rfl (h2 _)
 | junk _ _=>exact absurd rfl (h2 _)
 | _=>exact⟨fun c q=>(by cases q),fun c q=>(by cases q)⟩
theorem run_store{α:Type}(P:Program)(m:Mode)(a:Addr)(v:Value)(k:Sem α)(w:World)(h1:∀ c,v≠.agg c)(h2:∀ c,v≠.tuple c)(hc:w.cell? a=some u)(hf:w.frozen? a=false) :
  (Sem.store m a v k).run P w=k.run P (w.setCell a v):=by
 cases v with
 | agg c=>exact absurd rfl (h1 c)
 | tuple c=>exact absurd rfl (h2 c)
 | _=>simp only[Sem.run,hc,hf];rfl
theorem zmb{α:Type}(P:Program)(a:Addr)(v:Value)(k:Sem α)(w:World)(es:Array Event)(h1:∀ c,v≠.agg c)(h2:∀ c,v≠.tuple c)(hc:w.cell? a=some u)(hf:w.frozen? a=false) :
  (Sem.store .plain a v k).runT P w es=k.runT P (w.setCell a v) (es.push ⟨.cell a,true,false⟩):=by
 cases v with
 | agg c=>exact absurd rfl (h1 c)
 | tuple c=>exact absurd rfl (h2 c)
 | _=>simp only[Sem.runT,hc,hf];rfl
theorem zpx{R:BR}(hw:zbb N R w w'){c:Addr}(ha:zbQ R a c)(m:Bool):∃ hh,w.farLoad P a m=.error hh:=by
 obtain⟨o,o',e1,e2,ho⟩:=hw.blk _ _ ha.1
 cases ho with
 | cells _ _ _=>exact⟨_,by simp[World.farLoad,e1];rfl⟩
 | other hj _=>cases hj <;> exact⟨_,by simp[World.farLoad,e1];rfl⟩
theorem znm{R:BR}(hw:zbb N R w w'){c:Addr}(ha:zbQ R a c)(v:Value)(m:Bool):∃ hh,w.farStore P a v m=.error hh:=by
 obtain⟨o,o',e1,e2,ho⟩:=hw.blk _ _ ha.1
 cases ho with
 | cells _ _ _=>exact⟨_,by simp[World.farStore,e1];rfl⟩
 | other hj _=>cases hj <;> exact⟨_,by simp[World.farStore,e1];rfl⟩
theorem zhO{α:Type}{m:Mode}{k:Sem α}{x:α}{R:BR}{c:Addr}(hw:zbb N R w w')(ha:zbQ R a c)(h:(Sem.store m a v k).run P w=.ok x w1) :
  (∀ c,v≠.agg c)/\(∀ c,v≠.tuple c)/\(∃ u,w.cell? a=some u)/\w.frozen? a=false:=by
 have far:w.cell? a=none->False:=fun hn=>by
  obtain⟨hh,e⟩:=znm (P:=P) hw ha v (m == .atomic)
  cases v <;> simp[Sem.run,hn,e] at h
 have go:∃ u,w.cell? a=some u:=by
  cases hc:w.cell? a with
  | none=>exact(far hc).elim
  | some u=>exact⟨u,rfl⟩
 obtain⟨u,hu⟩:=go
 have hfz:w.frozen? a=false:=by
  cases hf:w.frozen? a with
  | false=>rfl
  | true=>cases v <;> simp[Sem.run,hu,hf] at h
 refine⟨fun c q=>?_,fun c q=>?_,⟨u,hu⟩,hfz⟩
 ·subst q;simp[Sem.run] at h
 ·subst q;simp[Sem.run] at h
theorem ziX{α:Type}{m:Mode}{k:Value->Sem α}{x:α}{R:BR}{c:Addr}(hw:zbb N R w w')(ha:zbQ R a c)(h:(Sem.load m a k).run P w=.ok x w1):∃ u,w.cell? a=some u:=by
 cases hc:w.cell? a with
 | some u=>exact⟨u,rfl⟩
 | none =>
  obtain⟨hh,e⟩:=zpx (P:=P) hw ha (m == .atomic)
  simp[Sem.run,hc,e] at h
def EvR(N:Nat)(R:BR)(e:Event):Prop :=
 (∃ a b wr,e=⟨.cell a,wr,false⟩/\R b a.block/\(wr=true->N<=b))\/(∃ r b wr,e=⟨.obj r,wr,false⟩/\R b r/\(wr=true->N<=b))\/e=⟨.mark .noRoom,false,true⟩
theorem EvR.mono{R R':BR}(h:R.le R')(he:EvR N R e):EvR N R' e:=by
 rcases he with ⟨a,b,wr,e,h1,h2⟩|⟨r,b,wr,e,h1,h2⟩|e
 ·exact Or.inl ⟨a,b,wr,e,h.1 _ _ h1,h2⟩
 ·exact Or.inr (Or.inl ⟨r,b,wr,e,h.1 _ _ h1,h2⟩)
 ·exact Or.inr (Or.inr e)
def _root_.Go.World.tp(w:World)(τ:Nat->Question->Nat)(d:Nat):World:={ w with tape:=τ,drawn:=d }
def zrk{α:Type}(L:Program)(s:Sem α)(w:World)(x:α)(w1:World):Prop :=
 ∃ k,w1.tape=w.tape/\w1.drawn=w.drawn+k/\∀ τ d,(∀ i,i<k->∀ q,τ (d+i) q=w.tape (w.drawn+i) q)->s.run L (w.tp τ d)=.ok x (w1.tp τ (d+k))
theorem zhR{α:Type}{Q:BR->α->α->Prop}{L M:Program}{R:BR}{s s':Sem α}(h:@zai ⟨N⟩ α L M Q R s s') :
  ∀ {w w' w1:World} {x:α},zbb N R w w'->s.run L w=.ok x w1 ->
   ∃ R' x' w1' es,(∀ es0,s'.runT M w' es0=(.ok x' w1',es0++es))/\zew N R R' w w' w1 w1'/\Q R' x x'/\(∀ e∈es,EvR N R' e)/\zrk L s w x w1:=by
 induction h with
 | pure h =>
  intro w w' w1 x hw hr
  simp only[Sem.run,Result.ok.injEq] at hr
  obtain⟨rfl,rfl⟩:=hr
  exact⟨_,_,_,#[],fun es0=>by simp[Sem.runT],zew.refl hw,h,by simp,0,rfl,rfl,fun τ d _=>rfl⟩
 | @load R a a' k k' ha _ ih =>
  intro w w' w1 x hw hr
  obtain⟨u,hu⟩:=ziX hw ha hr
  obtain⟨u',hu',hv⟩:=hw.cell ha hu
  simp only[Sem.run,hu] at hr
  obtain⟨R',x',w1',es,e,hg,hq,hes,k0,l1,l2,l3⟩:=ih _ (BR.le_refl _) u u' hv hw hr
  refine⟨R',x',w1',#[⟨.cell a',false,false⟩]++es,fun es0=>?_,hg,hq,?_,k0,l1,l2,fun τ d ht=>?_⟩
  ·simp only[Sem.runT,hu']
   rw[e]
   simp
   rfl
  ·intro x hx
   rcases Array.mem_append.1 hx with hx|hx
   ·have:x=⟨.cell a',false,false⟩:=by simpa using hx
    subst this
    exact Or.inl ⟨a',a.block,false,rfl,hg.le.1 _ _ ha.1,by simp⟩
   ·exact hes x hx
  ·have hu2:(w.tp τ d).cell? a=some u:=hu
   simp only[Sem.run,hu2]
   exact l3 τ d ht
 | @store R a a' v v' k k' ha hv _ ih =>
  intro w w' w1 x hw hr
  obtain⟨n1,n2,⟨u,hu⟩,hf⟩:=zhO hw ha hr
  rw[run_store L _ _ _ _ _ n1 n2 hu hf] at hr
  obtain⟨m1,m2⟩:=hv.flat n1 n2
  obtain⟨u',hu',_⟩:=hw.cell ha hu
  obtain⟨hN,hf'⟩:=hw.mine ha hu hf
  have hst:=zew.store hw ha hN hv
  obtain⟨R',x',w1',es,e,hg,hq,hes,k0,l1,l2,l3⟩:=ih hst.rel hr
  refine⟨R',x',w1',#[⟨.cell a',true,false⟩]++es,fun es0=>?_,hst.trans hg,hq,?_,k0,l1,l2,fun τ d ht=>?_⟩
  ·rw[zmb M _ _ _ _ _ m1 m2 hu' hf',e]
   simp
  ·intro x hx
   rcases Array.mem_append.1 hx with hx|hx
   ·have:x=⟨.cell a',true,false⟩:=by simpa using hx
    subst this
    exact Or.inl ⟨a',a.block,true,rfl,hg.le.1 _ _ ha.1,fun _=>hN⟩
   ·exact hes x hx
  ·rw[run_store L _ _ _ _ _ n1 n2 (show (w.tp τ d).cell? a=some u from hu) (show (w.tp τ d).frozen? a=false from hf)]
   exact l3 τ d ht
 | new ho _ ih =>
  intro w w' w1 x hw hr
  simp only[Sem.run] at hr
  have hp:=zew.push hw ho
  obtain⟨R',x',w1',es,e,hg,hq,hes,k0,l1,l2,l3⟩:=ih _ hp.le _ _ (Or.inr ⟨rfl,rfl⟩) hp.rel hr
  exact⟨R',x',w1',es,fun es0=>by simp only[Sem.runT];exact e es0,hp.trans hg,hq,hes,k0,l1,l2,fun τ d ht=>by simp only[Sem.run];exact l3 τ d ht⟩
 | shape hrs _ ih =>
  intro w w' w1 x hw hr
  simp only[Sem.run,hw.shp hrs] at hr
  obtain⟨R',x',w1',es,e,hg,hq,hes,k0,l1,l2,l3⟩:=ih _ hw hr
  exact⟨R',x',w1',es,fun es0=>by simp only[Sem.runT];exact e es0,hg,hq,hes,k0,l1,l2,fun τ d ht=>by
   have hs2:(w.tp τ d).shape? _=_:=hw.shp hrs
   simp only[Sem.run,hs2]
   exact l3 τ d ht⟩
 | @getObj R r r' k k' hrs _ ih =>
  intro w w' w1 x hw hr
  obtain⟨o,o',e1,e2,ho⟩:=hw.blk _ _ hrs
  simp only[Sem.run,e1] at hr
  cases ho with
  | cells _ _ _=>simp at hr
  | @other o o' hj hN =>
   have hr2:(k o).run L w=.ok x w1:=by cases hj <;> exact hr
   obtain⟨R',x',w1',es,e,hg,hq,hes,k0,l1,l2,l3⟩:=ih _ (BR.le_refl _) _ _ hj (fun c n q=>Nat.le_of_not_lt (hN c n q)) hw hr2
   have hT:∀ es0,(Sem.getObj r' k').runT M w' es0=(k' o').runT M w' (es0.push ⟨.obj r',false,false⟩):=by
    intro es0
    cases hj <;> (simp only[Sem.runT,e2];rfl)
   refine⟨R',x',w1',#[⟨.obj r',false,false⟩]++es,fun es0=>?_,hg,hq,?_,k0,l1,l2,fun τ d ht=>?_⟩
   ·rw[hT,e]
    simp
   ·intro x hx
    rcases Array.mem_append.1 hx with hx|hx
    ·have:x=⟨.obj r',false,false⟩:=by simpa using hx
     subst this
     exact Or.inr (Or.inl ⟨r',r,false,rfl,hg.le.1 _ _ hrs,fun q=>by cases q⟩)
    ·exact hes x hx
   ·have e1':(w.tp τ d).heap[r]?=some o:=e1
    have:=l3 τ d ht
    cases hj <;> (simp only[Sem.run,e1'];exact this)
 | @setObj R r r' c c' n k k' hx hrs hc _ ih =>
  intro w w' w1 x hw hr
  obtain⟨o,o',e1,e2,ho⟩:=hw.blk _ _ hrs
  simp only[Sem.run,e1] at hr
  cases ho with
  | cells _ _ _=>simp at hr
  | @other o o' hj hN =>
   have hr2:k.run L { w with heap:=w.heap.setIfInBounds r (.map c n) }=.ok x w1:=by cases hj <;> exact hr
   have hst:=zew.remap (n:=n) hw hrs hx hc
   obtain⟨R',x',w1',es,e,hg,hq,hes,k0,l1,l2,l3⟩:=ih hst.rel hr2
   have hT:∀ es0,(Sem.setObj r' (.map c' n) k').runT M w' es0=k'.runT M { w' with heap:=w'.heap.setIfInBounds r' (.map c' n) } (es0.push ⟨.obj r',true,false⟩):=by
    intro es0
    cases hj <;> (simp only[Sem.runT,e2];rfl)
   refine⟨R',x',w1',#[⟨.obj r',true,false⟩]++es,fun es0=>?_,hst.trans hg,hq,?_,k0,l1,l2,fun τ d ht=>?_⟩
   ·rw[hT,e]
    simp
   ·intro x hx'
    rcases Array.mem_append.1 hx' with hx'|hx'
    ·have:x=⟨.obj r',true,false⟩:=by simpa using hx'
     subst this
     exact Or.inr (Or.inl ⟨r',r,true,rfl,hg.le.1 _ _ hrs,fun _=>hx⟩)
    ·exact hes x hx'
   ·have e1':(w.tp τ d).heap[r]?=some o:=e1
    have:=l3 τ d ht
    cases hj <;> (simp only[Sem.run,e1'];exact this)
 | @choose R q k k' _ ih =>
  intro w w' w1 x hw hr
  simp only[Sem.run] at hr
  by_cases hq:q.forced=true
  ·rw[if_pos hq] at hr
   obtain⟨R',x',w1',es,e,hg,hq2,hes,k0,l1,l2,l3⟩:=ih _ hw hr
   exact⟨R',x',w1',es,fun es0=>by simp only[Sem.runT];rw[if_pos hq];exact e es0,hg,hq2,hes,k0,l1,l2,fun τ d ht=>by simp only[Sem.run];rw[if_pos hq];exact l3 τ d ht⟩
  ·rw[if_neg hq] at hr
   have ht:w.tape w.drawn q=w'.tape w'.drawn q:=by rw[hw.tape,hw.drawn]
   rw[ht] at hr
   have hw2:zbb N R { w with drawn:=w.drawn+1 } { w' with drawn:=w'.drawn+1 }:=⟨hw.one,hw.blk,hw.tape,by simp[hw.drawn],hw.low⟩
   obtain⟨R',x',w1',es,e,hg,hq2,hes,k0,l1,l2,l3⟩:=ih _ hw2 hr
   exact⟨R',x',w1',es,fun es0=>by simp only[Sem.runT];rw[if_neg hq];exact e es0,⟨hg.le,hg.rel,hg.new,hg.size,hg.sizeL,hg.kept,hg.tp,hg.os,hg.out⟩,hq2,hes,k0+1,l1,by simp at l2;omega,fun τ d ht=>by
    simp only[Sem.run]
    rw[if_neg hq]
    have h0:(w.tp τ d).tape (w.tp τ d).drawn q=w'.tape w'.drawn q:=by rw[<- hw.tape,<- hw.drawn];exact ht 0 (by omega) q
    rw[h0]
    have:=l3 τ (d+1) (fun i hi q=>by have:=ht (i+1) (by omega) q;simpa [Nat.add_assoc,Nat.add_comm 1 i] using this)
    simpa [World.tp,Nat.add_assoc,Nat.add_comm 1 k0] using this⟩
 | program _ ih =>
  intro w w' w1 x hw hr
  simp only[Sem.run] at hr
  obtain⟨R',x',w1',es,e,hg,hq,hes,k0,l1,l2,l3⟩:=ih hw hr
  exact⟨R',x',w1',es,fun es0=>by simp only[Sem.runT];exact e es0,hg,hq,hes,k0,l1,l2,fun τ d ht=>by simp only[Sem.run];exact l3 τ d ht⟩
 | mark _ ih =>
  intro w w' w1 x hw hr
  simp only[Sem.run] at hr
  obtain⟨R',x',w1',es,e,hg,hq,hes,k0,l1,l2,l3⟩:=ih hw hr
  refine⟨R',x',w1',#[⟨.mark .noRoom,false,true⟩]++es,fun es0=>?_,hg,hq,?_,k0,l1,l2,fun τ d ht=>?_⟩
  ·simp only[Sem.runT]
   rw[e]
   simp
  ·intro x hx
   rcases Array.mem_append.1 hx with hx|hx
   ·have:x=⟨.mark .noRoom,false,true⟩:=by simpa using hx
    subst this
    exact Or.inr (Or.inr rfl)
   ·exact hes x hx
  ·simp only[Sem.run]
   exact l3 τ d ht
 | never h =>
  intro w w' w1 x hw hr
  exact absurd hr h.not
theorem zld{α:Type}{Q:BR->α->α->Prop}{L M:Program}{R:BR}{s s':Sem α}(h:@zai ⟨N⟩ α L M Q R s s') :
  ∀ {w w' w1:World} {hh:Halt},zbb N R w w'->s.run L w=.halt hh w1->zqW hh:=by
 have noc:∀(w:World) (a:Addr) (t:String),zqW (w.noCell a t):=by
  intro w a t
  unfold World.noCell
  split
  ·exact .unsupported _
  ·exact .unsupported _
  ·exact .stuck _
 induction h with
 | pure h=>intro w w' w1 hh hw hr;simp[Sem.run] at hr
 | @load R a a' k k' ha _ ih =>
  intro w w' w1 hh hw hr
  cases hc:w.cell? a with
  | some u =>
   obtain⟨u',hu',hv⟩:=hw.cell ha hc
   simp only[Sem.run,hc] at hr
   exact ih _ (BR.le_refl _) u u' hv hw hr
  | none =>
   obtain⟨o,o',e1,e2,ho⟩:=hw.blk _ _ ha.1
   have e:w.farLoad L a (Mode.plain == .atomic)=.error (w.noCell a "load: no such cell"):=by
    cases ho with
    | cells _ _ _=>simp[World.farLoad,e1]
    | other hj _=>cases hj <;> simp[World.farLoad,e1]
   simp only[Sem.run,hc,e,Result.halt.injEq] at hr
   rw[<- hr.1]
   exact noc _ _ _
 | @store R a a' v v' k k' ha hv _ ih =>
  intro w w' w1 hh hw hr
  by_cases n1:∃ c,v=.agg c
  ·obtain⟨c,rfl⟩:=n1
   simp only[Sem.run,Result.halt.injEq] at hr
   rw[<- hr.1]
   exact .stuck _
  by_cases n2:∃ c,v=.tuple c
  ·obtain⟨c,rfl⟩:=n2
   simp only[Sem.run,Result.halt.injEq] at hr
   rw[<- hr.1]
   exact .stuck _
  have m1:∀ c,v≠.agg c:=fun c q=>n1 ⟨c,q⟩
  have m2:∀ c,v≠.tuple c:=fun c q=>n2 ⟨c,q⟩
  cases hc:w.cell? a with
  | some u =>
   cases hf:w.frozen? a with
   | false =>
    rw[run_store L _ _ _ _ _ m1 m2 hc hf] at hr
    exact ih (zew.store hw ha (hw.mine ha hc hf).1 hv).rel hr
   | true =>
    cases v with
    | agg c=>exact absurd rfl (m1 c)
    | tuple c=>exact absurd rfl (m2 c)
    | _ =>
     simp only[Sem.run,hc,hf,if_true,Result.halt.injEq] at hr
     rw[<- hr.1]
     exact .unsupported _
  | none =>
   obtain⟨o,o',e1,e2,ho⟩:=hw.blk _ _ ha.1
   have e:w.farStore L a v (Mode.plain == .atomic)=.error (w.noCell a "store: no such cell"):=by
    cases ho with
    | cells _ _ _=>simp[World.farStore,e1]
    | other hj _=>cases hj <;> simp[World.farStore,e1]
   cases v with
   | agg c=>exact absurd rfl (m1 c)
   | tuple c=>exact absurd rfl (m2 c)
   | _ =>
    simp only[Sem.run,hc,e,Result.halt.injEq] at hr
    rw[<- hr.1]
    exact noc _ _ _
 | new ho _ ih =>
  intro w w' w1 hh hw hr
  simp only[Sem.run] at hr
  have hp:=zew.push hw ho
  exact ih _ hp.le _ _ (Or.inr ⟨rfl,rfl⟩) hp.rel hr
 | shape hrs _ ih =>
  intro w w' w1 hh hw hr
  simp only[Sem.run,hw.shp hrs] at hr
  exact ih _ hw hr
 | @getObj R r r' k k' hrs _ ih =>
  intro w w' w1 hh hw hr
  obtain⟨o,o',e1,e2,ho⟩:=hw.blk _ _ hrs
  simp only[Sem.run,e1] at hr
  cases ho with
  | cells _ _ _ =>
   simp only[Result.halt.injEq] at hr
   rw[<- hr.1]
   exact .stuck _
  | @other o o' hj hN =>
   have hr2:(k o).run L w=.halt hh w1:=by cases hj <;> exact hr
   exact ih _ (BR.le_refl _) _ _ hj (fun c n q=>Nat.le_of_not_lt (hN c n q)) hw hr2
 | @setObj R r r' c c' n k k' hx hrs hc _ ih =>
  intro w w' w1 hh hw hr
  obtain⟨o,o',e1,e2,ho⟩:=hw.blk _ _ hrs
  simp only[Sem.run,e1] at hr
  cases ho with
  | cells _ _ _ =>
   simp only[Result.halt.injEq] at hr
   rw[<- hr.1]
   exact .stuck _
  | @other o o' hj hN =>
   have hr2:k.run L { w with heap:=w.heap.setIfInBounds r (.map c n) }=.halt hh w1:=by cases hj <;> exact hr
   exact ih (zew.remap (n:=n) hw hrs hx hc).rel hr2
 | @choose R q k k' _ ih =>
  intro w w' w1 hh hw hr
  simp only[Sem.run] at hr
  split at hr
  ·exact ih _ hw hr
  ·have hw2:zbb N R { w with drawn:=w.drawn+1 } { w' with drawn:=w'.drawn+1 }:=⟨hw.one,hw.blk,hw.tape,by simp[hw.drawn],hw.low⟩
   exact ih _ hw2 hr
 | program _ ih=>intro w w' w1 hh hw hr;simp only[Sem.run] at hr;exact ih hw hr
 | mark _ ih=>intro w w' w1 hh hw hr;simp only[Sem.run] at hr;exact ih hw hr
 | never h =>
  intro w w' w1 hh hw hr
  obtain⟨h2,w2,e,hs⟩:=h w
  rw[e] at hr
  cases hr
  exact hs
class Twin(L M:Program):Prop where
 info:∀ t,M.info? t=L.info? t
 und:∀ t,M.underlying t=L.underlying t
variable{L M:Program}
abbrev QEq{α:Type}:BR->α->α->Prop:=fun _ a b=>a=b
abbrev QV:BR->Value->Value->Prop:=fun R v v'=>zao R v v'
abbrev QA:BR->Addr->Addr->Prop:=fun R a a'=>zbQ R a a'
abbrev QR:BR->Array Value->Array Value->Prop:=fun R c c'=>zaz R c c'
theorem zae[low:zaF]{α:Type}{Q:BR->α->α->Prop}{R:BR}{a a':α}(h:Q R a a'):zai L M Q R (pure a) (pure a'):=.pure h
theorem zac[low:zaF]{α β:Type}{Q:BR->α->α->Prop}{Q':BR->β->β->Prop}{R:BR}{s s':Sem α}{f f':α->Sem β}(h:zai L M Q R s s')(hf:∀ R':BR,R.le R'->∀ a a',Q R' a a'->zai L M Q' R' (f a) (f' a')):zai L M Q' R (s >>= f) (s' >>= f'):=zai.bind h hf
theorem zaC[low:zaF]{α:Type}{Q:BR->α->α->Prop}{R:BR}{w:String}{s:Sem α}:zai L M Q R (stuck w) s:=.halt
abbrev QP(L M:Program):BR->Program->Program->Prop:=fun _ p p'=>p=L/\p'=M
theorem zaV[low:zaF]{R:BR}:zai L M (QP L M) R program program:=.program (.pure ⟨rfl,rfl⟩)
theorem zoH[low:zaF]{R:BR}(h:zbQ R a a'):zai L M QV R (load a) (load a'):=.load h fun _ _ _ _ hv=>.pure hv
theorem zqz[low:zaF]{R:BR}(h:zbQ R a a')(hv:zao R v v'):zai L M QEq R (store a v) (store a' v'):=.store h hv (.pure rfl)
theorem zbk[low:zaF][Twin L M]{R:BR}(t:TypeId):zai L M QEq R (typeInfo t) (typeInfo t):=by
 unfold typeInfo
 refine zac zaV ?_
 rintro R' _ p p' ⟨rfl,rfl⟩
 rw[Twin.info (L:=p) (M:=p') t]
 split
 ·exact zae rfl
 ·exact zaC
theorem zal[low:zaF][Twin L M]{R:BR}(t:TypeId):zai L M QEq R (underlying t) (underlying t):=by
 unfold underlying
 refine zac zaV ?_
 rintro R' _ p p' ⟨rfl,rfl⟩
 rw[Twin.und (L:=p) (M:=p') t]
 split
 ·exact zae rfl
 ·exact zaC
theorem zaH[low:zaF][Twin L M]{R:BR}(t:TypeId):zai L M QEq R (sizeOf t) (sizeOf t):=by
 unfold Go.sizeOf
 refine zac (zbk t) ?_
 rintro R' _ p _ rfl
 exact zae rfl
theorem zlg[low:zaF][Twin L M]{R:BR}(t:TypeId):zai L M QEq R (isAgg t) (isAgg t):=by
 unfold isAgg
 refine zac (zal t) ?_
 rintro R' _ p _ rfl
 split <;> exact zae rfl
theorem zbQ.add{R:BR}(h:zbQ R a a')(n:Nat):zbQ R (a.add n) (a'.add n):=by
 unfold Addr.add
 split
 ·exact h
 ·exact⟨h.1,by simp[h.2.1],rfl⟩
theorem zaz.push{R:BR}(h:zaz R c c')(hv:zao R v v'):zaz R (c.push v) (c'.push v'):=by
 refine⟨by simp[h.1],fun i h1 h2=>?_⟩
 rw[Array.getElem_push,Array.getElem_push]
 simp only[Array.size_push] at h1 h2
 by_cases hi:i<c.size
 ·have hi':i<c'.size:=by rw[<- h.1];exact hi
  rw[dif_pos hi,dif_pos hi']
  exact h.2 i hi hi'
 ·rw[dif_neg hi,dif_neg (by rw[<- h.1];exact hi)]
  exact hv
theorem ze3[low:zaF]{R:BR}(h:zbQ R a a'):∀(n i:Nat) {acc acc':Array Value},zaz R acc acc'->zai L M QR R (loadCellsFrom a i n acc) (loadCellsFrom a' i n acc'):=by
 intro n
 induction n generalizing R with
 | zero=>exact fun i acc acc' hr=>zae hr
 | succ n ih =>
  intro i acc acc' hr
  refine zac (zoH (h.add i)) ?_
  intro R' hR v v' hv
  exact ih (h.mono hR) (i+1) ((hr.mono hR).push hv)
theorem zaz.nil{R:BR}:zaz R #[] #[]:=⟨rfl,fun i h _=>absurd h (by simp)⟩
theorem zeT[low:zaF]{R:BR}(h:zbQ R a a')(n:Nat):zai L M QR R (loadCells a n) (loadCells a' n):=ze3 h n 0 zaz.nil
theorem zeG[low:zaF][Twin L M]{R:BR}(t:TypeId)(h:zbQ R a a'):zai L M QV R (loadVar t a) (loadVar t a'):=by
 unfold loadVar
 refine zac (zlg t) ?_
 rintro R' hR b _ rfl
 cases b with
 | true =>
  refine zac (zaH t) ?_
  rintro R2 hR2 n _ rfl
  refine zac (zeT ((h.mono hR).mono hR2) n) ?_
  intro R3 hR3 c c' hc
  exact zae (.agg hc.1 hc.2)
 | false=>exact zoH (h.mono hR)
theorem zaz.one{R:BR}(h:zao R v v'):zaz R #[v] #[v']:=zaz.nil.push h
theorem zao.cells{R:BR}(h:zao R v v'):zaz R v.cells v'.cells:=by
 cases h with
 | agg h1 h2=>exact⟨h1,h2⟩
 | bool b=>exact zaz.one (.bool b)
 | int k n=>exact zaz.one (.int k n)
 | map h=>exact zaz.one (.map h)
 | nilMap=>exact zaz.one .nilMap
 | nilChan=>exact zaz.one .nilChan
 | string s=>exact zaz.one (.string s)
 | ptr h=>exact zaz.one (.ptr h)
 | nilPtr=>exact zaz.one .nilPtr
 | slice n m h=>exact zaz.one (.slice n m h)
 | nilSlice n m=>exact zaz.one (.nilSlice n m)
 | empty a c=>exact zaz.one (.empty a c)
 | func fn h0 h1 h2 h3 h4=>exact zaz.one (.func fn h0 h1 h2 h3 h4)
 | nilFunc=>exact zaz.one .nilFunc
 | iface t h=>exact zaz.one (.iface t h)
 | nilIface=>exact zaz.one .nilIface
 | tuple h1 h2=>exact zaz.one (.tuple h1 h2)
 | junkM h0=>exact zaz.one (.junkM h0)
 | @junk v' hj0 hj =>
  have e:v'.cells=#[v']:=by cases v' with|agg c=>cases hj|_=>rfl
  rw[e]
  exact zaz.one (.junk hj0 hj)
theorem zao.slice_at{R:BR}{c:Nat}(h:zao R (.slice (some a) n c) v')(hc:0<c):∃ a',v'=.slice (some a') n c/\zbQ R a a':=by
 cases h with
 | slice _ _ h=>exact⟨_,rfl,h⟩
 | empty _ _=>omega
inductive zhe(R:BR):List Value->List Value->Prop
 | nil:zhe R [] []
 | cons {v v':Value} {r r':List Value}:zao R v v'->zhe R r r'->zhe R (v::r) (v'::r')
theorem zhe.mono{R R':BR}(hR:R.le R'){l l':List Value}(h:zhe R l l'):zhe R' l l':=by
 induction h with
 | nil=>exact .nil
 | cons hv _ ih=>exact .cons (hv.mono hR) ih
theorem zhe.of_get{R:BR}:∀(l l':List Value),l.length=l'.length->(∀ i (h:i<l.length) (h':i<l'.length),zao R l[i] l'[i])->zhe R l l'
 | [],[],_,_=>.nil
 | [],_::_,h,_=>by simp at h
 | _::_,[],h,_=>by simp at h
 | v::r,v'::r',h,hg=>.cons (hg 0 (by simp) (by simp)) (zhe.of_get r r' (by simpa using h) (fun i h1 h2=>hg (i+1) (Nat.succ_lt_succ h1) (Nat.succ_lt_succ h2)))
theorem zaz.all{R:BR}(h:zaz R c c'):zhe R c.toList c'.toList :=
 zhe.of_get _ _ (by simpa using h.1) (fun i h1 h2=>by simpa using h.2 i (by simpa using h1) (by simpa using h2))
theorem zcH[low:zaF]{R:BR}(h:zbQ R a a'){vs vs':List Value}(hf:zhe R vs vs'):∀(i:Nat),zai L M QEq R (storeCells a vs i) (storeCells a' vs' i):=by
 induction vs generalizing R vs' with
 | nil=>intro i;cases hf;exact zae rfl
 | cons v r ih =>
  intro i
  cases hf with
  | cons hv hr =>
   refine zac (zqz (h.add i) hv) ?_
   intro R' hR _ _ _
   exact ih (h.mono hR) (hr.mono hR) (i+1)
theorem zki[low:zaF][Twin L M]{R:BR}(t:TypeId)(h:zbQ R a a')(hv:zao R v v'):zai L M QEq R (storeVar t a v) (storeVar t a' v'):=by
 unfold storeVar
 refine zac (zaH t) ?_
 rintro R' hR n _ rfl
 have hc:=(hv.mono hR).cells
 rw[<- hc.1]
 split
 ·exact zai.halt
 ·exact zcH (h.mono hR) (zaz.all hc) 0
theorem zb5[low:zaF]{R:BR}(h:zao R v v'):zai L M QA R (Instr.sureAddr v) (Instr.sureAddr v'):=by
 cases h with
 | ptr h=>exact zae h
 | _=>exact zai.halt
theorem zoI[low:zaF][Twin L M]{R:BR}(t:TypeId)(h:zao R v v'):zai L M QV R (Instr.loadAt t v) (Instr.loadAt t v') :=
 zac (zb5 h) fun _ _ _ _ ha=>zeG t ha
theorem zmB[low:zaF][Twin L M]{R:BR}(t:TypeId)(h:zao R v v')(hx:zao R x x'):zai L M QEq R (Instr.storeAt t v x) (Instr.storeAt t v' x') :=
 zac (zb5 h) fun _ hR _ _ ha=>zki t ha (hx.mono hR)
theorem zga[low:zaF]{R:BR}(h:zo1 R False o o'):zai L M (fun R r r'=>R r r') R (newObj o) (newObj o'):=.new h fun _ _ _ _ hr=>.pure hr
theorem zek[low:zaF]{R:BR}(e:TypeId)(h:zaz R c c'):zai L M QA R (newRow e c) (newRow e c') :=
 zac (zga (.cells h (fun q=>q.elim) (fun _=>rfl))) fun _ _ _ _ hr=>zae ⟨hr,rfl,rfl⟩
theorem zi4[low:zaF]{R:BR}(e:TypeId)(h:zao R v v'):zai L M QA R (newVar e v) (newVar e v'):=zek e h.cells
theorem zsA[low:zaF]{R:BR}(e:TypeId)(h:zao R v v'):zai L M QV R (Instr.box e v) (Instr.box e v') :=
 zac (zi4 e h) fun _ _ _ _ ha=>zae (.ptr ha)
theorem zmv[low:zaF]{R:BR}(h:zao R v v')(i:Nat):zai L M QV R (Instr.extract v i) (Instr.extract v' i):=by
 cases h with
 | tuple h1 h2 =>
  unfold Instr.extract
  rename_i c c'
  by_cases hi:i<c.size
  ·have hi':i<c'.size:=by rw[<- h1];exact hi
   simp only[Array.getElem?_eq_getElem hi,Array.getElem?_eq_getElem hi']
   exact zae (h2 i hi hi')
  ·simp only[Array.getElem?_eq_none (Nat.le_of_not_lt hi)]
   exact zaC
 | _=>exact zai.halt
instance softly_pure {P:Program} {α:Type} (a:α):zaN P (pure a:Sem α):=⟨fun w h w' q=>by simp[pure] at q⟩
instance softly_bind {P:Program} {α β:Type} (s:Sem α) (f:α->Sem β) [S:zaN P s] [F:∀ a,zaN P (f a)]:zaN P (s >>= f):=⟨fun w h w' q=>by
 rw[Sem.run_bind] at q
 cases hs:s.run P w with
 | ok y v=>rw[hs] at q;exact(F y).soft v h w' q
 | halt hh v =>
  rw[hs] at q
  have:hh=h:=by simp[Result.andThen] at q;exact q.1
  subst this
  exact S.soft w hh v hs⟩
instance softly_halt {P:Program} {α:Type} (h:Halt) [S:zlr h]:zaN P (Sem.halt h:Sem α):=⟨fun w hh w' q=>by simp[Sem.run] at q;rw[<- q.1];exact S.soft⟩
instance softly_stuck {P:Program} {α:Type} (t:String):zaN P (stuck t:Sem α):=softly_halt (.stuck t)
instance softly_unsup {P:Program} {α:Type} (u:Unsupported):zaN P (unsupported u:Sem α):=softly_halt (.unsupported u)
instance softly_choose {P:Program} (q:Question):zaN P (choose q):=⟨fun w h w' e=>by simp only[choose,Sem.run] at e;split at e <;> simp at e⟩
instance softly_program {P:Program}:zaN P program:=⟨fun w h w' e=>by simp[program,Sem.run] at e⟩
instance softly_shape {P:Program} (r:Nat):zaN P (shape r):=⟨fun w h w' e=>by simp[shape,Sem.run] at e⟩
instance softly_frozen {P:Program} (a:Addr):zaN P (frozen a):=⟨fun w h w' e=>by simp[frozen,Sem.run] at e⟩
instance softly_mark {P:Program} (m:Mark):zaN P (mark m):=⟨fun w h w' e=>by simp[mark,Sem.run] at e⟩
instance softly_newObj {P:Program} (o:Obj):zaN P (newObj o):=⟨fun w h w' e=>by simp[newObj,Sem.run] at e⟩
instance softly_getObj {P:Program} (r:Nat):zaN P (getObj r):=⟨fun w h w' e=>by
 simp only[getObj,Sem.run] at e
 split at e
 ·simp at e;rw[<- e.1];exact .stuck _
 ·simp at e
 ·simp at e;rw[<- e.1];exact .stuck _⟩
instance softly_ite {P:Program} {α:Type} (c:Prop) [Decidable c] (a b:Sem α) [A:zaN P a] [B:zaN P b]:zaN P (if c then a else b):=by split <;> assumption
instance softly_typeInfo {P:Program} (t:TypeId):zaN P (typeInfo t):=by
 unfold typeInfo
 have:∀ p:Program,zaN P (match p.info? t with|some i=>(pure i:Sem TypeInfo)|none=>stuck "no such type"):=fun p=>by split <;> infer_instance
 infer_instance
instance softly_underlying {P:Program} (t:TypeId):zaN P (underlying t):=by
 unfold underlying
 have:∀ p:Program,zaN P (match p.underlying t with|some i=>(pure i:Sem TypeDesc)|none=>stuck "no such type"):=fun p=>by split <;> infer_instance
 infer_instance
instance softly_newVar {P:Program} (t:TypeId) (v:Value):zaN P (newVar t v):=by
 unfold newVar newRow
 infer_instance
instance softly_elemOf {P:Program} (t:TypeId):zaN P (elemOf t):=by
 unfold elemOf
 have:∀ d:TypeDesc,zaN P (match d with|.pointer e=>(pure e:Sem TypeId)|_=>stuck "pointer type expected"):=fun d=>by split <;> infer_instance
 infer_instance
theorem zav{α β:Type}{s:Sem α}[S:zaN P s]{f:α->Sem β}(h:∀ a,zcz P (f a)):zcz P (s >>= f):=fun w=>by
 rw[Sem.run_bind]
 cases hs:s.run P w with
 | ok y v=>exact h y v
 | halt hh v=>exact⟨hh,v,rfl,S.soft w hh v hs⟩
theorem zap{α:Type}{hh:Halt}[S:zlr hh]:zcz P (Sem.halt hh:Sem α):=fun w=>⟨hh,w,rfl,S.soft⟩
theorem zaq{α:Type}(e:RuntimeError):zcz P (runtimePanic e:Sem α):=by
 unfold runtimePanic
 refine zav fun p=>?_
 cases e with
 | bounds=>exact zap
 | error=>exact zap
 | plain=>exact zap
 | nilDeref=>exact zap
 | typeAssertion=>exact zav fun _=>zav fun _=>zap
 | panicNil=>exact zav fun _=>zav fun _=>zap
 | unhashable=>exact zap
theorem zaY{α:Type}(k:IntKind)(x y:Int)(c:BoundsCode):zcz P (boundsPanic k x y c:Sem α):=by
 unfold boundsPanic
 split
 ·rw[<- bind_pure_comp]
  exact zav fun _=>zaq _
 ·exact zav fun _=>zaq _
def Plain(v:Value):Prop:=∀ R:BR,zao R v v
def zbo(P:Program):Prop:=∀ t i v,P.info? t=some i->i.zero=some v->Plain v
theorem zdb[low:zaF][Twin L M]{R:BR}(t:TypeId):zai L M (fun _ i i'=>i=i'/\L.info? t=some i) R (typeInfo t) (typeInfo t):=by
 unfold typeInfo
 refine zac zaV ?_
 rintro R' _ p p' ⟨rfl,rfl⟩
 rw[Twin.info (L:=p) (M:=p') t]
 split
 ·next i hi=>exact zae ⟨rfl,hi⟩
 ·exact zaC
theorem zbm[low:zaF][Twin L M](hz:zbo L){R:BR}(t:TypeId):zai L M QV R (zeroValue t) (zeroValue t):=by
 unfold zeroValue
 refine zac (zdb t) ?_
 rintro R' _ i _ ⟨rfl,hi⟩
 split
 ·next v hv=>exact zae (hz t i v hi hv R')
 ·exact zai.halt
theorem zqq[low:zaF][Twin L M](hz:zbo L){R:BR}(e:TypeId):zai L M QV R (Instr.alloc e true (.tuple #[])) (Instr.alloc e true (.tuple #[])):=by
 unfold Instr.alloc
 refine zac (zbm hz e) ?_
 intro R' _ v v' hv
 exact zac (zi4 e hv) fun _ _ _ _ ha=>zae (.ptr ha)
theorem ze4[low:zaF][Twin L M]{R:BR}(t:TypeId)(h:zao R v v'):zai L M QV R (Instr.makeInterface t v) (Instr.makeInterface t v'):=by
 unfold Instr.makeInterface
 refine zac (zal t) ?_
 rintro R' hR d _ rfl
 split
 ·exact zaC
 ·exact zae (.iface t (h.mono hR))
theorem zqr[low:zaF]{R:BR}(h:zao R v v'):zai L M QR R (asAgg v) (asAgg v'):=by
 cases h with
 | agg h1 h2=>exact zae ⟨h1,h2⟩
 | _=>exact zai.halt
theorem zaz.ext{R:BR}(h:zaz R c c')(i j:Nat):zaz R (c.extract i j) (c'.extract i j):=by
 refine⟨by simp[h.1],fun k h1 h2=>?_⟩
 simp only[Array.getElem_extract]
 exact h.2 _ _ _
theorem zgc[low:zaF][Twin L M]{R:BR}(t:TypeId)(h:zaz R c c')(off:Nat):zai L M QV R (part t c off) (part t c' off):=by
 unfold part
 refine zac (zlg t) ?_
 rintro R' hR b _ rfl
 cases b with
 | true =>
  refine zac (zaH t) ?_
  rintro R2 hR2 n _ rfl
  have:=((h.mono hR).mono hR2).ext off (off+n)
  exact zae (.agg this.1 this.2)
 | false =>
  by_cases hi:off<c.size
  ·have hi':off<c'.size:=by rw[<- h.1];exact hi
   simp only[Bool.false_eq_true,if_false,Array.getElem?_eq_getElem hi,Array.getElem?_eq_getElem hi']
   exact zae ((h.2 off hi hi').mono hR)
  ·simp only[Bool.false_eq_true,if_false,Array.getElem?_eq_none (Nat.le_of_not_lt hi)]
   exact zaC
theorem zqu[low:zaF][Twin L M]{R:BR}(t:TypeId)(h:zao R v v')(f:Nat):zai L M QV R (Instr.field t v f) (Instr.field t v' f):=by
 unfold Instr.field
 refine zac (zal t) ?_
 rintro R' hR d _ rfl
 split
 ·split
  ·exact zac (zqr (h.mono hR)) fun _ _ _ _ hc=>zgc _ hc _
  ·exact zaC
 ·exact zaC
theorem zcx[low:zaF]{R:BR}(h:zao R v v'):zai L M QEq R (asIntOf v) (asIntOf v'):=by
 cases h with
 | int k n=>exact zae rfl
 | _=>exact zai.halt
theorem zej[low:zaF]{R:BR}(h:zao R v v'):zai L M QEq R (asInt v) (asInt v'):=by
 unfold asInt
 refine zac (zcx h) ?_
 rintro R' _ p _ rfl
 exact zae rfl
theorem zoz[low:zaF]{R:BR}(h:zao R v v'):zai L M QEq R (asBool v) (asBool v'):=by
 cases h with
 | bool b=>exact zae rfl
 | _=>exact zai.halt
theorem zqv[low:zaF][Twin L M]{R:BR}(t:TypeId){i i':Value}(h:zao R v v')(hi:zao R i i'):zai L M QV R (Instr.index t v i) (Instr.index t v' i'):=by
 unfold Instr.index
 refine zac (zcx hi) ?_
 rintro R' hR ⟨k,n⟩ _ rfl
 refine zac (zal t) ?_
 rintro R2 hR2 d _ rfl
 replace h:=(h.mono hR).mono hR2
 cases h with
 | agg h1 h2 =>
  split
  ·split
   ·refine zac (zaH _) ?_
    rintro R3 hR3 m _ rfl
    rename_i e1 e2 _
    cases e2
    exact zgc _ (zaz.mono hR3 ⟨h1,h2⟩) _
   ·exact zai.never (zaY _ _ _ _)
  ·next e2=>cases e2
  ·exact zaC
 | string s =>
  split
  ·next e2=>cases e2
  ·next e2=>cases e2;split
            · exact zae (.int _ _)
            · exact zai.never (zaY _ _ _ _)
  ·exact zaC
 | _=>split <;> first|(next e2=>cases e2)|exact zaC
end
section
open Go
variable{L M:Program}
theorem zem[low:zaF]{R:BR}(h:R r r'):zai L M QEq R (shape r) (shape r'):=.shape h fun _=>.pure rfl
theorem zd6{α:Type}{c:Prop}[Decidable c]{a b:Sem α}(ha:zcz P a)(hb:zcz P b):zcz P (if c then a else b):=by
 split
 ·exact ha
 ·exact hb
theorem zaJ[low:zaF][Twin L M]{R:BR}(t:TypeId):zai L M (fun _ d d'=>d=d'/\L.underlying t=some d) R (underlying t) (underlying t):=by
 unfold underlying
 refine zac zaV ?_
 rintro R' _ p p' ⟨rfl,rfl⟩
 rw[Twin.und (L:=p) (M:=p') t]
 split
 ·next d hd=>exact zae ⟨rfl,hd⟩
 ·exact zaC
theorem zmw[low:zaF][Twin L M]{R:BR}(s:TypeId)(h:zao R v v')(f:Nat)(hp:∀ fs fd,L.underlying s=some (.struct fs)->fs[f]?=some fd->∀ i,L.info? fd.type=some i->i.size≠0):zai L M QV R (Instr.fieldAt s v f) (Instr.fieldAt s v' f):=by
 unfold Instr.fieldAt
 refine zac (zaJ s) ?_
 rintro R' hR d _ ⟨rfl,hd⟩
 split
 ·next fs =>
  split
  ·next fd hfd =>
   refine zac (zb5 (h.mono hR)) ?_
   intro R2 hR2 a a' ha
   refine zac (Q:=QA) ?_ (fun _ _ _ _ hx=>zae (.ptr hx))
   unfold fieldPlace
   have hsz:zai L M (fun _ n n'=>n=n'/\n≠0) R2 (Go.sizeOf fd.type) (Go.sizeOf fd.type):=by
    unfold Go.sizeOf
    refine zac (zdb fd.type) ?_
    rintro R3 _ i _ ⟨rfl,hi⟩
    exact zae ⟨rfl,hp fs fd hd hfd i hi⟩
   refine zac hsz ?_
   rintro R3 hR3 n _ ⟨rfl,hn⟩
   rw[if_neg hn,if_neg hn]
   exact zae ((ha.mono hR3).add _)
  ·exact zaC
 ·exact zaC
theorem zmx[low:zaF][Twin L M]{R:BR}(t:TypeId){i i':Value}(h:zao R x x')(hi:zao R i i'):zai L M QV R (Instr.indexAt t x i) (Instr.indexAt t x' i'):=by
 unfold Instr.indexAt
 refine zac (zcx hi) ?_
 rintro R' hR ⟨k,n⟩ _ rfl
 refine zac (zal t) ?_
 rintro R2 hR2 d _ rfl
 replace h:=(h.mono hR).mono hR2
 cases d with
 | array len elem =>
  refine zac (zb5 h) ?_
  intro R3 hR3 a a' ha
  show zai L M QV R3 (underlying t >>= _) (underlying t >>= _)
  refine zac (zal t) ?_
  rintro R4 hR4 d2 _ rfl
  by_cases hin:0<=n/\n<((len:Nat):Int)
  ·simp only[if_pos hin]
   refine zac (zaH _) ?_
   rintro R5 hR5 m _ rfl
   exact zae (.ptr ((((ha)).mono hR4).mono hR5 |>.add _))
  ·simp only[if_neg hin]
   exact zai.never (zd6 zap (zaY _ _ _ _))
 | slice elem =>
  cases h with
  | slice n2 m ha =>
   show zai L M QV R2 (underlying t >>= _) (underlying t >>= _)
   refine zac (zal t) ?_
   rintro R4 hR4 d2 _ rfl
   by_cases hin:0<=n/\n<((n2:Nat):Int)
   ·simp only[if_pos hin]
    refine zac (zaH _) ?_
    rintro R5 hR5 m _ rfl
    exact zae (.ptr ((((ha)).mono hR4).mono hR5 |>.add _))
   ·simp only[if_neg hin]
    exact zai.never (zd6 zap (zaY _ _ _ _))
  | empty a c =>
   show zai L M QV R2 (underlying t >>= _) (underlying t >>= _)
   refine zac (zal t) ?_
   rintro R4 hR4 d2 _ rfl
   have hin:¬ (0<=n/\n<((0:Nat):Int)):=by omega
   simp only[if_neg hin]
   exact zai.never (zd6 zap (zaY _ _ _ _))
  | nilSlice n2 m =>
   show zai L M QV R2 (underlying t >>= _) (underlying t >>= _)
   refine zac (zal t) ?_
   rintro R4 hR4 d2 _ rfl
   exact zai.never (zaY _ _ _ _)
  | _=>exact zai.halt
 | _=>cases h <;> exact zai.halt
theorem za7[low:zaF]{R:BR}(h:zao R x x')(y:Nat)(c:BoundsCode):zai L M QEq R (Instr.sliceBound x y c) (Instr.sliceBound x' y c):=by
 unfold Instr.sliceBound
 refine zac (zcx h) ?_
 rintro R' _ ⟨k,n⟩ _ rfl
 simp only
 split
 ·exact zae rfl
 ·exact zai.never (zaY _ _ _ _)
theorem zbE[low:zaF]{R:BR}(h:zao R x x')(c:BoundsCode):zai L M (fun _ a b=>a=0/\b=0) R (Instr.sliceBound x 0 c) (Instr.sliceBound x' 0 c):=by
 unfold Instr.sliceBound
 refine zac (zcx h) ?_
 rintro R' _ ⟨k,n⟩ _ rfl
 simp only
 split
 ·exact zae ⟨by omega,by omega⟩
 ·exact zai.never (zaY _ _ _ _)
theorem zgZ[low:zaF]{R:BR}(n:Nat):zai L M QEq R (askRoom n) (askRoom n):=by
 unfold askRoom
 split
 ·exact .mark (.pure rfl)
 ·exact zae rfl
theorem zaz.plainMap{R:BR}(h:zaz R c c')(hd:Plain default)(n:Nat):zaz R ((Array.range n).map (c[· % c.size]!)) ((Array.range n).map (c'[· % c'.size]!)):=by
 refine⟨by simp,fun i h1 h2=>?_⟩
 simp only[Array.getElem_map,Array.getElem_range]
 rw[<- h.1]
 by_cases hs:i % c.size<c.size
 ·have hs':i % c.size<c'.size:=by rw[<- h.1];exact hs
  rw[getElem!_pos c _ hs,getElem!_pos c' _ hs']
  exact h.2 _ hs hs'
 ·rw[getElem!_neg c _ hs,getElem!_neg c' _ (by rw[<- h.1];exact hs)]
  exact hd R
theorem zcF:Plain (default:Value):=fun _=>zao.bool _
theorem zao.slice'{R:BR}{a a':Option Addr}(n m:Nat)(h:(a=none/\a'=none)\/∃ x x',a=some x/\a'=some x'/\zbQ R x x'):zao R (.slice a n m) (.slice a' n m):=by
 rcases h with ⟨rfl,rfl⟩|⟨x,x',rfl,rfl,h⟩
 ·exact .nilSlice n m
 ·exact .slice n m h
def zcr(R:BR)(o o':Option Value):Prop:=(o=none/\o'=none)\/∃ v v',o=some v/\o'=some v'/\zao R v v'
theorem zcr.mono{R R':BR}(hR:R.le R'){o o':Option Value}(h:zcr R o o'):zcr R' o o':=by
 rcases h with h|⟨v,v',a,b,c⟩
 ·exact Or.inl h
 ·exact Or.inr ⟨v,v',a,b,c.mono hR⟩
theorem zda[low:zaF]{R:BR}(s:Bool)(len cap:Nat)(h1:zcr R lo lo')(h2:zcr R hi hi'):zai L M QEq R (Instr.sliceBounds s len cap lo hi none) (Instr.sliceBounds s len cap lo' hi' none):=by
 unfold Instr.sliceBounds
 rcases h2 with ⟨rfl,rfl⟩|⟨v,v',rfl,rfl,hv⟩
 ·rcases h1 with ⟨rfl,rfl⟩|⟨u,u',rfl,rfl,hu⟩
  ·exact zae rfl
  ·show zai L M QEq R (Instr.sliceBound _ _ _ >>= _) (Instr.sliceBound _ _ _ >>= _)
   refine zac (za7 hu _ _) ?_
   rintro R' _ l _ rfl
   exact zae rfl
 ·show zai L M QEq R (Instr.sliceBound _ _ _ >>= _) (Instr.sliceBound _ _ _ >>= _)
  refine zac (za7 hv _ _) ?_
  rintro R' hR b _ rfl
  rcases h1 with ⟨rfl,rfl⟩|⟨u,u',rfl,rfl,hu⟩
  ·exact zae rfl
  ·refine zac (za7 (hu.mono hR) _ _) ?_
   rintro R2 _ l _ rfl
   exact zae rfl
theorem zrf[low:zaF][Twin L M](hz:zbo L){α:Type}{Q:BR->α->α->Prop}{R:BR}(e:TypeId)(n:Nat){k k':Array Value->Sem α}(hk:∀ R':BR,R.le R'->∀ z z',zaz R' z z'->zai L M Q R' (k z) (k' z')) :
  zai L M Q R (if n=0 then (pure #[] >>= k) else (zeroValue e >>= fun v=>pure v.cells >>= k)) (if n=0 then (pure #[] >>= k') else (zeroValue e >>= fun v=>pure v.cells >>= k')):=by
 split
 ·exact hk R (BR.le_refl _) _ _ zaz.nil
 ·exact zac (zbm hz e) fun R' hR v v' hv=>hk R' hR _ _ hv.cells
theorem zi2[low:zaF][Twin L M](hz:zbo L){R:BR}(t:TypeId){l l' c c':Value}(hl:zao R l l')(hc:zao R c c'):zai L M QV R (Instr.makeSlice t l c) (Instr.makeSlice t l' c'):=by
 unfold Instr.makeSlice
 refine zac (zal t) ?_
 rintro R1 hR1 d _ rfl
 split
 ·next elem =>
  refine zac (zej (hl.mono hR1)) ?_
  rintro R2 hR2 len _ rfl
  refine zac (zej ((hc.mono hR1).mono hR2)) ?_
  rintro R3 hR3 cap _ rfl
  refine zac (zbk elem) ?_
  rintro R4 hR4 i _ rfl
  dsimp only
  split
  ·refine zai.never ?_
   split
   ·exact zat (zaq _)
   ·split
    ·exact zat (zaq _)
    ·first
     | exact zat (zav fun _=>zaq _)
     | exact zav fun _=>zat (zaq _)
     | exact zav fun _=>zaq _
  ·refine zac (zgZ _) ?_
   rintro R5 hR5 _ _ _
   refine zac (zaH elem) ?_
   rintro R6 hR6 n _ rfl
   refine zrf hz elem _ ?_
   intro R7 hR7 z z' hzz
   refine zac (zek elem (hzz.plainMap zcF _)) ?_
   intro R8 hR8 a a' ha
   exact zae (.slice _ _ ha)
 ·exact zaC
inductive zo2(R:BR):List (Nat × Value)->List (Nat × Value)->Prop
 | nil:zo2 R [] []
 | cons (i:Nat) {v v':Value} {r r':List (Nat × Value)}:zao R v v'->zo2 R r r'->zo2 R ((i,v)::r) ((i,v')::r')
theorem zo2.mono{R R':BR}(hR:R.le R')(h:zo2 R l l'):zo2 R' l l':=by
 induction h with
 | nil=>exact .nil
 | cons i hv _ ih=>exact .cons i (hv.mono hR) ih
theorem zok{R:BR}(off:Nat):∀(l l':List Value),zhe R l l'->∀(j:Nat) {cs cs':Array Value},zaz R cs cs' ->
  zaz R ((l.zipIdx j).foldl (fun cs (p:Value × Nat)=>cs.setIfInBounds (off+p.2) p.1) cs) ((l'.zipIdx j).foldl (fun cs (p:Value × Nat)=>cs.setIfInBounds (off+p.2) p.1) cs'):=by
 intro l l' h
 induction h with
 | nil=>exact fun j cs cs' hr=>hr
 | cons hv _ ih =>
  intro j cs cs' hr
  simp only[List.zipIdx_cons,List.foldl_cons]
  exact ih (j+1) (hr.set _ hv)
theorem zma{R:BR}(off:Nat)(h:zaz R c c'){cs cs':Array Value}(hr:zaz R cs cs') :
  zaz R (c.zipIdx.foldl (fun cs (p:Value × Nat)=>cs.setIfInBounds (off+p.2) p.1) cs) (c'.zipIdx.foldl (fun cs (p:Value × Nat)=>cs.setIfInBounds (off+p.2) p.1) cs'):=by
 have:=zok off _ _ h.all 0 hr
 rw[<- Array.foldl_toList,<- Array.foldl_toList,Array.toList_zipIdx,Array.toList_zipIdx]
 exact this
theorem zhr{R:BR}(pl:Nat->Option (Nat × Nat)):∀ {ps ps':List (Nat × Value)},zo2 R ps ps'->∀ {cs cs':Array Value},zaz R cs cs' ->
  (Instr.fill pl cs ps=none)\/∃ d d',Instr.fill pl cs ps=some d/\Instr.fill pl cs' ps'=some d'/\zaz R d d':=by
 intro ps ps' h
 induction h with
 | nil=>exact fun hr=>Or.inr ⟨_,_,rfl,rfl,hr⟩
 | cons i hv _ ih =>
  intro cs cs' hr
  have hvc:=hv.cells
  unfold Instr.fill
  cases hp:pl i with
  | none=>exact Or.inl rfl
  | some q =>
   obtain⟨off,size⟩:=q
   simp only
   rw[<- hvc.1,<- hr.1]
   split
   ·exact Or.inl rfl
   ·exact ih (zma off hvc hr)
theorem zhT[low:zaF][Twin L M](hz:zbo L){R:BR}(t:TypeId)(len:Nat)(h:zo2 R ps.toList ps'.toList):zai L M QV R (Instr.buildSlice t len ps) (Instr.buildSlice t len ps'):=by
 unfold Instr.buildSlice
 refine zac (zal t) ?_
 rintro R1 hR1 d _ rfl
 split
 ·next elem =>
  refine zac (zaH elem) ?_
  rintro R2 hR2 size _ rfl
  dsimp only
  split
  ·exact zai.never (zat zap)
  ·refine zrf hz elem _ ?_
   intro R3 hR3 z z' hzz
   have hf:=zhr (fun i=>some (i * size,size)) (((h.mono hR1).mono hR2).mono hR3) (hzz.plainMap zcF (len * size))
   rcases hf with hf|⟨d,d',e1,e2,hd⟩
   ·rw[hf];exact zaC
   ·rw[e1,e2]
    exact zac (zek elem hd) fun _ _ _ _ ha=>zae (.slice _ _ ha)
 ·exact zaC
theorem zf5[low:zaF]{R:BR}(op:BinOp)(k:IntKind)(x y:Int):zai L M QV R (Op.intArith op k x y) (Op.intArith op k x y):=by
 unfold Op.intArith
 split <;> first|exact zae (.int _ _)|exact zaC
theorem zoF[low:zaF]{R:BR}(op:BinOp)(k:IntKind)(x y:Int):zai L M QV R (Op.intDiv op k x y) (Op.intDiv op k x y):=by
 unfold Op.intDiv
 split
 ·exact zai.never (zaq _)
 ·split <;> first|exact zae (.int _ _)|exact zaC
theorem zg1[low:zaF]{R:BR}(op:BinOp)(k:IntKind)(x y:Int):zai L M QV R (Op.intBits op k x y) (Op.intBits op k x y):=by
 unfold Op.intBits
 dsimp only
 split <;> first|exact zae (.int _ _)|exact zaC
theorem zoE[low:zaF]{R:BR}(op:BinOp)(x y:Int):zai L M QV R (Op.intCmp op x y) (Op.intCmp op x y):=by
 unfold Op.intCmp
 split <;> first|exact zae (.bool _)|exact zaC
theorem zqA[low:zaF]{R:BR}(op:UnOp)(h:zao R v v'):zai L M QV R (Op.unary op v) (Op.unary op v'):=by
 cases h with
 | int k n=>cases op <;> (simp only[Op.unary];first|exact zf5 _ _ _ _|exact zg1 _ _ _ _|exact zaC)
 | bool b=>cases op <;> first|exact zae (.bool _)|exact zai.halt
 | _=>cases op <;> exact zai.halt
theorem zoA[low:zaF]{R:BR}(op:BinOp)(t:TypeId)(k:IntKind)(x y:Int)(hs:op≠.shl/\op≠.shr):zai L M QV R (binOp op t (.int k x) (.int k y)) (binOp op t (.int k x) (.int k y)):=by
 obtain⟨h1,h2⟩:=hs
 cases op <;> first
  | exact absurd rfl h1
  | exact absurd rfl h2
  | (simp only[binOp,ne_eq,not_true,if_false];first|exact zf5 _ _ _ _|exact zoF _ _ _ _|exact zg1 _ _ _ _|exact zoE _ _ _)
theorem zaW[low:zaF]{α:Type}{Q:BR->α->α->Prop}{R:BR}{c:Prop}[Decidable c]{a a' b b':Sem α}(h1:c->zai L M Q R a a')(h2:¬ c->zai L M Q R b b'):zai L M Q R (if c then a else b) (if c then a' else b'):=by
 split
 ·exact h1 (by assumption)
 ·exact h2 (by assumption)
theorem zbF[low:zaF]{R:BR}(s:Bool)(len cap:Nat)(h1:zcr R lo lo')(h2:zcr R hi hi')(h3:zcr R mx mx'):zai L M QEq R (Instr.sliceBounds s len cap lo hi mx) (Instr.sliceBounds s len cap lo' hi' mx'):=by
 rcases h3 with ⟨rfl,rfl⟩|⟨v,v',rfl,rfl,hv⟩
 ·exact zda s len cap h1 h2
 ·unfold Instr.sliceBounds
  show zai L M QEq R (Instr.sliceBound _ _ _ >>= _) (Instr.sliceBound _ _ _ >>= _)
  refine zac (za7 hv _ _) ?_
  rintro R1 hR1 m _ rfl
  replace h2:=h2.mono hR1
  rcases h2 with ⟨rfl,rfl⟩|⟨u,u',rfl,rfl,hu⟩
  ·exact zai.halt
  ·show zai L M QEq R1 (Instr.sliceBound _ _ _ >>= _) (Instr.sliceBound _ _ _ >>= _)
   refine zac (za7 hu _ _) ?_
   rintro R2 hR2 h _ rfl
   replace h1:=(h1.mono hR1).mono hR2
   rcases h1 with ⟨rfl,rfl⟩|⟨x,x',rfl,rfl,hx⟩
   ·exact zae rfl
   ·refine zac (za7 hx _ _) ?_
    rintro R3 _ l _ rfl
    exact zae rfl
theorem zgd[low:zaF]{R:BR}(h1:zcr R lo lo')(h2:zcr R hi hi')(h3:zcr R mx mx'):zai L M (fun _ a b=>a=(0,0,0)/\b=(0,0,0)) R (Instr.sliceBounds true 0 0 lo hi mx) (Instr.sliceBounds true 0 0 lo' hi' mx'):=by
 have low:∀ {R':BR},R.le R'->∀(c:BoundsCode),zai L M (fun _ a b=>a=(0,0,0)/\b=(0,0,0)) R' (do
   let l <- match lo with
    | some v=>Instr.sliceBound v 0 c
    | none=>pure 0
   pure (l,0,0)) (do
   let l <- match lo' with
    | some v=>Instr.sliceBound v 0 c
    | none=>pure 0
   pure (l,0,0)):=by
  intro R' hR c
  rcases h1 with ⟨rfl,rfl⟩|⟨u,u',rfl,rfl,hu⟩
  ·exact zae ⟨rfl,rfl⟩
  ·refine zac (zbE (hu.mono hR) _) ?_
   rintro R2 _ l l' ⟨rfl,rfl⟩
   exact zae ⟨rfl,rfl⟩
 unfold Instr.sliceBounds
 rcases h3 with ⟨rfl,rfl⟩|⟨v,v',rfl,rfl,hv⟩
 ·rcases h2 with ⟨rfl,rfl⟩|⟨u,u',rfl,rfl,hu⟩
  ·exact low (BR.le_refl _) _
  ·show zai L M _ R (Instr.sliceBound _ _ _ >>= _) (Instr.sliceBound _ _ _ >>= _)
   refine zac (zbE hu _) ?_
   rintro R' hR b b' ⟨rfl,rfl⟩
   exact low hR _
 ·show zai L M _ R (Instr.sliceBound _ _ _ >>= _) (Instr.sliceBound _ _ _ >>= _)
  refine zac (zbE hv _) ?_
  rintro R1 hR1 m m' ⟨rfl,rfl⟩
  replace h2:=h2.mono hR1
  rcases h2 with ⟨rfl,rfl⟩|⟨u,u',rfl,rfl,hu⟩
  ·exact zai.halt
  ·show zai L M _ R1 (Instr.sliceBound _ _ _ >>= _) (Instr.sliceBound _ _ _ >>= _)
   refine zac (zbE hu _) ?_
   rintro R2 hR2 b b' ⟨rfl,rfl⟩
   exact low (BR.le_trans hR1 hR2) _
theorem zf3[low:zaF]{R:BR}(h:zao R v v'):zai L M QA R (asAddr v) (asAddr v'):=by
 cases h with
 | ptr h=>exact zae h
 | nilPtr=>exact zai.never (zaq (α:=Addr) .nilDeref)
 | _=>exact zai.halt
theorem zbQ.cut{R:BR}(h:zbQ R a a')(c:Prop)[Decidable c](n:Nat):zbQ R (if c then a else a.add n) (if c then a' else a'.add n):=by
 split
 ·exact h
 ·exact h.add n
theorem zqy[low:zaF][Twin L M]{R:BR}(t:TypeId)(h:zao R x x')(h1:zcr R lo lo')(h2:zcr R hi hi')(h3:zcr R mx mx'):zai L M QV R (Instr.slice t x lo hi mx) (Instr.slice t x' lo' hi' mx'):=by
 unfold Instr.slice
 refine zac (zal t) ?_
 rintro R1 hR1 d _ rfl
 replace h:=h.mono hR1
 replace h1:=h1.mono hR1
 replace h2:=h2.mono hR1
 replace h3:=h3.mono hR1
 cases d with
 | string =>
  cases h with
  | string s =>
   have e3:mx.isSome=mx'.isSome:=by rcases h3 with ⟨rfl,rfl⟩|⟨_,_,rfl,rfl,_⟩ <;> rfl
   dsimp only
   rw[e3]
   refine zaW (fun _=>zai.halt) (fun _=>?_)
   refine zac (zda false _ _ h1 h2) ?_
   rintro R2 _ ⟨l,hh,m⟩ _ rfl
   exact zae (.string _)
  | _=>exact zai.halt
 | slice e =>
  cases h with
  | slice n m ha =>
   refine zac (zbF true n m h1 h2 h3) ?_
   rintro R2 hR2 ⟨l,hh,mm⟩ _ rfl
   refine zac (zaH e) ?_
   rintro R3 hR3 k _ rfl
   refine zae (zao.slice' _ _ ?_)
   by_cases q:mm=l
   ·simp only[if_pos q]
    exact Or.inr ⟨_,_,rfl,rfl,(ha.mono hR2).mono hR3⟩
   ·simp only[if_neg q]
    exact Or.inr ⟨_,_,rfl,rfl,((ha.mono hR2).mono hR3).add _⟩
  | empty a c =>
   refine zac (zgd h1 h2 h3) ?_
   rintro R2 hR2 p p' ⟨rfl,rfl⟩
   refine zac (zaH e) ?_
   rintro R3 hR3 k _ rfl
   exact zae (.empty _ _)
  | nilSlice n m =>
   refine zac (zbF true n m h1 h2 h3) ?_
   rintro R2 hR2 ⟨l,hh,mm⟩ _ rfl
   refine zac (zaH e) ?_
   rintro R3 hR3 k _ rfl
   refine zae (zao.slice' _ _ ?_)
   by_cases q:mm=l
   ·exact Or.inl ⟨by simp,by simp⟩
   ·exact Or.inl ⟨by simp,by simp⟩
  | _=>exact zai.halt
 | pointer arr =>
  have hh:zai L M QV R1 (asAddr x >>= fun a=>underlying arr >>= fun d=>match d with
    | .array n elem=>Instr.sliceBounds false n n lo hi mx >>= fun p=>sizeOf elem >>= fun size=>pure (.slice (some (if p.2.2=p.1 then a else a.add (p.1 * size))) (p.2.1 - p.1) (p.2.2 - p.1))
    | _=>stuck "Slice: array type expected") (asAddr x' >>= fun a=>underlying arr >>= fun d=>match d with
    | .array n elem=>Instr.sliceBounds false n n lo' hi' mx' >>= fun p=>sizeOf elem >>= fun size=>pure (.slice (some (if p.2.2=p.1 then a else a.add (p.1 * size))) (p.2.1 - p.1) (p.2.2 - p.1))
    | _=>stuck "Slice: array type expected"):=by
   refine zac (zf3 h) ?_
   intro R2 hR2 a a' ha
   refine zac (zal arr) ?_
   rintro R3 hR3 d _ rfl
   split
   ·refine zac (zbF false _ _ ((h1.mono hR2).mono hR3) ((h2.mono hR2).mono hR3) ((h3.mono hR2).mono hR3)) ?_
    rintro R4 hR4 ⟨l,hh,m⟩ _ rfl
    refine zac (zaH _) ?_
    rintro R5 hR5 k _ rfl
    exact zae (.slice _ _ ((((ha.mono hR3).mono hR4).mono hR5).cut _ _))
   ·exact zai.halt
  cases h <;> exact hh
 | _=>cases h <;> exact zai.halt
theorem zmA[low:zaF][Twin L M]{R:BR}(t:TypeId)(h:zao R x x')(h1:zcr R lo lo')(h2:zcr R hi hi')(h3:zcr R mx mx'):zai L M QV R (Instr.sliceAt t x lo hi mx) (Instr.sliceAt t x' lo' hi' mx'):=by
 unfold Instr.sliceAt
 refine zac (zal t) ?_
 rintro R1 hR1 d _ rfl
 cases d with
 | array n elem =>
  refine zac (zb5 (h.mono hR1)) ?_
  intro R2 hR2 a a' ha
  refine zac (zbF false n n ((h1.mono hR1).mono hR2) ((h2.mono hR1).mono hR2) ((h3.mono hR1).mono hR2)) ?_
  rintro R3 hR3 ⟨l,hh,m⟩ _ rfl
  refine zac (zaH elem) ?_
  rintro R4 hR4 k _ rfl
  exact zae (.slice _ _ (((ha.mono hR3).mono hR4).cut _ _))
 | _=>exact zqy t (h.mono hR1) (h1.mono hR1) (h2.mono hR1) (h3.mono hR1)
theorem zqw[low:zaF]{R:BR}(h:zao R v v'):zai L M QEq R (Builtin.lenOf v) (Builtin.lenOf v'):=by
 cases h with
 | slice n m _=>exact zae rfl
 | nilSlice n m=>exact zae rfl
 | empty a c=>exact zae rfl
 | string s=>exact zae rfl
 | _=>exact zai.halt
theorem zf8[low:zaF]{R:BR}(h:zao R v v'):zai L M (fun _ a b=>a=b/\∀ p,v=.slice p 0 0->a=0) R (Builtin.lenOf v) (Builtin.lenOf v'):=by
 cases h with
 | slice n m _=>exact zae ⟨rfl,fun p e=>by cases e;rfl⟩
 | nilSlice n m=>exact zae ⟨rfl,fun p e=>by cases e;rfl⟩
 | empty a c=>exact zae ⟨rfl,fun p e=>rfl⟩
 | string s=>exact zae ⟨rfl,fun p e=>by cases e⟩
 | _=>exact zai.halt
theorem zaz.plain{R:BR}(h:∀ i (h:i<c.size),zao R c[i] c[i]):zaz R c c:=⟨rfl,fun i h1 _=>h i h1⟩
theorem zbu[low:zaF]{R:BR}(size n:Nat)(h:zao R v v')(hn:∀ a,v=.slice a 0 0->n=0):zai L M QR R (Builtin.firstCells size n v) (Builtin.firstCells size n v'):=by
 cases h with
 | slice _ _ ha=>exact zeT ha _
 | nilSlice _ _=>exact zae zaz.nil
 | empty a c =>
  obtain rfl:=hn _ rfl
  show zai L M QR R (loadCells _ (0 * size)) (loadCells _ (0 * size))
  rw[Nat.zero_mul]
  exact zae zaz.nil
 | string s=>exact zae (zaz.plain fun i hi=>by simp only[Array.getElem_map];exact .int _ _)
 | _=>exact zai.halt
theorem zdv[low:zaF]{R:BR}(size:Nat)(h:zao R v v'):zai L M (fun _ c c'=>c=#[]/\c'=#[]) R (Builtin.firstCells size 0 v) (Builtin.firstCells size 0 v'):=by
 have z:∀ a:Addr,(loadCells a (0 * size):Sem (Array Value))=pure #[]:=fun a=>by rw[Nat.zero_mul];rfl
 cases h with
 | slice _ _ ha =>
  show zai L M _ R (loadCells _ (0 * size)) (loadCells _ (0 * size))
  rw[z,z]
  exact zae ⟨rfl,rfl⟩
 | nilSlice _ _=>exact zae ⟨rfl,rfl⟩
 | empty a c =>
  show zai L M _ R (loadCells _ (0 * size)) (loadCells _ (0 * size))
  rw[z,z]
  exact zae ⟨rfl,rfl⟩
 | string s=>exact zae ⟨by simp,by simp⟩
 | _=>exact zai.halt
theorem zaz.app{R:BR}{d d':Array Value}(h:zaz R c c')(h2:zaz R d d'):zaz R (c++d) (c'++d'):=by
 refine⟨by simp[h.1,h2.1],fun i h3 h4=>?_⟩
 by_cases q:i<c.size
 ·rw[Array.getElem_append_left q,Array.getElem_append_left (by rw[<- h.1];exact q)]
  exact h.2 i q _
 ·have q':c'.size<=i:=by have:=h.1;omega
  rw[Array.getElem_append_right (by omega),Array.getElem_append_right q']
  have e:i - c'.size=i - c.size:=by rw[h.1]
  have h5:i - c.size<d.size:=by simp at h3;omega
  have:=h2.2 (i - c.size) h5 (by rw[<- h2.1];exact h5)
  simpa only[e] using this
theorem zaz.zeros{R:BR}{z z':Array Value}(h:zaz R z z')(n:Nat):zaz R (Builtin.zeroCells z n) (Builtin.zeroCells z' n):=by
 unfold Builtin.zeroCells
 rw[<- h.1]
 have:=h.plainMap zcF (n * z.size)
 rw[<- h.1] at this
 exact this
theorem zaz.get?{R:BR}(h:zaz R c c')(i:Nat):zcr R c[i]? c'[i]?:=by
 by_cases q:i<c.size
 ·have q':i<c'.size:=by rw[<- h.1];exact q
  exact Or.inr ⟨_,_,Array.getElem?_eq_getElem q,Array.getElem?_eq_getElem q',h.2 i q q'⟩
 ·exact Or.inl ⟨Array.getElem?_eq_none (by omega),Array.getElem?_eq_none (by have:=h.1;omega)⟩
def zqU(L:Program)(ts:Array TypeId):Prop:=∃ t d,ts[1]?=some t/\L.underlying t=some d/\∀ k,d≠.int k
theorem zsF[low:zaF]{R:BR}[Twin L M]{d:TypeDesc}(h:L.underlying t=some d):zai L M (fun _ a b=>a=d/\b=d) R (underlying t) (underlying t):=by
 unfold underlying
 refine zac zaV ?_
 rintro R' _ p p' ⟨rfl,rfl⟩
 rw[Twin.und (L:=p) (M:=p') t,h]
 exact zae ⟨rfl,rfl⟩
instance softly_holds {P:Program} (a:Addr) (n:Nat):zaN P (Builtin.holdsCells a n):=by
 unfold Builtin.holdsCells
 have:∀ o:Option (TypeId × Nat),zaN P (match o with|some (_,k)=>(pure (a.spot.isNone && a.off+n<=k):Sem Bool)|none=>pure false):=fun o=>by split <;> infer_instance
 infer_instance
instance softly_mayShare {P:Program} (size sLen n:Nat) (base:Option Addr) (x:Value):zaN P (Builtin.mayShare size sLen n base x):=by
 have tail:∀(base:Option Addr) (t:Bool),zaN P (if (!t)=true then (pure true:Sem Bool) else (match x with|.slice (some b) _ _=>(do pure (!(<- Builtin.holdsCells b (n * size)) || base.any (·.block == b.block)):Sem Bool)|_=>pure false)):=by
  intro base t
  split
  ·infer_instance
  ·split <;> infer_instance
 unfold Builtin.mayShare
 cases base with
 | none=>exact tail none true
 | some a=>exact softly_bind _ _ (F:=fun c=>softly_bind _ _ (F:=fun d=>tail (some a) _))
theorem zoy[low:zaF][Twin L M](hz:zbo L){R:BR}(ts:Array TypeId)(ty:TypeId)(h:zaz R as as')(hm:zqU L ts):zai L M QV R (Builtin.append_ ts ty as) (Builtin.append_ ts ty as'):=by
 obtain⟨t1,d1,hm1,hm2,hm3⟩:=hm
 unfold Builtin.append_
 rw[hm1]
 cases ts[0]? with
 | none=>exact zai.halt
 | some t0 =>
 rcases h.get? 0 with ⟨e1,e2⟩|⟨s,s',e1,e2,hs⟩
 ·rw[e1,e2];exact zai.halt
 rcases h.get? 1 with ⟨e3,e4⟩|⟨x,x',e3,e4,hx⟩
 ·rw[e1,e2,e3,e4];exact zai.halt
 rw[e1,e2,e3,e4]
 dsimp only
 refine zac (zal t0) ?_
 rintro R1 hR1 d _ rfl
 replace hs:=hs.mono hR1
 replace hx:=hx.mono hR1
 cases d with
 | slice elem =>
  have hbase:∃ base base' n m,s=.slice base n m/\s'=.slice base' n m/\((base=none/\base'=none)\/(∃ x x',base=some x/\base'=some x'/\zbQ R1 x x')\/∃ x x',base=some x/\base'=some x'/\n=0/\m=0)\/∀ b n m,s≠.slice b n m:=by
   cases hs with
   | slice n m ha=>exact⟨_,_,n,m,Or.inl ⟨rfl,rfl,Or.inr (Or.inl ⟨_,_,rfl,rfl,ha⟩)⟩⟩
   | empty a c=>exact⟨_,_,0,0,Or.inl ⟨rfl,rfl,Or.inr (Or.inr ⟨_,_,rfl,rfl,rfl,rfl⟩)⟩⟩
   | nilSlice n m=>exact⟨none,none,n,m,Or.inl ⟨rfl,rfl,Or.inl ⟨rfl,rfl⟩⟩⟩
   | _=>exact⟨none,none,0,0,Or.inr (fun _ _ _ q=>by cases q)⟩
  obtain⟨base,base',sLen,sCap,hb|hb⟩:=hbase
  ·obtain⟨rfl,rfl,hb⟩:=hb
   dsimp only
   refine zac (zaH elem) ?_
   rintro R2 hR2 size _ rfl
   refine zac (zsF hm2) ?_
   rintro R3 hR3 _ _ ⟨rfl,rfl⟩
   rename_i dd
   refine zac (Q:=fun _ a b=>a=false/\b=false) (zae ⟨?_,?_⟩) ?_
   ·revert hm3
    clear hm2
    intro hm3
    cases dd <;> first|rfl|exact absurd rfl (hm3 _)
   ·revert hm3
    clear hm2
    intro hm3
    cases dd <;> first|rfl|exact absurd rfl (hm3 _)
   rintro R3' hR3' _ _ ⟨rfl,rfl⟩
   replace hR3:=BR.le_trans hR3 hR3'
   show zai L M QV R3' (Builtin.lenOf x >>= _) (Builtin.lenOf x' >>= _)
   refine zac (zf8 ((hx.mono hR2).mono hR3)) ?_
   rintro R4 hR4 n _ ⟨rfl,hn0⟩
   have hx4:=((hx.mono hR2).mono hR3).mono hR4
   have hs4:=((hs.mono hR2).mono hR3).mono hR4
   have hb4:(base=none/\base'=none)\/(∃ x x',base=some x/\base'=some x'/\zbQ R4 x x')\/∃ x x',base=some x/\base'=some x'/\sLen=0/\sCap=0:=by
    rcases hb with hb|⟨a,a',q1,q2,q3⟩|hb
    ·exact Or.inl hb
    ·exact Or.inr (Or.inl ⟨a,a',q1,q2,((q3.mono hR2).mono hR3).mono hR4⟩)
    ·exact Or.inr (Or.inr hb)
   refine zaW (fun hneed=>?_) (fun _=>?_)
   ·have hb5:((base=none/\base'=none)\/∃ x x',base=some x/\base'=some x'/\zbQ R4 x x')\/∃ x x',base=some x/\base'=some x'/\sLen=0/\sCap=0:=by
     rcases hb4 with h|h|h
     ·exact Or.inl (Or.inl h)
     ·exact Or.inl (Or.inr h)
     ·exact Or.inr h
    clear hb4
    rcases hb5 with hb4|⟨a,a',rfl,rfl,rfl,rfl⟩
    rotate_left
    ·obtain rfl:n=0:=by omega
     refine zac (zdv size hx4) ?_
     rintro R5 hR5 c c' ⟨rfl,rfl⟩
     exact zae (.empty _ _)
    refine zac (zbu size n hx4 hn0) ?_
    intro R5 hR5 c c' hc
    rcases hb4 with ⟨rfl,rfl⟩|⟨a,a',rfl,rfl,ha⟩
    ·exact zae (.nilSlice _ _)
    ·refine zac (zcH ((ha.mono hR5).add _) (zaz.all hc) 0) ?_
     intro R6 hR6 _ _ _
     exact zae (.slice _ _ ((ha.mono hR5).mono hR6))
   ·have tail:∀ R5:BR,R4.le R5->zai L M QV R5
      (choose (Question.appendCap (sLen+n) sCap elem) >>= fun newCap=>typeInfo elem >>= fun i=>askRoom (newCap * i.bytes) >>= fun _=>Builtin.firstCells size sLen (Value.slice base sLen sCap) >>= fun old =>
       Builtin.firstCells size n x >>= fun new=>zeroValue elem >>= fun z=>newRow elem (old++new++Builtin.zeroCells z.cells (newCap - (sLen+n))) >>= fun a=>pure (Value.slice (some a) (sLen+n) newCap))
      (choose (Question.appendCap (sLen+n) sCap elem) >>= fun newCap=>typeInfo elem >>= fun i=>askRoom (newCap * i.bytes) >>= fun _=>Builtin.firstCells size sLen (Value.slice base' sLen sCap) >>= fun old =>
       Builtin.firstCells size n x' >>= fun new=>zeroValue elem >>= fun z=>newRow elem (old++new++Builtin.zeroCells z.cells (newCap - (sLen+n))) >>= fun a=>pure (Value.slice (some a) (sLen+n) newCap)):=by
     intro R5 hR5
     refine zac (Q:=QEq) (.choose fun n=>.pure rfl) ?_
     rintro R6 hR6 newCap _ rfl
     refine zac (zbk elem) ?_
     rintro R7 hR7 i _ rfl
     refine zac (zgZ _) ?_
     rintro R8 hR8 _ _ _
     have up:R4.le R8:=BR.le_trans hR5 (BR.le_trans hR6 (BR.le_trans hR7 hR8))
     refine zac (zbu size sLen (hs4.mono up) (fun a e=>by cases e;rfl)) ?_
     intro R9 hR9 c c' hc
     refine zac (zbu size n ((hx4.mono up).mono hR9) hn0) ?_
     intro R10 hR10 e e' he
     refine zac (zbm hz elem) ?_
     intro R11 hR11 z z' hzz
     refine zac (zek elem ((((hc.mono hR10).mono hR11).app (he.mono hR11)).app (hzz.cells.zeros _))) ?_
     intro R12 hR12 a a' ha
     exact zae (.slice _ _ ha)
    refine zac (zbk elem) ?_
    rintro R5 hR5 i _ rfl
    refine zaW (fun _=>zai.never (zat (zaq _))) (fun _=>?_)
    refine zac (zbk elem) ?_
    rintro R6 hR6 i _ rfl
    refine zaW (fun _=>zai.never (zat (zav fun b=>?_))) (fun _=>tail R6 (BR.le_trans hR5 hR6))
    split
    ·exact zav fun _=>zap
    ·exact zap
  ·cases s <;> first|exact absurd rfl (hb _ _ _)|exact zai.halt
 | _=>exact zai.halt
theorem zrS[low:zaF][Twin L M]{R:BR}(ts:Array TypeId)(ty:TypeId)(h:zaz R as as'):zai L M QV R (Builtin.copy_ ts ty as) (Builtin.copy_ ts ty as'):=by
 unfold Builtin.copy_
 cases ts[0]? with
 | none=>exact zai.halt
 | some t0 =>
 rcases h.get? 0 with ⟨e1,e2⟩|⟨s,s',e1,e2,hs⟩
 ·rw[e1,e2];exact zai.halt
 rcases h.get? 1 with ⟨e3,e4⟩|⟨x,x',e3,e4,hx⟩
 ·rw[e1,e2,e3,e4];exact zai.halt
 rw[e1,e2,e3,e4]
 dsimp only
 refine zac (zal t0) ?_
 rintro R1 hR1 d _ rfl
 replace hs:=hs.mono hR1
 replace hx:=hx.mono hR1
 cases d with
 | slice elem =>
  cases hs with
  | empty a c =>
   refine zac (zqw hx) ?_
   rintro R2 hR2 k _ rfl
   refine zac (zaH elem) ?_
   rintro R3 hR3 size _ rfl
   rw[show Nat.min k 0=0 from Nat.min_zero k]
   refine zac (zdv size ((hx.mono hR2).mono hR3)) ?_
   rintro R4 hR4 c c' ⟨rfl,rfl⟩
   exact zae (.int _ _)
  | slice n m ha =>
   refine zac (zf8 hx) ?_
   rintro R2 hR2 k _ ⟨rfl,hk0⟩
   refine zac (zaH elem) ?_
   rintro R3 hR3 size _ rfl
   refine zac (zbu size _ ((hx.mono hR2).mono hR3) (fun a e=>by rw[hk0 a e];exact Nat.zero_min _)) ?_
   intro R4 hR4 c c' hc
   refine zac (zcH (((ha.mono hR2).mono hR3).mono hR4) (zaz.all hc) 0) ?_
   intro R5 hR5 _ _ _
   exact zae (.int _ _)
  | nilSlice n m =>
   refine zac (zf8 hx) ?_
   rintro R2 hR2 k _ ⟨rfl,hk0⟩
   refine zac (zaH elem) ?_
   rintro R3 hR3 size _ rfl
   refine zac (zbu size _ ((hx.mono hR2).mono hR3) (fun a e=>by rw[hk0 a e];exact Nat.zero_min _)) ?_
   intro R4 hR4 c c' hc
   exact zae (.int _ _)
  | _=>exact zai.halt
 | _=>exact zai.halt
theorem zc9[low:zaF]{R:BR}(h:R r r'):zai L M (fun R o o'=>zo9 R o o'/\∀ c n,o=.map c n->low.low<=r) R (getObj r) (getObj r') :=
 .getObj h fun _ _ _ _ hc hn=>.pure ⟨hc,hn⟩
theorem zi5[low:zaF]{R:BR}(hx:low.low<=r)(h:R r r'){c c':Array MapEntry}(n:Nat)(hc:zcO R c c'):zai L M QEq R (setObj r (.map c n)) (setObj r' (.map c' n)):=.setObj hx h hc (.pure rfl)
theorem zsD[low:zaF][Twin L M]{R:BR}(ts:Array TypeId)(ty:TypeId)(h:zaz R as as'):zai L M QV R (Builtin.len_ ts ty as) (Builtin.len_ ts ty as'):=by
 unfold Builtin.len_
 cases ts[0]? with
 | none=>exact zai.halt
 | some t0 =>
 rcases h.get? 0 with ⟨e1,e2⟩|⟨s,s',e1,e2,hs⟩
 ·rw[e1,e2];exact zai.halt
 rw[e1,e2]
 dsimp only
 refine zac (zal t0) ?_
 rintro R1 hR1 d _ rfl
 replace hs:=hs.mono hR1
 cases d with
 | string=>cases hs <;> first|exact zae (.int _ _)|exact zai.halt
 | slice e=>cases hs <;> first|exact zae (.int _ _)|exact zai.halt
 | array n e=>cases hs <;> exact zae (.int _ _)
 | map k e =>
  cases hs with
  | map hr =>
   refine zac (zc9 hr) ?_
   rintro R2 hR2 _ _ ⟨@⟨c,c',n,hc⟩|_|_,_⟩
   rotate_left
   ·exact zai.halt
   ·exact zai.halt
   dsimp only
   rw[hc.1]
   exact zae (.int _ _)
  | nilMap=>exact zae (.int _ _)
  | _=>exact zai.halt
 | pointer arr =>
  have hh:zai L M QV R1 (underlying arr >>= fun d=>match d with|.array n _=>pure (goInt n)|_=>stuck "len: pointer to array expected") (underlying arr >>= fun d=>match d with|.array n _=>pure (goInt n)|_=>stuck "len: pointer to array expected"):=by
   refine zac (zal arr) ?_
   rintro R2 hR2 d _ rfl
   split
   ·exact zae (.int _ _)
   ·exact zai.halt
  cases hs <;> exact hh
 | chan _ _=>cases hs <;> first|exact zae (.int _ _)|exact zai.halt
 | _=>cases hs <;> exact zai.halt
theorem zsB[low:zaF][Twin L M]{R:BR}(ts:Array TypeId)(ty:TypeId)(h:zaz R as as'):zai L M QV R (Builtin.cap_ ts ty as) (Builtin.cap_ ts ty as'):=by
 unfold Builtin.cap_
 cases ts[0]? with
 | none=>exact zai.halt
 | some t0 =>
 rcases h.get? 0 with ⟨e1,e2⟩|⟨s,s',e1,e2,hs⟩
 ·rw[e1,e2];exact zai.halt
 rw[e1,e2]
 dsimp only
 refine zac (zal t0) ?_
 rintro R1 hR1 d _ rfl
 replace hs:=hs.mono hR1
 cases d with
 | slice e=>cases hs <;> first|exact zae (.int _ _)|exact zai.halt
 | array n e=>cases hs <;> exact zae (.int _ _)
 | pointer arr =>
  have hh:zai L M QV R1 (underlying arr >>= fun d=>match d with|.array n _=>pure (goInt n)|_=>stuck "cap: pointer to array expected") (underlying arr >>= fun d=>match d with|.array n _=>pure (goInt n)|_=>stuck "cap: pointer to array expected"):=by
   refine zac (zal arr) ?_
   rintro R2 hR2 d _ rfl
   split
   ·exact zae (.int _ _)
   ·exact zai.halt
  cases hs <;> exact hh
 | chan _ _=>cases hs <;> first|exact zae (.int _ _)|exact zai.halt
 | _=>cases hs <;> exact zai.halt
theorem zoK[low:zaF]{α β:Type}{f:α->Sem β}(hf:∀ a R',zai L M QEq R' (f a) (f a)):∀(as:List α) (R:BR),zai L M QEq R (as.mapM f) (as.mapM f)
 | [],R=>by rw[List.mapM_nil];exact zae rfl
 | a::as,R=>by
  rw[List.mapM_cons]
  refine zac (hf a R) ?_
  rintro R1 hR1 b _ rfl
  refine zac (zoK hf as R1) ?_
  rintro R2 hR2 bs _ rfl
  exact zae rfl
theorem zrT[low:zaF]{α β:Type}{R:BR}{f:α->Sem β}(hf:∀ a R',zai L M QEq R' (f a) (f a))(as:Array α):zai L M QEq R (as.mapM f) (as.mapM f):=by
 rw[Array.mapM_eq_mapM_toList,<- bind_pure_comp]
 exact zac (zoK hf as.toList R) fun _ _ _ _ e=>zae (by rw[e])
theorem zqt[low:zaF][Twin L M](hz:zbo L){R:BR}(t:TypeId)(h:zo2 R ps.toList ps'.toList):zai L M QV R (Instr.build t ps) (Instr.build t ps'):=by
 unfold Instr.build
 refine zac (zbm hz t) ?_
 intro R1 hR1 z z' hzz
 refine zac (zal t) ?_
 rintro R2 hR2 d _ rfl
 have hzc:=(hzz.mono hR2).cells
 replace h:=(h.mono hR1).mono hR2
 cases d with
 | struct fields =>
  refine zac (zrT (fun f R'=>zac (zaH f.type) fun _ _ _ _ e=>zae (by rw[e])) fields) ?_
  rintro R3 hR3 places _ rfl
  rcases zhr (places[·]?) (h.mono hR3) (hzc.mono hR3) with hf|⟨d,d',e1,e2,hd⟩
  ·rw[hf];exact zai.halt
  ·rw[e1,e2]
   exact zae (.agg hd.1 hd.2)
 | array n elem =>
  refine zac (zaH elem) ?_
  rintro R3 hR3 size _ rfl
  rcases zhr (fun i=>some (i * size,size)) (h.mono hR3) (hzc.mono hR3) with hf|⟨d,d',e1,e2,hd⟩
  ·rw[hf];exact zai.halt
  ·rw[e1,e2]
   exact zae (.agg hd.1 hd.2)
 | _=>exact zai.halt
theorem zaz.two{R:BR}{u':Value}(h:zao R v v')(h2:zao R u u'):zaz R #[v,u] #[v',u']:=(zaz.one h).push h2
theorem zaz.tup{R:BR}(h:zaz R c c'):zao R (.tuple c) (.tuple c'):=.tuple h.1 h.2
theorem zhW[low:zaF][Twin L M](hz:zbo L){R:BR}(h:zao R x x')(t a:TypeId)(ok:Bool):zai L M QV R (Instr.typeAssert x t a ok) (Instr.typeAssert x' t a ok):=by
 have holds:∀ {R:BR} {v v':Value},zao R v v'->zai L M QV R (pure (if ok=true then .tuple #[v,.bool true] else v)) (pure (if ok=true then .tuple #[v',.bool true] else v')):=by
  intro R v v' hv
  cases ok
  ·exact zae hv
  ·exact zae (zaz.two hv (.bool true)).tup
 have fails:∀ {R:BR} (e:RuntimeError),zai L M QV R (if ok=true then (zeroValue a >>= fun z=>pure (.tuple #[z,.bool false])) else runtimePanic e) (if ok=true then (zeroValue a >>= fun z=>pure (.tuple #[z,.bool false])) else runtimePanic e):=by
  intro R e
  cases ok
  ·exact zai.never (zaq e)
  ·exact zac (zbm hz a) fun _ _ _ _ hv=>zae (zaz.two hv (.bool false)).tup
 unfold Instr.typeAssert
 refine zac (zal a) ?_
 rintro R1 hR1 d _ rfl
 replace h:=h.mono hR1
 cases h with
 | nilIface=>cases d <;> exact fails _
 | @iface t' v v' hv =>
  cases d with
  | interface want =>
   refine zac (zbk t') ?_
   rintro R2 hR2 i _ rfl
   split
   ·exact holds (.iface t' (hv.mono hR2))
   ·exact fails _
  | _=>exact zaW (fun _=>holds hv) (fun _=>fails _)
 | _=>cases d <;> exact zai.halt
theorem zkh[low:zaF]{R:BR}{fn:Fn}(hf:znr fn=true){a a':Array Value}(h:zaz R a a')(h2:zaz R c c'):zai L M QV R (Instr.makeFunc fn a c) (Instr.makeFunc fn a' c'):=zae (.func fn hf h.1 h.2 h2.1 h2.2)
theorem zmy[low:zaF][Twin L M]{R:BR}(t:TypeId){o o':Option Value}(h:zcr R o o'):zai L M QV R (Instr.makeMap t o) (Instr.makeMap t o'):=by
 have tail:∀ R:BR,zai L M QV R (newObj (.map #[] 0) >>= fun r=>pure (.map (some r))) (newObj (.map #[] 0) >>= fun r=>pure (.map (some r))):=fun R =>
  zac (zga (.other (.map ⟨rfl,fun i h=>absurd h (by simp)⟩) (fun _ _ _ q=>q))) fun _ _ _ _ hr=>zae (.map hr)
 unfold Instr.makeMap
 rcases h with ⟨rfl,rfl⟩|⟨v,v',rfl,rfl,hv⟩
 ·exact tail R
 ·refine zac (zal t) ?_
  rintro R1 hR1 d _ rfl
  cases d with
  | map _ _ =>
   refine zac (zej (hv.mono hR1)) ?_
   rintro R2 hR2 n _ rfl
   exact tail R2
  | _=>exact zai.halt
theorem zhI{α β:Type}{s:Sem α}[S:zaN P s]{f:α->Sem β}(Q:α->Prop)(hs:∀ w x w',s.run P w=.ok x w'->Q x)(hf:∀ a,Q a->zcz P (f a)):zcz P (s >>= f):=fun w=>by
 rw[Sem.run_bind]
 cases hr:s.run P w with
 | ok y v=>exact hf y (hs w y v hr) v
 | halt hh v=>exact⟨hh,v,rfl,S.soft w hh v hr⟩
instance softly_numberAt {P:Program} (r:Nat):zaN P (numberAt r):=by
 unfold numberAt
 have:∀ o:Obj,zaN P (match o with|.number a lost=>(pure (some (a,lost)):Sem (Option (Addr × Bool)))|_=>pure none):=fun o=>by split <;> infer_instance
 infer_instance
instance softly_behind {P:Program} (a:Addr):zaN P (behindNumber a):=by
 unfold behindNumber
 infer_instance
theorem run_program{x:Program}(h:(program).run P w=.ok x w'):x=P:=by
 simp[program,Sem.run] at h
 exact h.1.symm
theorem run_typeInfo{x:TypeInfo}(h:(typeInfo t).run P w=.ok x w'):P.info? t=some x:=by
 unfold typeInfo at h
 rw[Sem.run_bind] at h
 simp only[program,Sem.run,Result.andThen] at h
 cases hi:P.info? t with
 | none=>rw[hi] at h;simp[stuck] at h
 | some i=>rw[hi] at h;simp[pure] at h;rw[h.1]
def zhJ(L:Program)(t:TypeId):Bool:=match L.info? t with
 | some i=>(match i.desc with|.named n _=>n != "sync.copyChecker"|_=>true)
 | none=>true
def zq0(L:Program):Nat->TypeId->Bool
 | 0,_=>false
 | d+1,t=>match L.underlying t with
  | some .bool|some .string|some (.slice _)|some (.map ..)|some (.func ..)=>true
  | some (.int _)=>zhJ L t
  | some (.struct fs)=>!L.stoodInHeld t && fs.all fun f=>zq0 L d f.type
  | _=>false
class zbA(L M:Program):Prop extends Twin L M where
 stood:∀ t,M.stoodInHeld t=L.stoodInHeld t
 eqg:∀ d t,M.eqGuardType d t=L.eqGuardType d t
 depth:M.depth=L.depth
 globals:L.globals.size=0
 boc:∀ d e n,byteOfCell M d e n=byteOfCell L d e n
 cab:∀ d e c o n,cellAtBytes M d e c o n=cellAtBytes L d e c o n
theorem zoD[low:zaF]{α β:Type}{Q:BR->β->β->Prop}(hQ:∀ R R':BR,R.le R'->∀ a b,Q R a b->Q R' a b){f f':α->β->Sem (ForInStep β)}:∀(as:List α) (R:BR) (b b':β),Q R b b' ->
  (∀ a∈as,∀ R':BR,R.le R'->∀ c c',Q R' c c'->zai L M (fun R x x'=>(∃ d d',x=.done d/\x'=.done d'/\Q R d d')\/(∃ d d',x=.yield d/\x'=.yield d'/\Q R d d')) R' (f a c) (f' a c')) ->
  zai L M Q R (forIn as b f) (forIn as b' f')
 | [],R,b,b',h,_=>by rw[List.forIn_nil,List.forIn_nil];exact zae h
 | a::as,R,b,b',h,hf=>by
  rw[List.forIn_cons,List.forIn_cons]
  refine zac (hf a (by simp) R (BR.le_refl R) b b' h) ?_
  rintro R1 hR1 x x' (⟨d,d',rfl,rfl,hd⟩|⟨d,d',rfl,rfl,hd⟩)
  ·exact zae hd
  ·exact zoD hQ as R1 d d' hd (fun a ha R' hR'=>hf a (by simp[ha]) R' (BR.le_trans hR1 hR'))
theorem zeQ(hg:P.globals.size=0)(ht:zhJ P t=true)(a b:Addr):zcz P (do
   let (a,b):=((<- behindNumber a).1,(<- behindNumber b).1)
   if a.block == b.block && a.block<(<- program).globals.size then return (<- byteOf a) == (<- byteOf b)
   let .named "sync.copyChecker" _:=(<- typeInfo t).desc|unsupported .addressObserved
   if a == b then pure true else unsupported .addressObserved:Sem Bool):=by
 refine zav fun p=>zav fun q=>zhI (fun x=>x=P) (fun w x w' h=>run_program h) ?_
 intro y hy
 rw[hy]
 have e:¬ ((p.fst.block == q.fst.block && decide (p.fst.block<P.globals.size))=true):=by rw[hg];simp
 simp only[e]
 refine zhI (fun i=>P.info? t=some i) (fun w x w' h=>run_typeInfo h) ?_
 intro i hi
 have hd:∀ u,i.desc≠.named "sync.copyChecker" u:=by
  intro u q
  simp[zhJ,hi,q] at ht
 split
 ·rename_i u hu
  exact absurd hu (hd _)
 ·exact zap
theorem zmu[low:zaF][T:zbA L M]:∀(D d:Nat) (t:TypeId),zq0 L d t=true->∀(R:BR) {x x' y y':Value},zao R x x'->zao R y y'->zai L M QEq R (Op.equalIn D t x y) (Op.equalIn D t x' y'):=by
 intro D
 induction D with
 | zero=>exact fun d t _ R x x' y y' _ _=>zai.halt
 | succ D ih =>
  intro d t ht R x x' y y' hx hy
  cases d with
  | zero=>simp[zq0] at ht
  | succ d =>
  unfold Op.equalIn
  refine zac (zaJ t) ?_
  rintro R1 hR1 ds _ ⟨rfl,hds⟩
  replace hx:=hx.mono hR1
  replace hy:=hy.mono hR1
  simp only[zq0,hds] at ht
  cases ds with
  | bool=>cases hx <;> cases hy <;> first|exact zae rfl|exact zai.halt
  | string=>cases hx <;> cases hy <;> first|exact zae rfl|exact zai.halt
  | int k =>
   have hn:∀ a b:Addr,zcz L (do
     let (a,b):=((<- behindNumber a).1,(<- behindNumber b).1)
     if a.block == b.block && a.block<(<- program).globals.size then return (<- byteOf a) == (<- byteOf b)
     let .named "sync.copyChecker" _:=(<- typeInfo t).desc|unsupported .addressObserved
     if a == b then pure true else unsupported .addressObserved:Sem Bool):=fun a b=>zeQ T.globals ht a b
   cases hx with
   | int k1 n1 =>
    cases hy with
    | int k2 n2=>exact zaW (fun _=>zae rfl) (fun _=>zai.halt)
    | ptr h =>
     cases n1 with
     | ofNat m=>cases m <;> first|exact zae rfl|exact zai.halt
     | negSucc m=>exact zai.halt
    | nilPtr =>
     cases n1 with
     | ofNat m=>cases m <;> exact zai.halt
     | negSucc m=>exact zai.halt
    | _=>exact zai.halt
   | ptr h =>
    cases hy with
    | int k2 n2 =>
     cases n2 with
     | ofNat m=>cases m <;> first|exact zae rfl|exact zai.halt
     | negSucc m=>exact zai.halt
    | ptr h2=>exact zai.never (hn _ _)
    | _=>exact zai.halt
   | nilPtr =>
    cases hy with
    | int k2 n2 =>
     cases n2 with
     | ofNat m=>cases m <;> exact zai.halt
     | negSucc m=>exact zai.halt
    | _=>exact zai.halt
   | _=>cases hy <;> exact zai.halt
  | slice e=>cases hx <;> cases hy <;> first|exact zae rfl|exact zai.halt
  | map k e=>cases hx <;> cases hy <;> first|exact zae rfl|exact zai.halt
  | func a b c=>cases hx <;> cases hy <;> first|exact zae rfl|exact zai.halt
  | struct fields =>
   cases hx with
   | agg h1 h2 =>
    cases hy with
    | agg h3 h4 =>
     refine zac zaV ?_
     rintro R2 hR2 p p' ⟨rfl,rfl⟩
     simp only[Bool.and_eq_true,Bool.not_eq_true',Array.all_eq_true_iff_forall_mem] at ht
     rw[T.stood,ht.1]
     simp only[Bool.false_eq_true,if_false]
     rw[<- Array.forIn_toList,<- Array.forIn_toList]
     refine zac (zoD (Q:=QEq) (fun _ _ _ _ _ e=>e) fields.toList R2 _ _ rfl ?_) ?_
     ·rintro f hf R3 hR3 c _ rfl
      refine zaW (fun _=>?_) (fun _=>zae (Or.inr ⟨_,_,rfl,rfl,rfl⟩))
      refine zac (zgc f.type (zaz.mono hR3 (zaz.mono hR2 ⟨h1,h2⟩)) _) ?_
      intro R4 hR4 u u' hu
      refine zac (zgc f.type (zaz.mono hR4 (zaz.mono hR3 (zaz.mono hR2 ⟨h3,h4⟩))) _) ?_
      intro R5 hR5 v v' hv
      refine zac (ih d f.type (ht.2 f (by simpa using hf)) R5 (hu.mono hR5) hv) ?_
      rintro R6 hR6 b _ rfl
      refine zaW (fun _=>zae (Or.inl ⟨_,_,rfl,rfl,rfl⟩)) (fun _=>zae (Or.inr ⟨_,_,rfl,rfl,rfl⟩))
     ·rintro R3 hR3 c _ rfl
      split <;> exact zae rfl
    | _=>exact zai.halt
   | _=>cases hy <;> exact zai.halt
  | _=>simp at ht
def zjN(L:Program)(t:TypeId):Bool:=match L.underlying t with
 | some .bool|some .string=>true
 | some (.int _)=>zhJ L t
 | _=>false
theorem zf4[low:zaF][Twin L M]{R:BR}(h:zjN L t=true)(b:Bool)(n:Nat)(hv:zao R v v'):zai L M QEq R (Instr.checkKey b (n+1) t v) (Instr.checkKey b (n+1) t v'):=by
 unfold Instr.checkKey
 refine zac (zaJ t) ?_
 rintro R1 hR1 d _ ⟨rfl,hd⟩
 simp only[zjN,hd] at h
 cases d <;> first|(simp at h;done)|(cases hv <;> exact zae rfl)
abbrev QF:BR->Option (Nat × Value)->Option (Nat × Value)->Prop:=fun R a b=>(a=none/\b=none)\/∃ i v v',a=some (i,v)/\b=some (i,v')/\zao R v v'
inductive zdO(R:BR):List MapEntry->List MapEntry->Prop
 | nil:zdO R [] []
 | cons {v v':MapEntry} {r r':List MapEntry}:zo8 R v v'->zdO R r r'->zdO R (v::r) (v'::r')
theorem zdO.mono{R R':BR}(hR:R.le R'){l l':List MapEntry}(h:zdO R l l'):zdO R' l l':=by
 induction h with
 | nil=>exact .nil
 | cons hv _ ih=>exact .cons (hv.mono hR) ih
theorem zdO.of_get{R:BR}:∀(l l':List MapEntry),l.length=l'.length->(∀ i (h:i<l.length) (h':i<l'.length),zo8 R l[i] l'[i])->zdO R l l'
 | [],[],_,_=>.nil
 | [],_::_,h,_=>by simp at h
 | _::_,[],h,_=>by simp at h
 | v::r,v'::r',h,hg=>.cons (hg 0 (by simp) (by simp)) (zdO.of_get r r' (by simpa using h) (fun i h1 h2=>hg (i+1) (Nat.succ_lt_succ h1) (Nat.succ_lt_succ h2)))
theorem zcO.all{R:BR}{c c':Array MapEntry}(h:zcO R c c'):zdO R c.toList c'.toList :=
 zdO.of_get _ _ (by simpa using h.1) (fun i h1 h2=>by simpa using h.2 i (by simpa using h1) (by simpa using h2))
def zjj:Value->Bool
 | .bool _|.int _ _|.string _=>true
 | _=>false
theorem zfY(d:TypeDesc)(h:zjj k=false)(e:Value):Instr.sameNow d k e=none:=by
 cases k <;> first|(cases h;done)|(cases d <;> rfl)
theorem zfZ(d:TypeDesc)(k:Value){e:Value}(h:zjj e=false):Instr.sameNow d k e=none:=by
 cases e <;> first|(cases h;done)|(cases d <;> first|rfl|(cases k <;> rfl))
theorem zgO(h:zfu v=true):zjj v=false:=by cases v with|bool b=>cases h|int k n=>cases h|string s=>cases h|_=>rfl
theorem znN{R:BR}(h:zao R v v')(hk:zjj v=true):v'=v:=by cases h <;> first|rfl|(cases hk;done)
def KF(k:Value)(es:List MapEntry)(i:Nat)(a:Option (Nat × Value)):Prop:=∀ j v,a=some (j,v)->zjj k=true/\i<=j/\∃ e,es[j - i]?=some e/\zjj e.key=true
theorem KF.none(k:Value)(es:List MapEntry)(i:Nat):KF k es i none:=fun _ _ q=>by cases q
theorem KF.here{e:MapEntry}{es:List MapEntry}(hk:zjj k=true)(he:zjj e.key=true)(v:Value):KF k (e::es) i (some (i,v)):=fun j u q=>by
 cases q
 exact⟨hk,Nat.le_refl _,e,by simp,he⟩
theorem KF.next{e:MapEntry}{es:List MapEntry}{a:Option (Nat × Value)}(h:KF k es (i+1) a):KF k (e::es) i a:=fun j v q=>by
 obtain⟨h1,h2,e',h3,h4⟩:=h j v q
 refine⟨h1,by omega,e',?_,h4⟩
 have:j - i=(j - (i+1))+1:=by omega
 rw[this,List.getElem?_cons_succ]
 exact h3
theorem zkg[low:zaF][T:zbA L M](D:Nat)(ht:zjN L t=true)(R:BR)(hx:zao R x x')(hy:zao R y y'):zai L M (fun _ a b=>a=b/\(a=true->zjj x=true/\zjj y=true)) R (Op.equalIn D t x y) (Op.equalIn D t x' y'):=by
 cases D with
 | zero=>exact zai.halt
 | succ D =>
 unfold Op.equalIn
 refine zac (zaJ t) ?_
 rintro R1 hR1 ds _ ⟨rfl,hds⟩
 replace hx:=hx.mono hR1
 replace hy:=hy.mono hR1
 simp only[zjN,hds] at ht
 cases ds with
 | bool=>cases hx <;> cases hy <;> first|exact zae ⟨rfl,fun _=>⟨rfl,rfl⟩⟩|exact zai.halt
 | string=>cases hx <;> cases hy <;> first|exact zae ⟨rfl,fun _=>⟨rfl,rfl⟩⟩|exact zai.halt
 | int k =>
  have hn:∀ a b:Addr,zcz L (do
    let (a,b):=((<- behindNumber a).1,(<- behindNumber b).1)
    if a.block == b.block && a.block<(<- program).globals.size then return (<- byteOf a) == (<- byteOf b)
    let .named "sync.copyChecker" _:=(<- typeInfo t).desc|unsupported .addressObserved
    if a == b then pure true else unsupported .addressObserved:Sem Bool):=fun a b=>zeQ T.globals ht a b
  cases hx with
  | int k1 n1 =>
   cases hy with
   | int k2 n2=>exact zaW (fun _=>zae ⟨rfl,fun _=>⟨rfl,rfl⟩⟩) (fun _=>zai.halt)
   | ptr h =>
    cases n1 with
    | ofNat m=>cases m <;> first|exact zae ⟨rfl,fun q=>(by cases q)⟩|exact zai.halt
    | negSucc m=>exact zai.halt
   | nilPtr =>
    cases n1 with
    | ofNat m=>cases m <;> exact zai.halt
    | negSucc m=>exact zai.halt
   | _=>exact zai.halt
  | ptr h =>
   cases hy with
   | int k2 n2 =>
    cases n2 with
    | ofNat m=>cases m <;> first|exact zae ⟨rfl,fun q=>(by cases q)⟩|exact zai.halt
    | negSucc m=>exact zai.halt
   | ptr h2=>exact zai.never (hn _ _)
   | _=>exact zai.halt
  | nilPtr =>
   cases hy with
   | int k2 n2 =>
    cases n2 with
    | ofNat m=>cases m <;> exact zai.halt
    | negSucc m=>exact zai.halt
   | _=>exact zai.halt
  | _=>cases hy <;> exact zai.halt
 | _=>simp at ht
abbrev QFK(k:Value)(es:List MapEntry)(i:Nat):BR->Option (Nat × Value)->Option (Nat × Value)->Prop:=fun R a b=>QF R a b/\KF k es i a
theorem zhV[low:zaF][zbA L M](ht:zjN L t=true){R0:BR}{es es':List MapEntry}(h:zdO R0 es es'):∀ {R:BR},R0.le R->∀ {k k':Value},zao R k k'->∀ i,zai L M (QFK k es i) R (Instr.findAsking t k es i) (Instr.findAsking t k' es' i):=by
 induction h with
 | nil=>exact fun _ _ _ _ _=>zae ⟨Or.inl ⟨rfl,rfl⟩,KF.none _ _ _⟩
 | cons he _ ih =>
  intro R hR k k' hk i
  unfold Instr.findAsking
  refine zac (zkg _ ht R hk (he.key.mono hR)) ?_
  rintro R1 hR1 b _ ⟨rfl,hb⟩
  cases b
  ·exact(ih (BR.le_trans hR hR1) (hk.mono hR1) (i+1)).imp fun R a b q=>⟨q.1,q.2.next⟩
  ·exact zae ⟨Or.inr ⟨_,_,_,rfl,rfl,(he.val.mono hR).mono hR1⟩,KF.here (hb rfl).1 (hb rfl).2 _⟩
theorem zj8{R:BR}(d:TypeDesc){e e':Value}(hk:zao R k k')(he:zao R e e'):Instr.sameNow d k e=Instr.sameNow d k' e':=by
 by_cases q1:∃ h:zfu k'=true,k=.tuple #[]
 ·obtain⟨h,rfl⟩:=q1
  rw[zfY d rfl,zfY d (zgO h)]
 by_cases q2:∃ h:zfu e'=true,e=.tuple #[]
 ·obtain⟨h,rfl⟩:=q2
  rw[zfZ d k rfl,zfZ d k' (zgO h)]
 cases hk with
 | junk _ h=>exact absurd ⟨h,rfl⟩ q1
 | _ =>
  cases he with
  | junk _ h=>exact absurd ⟨h,rfl⟩ q2
  | _=>cases d <;> rfl
theorem zjF{R:BR}(d:TypeDesc)(hk:zao R k k'){es es':List MapEntry}(h:zdO R es es'):∀ i,(Instr.findNow d k es i=none/\Instr.findNow d k' es' i=none)\/∃ r r',Instr.findNow d k es i=some r/\Instr.findNow d k' es' i=some r'/\QF R r r':=by
 induction h with
 | nil=>exact fun i=>Or.inr ⟨_,_,rfl,rfl,Or.inl ⟨rfl,rfl⟩⟩
 | cons he _ ih =>
  intro i
  unfold Instr.findNow
  rw[<- zj8 d hk he.key]
  cases Instr.sameNow d k _ with
  | none=>exact Or.inl ⟨rfl,rfl⟩
  | some b =>
   cases b
   ·exact ih (i+1)
   ·exact Or.inr ⟨_,_,rfl,rfl,Or.inr ⟨_,_,_,rfl,rfl,he.val⟩⟩
theorem zfX{d:TypeDesc}{e:Value}(h:Instr.sameNow d k e=some b):zjj k=true/\zjj e=true:=by
 refine⟨?_,?_⟩
 ·cases q:zjj k with
  | true=>rfl
  | false=>rw[zfY d q] at h;cases h
 ·cases q:zjj e with
  | true=>rfl
  | false=>rw[zfZ d k q] at h;cases h
theorem zjE(d:TypeDesc)(k:Value):∀(es:List MapEntry) (i:Nat) (r:Option (Nat × Value)),Instr.findNow d k es i=some r->KF k es i r:=by
 intro es
 induction es with
 | nil=>intro i r h;cases h;exact KF.none _ _ _
 | cons e es ih =>
  intro i r h
  unfold Instr.findNow at h
  cases hs:Instr.sameNow d k e.key with
  | none=>rw[hs] at h;cases h
  | some b =>
   rw[hs] at h
   cases b
   ·exact(ih _ _ h).next
   ·cases h
    exact KF.here (zfX hs).1 (zfX hs).2 _
theorem zg0[low:zaF][zbA L M]{R:BR}(ht:zjN L t=true)(hk:zao R k k'){es es':List MapEntry}(h:zdO R es es'):zai L M (QFK k es 0) R (Instr.findKey t k es) (Instr.findKey t k' es'):=by
 unfold Instr.findKey
 refine zac (zal t) ?_
 rintro R1 hR1 d _ rfl
 rcases zjF d (hk.mono hR1) (h.mono hR1) 0 with ⟨e1,e2⟩|⟨r,r',e1,e2,hr⟩
 ·rw[e1,e2]
  exact zhV ht h hR1 (hk.mono hR1) 0
 ·rw[e1,e2]
  exact zae ⟨hr,zjE _ _ _ _ _ e1⟩
def zlR(L:Program)(t:TypeId):Bool:=match L.underlying t with
 | some (.map k _)=>zjN L k
 | _=>true
theorem zoJ[low:zaF][zbA L M](hz:zbo L){R:BR}(ht:zlR L t=true)(hx:zao R x x')(hk:zao R k k')(ok:Bool):zai L M QV R (Instr.lookup t x k ok) (Instr.lookup t x' k' ok):=by
 unfold Instr.lookup
 refine zac (zaJ t) ?_
 rintro R1 hR1 d _ ⟨rfl,hd⟩
 simp only[zlR,hd] at ht
 replace hx:=hx.mono hR1
 replace hk:=hk.mono hR1
 cases d with
 | map key elem =>
  simp only at ht
  have tail:∀(R:BR) {es es':Array MapEntry},zcO R es es'->zao R k k'->zai L M QV R
    (Instr.checkKey es.isEmpty 10000 key k >>= fun _=>Instr.findKey key k es.toList >>= fun r=>match r with|some (_,v)=>pure (if ok then .tuple #[v,.bool true] else v)|none=>zeroValue elem >>= fun z=>pure (if ok then .tuple #[z,.bool false] else z))
    (Instr.checkKey es'.isEmpty 10000 key k' >>= fun _=>Instr.findKey key k' es'.toList >>= fun r=>match r with|some (_,v)=>pure (if ok then .tuple #[v,.bool true] else v)|none=>zeroValue elem >>= fun z=>pure (if ok then .tuple #[z,.bool false] else z)):=by
   intro R es es' hes hk
   have ee:es'.isEmpty=es.isEmpty:=by rw[Bool.eq_iff_iff];simp[Array.isEmpty_iff,<- Array.size_eq_zero_iff,hes.1]
   rw[ee]
   refine zac (zf4 ht _ 9999 hk) ?_
   rintro R2 hR2 _ _ _
   refine zac (zg0 ht (hk.mono hR2) (hes.mono hR2).all) ?_
   rintro R3 hR3 r r' ⟨⟨rfl,rfl⟩|⟨i,v,v',rfl,rfl,hv⟩,_⟩
   ·refine zac (zbm hz elem) ?_
    intro R4 hR4 z z' hzz
    cases ok
    ·exact zae hzz
    ·exact zae (zaz.two hzz (.bool false)).tup
   ·cases ok
    ·exact zae hv
    ·exact zae (zaz.two hv (.bool true)).tup
  cases hx with
  | map hr =>
   refine zac (zc9 hr) ?_
   rintro R2 hR2 _ _ ⟨@⟨c,c',n,hc⟩|_|_,_⟩
   rotate_left
   ·exact zai.halt
   ·exact zai.halt
   exact tail R2 hc (hk.mono hR2)
  | nilMap=>exact tail R1 (es:=#[]) (es':=#[]) ⟨rfl,fun i h=>absurd h (by simp)⟩ hk
  | _=>exact zai.halt
 | _=>exact zai.halt
theorem zf7[low:zaF]{R:BR}{a a' b b':Value}(ha:zao R a a')(hb:zao R b b')(ka:zjj a=true)(kb:zjj b=true):zai L M QV R (Instr.keyThatStays a b) (Instr.keyThatStays a' b'):=by
 obtain rfl:=znN ha ka
 obtain rfl:=znN hb kb
 unfold Instr.keyThatStays
 refine zaW (fun _=>zae hb) (fun _=>?_)
 refine zac (Q:=QEq) (.choose fun n=>.pure rfl) ?_
 rintro R1 hR1 n _ rfl
 refine zae ?_
 split
 ·exact hb.mono hR1
 ·exact ha.mono hR1
theorem zcO.modify{R:BR}{c c':Array MapEntry}(h:zcO R c c')(i:Nat){f f':MapEntry->MapEntry}(hf:∀ e e',zo8 R e e'->zo8 R (f e) (f' e')):zcO R (c.modify i f) (c'.modify i f'):=by
 refine⟨by simp[h.1],fun j h1 h2=>?_⟩
 simp only[Array.size_modify] at h1 h2
 rw[Array.getElem_modify,Array.getElem_modify]
 split
 ·exact hf _ _ (h.2 j h1 h2)
 ·exact h.2 j h1 h2
theorem zcO.push{R:BR}{c c':Array MapEntry}(h:zcO R c c'){e e':MapEntry}(he:zo8 R e e'):zcO R (c.push e) (c'.push e'):=by
 refine⟨by simp[h.1],fun i h1 h2=>?_⟩
 rw[Array.getElem_push,Array.getElem_push]
 simp only[Array.size_push] at h1 h2
 by_cases hi:i<c.size
 ·have hi':i<c'.size:=by rw[<- h.1];exact hi
  rw[dif_pos hi,dif_pos hi']
  exact h.2 i hi hi'
 ·rw[dif_neg hi,dif_neg (by rw[<- h.1];exact hi)]
  exact he
theorem zcO.keyAt{R:BR}{c c':Array MapEntry}(h:zcO R c c')(i:Nat)(hk:zao R k k'):zao R (((c[i]?).map (·.key)).getD k) (((c'[i]?).map (·.key)).getD k'):=by
 by_cases q:i<c.size
 ·have q':i<c'.size:=by rw[<- h.1];exact q
  rw[Array.getElem?_eq_getElem q,Array.getElem?_eq_getElem q']
  exact(h.2 i q q').key
 ·rw[Array.getElem?_eq_none (by omega),Array.getElem?_eq_none (by have:=h.1;omega)]
  exact hk
theorem zeU[low:zaF][zbA L M]{R:BR}(_h1:R.One)(ht:zlR L t=true){m m':Value}(hm:zao R m m')(hk:zao R k k')(hv:zao R v v'):zai L M QEq R (Instr.mapUpdate t m k v) (Instr.mapUpdate t m' k' v'):=by
 unfold Instr.mapUpdate
 refine zac (zaJ t) ?_
 rintro R1 hR1 d _ ⟨rfl,hd⟩
 simp only[zlR,hd] at ht
 replace hm:=hm.mono hR1
 replace hk:=hk.mono hR1
 replace hv:=hv.mono hR1
 cases d with
 | map key elem =>
  simp only at ht
  cases hm with
  | map hr =>
   refine zac (zc9 hr) ?_
   rintro R2 hR2 _ _ ⟨@⟨c,c',n,hc⟩|_|_,hlow⟩
   rotate_left
   ·exact zai.halt
   ·exact zai.halt
   have hxo:=hlow _ _ rfl
   dsimp only
   refine zac (zf4 ht false 9999 (hk.mono hR2)) ?_
   rintro R3 hR3 _ _ _
   refine zac (zg0 ht ((hk.mono hR2).mono hR3) (hc.mono hR3).all) ?_
   rintro R4 hR4 r r' ⟨⟨rfl,rfl⟩|⟨i,u,u',rfl,rfl,hu⟩,hkf⟩
   ·have up:R1.le R4:=BR.le_trans hR2 (BR.le_trans hR3 hR4)
    exact zi5 hxo (up.1 _ _ hr) _ (((hc.mono hR3).mono hR4).push ⟨hk.mono up,hv.mono up,rfl⟩)
   ·have up:R1.le R4:=BR.le_trans hR2 (BR.le_trans hR3 hR4)
    have hc4:=(hc.mono hR3).mono hR4
    obtain⟨k1,_,e0,k2,k3⟩:=hkf _ _ rfl
    have k4:((c[i]?).map (·.key)).getD k=e0.key:=by
     have k2':c[i]?=some e0:=by simpa using k2
     rw[k2']
     rfl
    refine zac (zf7 (hc4.keyAt i (hk.mono up)) (hk.mono up) (by rw[k4];exact k3) k1) ?_
    intro R5 hR5 kk kk' hkk
    exact zi5 hxo ((BR.le_trans up hR5).1 _ _ hr) _ ((hc4.mono hR5).modify i fun e e' he=>⟨hkk,(hv.mono up).mono hR5,he.born⟩)
  | nilMap=>exact zai.never (zaq _)
  | _=>exact zai.halt
 | _=>exact zai.halt
theorem zfm[low:zaF]{R:BR}(op:BinOp)(k:IntKind)(x:Int)(yk:IntKind)(y:Int):zai L M QV R (Op.shift op k x yk y) (Op.shift op k x yk y):=by
 unfold Op.shift
 split
 ·exact zai.never (zaq _)
 ·dsimp only
  split <;> first|exact zae (.int _ _)|exact zaC
theorem zdG[low:zaF]{R:BR}(op:BinOp)(x y:ByteArray):zai L M QV R (Op.stringOp op x y) (Op.stringOp op x y):=by
 unfold Op.stringOp
 dsimp only
 split
 ·split
  ·exact zai.halt
  ·exact zae (.string _)
 all_goals first|exact zae (.bool _)|exact zaC
theorem zlf[low:zaF][zbA L M]{R:BR}(ht:zq0 L 40 t=true)(hx:zao R x x')(hy:zao R y y'):zai L M QEq R (Op.equal t x y) (Op.equal t x' y'):=zmu _ 40 t ht R hx hy
theorem zgH[Twin L M](t:TypeId):M.cellsOf t=L.cellsOf t:=by unfold Program.cellsOf;rw[Twin.info (L:=L) (M:=M)]
theorem zly[Twin L M](t:TypeId):M.bytesOf t=L.bytesOf t:=by unfold Program.bytesOf;rw[Twin.info (L:=L) (M:=M)]
theorem zi6[low:zaF]{R:BR}(h:R r r'):zai L M (fun _ a b=>a=none/\b=none) R (viewAt r) (viewAt r'):=by
 unfold viewAt
 refine zac (zem h) ?_
 rintro R1 hR1 s _ rfl
 refine zaW (fun _=>zae ⟨rfl,rfl⟩) (fun _=>?_)
 refine zac (zc9 (hR1.1 _ _ h)) ?_
 rintro R2 hR2 o o' ⟨ho,_⟩
 cases ho <;> exact zae ⟨rfl,rfl⟩
theorem zoL[low:zaF]{R:BR}(h:zbQ R a a'):zai L M QEq R (noView a) (noView a'):=by
 unfold noView
 refine zac (zi6 h.1) ?_
 rintro R1 hR1 _ _ ⟨rfl,rfl⟩
 exact zae rfl
abbrev QN:BR->Addr × Bool->Addr × Bool->Prop:=fun R a b=>zbQ R a.1 b.1/\a.2=b.2
theorem zgb[low:zaF]{R:BR}(h:R r r'):zai L M (fun R a b=>(a=none/\b=none)\/∃ x x',a=some x/\b=some x'/\QN R x x') R (numberAt r) (numberAt r'):=by
 unfold numberAt
 refine zac (zem h) ?_
 rintro R1 hR1 s _ rfl
 refine zaW (fun _=>zae (Or.inl ⟨rfl,rfl⟩)) (fun _=>?_)
 refine zac (zc9 (hR1.1 _ _ h)) ?_
 rintro R2 hR2 o o' ⟨ho,_⟩
 cases ho with
 | map _=>exact zae (Or.inl ⟨rfl,rfl⟩)
 | hid=>exact zae (Or.inl ⟨rfl,rfl⟩)
 | number ha=>exact zae (Or.inr ⟨_,_,rfl,rfl,ha,rfl⟩)
theorem zc8[low:zaF]{R:BR}(h:zbQ R a a'):zai L M QN R (behindNumber a) (behindNumber a'):=by
 unfold behindNumber
 refine zac (zgb h.1) ?_
 rintro R1 hR1 _ _ (⟨rfl,rfl⟩|⟨x,x',rfl,rfl,hx⟩)
 ·exact zae ⟨h.mono hR1,rfl⟩
 ·exact zae hx
theorem zoB[low:zaF][zbA L M]{R:BR}(h:zbQ R a a'):zai L M QEq R (byteOf a) (byteOf a'):=by
 unfold byteOf
 rw[<- h.2.2]
 cases a.spot with
 | some s=>exact zae rfl
 | none =>
  refine zac zaV ?_
  rintro R1 hR1 p p' ⟨rfl,rfl⟩
  refine zac (zoL (h.mono hR1)) ?_
  rintro R2 hR2 _ _ _
  refine zac (zem ((h.mono hR1).mono hR2).1) ?_
  rintro R3 hR3 s _ rfl
  cases s with
  | none=>exact zai.halt
  | some e =>
   obtain⟨e,n⟩:=e
   dsimp only
   rw[zgH (L:=p) (M:=p'),zly (L:=p) (M:=p'),zbA.boc (L:=p) (M:=p'),zbA.depth (L:=p) (M:=p'),h.2.1]
   refine zaW (fun _=>zae rfl) (fun _=>?_)
   split
   ·exact zae rfl
   ·exact zai.halt
theorem zkf[low:zaF]{R:BR}(h:zbQ R a a')(l:Bool):zai L M QV R (asNumber a l) (asNumber a' l):=by
 unfold asNumber
 exact zac (zga (.other (.number h) (fun _ _ _ q=>q))) fun _ _ _ _ hr=>zae (.ptr ⟨hr,rfl,rfl⟩)
abbrev QPt:BR->Value->Value->Prop:=fun R v v'=>∃ a a',v=.pointer (some a)/\v'=.pointer (some a')/\zbQ R a a'
theorem ptP{R:BR}(h:zbQ R a a'):QPt R (.pointer (some a)) (.pointer (some a')):=⟨a,a',rfl,rfl,h⟩
theorem zen[low:zaF][zbA L M]{R:BR}(ts:Array TypeId)(t:TypeId)(hx:zao R x x')(hy:zao R y y'):zai L M QPt R (Builtin.unsafeAdd_ ts t #[x,y]) (Builtin.unsafeAdd_ ts t #[x',y']):=by
 unfold Builtin.unsafeAdd_
 cases hx with
 | ptr ha =>
  refine zac (zej hy) ?_
  rintro R1 hR1 n _ rfl
  refine zaW (fun _=>?_) (fun _=>?_)
  ·refine zac (zi6 (ha.mono hR1).1) ?_
   rintro R2 hR2 _ _ ⟨rfl,rfl⟩
   exact zae (ptP ((ha.mono hR1).mono hR2))
  ·refine zaW (fun _=>zai.never (zat zap)) (fun _=>?_)
   refine zac (zem (ha.mono hR1).1) ?_
   rintro R2 hR2 s _ rfl
   cases s with
   | none=>exact zai.halt
   | some e =>
    obtain⟨e,c⟩:=e
    refine zac zaV ?_
    rintro R3 hR3 p p' ⟨rfl,rfl⟩
    rw[zgH (L:=p) (M:=p'),zbA.cab (L:=p) (M:=p'),zbA.depth (L:=p) (M:=p'),ha.2.1]
    split
    ·exact zae (ptP ⟨(((ha.mono hR1).mono hR2).mono hR3).1,rfl,ha.2.2⟩)
    ·exact zai.halt
 | nilPtr =>
  refine zac (zej hy) ?_
  rintro R1 hR1 n _ rfl
  exact zaW (fun _=>zai.halt) (fun _=>zaW (fun _=>zai.never (zat zap)) (fun _=>zai.halt))
 | _=>exact zai.halt
theorem zdc[low:zaF][zbA L M]{R:BR}(ts:Array TypeId)(t:TypeId)(hx:zao R x x')(hy:zao R y y'):zai L M QV R (Builtin.unsafeAdd_ ts t #[x,y]) (Builtin.unsafeAdd_ ts t #[x',y']) :=
 (zen ts t hx hy).imp fun R v v' h=>by
  obtain⟨a,a',rfl,rfl,h⟩:=h
  exact .ptr h
theorem zbe[low:zaF][zbA L M]{R:BR}(t:TypeId)(hx:zao R x x')(hy:zao R y y'):zai L M QV R (movedNumber t x y) (movedNumber t x' y'):=by
 unfold movedNumber
 refine zac (zal t) ?_
 rintro R1 hR1 d _ rfl
 replace hx:=hx.mono hR1
 replace hy:=hy.mono hR1
 have hx0:=hx
 cases hx with
 | ptr ha =>
  rename_i n n'
  have tail:zai L M QV R1 (behindNumber n >>= fun p=>match p with
     | (a,lost)=>Builtin.unsafeAdd_ #[] t #[.pointer (some a),y] >>= fun v=>match v with|.pointer (some b)=>asNumber b lost|v=>pure v)
    (behindNumber n' >>= fun p=>match p with
     | (a,lost)=>Builtin.unsafeAdd_ #[] t #[.pointer (some a),y'] >>= fun v=>match v with|.pointer (some b)=>asNumber b lost|v=>pure v):=by
   refine zac (zc8 ha) ?_
   rintro R2 hR2 ⟨a,l⟩ ⟨a',l'⟩ ⟨h1,h2⟩
   simp only at h1 h2
   subst h2
   refine zac (zen #[] t (.ptr h1) (hy.mono hR2)) ?_
   rintro R3 hR3 _ _ ⟨b,b',rfl,rfl,hb⟩
   exact zkf hb _
  cases d <;> first|exact tail|exact zai.halt
 | _=>cases d <;> first|exact zdc #[] t hx0 hy|exact zai.halt
theorem zf9[low:zaF][zbA L M]{R:BR}(t:TypeId)(hx:zao R x x')(hy:zao R y y'):zai L M QV R (movedPointer t x y) (movedPointer t x' y'):=by
 unfold movedPointer
 have hx0:=hx
 cases hx with
 | ptr ha =>
  refine zac (zgb ha.1) ?_
  rintro R1 hR1 _ _ (⟨rfl,rfl⟩|⟨u,u',rfl,rfl,_⟩)
  ·exact zdc #[] t (hx0.mono hR1) (hy.mono hR1)
  ·exact zai.halt
 | junk _ _=>exact zai.halt
 | _=>exact zdc #[] t hx0 hy
theorem zc2(hg:P.globals.size=0)(a b:Addr):zcz P (Op.twoPlaces a b):=by
 unfold Op.twoPlaces
 refine zhI (fun x=>x=P) (fun w x w' h=>run_program h) ?_
 intro y hy
 rw[hy,hg]
 have e:(a.block != b.block || decide (a.block ≥ 0))=true:=by simp
 rw[if_pos e]
 exact zat zap
theorem zmq[low:zaF][zbA L M]{R:BR}(k:IntKind)(h:zbQ R a a')(n:Int):zai L M QV R (Op.addrMod k a n) (Op.addrMod k a' n):=by
 unfold Op.addrMod
 refine zac (zem h.1) ?_
 rintro R1 hR1 s _ rfl
 cases s with
 | none=>exact zai.halt
 | some e =>
  obtain⟨e,c⟩:=e
  refine zac (zbk e) ?_
  rintro R2 hR2 i _ rfl
  refine zaW (fun _=>zai.never (zat zap)) (fun _=>?_)
  refine zac (zoB ((h.mono hR1).mono hR2)) ?_
  rintro R3 hR3 b _ rfl
  exact zae (.int _ _)
def zlu(L:Program)(op:BinOp)(t:TypeId):Bool:=match op with
 | .eql|.neq=>zq0 L 40 t && !L.eqGuardType L.depth t
 | _=>true
def znz:Value->Bool
 | .nilIface|.agg _=>true
 | _=>false
theorem znA(op:BinOp)(t:TypeId)(x y:Operand){a:Value}(h:znz a=false)(b:Value):eqGuard op t x y a b=pure ():=by
 unfold eqGuard
 cases a <;> first|(cases h;done)|(cases op <;> rfl)
theorem zhw(op:BinOp)(t:TypeId)(x y:Operand)(a:Value){b:Value}(h:znz b=false):eqGuard op t x y a b=pure ():=by
 unfold eqGuard
 cases b <;> first|(cases h;done)|(cases op <;> first|rfl|(cases a <;> rfl))
theorem zeO(h:zfu v=true):znz v=false:=by cases v with|nilIface=>cases h|agg c=>cases h|_=>rfl
theorem zmt[low:zaF][zbA L M]{R:BR}(op:BinOp)(ht:zlu L op t=true)(x y:Operand){a a' b b':Value}(ha:zao R a a')(hb:zao R b b'):zai L M QEq R (eqGuard op t x y a b) (eqGuard op t x y a' b'):=by
 by_cases q1:zfu a'=true/\a=.tuple #[]
 ·obtain⟨h,rfl⟩:=q1
  rw[znA op t x y rfl,znA op t x y (zeO h)]
  exact zae rfl
 by_cases q2:zfu b'=true/\b=.tuple #[]
 ·obtain⟨h,rfl⟩:=q2
  rw[zhw op t x y a rfl,zhw op t x y a' (zeO h)]
  exact zae rfl
 by_cases h:op=.eql\/op=.neq
 ·have hg:L.eqGuardType L.depth t=false:=by rcases h with rfl|rfl <;> (simp[zlu] at ht;exact ht.2)
  have e2:zai L M QEq R (if ((match x with|.const _=>true|_=>false) || (match y with|.const _=>true|_=>false))=true then pure () else Op.eqGuardIn Op.maxDepth t .nilIface .nilIface >>= fun g=>if g=true then unsupported (.noEntry "binop/eql: two nil values of an interface type with methods, neither of them the literal nil") else pure ()) (if ((match x with|.const _=>true|_=>false) || (match y with|.const _=>true|_=>false))=true then pure () else Op.eqGuardIn Op.maxDepth t .nilIface .nilIface >>= fun g=>if g=true then unsupported (.noEntry "binop/eql: two nil values of an interface type with methods, neither of them the literal nil") else pure ()):=by
   refine zaW (fun _=>zae rfl) (fun _=>?_)
   refine zac (Q:=QEq) ?_ ?_
   ·show zai L M QEq R (Op.eqGuardIn (9999+1) t .nilIface .nilIface) (Op.eqGuardIn (9999+1) t .nilIface .nilIface)
    unfold Op.eqGuardIn
    refine zac (zal t) ?_
    rintro R1 hR1 d _ rfl
    cases d <;> exact zae rfl
   ·rintro R1 hR1 g _ rfl
    exact zaW (fun _=>zai.halt) (fun _=>zae rfl)
  have e3:∀ u u' v v':Value,zai L M QEq R (program >>= fun p=>program >>= fun q=>if (!p.eqGuardType q.depth t)=true then pure () else Op.eqGuardIn Op.maxDepth t u v >>= fun g=>if g=true then unsupported (.noEntry "binop/eql: two nil values of an interface type with methods, in a part of a struct or an array") else pure ()) (program >>= fun p=>program >>= fun q=>if (!p.eqGuardType q.depth t)=true then pure () else Op.eqGuardIn Op.maxDepth t u' v' >>= fun g=>if g=true then unsupported (.noEntry "binop/eql: two nil values of an interface type with methods, in a part of a struct or an array") else pure ()):=by
   intro u u' v v'
   refine zac zaV ?_
   rintro R1 hR1 p p' ⟨rfl,rfl⟩
   refine zac zaV ?_
   rintro R2 hR2 q q' ⟨rfl,rfl⟩
   rw[zbA.eqg (L:=q) (M:=q'),zbA.depth (L:=q) (M:=q'),hg]
   exact zae rfl
  rcases h with rfl|rfl
  ·cases ha with
   | nilIface =>
    cases hb with
    | nilIface=>exact e2
    | junk _ h=>exact absurd ⟨h,rfl⟩ q2
    | _=>exact zae rfl
   | agg _ _ =>
    cases hb with
    | agg _ _=>exact e3 _ _ _ _
    | junk _ h=>exact absurd ⟨h,rfl⟩ q2
    | _=>exact zae rfl
   | junk _ h=>exact absurd ⟨h,rfl⟩ q1
   | _ =>
    cases hb with
    | junk _ h=>exact absurd ⟨h,rfl⟩ q2
    | _=>exact zae rfl
  ·cases ha with
   | nilIface =>
    cases hb with
    | nilIface=>exact e2
    | junk _ h=>exact absurd ⟨h,rfl⟩ q2
    | _=>exact zae rfl
   | agg _ _ =>
    cases hb with
    | agg _ _=>exact e3 _ _ _ _
    | junk _ h=>exact absurd ⟨h,rfl⟩ q2
    | _=>exact zae rfl
   | junk _ h=>exact absurd ⟨h,rfl⟩ q1
   | _ =>
    cases hb with
    | junk _ h=>exact absurd ⟨h,rfl⟩ q2
    | _=>exact zae rfl
 ·have e1:∀ a b,eqGuard op t x y a b=pure ():=by
   intro a b
   unfold eqGuard
   cases op <;> first|rfl|exact absurd (Or.inl rfl) h|exact absurd (Or.inr rfl) h
  rw[e1,e1]
  exact zae rfl
theorem zf6[low:zaF]{R:BR}(op:BinOp)(t:TypeId)(k k':IntKind)(x y:Int):zai L M QV R (binOp op t (.int k x) (.int k' y)) (binOp op t (.int k x) (.int k' y)):=by
 by_cases hk:k=k'
 ·subst hk
  by_cases h:op=.shl\/op=.shr
  ·rcases h with rfl|rfl
   ·exact zfm .shl k x k y
   ·exact zfm .shr k x k y
  ·exact zoA op t k x y ⟨fun q=>h (Or.inl q),fun q=>h (Or.inr q)⟩
 ·cases op <;> first
   | exact zfm .shl k x k' y
   | exact zfm .shr k x k' y
   | (simp only[binOp,ne_eq,hk,not_false_eq_true,if_true];exact zaC)
theorem zdj(t:TypeId)(y:Value):zcz P (Op.equal t (.tuple #[]) y):=by
 show zcz P (Op.equalIn (9999+1) t (.tuple #[]) y)
 unfold Op.equalIn
 refine zav fun d=>?_
 cases d <;> (cases y <;> exact zap)
theorem zbT(t:TypeId)(x:Value):zcz P (Op.equal t x (.tuple #[])):=by
 show zcz P (Op.equalIn (9999+1) t x (.tuple #[]))
 unfold Op.equalIn
 refine zav fun d=>?_
 cases x with
 | pointer o=>cases o <;> (cases d <;> exact zap)
 | slice o _ _=>cases o <;> (cases d <;> exact zap)
 | map o=>cases o <;> (cases d <;> exact zap)
 | _=>cases d <;> exact zap
theorem zsC[low:zaF][zbA L M]{R:BR}(ht:zq0 L 40 t=true)(hx:zao R x x')(hy:zao R y y'):zai L M QV R (binOp .eql t x y) (binOp .eql t x' y'):=by
 have tail:zai L M QV R (Op.equal t x y >>= fun b=>pure (.bool b)) (Op.equal t x' y' >>= fun b=>pure (.bool b)) :=
  zac (zlf ht hx hy) fun _ _ _ _ e=>by rw[e];exact zae (.bool _)
 cases hx with
 | int k n =>
  cases hy with
  | int k' n'=>exact zf6 _ _ _ _ _ _
  | junk _ _=>exact zai.never (show zcz L (Op.equal t _ (.tuple #[]) >>= (fun b=>pure (Value.bool b):Bool->Sem Value)) from zat (zbT t _))
  | _=>exact tail
 | string s =>
  cases hy with
  | string s'=>exact zdG .eql s s'
  | junk _ _=>exact zai.never (show zcz L (Op.equal t _ (.tuple #[]) >>= (fun b=>pure (Value.bool b):Bool->Sem Value)) from zat (zbT t _))
  | _=>exact tail
 | junk _ _=>exact zai.never (show zcz L (Op.equal t (.tuple #[]) _ >>= (fun b=>pure (Value.bool b):Bool->Sem Value)) from zat (zdj t _))
 | _ =>
  cases hy with
  | junk _ _=>exact zai.never (show zcz L (Op.equal t _ (.tuple #[]) >>= (fun b=>pure (Value.bool b):Bool->Sem Value)) from zat (zbT t _))
  | _=>exact tail
theorem zsE[low:zaF][zbA L M]{R:BR}(ht:zq0 L 40 t=true)(hx:zao R x x')(hy:zao R y y'):zai L M QV R (binOp .neq t x y) (binOp .neq t x' y'):=by
 have tail:zai L M QV R (Op.equal t x y >>= fun b=>pure (.bool (!b))) (Op.equal t x' y' >>= fun b=>pure (.bool (!b))) :=
  zac (zlf ht hx hy) fun _ _ _ _ e=>by rw[e];exact zae (.bool _)
 cases hx with
 | int k n =>
  cases hy with
  | int k' n'=>exact zf6 _ _ _ _ _ _
  | junk _ _=>exact zai.never (show zcz L (Op.equal t _ (.tuple #[]) >>= (fun b=>pure (Value.bool (!b)):Bool->Sem Value)) from zat (zbT t _))
  | _=>exact tail
 | string s =>
  cases hy with
  | string s'=>exact zdG .neq s s'
  | junk _ _=>exact zai.never (show zcz L (Op.equal t _ (.tuple #[]) >>= (fun b=>pure (Value.bool (!b)):Bool->Sem Value)) from zat (zbT t _))
  | _=>exact tail
 | junk _ _=>exact zai.never (show zcz L (Op.equal t (.tuple #[]) _ >>= (fun b=>pure (Value.bool (!b)):Bool->Sem Value)) from zat (zdj t _))
 | _ =>
  cases hy with
  | junk _ _=>exact zai.never (show zcz L (Op.equal t _ (.tuple #[]) >>= (fun b=>pure (Value.bool (!b)):Bool->Sem Value)) from zat (zbT t _))
  | _=>exact tail
theorem znV(hg:P.globals.size=0)(op:BinOp)(a b:Addr):zcz P (behindNumber a >>= fun p=>behindNumber b >>= fun q=>Op.addrCmp op p.1 q.1:Sem Value) :=
 zav fun _=>zav fun _=>zat (zc2 hg _ _)
theorem znW(hg:P.globals.size=0)(k:IntKind)(a b:Addr):zcz P (behindNumber a >>= fun p=>behindNumber b >>= fun q=>Op.addrSub k p.1 q.1:Sem Value) :=
 zav fun _=>zav fun _=>zat (zc2 hg _ _)
theorem zrg[low:zaF][zbA L M]{R:BR}(k:IntKind)(h:zbQ R a a')(n:Int):zai L M QV R (behindNumber a >>= fun p=>Op.addrMod k p.1 n) (behindNumber a' >>= fun p=>Op.addrMod k p.1 n) :=
 zac (zc8 h) fun _ _ _ _ hp=>zmq k hp.1 n
theorem zlh[low:zaF][zbA L M]{R:BR}(t:TypeId)(hx:zao R x x')(hy:zao R y y'):zai L M QV R (underlying t >>= fun d=>if (match d with|.unsafePointer=>true|_=>false)=true then movedPointer t x y else movedNumber t x y) (underlying t >>= fun d=>if (match d with|.unsafePointer=>true|_=>false)=true then movedPointer t x' y' else movedNumber t x' y'):=by
 refine zac (zal t) ?_
 rintro R1 hR1 d _ rfl
 exact zaW (fun _=>zf9 t (hx.mono hR1) (hy.mono hR1)) (fun _=>zbe t (hx.mono hR1) (hy.mono hR1))
theorem zqs[low:zaF][T:zbA L M]{R:BR}(op:BinOp)(ht:zlu L op t=true)(hx:zao R x x')(hy:zao R y y'):zai L M QV R (binOp op t x y) (binOp op t x' y'):=by
 by_cases h:op=.eql\/op=.neq
 ·rcases h with rfl|rfl
  ·exact zsC (by simp[zlu] at ht;exact ht.1) hx hy
  ·exact zsE (by simp[zlu] at ht;exact ht.1) hx hy
 have n1:op≠.eql:=fun q=>h (Or.inl q)
 have n2:op≠.neq:=fun q=>h (Or.inr q)
 have hx0:=hx
 have hy0:=hy
 cases hx with
 | int k n =>
  cases hy with
  | int k' n'=>exact zf6 _ _ _ _ _ _
  | ptr ha =>
   cases op <;> first
    | exact zai.halt
    | exact zbe t hy0 hx0
    | exact zrg _ ha _
    | exact absurd rfl n1
    | exact absurd rfl n2
  | nilPtr =>
   cases op <;> first
    | exact zai.halt
    | exact zbe t hy0 hx0
    | exact absurd rfl n1
    | exact absurd rfl n2
  | _=>cases op <;> first|exact zai.halt|exact absurd rfl n1|exact absurd rfl n2
 | ptr ha =>
  cases hy with
  | int k n =>
   cases op <;> first
    | exact zai.halt
    | exact zlh t hx0 hy0
    | exact zbe t hx0 (.int _ _)
    | exact zrg _ ha _
    | exact absurd rfl n1
    | exact absurd rfl n2
  | ptr hb =>
   cases op <;> first
    | exact zai.halt
    | exact zai.never (znV T.globals _ _ _)
    | exact zai.never (znW T.globals _ _ _)
    | exact absurd rfl n1
    | exact absurd rfl n2
  | _=>cases op <;> first|exact zai.halt|exact absurd rfl n1|exact absurd rfl n2
 | nilPtr =>
  cases hy with
  | int k n =>
   cases op <;> first
    | exact zai.halt
    | exact zlh t hx0 hy0
    | exact zbe t hx0 (.int _ _)
    | exact absurd rfl n1
    | exact absurd rfl n2
  | _=>cases op <;> first|exact zai.halt|exact absurd rfl n1|exact absurd rfl n2
 | string s =>
  cases hy with
  | string s'=>cases op <;> first|(simp only[binOp];exact zdG _ _ _)|exact absurd rfl n1|exact absurd rfl n2
  | _=>cases op <;> first|exact zai.halt|exact absurd rfl n1|exact absurd rfl n2
 | _=>cases hy <;> (cases op <;> first|exact zai.halt|exact absurd rfl n1|exact absurd rfl n2)
def znc(L:Program)(s d:TypeId):Bool:=match L.underlying s,L.underlying d with
 | some (.int _),some (.int _)=>true
 | some .string,some .string=>true
 | _,_=>false
theorem zms[low:zaF][Twin L M]{R:BR}{d:TypeId}(h:znc L s d=true)(hx:zao R x x'):zai L M QV R (convert s d x) (convert s d x'):=by
 unfold convert
 refine zac (zaJ s) ?_
 rintro R1 hR1 ds _ ⟨rfl,h1⟩
 refine zac (zaJ d) ?_
 rintro R2 hR2 dd _ ⟨rfl,h2⟩
 simp only[znc,h1,h2] at h
 replace hx:=(hx.mono hR1).mono hR2
 cases ds <;> cases dd <;> first
  | (simp at h;done)
  | (cases hx <;> first|exact zae (.int _ _)|exact zae (.string _)|exact zai.halt)
class zaB(L M:Program):Prop extends zbA L M where
 fn:∀(f:Nat) (fn:Func),L.funcs[f]?=some fn->fn.body.isSome=true->(fn.name == "runtime.NumGoroutine")=false/\∃ fn':Func,M.funcs[f]?=some fn'/\fn'.body.isSome=true/\(fn'.name == "runtime.NumGoroutine")=false
 dead:∀(f:Nat) (fn:Func),L.funcs[f]?=some fn->fn.body.isSome=false->∀ args,zcz L (callFunc f args)
 types:M.types.size=L.types.size
inductive zsJ(L:Program)(R:BR):Next->Next->Prop
 | value {v v':Value}:zao R v v'->zsJ L R (.value v) (.value v')
 | skip:zsJ L R .skip .skip
 | enter (f:FuncId) {a a':Array Value}:(∃ fn:Func,L.funcs[f]?=some fn/\fn.body.isSome=true)->zpe f a.size=true->zaz R a a'->zsJ L R (.enter f a) (.enter f a')
abbrev QX(L:Program):BR->Next->Next->Prop:=fun R a b=>zsJ L R a b
theorem zcG[low:zaF][T:zaB L M]{R:BR}(f:FuncId){a a':Array Value}(har:zpe f a.size=true)(h:zaz R a a'):zai L M (QX L) R (callFunc f a) (callFunc f a'):=by
 by_cases hd:∃ fn,L.funcs[f]?=some fn/\fn.body.isSome=false
 ·obtain⟨fn,h1,h2⟩:=hd
  exact zai.never (T.dead f fn h1 h2 a)
 ·unfold callFunc
  refine zac zaV ?_
  rintro R1 hR1 p p' ⟨rfl,rfl⟩
  cases hf:p.funcs[f]? with
  | none=>exact zai.halt
  | some fn =>
   have hb:fn.body.isSome=true:=by
    cases hb:fn.body.isSome with
    | true=>rfl
    | false=>exact absurd ⟨fn,hf,hb⟩ hd
   obtain⟨n1,fn',hf',hb',n2⟩:=T.fn f fn hf hb
   rw[hf']
   have e1:fn.body.isNone=false:=by cases q:fn.body <;> simp_all
   have e2:fn'.body.isNone=false:=by cases q:fn'.body <;> simp_all
   simp only[n1,n2,e1,e2]
   exact zae (.enter f ⟨fn,hf,hb⟩ har (h.mono hR1))
theorem zmC[low:zaF]{R:BR}(ts:Array TypeId)(t:TypeId)(h:zao R v v')(m:String):zai L M QV R (Builtin.ssaWrapNilChk_ ts t #[v,strVal "",strVal m]) (Builtin.ssaWrapNilChk_ ts t #[v',strVal "",strVal m]):=by
 cases h with
 | ptr h=>exact zae (.ptr h)
 | nilPtr =>
  refine zai.never (zav (s:=choose (.extern "ssa:wrapnilchk.dereferenced" 2)) fun n=>?_)
  refine zd6 (zat (zaq _)) ?_
  split
  ·refine zav fun d=>?_
   split
   ·refine zav fun i=>?_
    split
    ·split
     ·dsimp only
      split
      ·exact zaq _
      ·exact zap
     ·exact zap
    ·exact zap
   ·exact zap
  ·exact zap
 | _=>exact zai.halt
theorem zel[low:zaF][Twin L M]{R:BR}(t:TypeId)(h:zao R v v')(p:Bool)(wr:Option String):zai L M QV R (receiverAt t (.val v) p wr) (receiverAt t (.val v') p wr):=by
 unfold receiverAt
 refine zac (zal t) ?_
 rintro R1 hR1 d _ rfl
 replace h:=h.mono hR1
 cases p with
 | true=>cases d <;> first|exact zae h|exact zai.halt
 | false =>
  cases d with
  | pointer elem =>
   have tail:∀(R2:BR),R1.le R2->∀ {u u':Value},zao R2 u u'->zai L M QV R2 (asAddr u >>= fun a=>loadVar elem a) (asAddr u' >>= fun a=>loadVar elem a) :=
    fun R2 _ u u' hu=>zac (zf3 hu) fun _ _ _ _ ha=>zeG elem ha
   cases wr with
   | none=>exact tail R1 (BR.le_refl _) h
   | some m =>
    show zai L M QV R1 (Builtin.ssaWrapNilChk_ #[t] t #[v,strVal "",strVal m] >>= fun u=>asAddr u >>= fun a=>loadVar elem a) (Builtin.ssaWrapNilChk_ #[t] t #[v',strVal "",strVal m] >>= fun u=>asAddr u >>= fun a=>loadVar elem a)
    exact zac (zmC _ _ h m) fun R2 hR2 u u' hu=>tail R2 hR2 hu
  | _=>exact zae h
def ziH(L:Program)(name:String):Bool:=L.types.toList.all fun i=>match i.methods.find? (·.name == name) with|some m=>m.path.toList.all (fun s=>!s.deref) && (match m.func with|some q=>(xAr q.1).isNone|none=>true)|none=>true
theorem ziB{info:TypeId->Option TypeInfo}{d:TypeDesc}{i:TypeInfo}(h:Made.reckon info d=some i):i.methods=#[]:=by
 unfold Made.reckon at h
 cases d with
 | pointer e =>
  obtain⟨j,hj,h⟩:=Option.bind_eq_some_iff.1 h
  simp only at h
  split at h
  ·cases h
  ·split at h
   ·cases h
   ·obtain⟨s,hs,h⟩:=Option.bind_eq_some_iff.1 h
    cases h
    rfl
  ·obtain⟨s,hs,h⟩:=Option.bind_eq_some_iff.1 h
   cases h
   rfl
 | slice e =>
  obtain⟨j,hj,h⟩:=Option.bind_eq_some_iff.1 h
  obtain⟨s,hs,h⟩:=Option.bind_eq_some_iff.1 h
  cases h
  rfl
 | map k e =>
  obtain⟨j,hj,h⟩:=Option.bind_eq_some_iff.1 h
  obtain⟨s,hs,h⟩:=Option.bind_eq_some_iff.1 h
  obtain⟨j2,hj2,h⟩:=Option.bind_eq_some_iff.1 h
  obtain⟨s2,hs2,h⟩:=Option.bind_eq_some_iff.1 h
  cases h
  rfl
 | chan dir e =>
  obtain⟨j,hj,h⟩:=Option.bind_eq_some_iff.1 h
  obtain⟨s,hs,h⟩:=Option.bind_eq_some_iff.1 h
  cases h
  rfl
 | func ps rs v =>
  obtain⟨s,hs,h⟩:=Option.bind_eq_some_iff.1 h
  cases h
  rfl
 | array n e =>
  obtain⟨j,hj,h⟩:=Option.bind_eq_some_iff.1 h
  obtain⟨s,hs,h⟩:=Option.bind_eq_some_iff.1 h
  have e:=Option.some.inj h
  subst e
  rfl
 | struct fs =>
  have h':Made.reckonStruct info fs=some i:=h
  unfold Made.reckonStruct at h'
  simp only[<- Array.forIn_toList] at h'
  obtain⟨s,hs,h'⟩:=Option.bind_eq_some_iff.1 h'
  split at h'
  all_goals
   have e:=Option.some.inj h'
   subst e
   rfl
 | _=>cases h
theorem znU(hn:ziH L name=true){i:TypeInfo}{m:Method}(hi:L.info? t=some i)(hm:i.methods.find? (·.name == name)=some m):(∀ s∈m.path.toList,s.deref=false)/\∀ q,m.func=some q->(xAr q.1).isNone=true:=by
 have tab:∀(t:Nat) (i:TypeInfo),L.types[t]?=some i->i.methods.find? (·.name == name)=some m->(∀ s∈m.path.toList,s.deref=false)/\∀ q,m.func=some q->(xAr q.1).isNone=true:=by
  intro t i h2 hm
  have hin:i∈L.types.toList:=by
   rw[Array.mem_toList_iff]
   exact Array.mem_of_getElem? h2
  have:=List.all_eq_true.1 hn i hin
  simp only[hm,Bool.and_eq_true] at this
  refine⟨fun s hs=>?_,fun q hq=>?_⟩
  ·have h3:=List.all_eq_true.1 this.1 s hs
   simpa using h3
  ·have h4:=this.2
   rw[hq] at h4
   exact h4
 have made:∀(n:Nat) (t:TypeId) (i:TypeInfo),Made.infoAt L.toTables n t=some i->i.methods.find? (·.name == name)=some m->(∀ s∈m.path.toList,s.deref=false)/\∀ q,m.func=some q->(xAr q.1).isNone=true:=by
  intro n t i h hm
  cases n with
  | zero=>cases h
  | succ n =>
   unfold Made.infoAt at h
   split at h
   ·exact tab t i h hm
   ·obtain⟨d,hd,h⟩:=Option.bind_eq_some_iff.1 h
    rw[ziB h] at hm
    simp at hm
 have hi':(if t<L.types.size then L.types[t]? else Made.infoAt L.toTables Made.depth t)=some i:=hi
 split at hi'
 ·exact tab t i hi' hm
 ·exact made _ t i hi' hm
abbrev QPl:BR->TypeId × Place->TypeId × Place->Prop:=fun R x x'=>∃ t u u',x=(t,.val u)/\x'=(t,.val u')/\zao R u u'
theorem zi1[low:zaF][T:zaB L M]:∀(l:List FieldStep),(∀ s∈l,s.deref=false)->∀ {R:BR} (t:TypeId) {v v':Value},zao R v v'->zai L M QPl R (follow l t (.val v)) (follow l t (.val v'))
 | [],_,_,t,v,v',h=>zae ⟨t,v,v',rfl,rfl,h⟩
 | s::l,hl,R,t,v,v',h=>by
  unfold follow
  refine zac (zal s.struct) ?_
  rintro R1 hR1 d _ rfl
  replace h:=h.mono hR1
  cases d with
  | struct fields =>
   dsimp only
   cases hf:fields[s.index]? with
   | none=>exact zai.halt
   | some f =>
    simp only[hl s mcs,Bool.false_eq_true,↓reduceIte]
    cases h with
    | agg h1 h2 =>
     refine zac (zgc f.type ⟨h1,h2⟩ f.offset) ?_
     intro R2 hR2 u u' hu
     exact zi1 l (fun s hs=>hl s (mcm hs)) f.type hu
    | _=>exact zai.halt
  | _=>exact zai.halt
abbrev QM:BR->FuncId × Value->FuncId × Value->Prop:=fun R a b=>a.1=b.1/\zao R a.2 b.2/\(xAr a.1).isNone=true
theorem zi3[low:zaF][T:zaB L M]{name:String}(hn:ziH L name=true):∀(n:Nat) {R:BR} (t:TypeId) {v v':Value},zao R v v'->zai L M QM R (Go.method n t v name) (Go.method n t v' name)
 | 0,_,_,_,_,_=>zai.halt
 | n+1,R,t,v,v',h=>by
  unfold Go.method
  refine zac (zdb t) ?_
  rintro R1 hR1 i _ ⟨rfl,hi⟩
  cases hm:i.methods.find? (·.name == name) with
  | none=>exact zai.halt
  | some m =>
   obtain⟨hp,hq⟩:=znU hn hi hm
   dsimp only
   refine zac (zi1 m.path.toList hp t (h.mono hR1)) ?_
   rintro R2 hR2 _ _ ⟨xt,u,u',rfl,rfl,hu⟩
   dsimp only
   cases hmf:m.func with
   | none =>
    show zai L M QM R2 ((pure u:Sem Value) >>= fun u=>match u with|.iface t' v'=>Go.method n t' v' name|.nilIface=>runtimePanic .nilDeref|_=>stuck "method row: interface value expected") ((pure u':Sem Value) >>= fun u=>match u with|.iface t' v'=>Go.method n t' v' name|.nilIface=>runtimePanic .nilDeref|_=>stuck "method row: interface value expected")
    cases hu with
    | iface t' hv=>exact zi3 hn n t' hv
    | nilIface=>exact zai.never (zaq (α:=FuncId × Value) .nilDeref)
    | _=>exact zai.halt
   | some q =>
    obtain⟨f,pr⟩:=q
    exact zac (zel xt hu pr _) fun _ _ _ _ hr=>zae ⟨rfl,hr,hq _ hmf⟩
theorem zhU[low:zaF][T:zaB L M]{R:BR}(h:zao R v v')(hn:ziH L name=true){a a':Array Value}(ha:zaz R a a'):zai L M (QX L) R (callMethod v name a) (callMethod v' name a'):=by
 unfold callMethod
 cases h with
 | iface t hv =>
  refine zac zaV ?_
  rintro R1 hR1 p p' ⟨rfl,rfl⟩
  rw[T.types]
  refine zac (zi3 hn _ t (hv.mono hR1)) ?_
  rintro R2 hR2 ⟨f,r⟩ ⟨f',r'⟩ ⟨e,hr,hx⟩
  simp only at e hr hx
  subst e
  exact zcG f (zdS hx _) ((zaz.one hr).app ((ha.mono hR1).mono hR2))
 | nilIface=>exact zai.never (zaq (α:=Next) .nilDeref)
 | _=>exact zai.halt
inductive zpc(R:BR):Target->Target->Prop
 | fn (fn:Fn) {c c':Array Value}:znr fn=true->zaz R c c'->zpc R (.fn fn c) (.fn fn c')
 | dir (f:FuncId):zpc R (.fn (.func f) #[]) (.fn (.func f) #[])
 | nil:zpc R .nil .nil
 | meth (name:String):zpc R (.fn (.method name) #[]) (.fn (.method name) #[])
 | builtin (b:Builtin) (ts:Array TypeId) (t:TypeId) (cs:Array Bool):zpc R (.builtin b ts t cs) (.builtin b ts t cs)
structure zr8(R:BR)(d d':Deferred):Prop where
 target:zpc R d.target d'.target
 args:zaz R d.args d'.args
theorem zpc.mono{R R':BR}(hR:R.le R'){t t':Target}(h:zpc R t t'):zpc R' t t':=by
 cases h with
 | fn f h0 h=>exact .fn f h0 (h.mono hR)
 | dir f=>exact .dir f
 | nil=>exact .nil
 | meth n=>exact .meth n
 | builtin b ts t cs=>exact .builtin b ts t cs
theorem zr8.mono{R R':BR}(hR:R.le R')(h:zr8 R d d'):zr8 R' d d':=⟨h.target.mono hR,h.args.mono hR⟩
def zbs:Nat->Value->Bool
 | 0,_=>false
 | _,.bool _|_,.int _ _|_,.string _|_,.pointer none|_,.slice none _ _|_,.map none|_,.chan none|_,.nilFunc|_,.nilIface=>true
 | n+1,.iface _ v=>zbs n v
 | n+1,.agg c|n+1,.tuple c=>c.all (zbs n)
 | n+1,.func f a b=>znr f && a.all (zbs n) && b.all (zbs n)
 | _,_=>false
theorem zec:∀(n:Nat) (v:Value),zbs n v=true->Plain v
 | 0,v,h=>by simp[zbs] at h
 | n+1,v,h=>by
  intro R
  have row:∀ c:Array Value,c.all (zbs n)=true->∀ i (h:i<c.size),zao R c[i] c[i]:=by
   intro c hc i hi
   rw[Array.all_eq_true] at hc
   exact zec n _ (hc i hi) R
  cases v with
  | bool b=>exact .bool b
  | int k n=>exact .int k n
  | string s=>exact .string s
  | pointer a=>cases a with|none=>exact .nilPtr|some a=>simp[zbs] at h
  | slice a n m=>cases a with|none=>exact .nilSlice n m|some a=>simp[zbs] at h
  | map r=>cases r with|none=>exact .nilMap|some a=>simp[zbs] at h
  | chan r=>cases r with|none=>exact .nilChan|some a=>simp[zbs] at h
  | nilFunc=>exact .nilFunc
  | nilIface=>exact .nilIface
  | iface t v=>exact .iface t (zec n v (by simpa [zbs] using h) R)
  | agg c=>exact .agg rfl (fun i h1 _=>row c (by simpa [zbs] using h) i h1)
  | tuple c=>exact .tuple rfl (fun i h1 _=>row c (by simpa [zbs] using h) i h1)
  | func f a b =>
   simp only[zbs,Bool.and_eq_true] at h
   exact .func f h.1.1 rfl (fun i h1 _=>row a h.1.2 i h1) rfl (fun i h1 _=>row b h.2 i h1)
  | float k n=>simp[zbs] at h
  | complex k n m=>simp[zbs] at h
def za4:Operand->Bool
 | .tmp _=>true
 | .func f=>(xAr f).isNone
 | .const v=>zbs 9 v
 | .global _=>false
def zeW(R:BR)(ρ ρ':Operand->Value):Prop:=∀ x,za4 x=true->zao R (ρ x) (ρ' x)
theorem zeW.mono{R R':BR}(hR:R.le R')(h:zeW R ρ ρ'):zeW R' ρ ρ':=fun x hx=>(h x hx).mono hR
theorem zeW.row{R:BR}(h:zeW R ρ ρ'){as:Array Operand}(ha:as.all za4=true):zaz R (as.map ρ) (as.map ρ'):=by
 refine⟨by simp,fun i h1 h2=>?_⟩
 simp only[Array.getElem_map]
 rw[Array.all_eq_true] at ha
 exact h _ (ha i (by simpa using h1))
theorem zeW.opt{R:BR}(h:zeW R ρ ρ'){o:Option Operand}(ho:o.all za4=true):zcr R (o.map ρ) (o.map ρ'):=by
 cases o with
 | none=>exact Or.inl ⟨rfl,rfl⟩
 | some x=>exact Or.inr ⟨_,_,rfl,rfl,h x (by simpa using ho)⟩
theorem zeW.parts{R:BR}(h:zeW R ρ ρ'){ps:Array (Nat × Operand)}(hp:ps.all (fun p=>za4 p.2)=true):zo2 R (ps.map fun (i,x)=>(i,ρ x)).toList (ps.map fun (i,x)=>(i,ρ' x)).toList:=by
 rw[Array.toList_map,Array.toList_map]
 rw[<- Array.all_toList] at hp
 revert hp
 generalize ps.toList=l
 intro hp
 induction l with
 | nil=>exact .nil
 | cons p l ih =>
  simp only[List.all_cons,Bool.and_eq_true] at hp
  simp only[List.map_cons]
  exact .cons _ (h _ hp.1) (ih hp.2)
def zcT(L:Program)(b:Builtin)(ts:Array TypeId):Bool:=match b with
 | .len|.cap|.copy=>true
 | .append=>match ts[1]? with
  | some t=>(match L.underlying t with|some (.int _)=>false|some _=>true|none=>false)
  | none=>false
 | _=>false
def zdf(L:Program)(c:Call):Bool:=match c.callee with
 | .value (.func f)=>zpe f c.args.size
 | .value f=>za4 f
 | .invoke r name=>za4 r && ziH L name
 | .builtin b=>zcT L b c.argTypes
theorem zmr[low:zaF][zaB L M](hz:zbo L){R:BR}{b:Builtin}(h:zcT L b ts=true)(t:TypeId)(cs:Array Bool){a a':Array Value}(ha:zaz R a a'):zai L M (QX L) R (builtin b ts t cs a) (builtin b ts t cs a'):=by
 cases b with
 | len=>exact zac (zsD ts t ha) fun _ _ _ _ hv=>zae (.value hv)
 | cap=>exact zac (zsB ts t ha) fun _ _ _ _ hv=>zae (.value hv)
 | copy=>exact zac (zrS ts t ha) fun _ _ _ _ hv=>zae (.value hv)
 | append =>
  have hm:zqU L ts:=by
   simp only[zcT] at h
   split at h
   ·rename_i x hx
    split at h
    ·cases h
    ·rename_i d hk hd
     exact⟨x,d,hx,hd,fun k q=>hk k (by rw[<- q])⟩
    ·cases h
   ·cases h
  exact zac (zoy hz ts t ha hm) fun _ _ _ _ hv=>zae (.value hv)
 | _=>simp[zcT] at h
def zsd(L:Program)(t:Target):Prop:=(∀ b ts ty cs,t=.builtin b ts ty cs->zcT L b ts=true)/\∀ name c,t=.fn (.method name) c->ziH L name=true
def zr7(d:Deferred):Prop:=∀ f,d.target=.fn (.func f) #[]->zpe f d.args.size=true
theorem zmz[low:zaF]{R:BR}(hfn:∀ f,ρ (.func f)=.func (.func f) #[] #[]/\ρ' (.func f)=.func (.func f) #[] #[])(h:zeW R ρ ρ'){c:Call}(hc:zdf L c=true)(ha:c.args.all za4=true)(t:TypeId)(hM:∀ x,c.callee=.value x->∀ n,ρ x≠.func (.method n) #[.nilIface] #[]):zai L M (fun R d d'=>zr8 R d d'/\zsd L d.target/\zr7 d) R (resolve ρ c t) (resolve ρ' c t):=by
 unfold resolve
 have hr:=h.row ha
 cases hcc:c.callee with
 | builtin b =>
  simp only[zdf,hcc] at hc
  refine zae ⟨⟨.builtin _ _ _ _,hr⟩,⟨?_,?_⟩,fun f e=>by cases e⟩
  ·intro b' ts ty cs e
   cases e
   exact hc
  ·intro n c e
   cases e
 | invoke r name =>
  simp only[zdf,hcc,Bool.and_eq_true] at hc
  refine zae ⟨⟨.meth _,(zaz.one (h r hc.1)).app hr⟩,⟨?_,?_⟩,fun f e=>by cases e⟩
  ·intro b' ts ty cs e
   cases e
  ·intro n c e
   cases e
   exact hc.2
 | value f =>
  by_cases hdir:∃ g,f=.func g
  ·obtain⟨g,rfl⟩:=hdir
   simp only[zdf,hcc] at hc
   dsimp only
   rw[(hfn g).1,(hfn g).2]
   refine zae ⟨⟨.dir g,by simpa using hr⟩,⟨fun _ _ _ _ e=>(by cases e),fun _ _ e=>(by cases e)⟩,fun f e=>?_⟩
   cases e
   simpa using hc
  have hc:za4 f=true:=by
   cases f with
   | func g=>exact absurd ⟨g,rfl⟩ hdir
   | _=>simpa only[zdf,hcc] using hc
  have hv:=h f hc
  have hM1:=hM f hcc
  dsimp only
  revert hv hM1
  generalize ρ f=u
  generalize ρ' f=u'
  intro hv hM1
  cases hv with
  | junkM _=>exact absurd rfl (hM1 _)
  | func fn h0 h1 h2 h3 h4 =>
   refine zae ⟨⟨.fn fn h0 ⟨h3,h4⟩,zaz.app ⟨h1,h2⟩ hr⟩,⟨?_,?_⟩,fun f e=>?_⟩
   ·intro b' ts ty cs e
    cases e
   ·intro n c e
    cases e
    simp[znr] at h0
   ·have e':fn=.func f:=by
     injection e
    subst e'
    exact zdS h0 _
  | nilFunc =>
   refine zae ⟨⟨.nil,hr⟩,⟨?_,?_⟩,fun f e=>by cases e⟩
   ·intro b' ts ty cs e
    cases e
   ·intro n c e
    cases e
  | _=>exact zai.halt
theorem zoG[low:zaF][zaB L M](hz:zbo L){R:BR}(h:zr8 R d d')(hb:zsd L d.target)(hA:zr7 d):zai L M (QX L) R (invoke d.target d.args) (invoke d'.target d'.args):=by
 obtain⟨t,a⟩:=d
 obtain⟨t',a'⟩:=d'
 obtain⟨ht,ha⟩:=h
 simp only at ht ha hb
 unfold invoke
 cases ht with
 | dir f=>exact zcG f (by have:=hA f rfl;simpa using this) (by simpa using ha)
 | nil=>exact zai.never (zaq (α:=Next) .nilDeref)
 | builtin b ts ty cs=>exact zmr hz (hb.1 _ _ _ _ rfl) ty cs ha
 | meth name =>
  rcases ha.get? 0 with ⟨e1,e2⟩|⟨v,v',e1,e2,hv⟩
  ·simp only[e1,e2];exact zai.halt
  ·simp only[e1,e2]
   rw[<- ha.1]
   exact zhU hv (hb.2 _ _ rfl) (ha.ext 1 _)
 | fn fn h0 hc =>
  cases fn with
  | func f=>exact zcG f (zdS h0 _) (ha.app hc)
  | method name=>simp[znr] at h0
  | methodOf t name=>simp[znr] at h0
  | via t path f p =>
   simp only[znr,Bool.and_eq_true,Array.isEmpty_iff] at h0
   obtain⟨h0,hx⟩:=h0
   subst h0
   rcases ha.get? 0 with ⟨e1,e2⟩|⟨v,v',e1,e2,hv⟩
   ·simp only[e1,e2];exact zai.halt
   ·simp only[e1,e2]
    rw[<- ha.1]
    refine zac (Q:=QV) (zel t hv p none) ?_
    intro R1 hR1 u u' hu
    exact zcG f (zdS hx _) ((zaz.one hu).app ((ha.mono hR1).ext 1 _))
  | yield l=>simp[znr] at h0
def zjD(L:Program)(s:TypeId)(f:Nat):Bool:=match L.underlying s with
 | some (.struct fs)=>(match fs[f]? with
  | some fd=>(match L.info? fd.type with|some i=>i.size != 0|none=>true)
  | none=>true)
 | _=>true
def nilTy(L:Program)(op:BinOp)(t:TypeId)(y:Operand):Bool :=
 (match op with
  | .eql|.neq=>true
  | _=>false) && (match y with
  | .const (.pointer none)=>true
  | _=>false) && (match L.underlying t with
  | some (.pointer _)=>true
  | _=>false)
theorem zp3{op:BinOp}{y:Operand}(h:nilTy L op t y=true):(op=.eql\/op=.neq)/\y=.const (.pointer none)/\∃ e,L.underlying t=some (.pointer e):=by
 simp only[nilTy,Bool.and_eq_true] at h
 obtain⟨⟨h1,h2⟩,h3⟩:=h
 refine⟨?_,?_,?_⟩
 ·revert h1
  cases op <;> first|exact fun _=>Or.inl rfl|exact fun _=>Or.inr rfl|(intro q;cases q)
 ·cases y with
  | const v =>
   cases v with
   | pointer o =>
    cases o with
    | none=>rfl
    | some a=>cases h2
   | _=>cases h2
  | _=>cases h2
 ·revert h3
  cases L.underlying t with
  | none=>intro q;cases q
  | some d =>
   cases d with
   | pointer e=>exact fun _=>⟨e,rfl⟩
   | _=>intro q;cases q
theorem zli[low:zaF][Twin L M]{R:BR}{e:TypeId}(ht:L.underlying t=some (.pointer e))(hx:zao R x x'):zai L M QEq R (Op.equal t x (.pointer none)) (Op.equal t x' (.pointer none)):=by
 show zai L M QEq R (Op.equalIn (9999+1) t x (.pointer none)) (Op.equalIn (9999+1) t x' (.pointer none))
 unfold Op.equalIn
 refine zac (zaJ t) ?_
 rintro R1 hR1 d _ ⟨rfl,hd⟩
 obtain rfl:d=.pointer e:=by rw[ht] at hd;exact(Option.some.inj hd).symm
 cases hx with
 | ptr _=>exact zae rfl
 | nilPtr=>exact zae rfl
 | _=>exact zai.halt
theorem zqx[low:zaF][Twin L M]{R:BR}{op:BinOp}(hop:op=.eql\/op=.neq){e:TypeId}(ht:L.underlying t=some (.pointer e))(hx:zao R x x'):zai L M QV R (binOp op t x (.pointer none)) (binOp op t x' (.pointer none)):=by
 rcases hop with rfl|rfl
 ·have tail:zai L M QV R (Op.equal t x (.pointer none) >>= fun b=>pure (.bool b)) (Op.equal t x' (.pointer none) >>= fun b=>pure (.bool b)) :=
   zac (zli ht hx) fun _ _ _ _ e=>by rw[e];exact zae (.bool _)
  cases hx with
  | junk _ _=>exact zai.never (show zcz L (Op.equal t (.tuple #[]) _ >>= (fun b=>pure (Value.bool b):Bool->Sem Value)) from zat (zdj t _))
  | _=>exact tail
 ·have tail:zai L M QV R (Op.equal t x (.pointer none) >>= fun b=>pure (.bool (!b))) (Op.equal t x' (.pointer none) >>= fun b=>pure (.bool (!b))) :=
   zac (zli ht hx) fun _ _ _ _ e=>by rw[e];exact zae (.bool _)
  cases hx with
  | junk _ _=>exact zai.never (show zcz L (Op.equal t (.tuple #[]) _ >>= (fun b=>pure (Value.bool (!b)):Bool->Sem Value)) from zat (zdj t _))
  | _=>exact tail
def zgU(L:Program)(o:Op):Bool:=match o with
 | .move x|.assign x|.box _ x|.load _ x|.unOp _ _ x|.makeInterface _ x|.field _ x _|.extract x _|.typeAssert x _ _ _=>za4 x
 | .nilCheck x=>za4 x
 | .pick c a b=>za4 c && za4 a && za4 b
 | .alloc _=>true
 | .build _ ps|.buildSlice _ _ ps=>ps.all fun p=>za4 p.2
 | .store _ a x|.makeSlice _ a x|.indexAddr _ a x|.index _ a x=>za4 a && za4 x
 | .binOp op t x y _=>(zlu L op t || nilTy L op t y) && za4 x && za4 y
 | .convert s d x=>znc L s d && za4 x
 | .makeFunc fn a c=>znr fn && a.all za4 && c.all za4
 | .makeMap _ r=>r.all za4
 | .slice _ x lo hi mx=>za4 x && lo.all za4 && hi.all za4 && mx.all za4
 | .fieldAddr s x f=>zjD L s f && za4 x
 | .lookup t x k _=>zlR L t && za4 x && za4 k
 | .mapUpdate t m k x|.insert t m k x=>zlR L t && za4 m && za4 k && za4 x
 | .call c=>zdf L c && c.args.all za4
 | _=>false
theorem sv[low:zaF]{R:BR}{s s':Sem Value}(h:zai L M QV R s s'):zai L M (QX L) R (s >>= fun v=>pure (.value v)) (s' >>= fun v=>pure (.value v)):=zac h fun _ _ _ _ hv=>zae (.value hv)
theorem su[low:zaF]{R:BR}{s s':Sem Unit}(h:zai L M QEq R s s'):zai L M (QX L) R (s >>= fun _=>pure .skip) (s' >>= fun _=>pure .skip):=zac h fun _ _ _ _ _=>zae .skip
theorem zlH{f:Nat}(h:zjD L s f=true):∀ fs fd,L.underlying s=some (.struct fs)->fs[f]?=some fd->∀ i,L.info? fd.type=some i->i.size≠0:=by
 intro fs fd h1 h2 i h3
 simp only[zjD,h1,h2,h3] at h
 simpa using h
theorem zoC[low:zaF][T:zaB L M](hz:zbo L){R:BR}(h1:R.One)(hfn:∀ f,ρ (.func f)=.func (.func f) #[] #[]/\ρ' (.func f)=.func (.func f) #[] #[])(hnil:ρ (.const (.pointer none))=.pointer none/\ρ' (.const (.pointer none))=.pointer none)(h:zeW R ρ ρ'){o:Oper}(ho:zgU L o.op=true):zai L M (QX L) R (execOp ρ o) (execOp ρ' o):=by
 obtain⟨dst,op,ty,pos,after,guard⟩:=o
 simp only at ho
 cases op with
 | move x=>exact zae (.value (h x ho))
 | assign x=>exact zae (.value (h x ho))
 | pick c a b =>
  simp only[zgU,Bool.and_eq_true] at ho
  refine zac (zoz (h c ho.1.1)) ?_
  rintro R1 hR1 t _ rfl
  cases t
  ·exact zae (.value ((h b ho.2).mono hR1))
  ·exact zae (.value ((h a ho.1.2).mono hR1))
 | alloc e=>exact sv (zqq hz e)
 | box e x=>exact sv (zsA e (h x ho))
 | build t ps=>exact sv (zqt hz t (h.parts ho))
 | buildSlice t n ps=>exact sv (zhT hz t n (h.parts ho))
 | load t a=>exact sv (zoI t (h a ho))
 | store t a x =>
  simp only[zgU,Bool.and_eq_true] at ho
  exact su (zmB t (h a ho.1) (h x ho.2))
 | nilCheck x =>
  have hx:=h x ho
  show zai L M (QX L) R (match ρ x with
   | .pointer none|.nilIface|.nilFunc=>runtimePanic .nilDeref
   | .func (.method name) first captured =>
    match (first[0]?:Option Value) with
    | some .nilIface=>runtimePanic .nilDeref
    | some (.iface t w)=>do
     if (<- nilAhead ((<- program).types.size+Made.depth) t w name) != some false then
      unsupported (.noEntry "op/nilCheck.the method's receiver behind this interface value is a nil pointer, or cannot be seen to be none, and the arguments act or may panic (ledger 612)")
     pure (.value (.func (.method name) first captured))
    | _=>pure (.value (.func (.method name) first captured))
   | x=>pure (.value x)) (match ρ' x with
   | .pointer none|.nilIface|.nilFunc=>runtimePanic .nilDeref
   | .func (.method name) first captured =>
    match (first[0]?:Option Value) with
    | some .nilIface=>runtimePanic .nilDeref
    | some (.iface t w)=>do
     if (<- nilAhead ((<- program).types.size+Made.depth) t w name) != some false then
      unsupported (.noEntry "op/nilCheck.the method's receiver behind this interface value is a nil pointer, or cannot be seen to be none, and the arguments act or may panic (ledger 612)")
     pure (.value (.func (.method name) first captured))
    | _=>pure (.value (.func (.method name) first captured))
   | x=>pure (.value x))
  revert hx
  generalize ρ x=u
  generalize ρ' x=u'
  intro hx
  cases hx with
  | nilPtr=>exact zai.never (zaq _)
  | nilIface=>exact zai.never (zaq _)
  | nilFunc=>exact zai.never (zaq _)
  | func fn h0 q1 q2 q3 q4 =>
   cases fn with
   | method name=>simp[znr] at h0
   | _=>exact zae (.value (.func _ h0 q1 q2 q3 q4))
  | ptr a=>exact zae (.value (.ptr a))
  | bool b=>exact zae (.value (.bool b))
  | int k n=>exact zae (.value (.int k n))
  | string s=>exact zae (.value (.string s))
  | slice n m a=>exact zae (.value (.slice n m a))
  | nilSlice n m=>exact zae (.value (.nilSlice n m))
  | empty a c=>exact zae (.value (.empty a c))
  | map r=>exact zae (.value (.map r))
  | nilMap=>exact zae (.value .nilMap)
  | nilChan=>exact zae (.value .nilChan)
  | iface t v=>exact zae (.value (.iface t v))
  | agg q1 q2=>exact zae (.value (.agg q1 q2))
  | tuple q1 q2=>exact zae (.value (.tuple q1 q2))
  | junkM h0=>exact zai.never (zaq _)
  | junk h0 hj =>
   have e:(match u' with
    | .pointer none|.nilIface|.nilFunc=>(runtimePanic .nilDeref:Sem Next)
    | .func (.method name) first captured =>
     match (first[0]?:Option Value) with
     | some .nilIface=>runtimePanic .nilDeref
     | some (.iface t w)=>do
      if (<- nilAhead ((<- program).types.size+Made.depth) t w name) != some false then
       unsupported (.noEntry "op/nilCheck.the method's receiver behind this interface value is a nil pointer, or cannot be seen to be none, and the arguments act or may panic (ledger 612)")
      pure (.value (.func (.method name) first captured))
     | _=>pure (.value (.func (.method name) first captured))
    | x=>pure (.value x))=pure (.value u'):=by
    cases u' with
    | pointer o=>cases o <;> first|rfl|cases hj
    | func fn _ _=>cases fn <;> first|rfl|cases hj
    | nilIface=>cases hj
    | nilFunc=>cases hj
    | _=>rfl
   exact e ▸ zae (.value (.junk h0 hj))
 | binOp op t x y yt =>
  simp only[zgU,Bool.and_eq_true,Bool.or_eq_true] at ho
  rcases ho with ⟨⟨hb|hb,hox⟩,hoy⟩
  ·refine sv (zac (zmt op hb x y (h x hox) (h y hoy)) ?_)
   rintro R1 hR1 _ _ _
   exact zqs op hb ((h x hox).mono hR1) ((h y hoy).mono hR1)
  ·obtain⟨hop,rfl,e,he⟩:=zp3 hb
   refine sv (s:=eqGuard op t x (.const (.pointer none)) (ρ x) (ρ (.const (.pointer none))) >>= fun _=>binOp op t (ρ x) (ρ (.const (.pointer none)))) (s':=eqGuard op t x (.const (.pointer none)) (ρ' x) (ρ' (.const (.pointer none))) >>= fun _=>binOp op t (ρ' x) (ρ' (.const (.pointer none)))) ?_
   rw[hnil.1,hnil.2,zhw op t x _ (ρ x) rfl,zhw op t x _ (ρ' x) rfl]
   refine zac (Q:=QEq) (zae rfl) ?_
   rintro R1 hR1 _ _ _
   exact zqx hop he ((h x hox).mono hR1)
 | unOp op t x=>exact sv (zqA op (h x ho))
 | convert s d x =>
  simp only[zgU,Bool.and_eq_true] at ho
  exact sv (zms ho.1 (h x ho.2))
 | makeInterface t x=>exact sv (ze4 t (h x ho))
 | makeFunc fn a c =>
  simp only[zgU,Bool.and_eq_true] at ho
  exact sv (zkh ho.1.1 (h.row ho.1.2) (h.row ho.2))
 | makeMap t r =>
  exact sv (zmy t (h.opt ho))
 | makeSlice t l c =>
  simp only[zgU,Bool.and_eq_true] at ho
  exact sv (zi2 hz t (h l ho.1) (h c ho.2))
 | slice t x lo hi mx =>
  simp only[zgU,Bool.and_eq_true] at ho
  exact sv (zmA t (h x ho.1.1.1) (h.opt ho.1.1.2) (h.opt ho.1.2) (h.opt ho.2))
 | fieldAddr s x f =>
  simp only[zgU,Bool.and_eq_true] at ho
  exact sv (zmw s (h x ho.2) f (zlH ho.1))
 | field t x f=>exact sv (zqu t (h x ho) f)
 | indexAddr t x i =>
  simp only[zgU,Bool.and_eq_true] at ho
  exact sv (zmx t (h x ho.1) (h i ho.2))
 | index t x i =>
  simp only[zgU,Bool.and_eq_true] at ho
  exact sv (zqv t (h x ho.1) (h i ho.2))
 | lookup t x k ok =>
  simp only[zgU,Bool.and_eq_true] at ho
  exact sv (zoJ hz ho.1.1 (h x ho.1.2) (h k ho.2) ok)
 | mapUpdate t m k x =>
  simp only[zgU,Bool.and_eq_true] at ho
  exact su (zeU h1 ho.1.1.1 (h m ho.1.1.2) (h k ho.1.2) (h x ho.2))
 | insert t m k x =>
  simp only[zgU,Bool.and_eq_true] at ho
  exact su (zeU h1 ho.1.1.1 (h m ho.1.1.2) (h k ho.1.2) (h x ho.2))
 | typeAssert x t a ok=>exact sv (zhW hz (h x ho) t a ok)
 | extract x i=>exact sv (zmv (h x ho) i)
 | call c =>
  simp only[zgU,Bool.and_eq_true] at ho
  by_cases hj:∃ x n,c.callee=.value x/\ρ x=.func (.method n) #[.nilIface] #[]
  ·obtain⟨x,n,e1,e2⟩:=hj
   refine zai.never ?_
   have e3:resolve ρ c ty=pure { target:=.fn (.method n) #[],args:=#[.nilIface]++c.args.map ρ }:=by
    unfold resolve
    simp only[e1,e2]
    rfl
   show zcz L (resolve ρ c ty >>= fun d=>invoke d.target d.args)
   rw[e3]
   show zcz L (invoke (.fn (.method n) #[]) (#[.nilIface]++c.args.map ρ))
   unfold invoke
   have e4:(#[Value.nilIface]++c.args.map ρ)[0]?=some .nilIface:=by rw[Array.getElem?_append_left (by simp)];rfl
   simp only[e4]
   exact zaq (α:=Next) .nilDeref
  exact zac (zmz hfn h ho.1 ho.2 ty (fun x e n q=>hj ⟨x,n,e,q⟩)) fun _ _ _ _ hd=>zoG hz hd.1 hd.2.1 hd.2.2
 | _=>simp[zgU] at ho
end
section
open Go Go.Conc
variable{L M:Program}
def codeOk(L:Program):Code->Bool
 | .region _ ops _=>ops.all fun o=>zgU L o.op
 | .seq a b=>codeOk L a && codeOk L b
 | .cond c a b=>za4 c && codeOk L a && codeOk L b
 | .block _ c|.loop c|.scope c=>codeOk L c
 | .rangeFunc ..=>false
 | _=>true
def zaR(L:Program):Item->Bool
 | .code c|.inLoop c|.inScope c=>codeOk L c
 | .inBlock _=>true
 | .inRegion ops _=>ops.all fun o=>zgU L o.op
 | _=>false
structure zr2(L:Program)(fr:Frame):Prop where
 ok:fr.todo.all (zaR L)=true
 defers:fr.defers=[]
 mode:fr.mode=.run\/fr.mode=.returning
 kind:fr.kind=.normal
 round:fr.roundOf=none
 fnok:∃ fn:Func,L.funcs[fr.fn]?=some fn/\fn.body.isSome=true
def zgv(L:Program)(R:BR)(fr fr':Frame):Prop:=zr2 L fr/\∃ t,fr'={ fr with tmps:=t }/\zaz R fr.tmps t
theorem zgv.mono{R R':BR}(hR:R.le R')(h:zgv L R fr fr'):zgv L R' fr fr':=let ⟨a,t,b,c⟩:=h;⟨a,t,b,c.mono hR⟩
inductive zcj(L:Program)(R:BR):List Frame->List Frame->Prop
 | nil:zcj L R [] []
 | cons {f f':Frame} {r r':List Frame}:zgv L R f f'->f.mode=.run->zcj L R r r'->zcj L R (f::r) (f'::r')
theorem zcj.mono{R R':BR}(hR:R.le R'){l l':List Frame}(h:zcj L R l l'):zcj L R' l l':=by
 induction h with
 | nil=>exact .nil
 | cons hv hm _ ih=>exact .cons (hv.mono hR) hm ih
theorem zaz.getD{R:BR}(h:zaz R c c')(i:Nat):zao R (c.getD i undef) (c'.getD i undef):=by
 rw[Array.getD_eq_getD_getElem?,Array.getD_eq_getD_getElem?]
 rcases h.get? i with ⟨e1,e2⟩|⟨v,v',e1,e2,hv⟩
 ·rw[e1,e2];exact .tuple rfl (fun i h=>absurd h (by simp))
 ·rw[e1,e2];exact hv
theorem zhn{R:BR}{t:Array Value}(h:zaz R fr.tmps t):zeW R fr.eval ({ fr with tmps:=t }:Frame).eval:=by
 intro x hx
 cases x with
 | tmp i=>exact h.getD i
 | const v=>exact zec 9 v hx R
 | func f=>exact .func (.func f) hx rfl (fun i h=>absurd h (by simp)) rfl (fun i h=>absurd h (by simp))
 | global g=>simp[za4] at hx
theorem zao.undef{R:BR}:zao R undef undef:=.tuple rfl (fun i h=>absurd h (by simp))
theorem zkw{R:BR}{t:Array Value}(h:zaz R t t')(ops:Array Oper)(j:Nat):yielded ops t j=yielded ops t' j:=by
 unfold yielded
 cases (ops[j]?).bind (·.dst) with
 | none=>rfl
 | some d =>
  simp only[Option.bind_some]
  rcases h.get? d with ⟨e1,e2⟩|⟨v,v',e1,e2,hv⟩
  ·rw[e1,e2]
  ·rw[e1,e2]
   cases hv with
   | junk _ hj=>cases v' with|bool b=>cases hj|_=>rfl
   | _=>rfl
theorem zbS{R:BR}{t:Array Value}(ho:zr2 L fr)(h:zaz R fr.tmps t)(hv:zao R v v'):zgv L R (fr.finish v) (({ fr with tmps:=t }:Frame).finish v'):=by
 have hok:=ho.ok
 unfold Frame.finish
 dsimp only
 split
 ·rename_i ops i rest k htd
  rw[htd] at hok
  have hok2:(Item.inRegion ops rest::k).all (zaR L)=true:=by simpa [zaR] using hok
  cases hd:(ops[i]?).bind (·.dst) with
  | none=>exact⟨⟨hok2,ho.defers,ho.mode,ho.kind,ho.round,ho.fnok⟩,t,rfl,h⟩
  | some d=>exact⟨⟨hok2,ho.defers,ho.mode,ho.kind,ho.round,ho.fnok⟩,t.setIfInBounds d v',rfl,h.set d hv⟩
 ·rename_i htd;rw[htd] at hok;simp[zaR] at hok
 ·rename_i htd;rw[htd] at hok;simp[zaR] at hok
 ·rename_i htd;rw[htd] at hok;simp[zaR] at hok
 ·rename_i htd;rw[htd] at hok;simp[zaR] at hok
 ·exact⟨ho,t,rfl,h⟩
structure Bodies(L M:Program)(X:FuncId->Prop):Prop where
 same:∀(f:Nat) (fn:Func),L.funcs[f]?=some fn->fn.body.isSome=true->¬ X f->M.funcs[f]?=some fn
 code:∀(f:Nat) (fn:Func) (c:Code),L.funcs[f]?=some fn->fn.body=some c->¬ X f->codeOk L c=true
 res:∀(f:Nat) (fn fn':Func),L.funcs[f]?=some fn->M.funcs[f]?=some fn'->fn'.results=fn.results
 early:∀ g,L.stepOf g=none
 ahead:L.follows .staticDataAhead=true
 mixed:M.follows .mixedOrders=L.follows .mixedOrders
theorem zdV{R:BR}(B:Bodies L M X){f:Nat}{fn:Func}(hf:L.funcs[f]?=some fn)(hb:fn.body.isSome=true)(hx:¬ X f){a a':Array Value}(h:zaz R a a'):zgv L R (Frame.enter L f a .normal) (Frame.enter M f a' .normal):=by
 have hM:=B.same f fn hf hb hx
 cases hc:fn.body with
 | none=>rw[hc] at hb;cases hb
 | some c =>
  have hok:=B.code f fn c hf hc hx
  unfold Frame.enter
  simp only[hf,hM,hc,Option.map_some,Option.getD_some,Option.bind_some]
  refine⟨⟨by simpa [zaR] using hok,rfl,Or.inl rfl,rfl,rfl,fn,hf,by rw[hc];rfl⟩,a'++Array.replicate (fn.ntmps - a'.size) undef,rfl,?_⟩
  rw[<- h.1]
  refine h.app ⟨by simp,fun i h1 h2=>?_⟩
  simp only[Array.getElem_replicate]
  exact zao.undef
theorem zeD{dy:Option Dying}(h:GStep.go { frame:=fr,callers:=cs,status:=st,dying:=dy } w es=.go (G fr1 cs1) w1 es1):st=.running/\dy=none/\fr=fr1/\cs=cs1/\w=w1:=by
 simp only[G,GStep.go.injEq,Goroutine.mk.injEq] at h
 exact⟨h.1.2.2.1,h.1.2.2.2.1,h.1.1,h.1.2.1,h.2.1⟩
theorem raise_mode(fr:Frame)(vs:List PanicEntry):∃ c,(fr.raise vs).mode=.panicking c:=by
 unfold Frame.raise
 split <;> exact⟨_,rfl⟩
def zqT(L M:Program)(X:FuncId->Prop)(R:BR)(fr fr':Frame)(cs cs':List Frame):Prop :=
 (zgv L R fr fr'/\zcj L R cs cs')\/∃ f a a',X f/\zpe f a.size=true/\fr=Frame.enter L f a .normal/\fr'=Frame.enter M f a' .normal/\zaz R a a'/\zcj L R cs cs'/\(∃ fn fn':Func,L.funcs[f]?=some fn/\M.funcs[f]?=some fn'/\fn.body.isSome=true)/\cs≠[]
def zfq(w w1:World)(f:World->GStep)(fr1:Frame)(cs1:List Frame):Prop :=
 ∃ k,w1.tape=w.tape/\w1.drawn=w.drawn+k/\∀ τ d,(∀ i,i<k->∀ q,τ (d+i) q=w.tape (w.drawn+i) q)->∃ es,f (w.tp τ d)=.go (G fr1 cs1) (w1.tp τ (d+k)) es
structure zhh(L M:Program)(X:FuncId->Prop)(N:Nat)(R R':BR)(w w' w1 w1':World)(fr1 fr1':Frame)(cs1 cs1':List Frame)(es:Array Event):Prop where
 went:zew N R R' w w' w1 w1'
 after:zqT L M X R' fr1 fr1' cs1 cs1'
 evs:∀ e∈es,EvR N R' e
theorem zfx(B:Bodies L M X)(fr:Frame)(cs:List Frame)(g:Nat)(w:World):∃ o w' es,early L fr cs none g w=.ended o w' es:=by
 unfold early
 simp only[B.ahead,B.early,Bool.not_true,Bool.false_eq_true,if_false]
 exact⟨_,_,_,rfl⟩
theorem znn(h:endFatal L fr cs none m w=.go (G fr1 cs1) w1 es1):False:=by
 unfold endFatal at h
 dsimp only at h
 split at h
 ·unfold dieOf at h
  have:=(zeD h).2.1
  cases this
 ·cases h
 ·cases h
theorem zoR(h:endThrow fr m w=.go (G fr1 cs1) w1 es1):False:=by
 unfold endThrow dieOf at h
 have:=(zeD h).2.1
 cases this
theorem zdQ{s:GStep}(h:GStep.after es s=.go g w es1):∃ es2,s=.go g w es2/\es1=es++es2:=by
 cases s <;> simp only[GStep.after] at h <;> first|(cases h;exact⟨_,rfl,rfl⟩)|cases h
theorem zic(B:Bodies L M X){s:Sem Next}(h:stepG.apply L true fr cs none s w=.go (G fr1 cs1) w1 es1)(hm:fr1.mode=.run\/fr1.mode=.returning):∃ x w2,s.run L w=.ok x w2:=by
 cases hr:s.run L w with
 | ok x w2=>exact⟨x,w2,rfl⟩
 | halt hh w2 =>
  exfalso
  unfold stepG.apply at h
  simp only[Sem.runT_eq,if_true,hr] at h
  obtain⟨es2,h,_⟩:=zdQ h
  cases hh with
  | panic v =>
   obtain⟨_,_,e,_,_⟩:=zeD h
   obtain⟨c,hc⟩:=raise_mode fr [{ v,recovered:=false }]
   rw[e] at hc
   rcases hm with hm|hm <;> (rw[hm] at hc;cases hc)
  | goexit =>
   obtain⟨_,_,e,_,_⟩:=zeD h
   obtain⟨c,hc⟩:=raise_mode fr [goexitEntry]
   rw[e] at hc
   rcases hm with hm|hm <;> (rw[hm] at hc;cases hc)
  | blocked=>have:=(zeD h).1;cases this
  | waiting=>have:=(zeD h).1;cases this
  | exit c=>cases h
  | fatal m=>exact znn h
  | throw m=>exact zoR h
  | unsupported u =>
   cases u with
   | initOrder g =>
    obtain⟨o,w',es,e⟩:=zfx B fr cs g w2
    have h':early L fr cs none g w2=.go (G fr1 cs1) w1 es2:=h
    rw[e] at h'
    cases h'
   | _=>cases h
  | stuck s=>cases h
theorem zfs{s:Sem Next}(hk:(fr.kind == CallKind.early)=false)(h:s.run P w=.ok (.value v) w2):∃ es,stepG.apply P true fr cs none s w=.go (G (fr.finish v) cs) w2 es:=by
 unfold stepG.apply
 simp only[Sem.runT_eq,if_true,h,hk]
 exact⟨_,rfl⟩
theorem zgG{s:Sem Next}(hk:(fr.kind == CallKind.early)=false)(h:s.run P w=.ok .skip w2):∃ es,stepG.apply P true fr cs none s w=.go (G (fr.finish undef) cs) w2 es:=by
 unfold stepG.apply
 simp only[Sem.runT_eq,if_true,h,hk]
 exact⟨_,rfl⟩
theorem zfr{s:Sem Next}{a:Array Value}(hk:(fr.kind == CallKind.early)=false)(hreg:∃ ops i r k,fr.todo=.inRegion ops (i::r)::k)(h:s.run P w=.ok (.enter f a) w2) :
  ∃ es,stepG.apply P true fr cs none s w=.go (G (Frame.enter P f a .normal) (fr::cs)) w2 es:=by
 obtain⟨ops,i,r,k,hreg⟩:=hreg
 unfold stepG.apply
 simp only[Sem.runT_eq,if_true,h,hk]
 simp only[hreg]
 exact⟨_,rfl⟩
theorem zmY[zaB L M](B:Bodies L M X){R:BR}{t:Array Value}{s s':Sem Next}(ho:zr2 L fr)(hrun:fr.mode=.run)(ht:zaz R fr.tmps t)(hcs:zcj L R cs cs')(hw:zbb N R w w')(hs:@zai ⟨N⟩ _ L M (QX L) R s s')(hreg:∃ ops i r k,fr.todo=.inRegion ops (i::r)::k)(h:stepG.apply L true fr (cs++base) none s w=.go (G fr1 csx) w1 es1)(hm:fr1.mode=.run\/fr1.mode=.returning) :
  ∃ R' fr1' cs1 cs1' w1' es',csx=cs1++base/\stepG.apply M true { fr with tmps:=t } (cs'++rest) none s' w'=.go (G fr1' (cs1'++rest)) w1' es'/\zhh L M X N R R' w w' w1 w1' fr1 fr1' cs1 cs1' es'/\zfq w w1 (stepG.apply L true fr (cs++base) none s) fr1 csx:=by
 obtain⟨x,w2,hx⟩:=zic B h hm
 obtain⟨R',x',w2',es',hrT,hwent,hnr,hev,k0,l1,l2,l3⟩:=zhR hs hw hx
 have hregE:=hreg
 obtain⟨ops,i,r,k,hreg⟩:=hreg
 have hk1:(fr.kind == CallKind.early)=false:=by rw[ho.kind];rfl
 have hk2:(({ fr with tmps:=t }:Frame).kind == CallKind.early)=false:=hk1
 have hr2:=hrT #[]
 unfold stepG.apply at h
 simp only[Sem.runT_eq,if_true,hx,hk1] at h
 have hgo:∀(g:Goroutine),(∀ es,GStep.after (seen M fr.fn (#[]++es')) (.go g w2' es)=.go g w2' (seen M fr.fn (#[]++es')++es)):=fun g es=>rfl
 have hevs:∀ e∈seen M fr.fn (#[]++es')++#[],EvR N R' e:=by
  intro e he
  have:=mem_seen (by simpa using he)
  exact hev e this
 cases hnr with
 | value hv =>
  obtain⟨es2,h,_⟩:=zdQ h
  obtain⟨_,_,rfl,rfl,rfl⟩:=zeD h
  refine⟨R',_,cs,cs',w2',_,rfl,?_,⟨hwent,Or.inl ⟨zbS ho (ht.mono hwent.le) hv,hcs.mono hwent.le⟩,hevs⟩,k0,l1,l2,fun τ d hh=>zfs hk1 (l3 τ d hh)⟩
  unfold stepG.apply
  simp only[if_true,hr2,hk1]
  rfl
 | skip =>
  obtain⟨es2,h,_⟩:=zdQ h
  obtain⟨_,_,rfl,rfl,rfl⟩:=zeD h
  refine⟨R',_,cs,cs',w2',_,rfl,?_,⟨hwent,Or.inl ⟨zbS ho (ht.mono hwent.le) zao.undef,hcs.mono hwent.le⟩,hevs⟩,k0,l1,l2,fun τ d hh=>zgG hk1 (l3 τ d hh)⟩
  unfold stepG.apply
  simp only[if_true,hr2,hk1]
  rfl
 | @enter f a a' hfn har ha =>
  obtain⟨es2,h,_⟩:=zdQ h
  obtain⟨fn,hf,hb⟩:=hfn
  have hkind:(match fr.todo with|.call _ true _ _::_=>CallKind.wrapped|_=>CallKind.normal)=CallKind.normal:=by rw[hreg]
  have h':GStep.go { frame:=Frame.enter L f a (match fr.todo with|.call _ true _ _::_=>CallKind.wrapped|_=>CallKind.normal),callers:=fr::(cs++base),status:=.running,dying:=none } w2=GStep.go (G fr1 csx) w1 es2:=h
  rw[hkind] at h'
  obtain⟨_,_,rfl,rfl,rfl⟩:=zeD h'
  have hcs2:zcj L R' (fr::cs) ({ fr with tmps:=t }::cs'):=.cons ⟨ho,t,rfl,ht.mono hwent.le⟩ hrun (hcs.mono hwent.le)
  refine⟨R',Frame.enter M f a' .normal,fr::cs,{ fr with tmps:=t }::cs',w2',seen M fr.fn (#[]++es')++#[],rfl,?_,⟨hwent,?_,hevs⟩,k0,l1,l2,fun τ d hh=>zfr hk1 hregE (l3 τ d hh)⟩
  ·unfold stepG.apply
   simp only[if_true,hr2,hk1]
   show GStep.after _ (GStep.go { frame:=Frame.enter M f a' (match fr.todo with|.call _ true _ _::_=>CallKind.wrapped|_=>CallKind.normal),callers:=_,status:=.running,dying:=none } w2')=_
   rw[hkind]
   rfl
  ·by_cases hX:X f
   ·obtain⟨_,fn',hf',_,_⟩:=zaB.fn (L:=L) (M:=M) f fn hf hb
    exact Or.inr ⟨f,a,a',hX,har,rfl,rfl,ha,hcs2,⟨fn,fn',hf,hf',hb⟩,by simp⟩
   ·exact Or.inl ⟨zdV B hf hb hX ha,hcs2⟩
theorem zeo(P:Program)(main:Bool)(fr:Frame)(cs:List Frame)(w:World)(h:fr.mode=.run):stepG P main (G fr cs) w=stepG.exec P main true fr cs none w:=by
 unfold stepG G
 simp only[h]
theorem zbf(P:Program)(main:Bool)(fr:Frame)(cs:List Frame)(w:World)(h:fr.mode=.returning):stepG P main (G fr cs) w=unwind P main fr cs none w:=by
 unfold stepG G
 simp only[h]
theorem zeH[low:zaF][Twin L M]{R:BR}{fn:Func}(hr:fn'.results=fn.results){t:Array Value}(h:zaz R t t'):zai L M QV R (results fn t) (results fn' t'):=by
 unfold results
 rw[hr,Array.mapM_eq_mapM_toList,Array.mapM_eq_mapM_toList,<- bind_pure_comp,<- bind_pure_comp]
 have key:∀(l:List ResultVar) (R1:BR),R.le R1->zai L M (fun R a b=>zhe R a b) R1
   (l.mapM fun|.tmp t'=>pure (t.getD t' undef)|.cell a ty=>do loadVar ty (<- asAddr (t.getD a undef)))
   (l.mapM fun|.tmp t=>pure (t'.getD t undef)|.cell a ty=>do loadVar ty (<- asAddr (t'.getD a undef))):=by
  intro l
  induction l with
  | nil=>intro R1 _;rw[List.mapM_nil,List.mapM_nil];exact zae .nil
  | cons x l ih =>
   intro R1 hR1
   rw[List.mapM_cons,List.mapM_cons]
   have hx:zai L M QV R1 ((fun|.tmp t'=>pure (t.getD t' undef)|.cell a ty=>do loadVar ty (<- asAddr (t.getD a undef)):ResultVar->Sem Value) x) ((fun|.tmp t=>pure (t'.getD t undef)|.cell a ty=>do loadVar ty (<- asAddr (t'.getD a undef)):ResultVar->Sem Value) x):=by
    cases x with
    | tmp i=>exact zae ((h.mono hR1).getD i)
    | cell a ty=>exact zac (zf3 ((h.mono hR1).getD a)) fun _ _ _ _ ha=>zeG ty ha
   refine zac hx ?_
   intro R2 hR2 v v' hv
   refine zac (ih R2 (BR.le_trans hR1 hR2)) ?_
   intro R3 hR3 vs vs' hvs
   exact zae (.cons (hv.mono hR3) hvs)
 refine zac (zac (key fn.results.toList R (BR.le_refl R)) fun R1 hR1 vs vs' hvs=>zae (Q:=fun R (a b:Array Value)=>zhe R a.toList b.toList) (by simpa using hvs)) ?_
 intro R1 hR1 vs vs' hvs
 refine zae ?_
 obtain⟨vs⟩:=vs
 obtain⟨vs'⟩:=vs'
 replace hvs:zhe R1 vs vs':=hvs
 cases hvs with
 | nil=>exact .tuple rfl (fun i h=>absurd h (by simp))
 | cons hv hr =>
  cases hr with
  | nil=>exact hv
  | cons hv2 hr2 =>
   have hl:zhe R1 (_::_::_) (_::_::_):=.cons hv (.cons hv2 hr2)
   rw[dif_neg (by simp),dif_neg (by simp)]
   have len:∀ {a b:List Value},zhe R1 a b->a.length=b.length:=by
    intro a b hab
    induction hab with
    | nil=>rfl
    | cons _ _ ih=>simp[ih]
   have get:∀ {a b:List Value},zhe R1 a b->∀ i (h:i<a.length) (h':i<b.length),zao R1 a[i] b[i]:=by
    intro a b hab
    induction hab with
    | nil=>intro i h;simp at h
    | cons hv _ ih =>
     intro i h h'
     cases i with
     | zero=>exact hv
     | succ i=>exact ih i (by simpa using h) (by simpa using h')
   exact .tuple (by simpa using len hl) (fun i h1 h2=>by simpa using get hl i (by simpa using h1) (by simpa using h2))
theorem zfA{id:Nat}:∀ {k k':List Item},exitTo id k=some k'->k.all (zaR L)=true->k'.all (zaR L)=true
 | [],k',h,_=>by simp[exitTo] at h
 | i::k,k',h,hk=>by
  simp only[List.all_cons,Bool.and_eq_true] at hk
  cases i with
  | inBlock id' =>
   simp only[exitTo] at h
   split at h
   ·cases h;exact hk.2
   ·exact zfA h hk.2
  | _=>simp only[exitTo] at h;exact zfA h hk.2
theorem zcW{l:Nat}:∀ {c c':Code},findLabel c l=some c'->codeOk L c=true->codeOk L c'=true
 | .seq a b,c',h,hc=>by
  simp only[codeOk,Bool.and_eq_true] at hc
  unfold findLabel at h
  split at h
  ·rename_i r hr
   cases h
   simp only[codeOk,Bool.and_eq_true]
   exact⟨zcW hr hc.1,hc.2⟩
  ·exact zcW h hc.2
 | .label l',c',h,_=>by
  unfold findLabel at h
  split at h
  ·cases h;rfl
  ·cases h
 | .skip,_,h,_|.region _ _ _,_,h,_|.cond _ _ _,_,h,_|.block _ _,_,h,_|.loop _,_,h,_|.rangeFunc _ _ _ _,_,h,_|.exit _,_,h,_|.scope _,_,h,_|.goto _,_,h,_|.ret,_,h,_|.refuse _,_,h,_=>by simp[findLabel] at h
theorem zfE{l:Nat}:∀ {k k':List Item},gotoIn l k=some k'->k.all (zaR L)=true->k'.all (zaR L)=true
 | [],k',h,_=>by simp[gotoIn] at h
 | i::k,k',h,hk=>by
  simp only[List.all_cons,Bool.and_eq_true] at hk
  cases i with
  | inScope body =>
   simp only[gotoIn] at h
   split at h
   ·rename_i r hr
    cases h
    have hb:codeOk L body=true:=by simpa [zaR] using hk.1
    simp only[List.all_cons,zaR,Bool.and_eq_true]
    exact⟨zcW hr hb,hb,hk.2⟩
   ·exact zfE h hk.2
  | _=>simp only[gotoIn] at h;exact zfE h hk.2
theorem zao.bool_of{R:BR}(h:zao R v v')(e:v=.bool b):v'=.bool b:=by
 subst e
 cases h
 rfl
theorem zbc{R:BR}{t:Array Value}(main:Bool)(ht:zaz R fr.tmps t)(hcs:zcj L R cs cs')(hw:zbb N R w w'){fr2:Frame}(hok:zr2 L fr2)(ht2:fr2.tmps=fr.tmps)(h:GStep.go { frame:=fr2,callers:=cs++base,status:=.running,dying:=none } w=.go (G fr1 csx) w1 es1)(hL:∀ ww,stepG L true (G fr (cs++base)) ww=.go { frame:=fr2,callers:=cs++base,status:=.running,dying:=none } ww)(hM:stepG M main (G { fr with tmps:=t } (cs'++rest)) w'=.go { frame:={ fr2 with tmps:=t },callers:=cs'++rest,status:=.running,dying:=none } w') :
  ∃ R' fr1' cs1 cs1' w1' es',csx=cs1++base/\stepG M main (G { fr with tmps:=t } (cs'++rest)) w'=.go (G fr1' (cs1'++rest)) w1' es'/\zhh L M X N R R' w w' w1 w1' fr1 fr1' cs1 cs1' es'/\zfq w w1 (stepG L true (G fr (cs++base))) fr1 csx:=by
 obtain⟨_,_,rfl,rfl,rfl⟩:=zeD h
 exact⟨R,{ fr2 with tmps:=t },cs,cs',w',#[],rfl,hM,⟨zew.refl hw,Or.inl ⟨⟨hok,t,rfl,by rw[ht2];exact ht⟩,hcs⟩,by simp⟩,0,rfl,rfl,fun τ d _=>⟨#[],hL (w.tp τ d)⟩⟩
theorem zhX[T:zaB L M](B:Bodies L M X)(hz:zbo L){R:BR}(main:Bool)(hf:zgv L R fr fr')(hcs:zcj L R cs cs')(hw:zbb N R w w')(h:stepG L true (G fr (cs++base)) w=.go (G fr1 csx) w1 es1)(hm:fr1.mode=.run\/fr1.mode=.returning)(hne:fr.mode=.returning->cs≠[]) :
  ∃ R' fr1' cs1 cs1' w1' es',csx=cs1++base/\stepG M main (G fr' (cs'++rest)) w'=.go (G fr1' (cs1'++rest)) w1' es'/\zhh L M X N R R' w w' w1 w1' fr1 fr1' cs1 cs1' es'/\zfq w w1 (stepG L true (G fr (cs++base))) fr1 csx:=by
 obtain⟨ho,t,rfl,ht⟩:=hf
 obtain⟨hok,hdef,hmode,hkind,hround,hfn⟩:=ho
 obtain⟨fn,tmps,todo,defers,mode,kind,roundOf⟩:=fr
 simp only at hok hdef hmode hkind hround hfn ht hne
 subst hdef hkind hround
 have ho:∀ {td:List Item} {md:FrameMode},td.all (zaR L)=true->(md=.run\/md=.returning)->zr2 L { fn:=fn,tmps:=tmps,todo:=td,defers:=[],mode:=md,kind:=.normal,roundOf:=none }:=fun a b=>⟨a,rfl,b,rfl,rfl,hfn⟩
 rcases hmode with rfl|rfl
 ·skip
  cases todo with
  | nil=>exact zbc main ht hcs hw (ho hok (Or.inr rfl)) rfl h (fun _=>rfl) rfl
  | cons it k =>
   simp only[List.all_cons,Bool.and_eq_true] at hok
   obtain⟨hit,hk⟩:=hok
   have hall:(it::k).all (zaR L)=true:=by simp only[List.all_cons,Bool.and_eq_true];exact⟨hit,hk⟩
   cases it with
   | code c =>
    cases c with
    | ret=>exact zbc main ht hcs hw (ho hall (Or.inr rfl)) rfl h (fun _=>rfl) rfl
    | skip=>exact zbc main ht hcs hw (ho hk (Or.inl rfl)) rfl h (fun _=>rfl) rfl
    | label l=>exact zbc main ht hcs hw (ho hk (Or.inl rfl)) rfl h (fun _=>rfl) rfl
    | seq a b =>
     simp only[zaR,codeOk,Bool.and_eq_true] at hit
     exact zbc main ht hcs hw (ho (td:=.code a::.code b::k) (by simp only[List.all_cons,zaR,Bool.and_eq_true];exact⟨hit.1,hit.2,hk⟩) (Or.inl rfl)) rfl h (fun _=>rfl) rfl
    | cond c a b =>
     simp only[zaR,codeOk,Bool.and_eq_true] at hit
     have hev:=zhn (fr:={ fn:=fn,tmps:=tmps,todo:=.code (.cond c a b)::k,defers:=[],mode:=.run,kind:=.normal,roundOf:=none }) ht c hit.1.1
     have hstep:∀(P:Program) (main:Bool) (tm:Array Value) (cc:List Frame) (ww:World),stepG P main (G { fn:=fn,tmps:=tm,todo:=.code (.cond c a b)::k,defers:=[],mode:=.run,kind:=.normal,roundOf:=none } cc) ww =
       match ({ fn:=fn,tmps:=tm,todo:=.code (.cond c a b)::k,defers:=[],mode:=.run,kind:=.normal,roundOf:=none }:Frame).eval c with
       | .bool bb=>.go { frame:={ fn:=fn,tmps:=tm,todo:=.code (if bb then a else b)::k,defers:=[],mode:=.run,kind:=.normal,roundOf:=none },callers:=cc,status:=.running,dying:=none } ww
       | _=>.ended (.stuck "cond: bool expected" (({ fn:=fn,tmps:=tm,todo:=.code (.cond c a b)::k,defers:=[],mode:=.run,kind:=.normal,roundOf:=none }:Frame).pos P)) ww:=fun _ _ _ _ _=>rfl
     have hM0:=hstep M main t (cs'++rest) w'
     rw[hstep] at h
     split at h
     ·rename_i bb hbb
      have hbb':=hev.bool_of hbb
      refine zbc main ht hcs hw (ho (td:=.code (if bb then a else b)::k) (by simp only[List.all_cons,zaR,Bool.and_eq_true];exact⟨by cases bb <;> simp[hit.2,hit.1.2],hk⟩) (Or.inl rfl)) rfl h (fun ww=>by rw[hstep];simp only[hbb]) ?_
      refine hM0.trans ?_
      simp only[hbb']
     ·cases h
    | block id c=>exact zbc main ht hcs hw (ho (td:=.code c::.inBlock id::k) (by simp only[List.all_cons,zaR,Bool.and_eq_true,true_and];exact⟨hit,hk⟩) (Or.inl rfl)) rfl h (fun _=>rfl) rfl
    | loop c=>exact zbc main ht hcs hw (ho (td:=.code c::.inLoop c::k) (by simp only[List.all_cons,zaR,Bool.and_eq_true];exact⟨hit,hit,hk⟩) (Or.inl rfl)) rfl h (fun _=>rfl) rfl
    | scope c=>exact zbc main ht hcs hw (ho (td:=.code c::.inScope c::k) (by simp only[List.all_cons,zaR,Bool.and_eq_true];exact⟨hit,hit,hk⟩) (Or.inl rfl)) rfl h (fun _=>rfl) rfl
    | exit id =>
     have hstep:∀(P:Program) (main:Bool) (tm:Array Value) (cc:List Frame) (ww:World),stepG P main (G { fn:=fn,tmps:=tm,todo:=.code (.exit id)::k,defers:=[],mode:=.run,kind:=.normal,roundOf:=none } cc) ww =
       (exitTo id k).elim (.ended (.stuck "exit, goto: no such block or label" (({ fn:=fn,tmps:=tm,todo:=.code (.exit id)::k,defers:=[],mode:=.run,kind:=.normal,roundOf:=none }:Frame).pos P)) ww)
        fun k'=>.go { frame:={ fn:=fn,tmps:=tm,todo:=k',defers:=[],mode:=.run,kind:=.normal,roundOf:=none },callers:=cc,status:=.running,dying:=none } ww:=fun _ _ _ _ _=>rfl
     have hM0:=hstep M main t (cs'++rest) w'
     rw[hstep] at h
     cases hx:exitTo id k with
     | none=>rw[hx] at h;cases h
     | some k' =>
      rw[hx] at h hM0
      exact zbc main ht hcs hw (ho (zfA hx hk) (Or.inl rfl)) rfl h (fun ww=>by rw[hstep,hx];rfl) hM0
    | goto l =>
     have hstep:∀(P:Program) (main:Bool) (tm:Array Value) (cc:List Frame) (ww:World),stepG P main (G { fn:=fn,tmps:=tm,todo:=.code (.goto l)::k,defers:=[],mode:=.run,kind:=.normal,roundOf:=none } cc) ww =
       (gotoIn l k).elim (.ended (.stuck "exit, goto: no such block or label" (({ fn:=fn,tmps:=tm,todo:=.code (.goto l)::k,defers:=[],mode:=.run,kind:=.normal,roundOf:=none }:Frame).pos P)) ww)
        fun k'=>.go { frame:={ fn:=fn,tmps:=tm,todo:=k',defers:=[],mode:=.run,kind:=.normal,roundOf:=none },callers:=cc,status:=.running,dying:=none } ww:=fun _ _ _ _ _=>rfl
     have hM0:=hstep M main t (cs'++rest) w'
     rw[hstep] at h
     cases hx:gotoIn l k with
     | none=>rw[hx] at h;cases h
     | some k' =>
      rw[hx] at h hM0
      exact zbc main ht hcs hw (ho (zfE hx hk) (Or.inl rfl)) rfl h (fun ww=>by rw[hstep,hx];rfl) hM0
    | rangeFunc f ps a b=>simp[zaR,codeOk] at hit
    | refuse why=>cases h
    | region id ops draw =>
     have hops:∀ l,(Item.inRegion ops l::k).all (zaR L)=true:=fun l=>by simp only[List.all_cons,zaR,Bool.and_eq_true];exact⟨hit,hk⟩
     cases draw with
     | false=>exact zbc main ht hcs hw (ho (hops _) (Or.inl rfl)) rfl h (fun _=>rfl) rfl
     | true =>
      have hstep:∀(P:Program) (main:Bool) (tm:Array Value) (cc:List Frame) (ww:World),stepG P main (G { fn:=fn,tmps:=tm,todo:=.code (.region id ops true)::k,defers:=[],mode:=.run,kind:=.normal,roundOf:=none } cc) ww =
        .go { frame:={ fn:=fn,tmps:=tm,todo:=.inRegion ops (Region.schedule (P.follows .mixedOrders) ops (ww.tape ww.drawn (.order fn id)))::k,defers:=[],mode:=.run,kind:=.normal,roundOf:=none },callers:=cc,status:=.running,dying:=none } { ww with drawn:=ww.drawn+1 }:=fun _ _ _ _ _=>rfl
      rw[hstep] at h
      obtain⟨_,_,rfl,rfl,rfl⟩:=zeD h
      refine⟨R,_,cs,cs',_,#[],rfl,hstep M main t (cs'++rest) w',⟨?_,Or.inl ⟨⟨ho (hops _) (Or.inl rfl),t,?_,ht⟩,hcs⟩,by simp⟩,1,rfl,rfl,fun τ d hh=>⟨#[],?_⟩⟩
      ·exact⟨BR.le_refl R,⟨hw.one,hw.blk,hw.tape,by simp[hw.drawn],hw.low⟩,fun _ _ x=>Or.inl x,Nat.le_refl _,Nat.le_refl _,fun _ _ _=>rfl,rfl,rfl,rfl⟩
      ·rw[B.mixed,<- hw.tape,<- hw.drawn]
      ·refine(hstep L true tmps (cs++base) (w.tp τ d)).trans ?_
       have h0:(w.tp τ d).tape (w.tp τ d).drawn (.order fn id)=w.tape w.drawn (.order fn id):=hh 0 (by omega) _
       rw[h0]
       rfl
   | inBlock id=>exact zbc main ht hcs hw (ho hk (Or.inl rfl)) rfl h (fun _=>rfl) rfl
   | inScope c=>exact zbc main ht hcs hw (ho hk (Or.inl rfl)) rfl h (fun _=>rfl) rfl
   | inLoop c=>exact zbc main ht hcs hw (ho (td:=.code c::.inLoop c::k) (by simp only[List.all_cons,zaR,Bool.and_eq_true];exact⟨hit,hit,hk⟩) (Or.inl rfl)) rfl h (fun _=>rfl) rfl
   | inRegion ops td =>
    cases td with
    | nil=>exact zbc main ht hcs hw (ho hk (Or.inl rfl)) rfl h (fun _=>rfl) rfl
    | cons i r =>
     have hy:yielded ops tmps=yielded ops t:=funext (zkw ht ops)
     have hstep:∀(P:Program) (main:Bool) (tm:Array Value) (cc:List Frame) (ww:World),stepG P main (G { fn:=fn,tmps:=tm,todo:=.inRegion ops (i::r)::k,defers:=[],mode:=.run,kind:=.normal,roundOf:=none } cc) ww =
       if ((ops[i]?).map (Region.wanted · (yielded ops tm))).getD false=true then stepG.oper P true { fn:=fn,tmps:=tm,todo:=.inRegion ops (i::r)::k,defers:=[],mode:=.run,kind:=.normal,roundOf:=none } cc none ww
       else .go { frame:=({ fn:=fn,tmps:=tm,todo:=.inRegion ops (i::r)::k,defers:=[],mode:=.run,kind:=.normal,roundOf:=none }:Frame).finish undef,callers:=cc,status:=.running,dying:=none } ww:=fun _ _ _ _ _=>rfl
     have hM0:=hstep M main t (cs'++rest) w'
     rw[<- hy] at hM0
     rw[hstep] at h
     split at h
     ·rename_i hwant
      rw[if_pos hwant] at hM0
      simp only[stepG.oper,Frame.oper?] at h
      cases hoi:ops[i]? with
      | none=>rw[hoi] at hwant;cases hwant
      | some o =>
       rw[hoi] at h
       simp only at h
       have hopk:zgU L o.op=true:=by
        simp only[zaR] at hit
        rw[Array.all_eq_true_iff_forall_mem] at hit
        exact hit o (Array.mem_of_getElem? hoi)
       have hsr:=zoC (low:=⟨N⟩) (M:=M) hz hw.one (fun _=>⟨rfl,rfl⟩) ⟨rfl,rfl⟩ (zhn (fr:={ fn:=fn,tmps:=tmps,todo:=.inRegion ops (i::r)::k,defers:=[],mode:=.run,kind:=.normal,roundOf:=none }) ht) (o:=o) hopk
       obtain⟨R',fr1',cs1,cs1',w1',es',hcx,h1,h2,k0,l1,l2,l3⟩:=zmY (rest:=rest) B (ho hall (Or.inl rfl)) rfl ht hcs hw hsr ⟨ops,i,r,k,rfl⟩ h hm
       refine⟨R',fr1',cs1,cs1',w1',es',hcx,hM0.trans ?_,h2,k0,l1,l2,fun τ d hh=>?_⟩
       rotate_left
       ·obtain⟨es,he⟩:=l3 τ d hh
        refine⟨es,?_⟩
        refine(hstep L true tmps (cs++base) (w.tp τ d)).trans ?_
        rw[if_pos hwant]
        simp only[stepG.oper,Frame.oper?,hoi]
        exact he
       simp only[stepG.oper,Frame.oper?,hoi]
       exact h1
     ·rename_i hwant
      rw[if_neg hwant] at hM0
      obtain⟨_,_,rfl,rfl,rfl⟩:=zeD h
      exact⟨R,_,cs,cs',w',#[],rfl,hM0,⟨zew.refl hw,Or.inl ⟨zbS (ho hall (Or.inl rfl)) ht zao.undef,hcs⟩,by simp⟩,0,rfl,rfl,fun τ d _=>⟨#[],(hstep L true tmps (cs++base) (w.tp τ d)).trans (by rw[if_neg hwant];rfl)⟩⟩
   | _=>simp[zaR] at hit
 ·skip
  cases hcs with
  | nil=>exact absurd rfl (hne rfl)
  | @cons c c' r r' hc hcm hcr =>
   obtain⟨fun1,hfn1,hb⟩:=hfn
   obtain⟨_,fun2,hfn2,_,_⟩:=zaB.fn (L:=L) (M:=M) fn fun1 hfn1 hb
   have hsr:=zeH (low:=⟨N⟩) (L:=L) (M:=M) (B.res _ _ _ hfn1 hfn2) ht
   rw[zbf _ _ _ _ _ rfl] at h
   simp only[unwind,hfn1,Sem.runT_eq,List.cons_append] at h
   obtain⟨es2,h,_⟩:=zdQ h
   cases hr:(results fun1 tmps).run L w with
   | halt hh w2 =>
    rw[hr] at h
    exfalso
    cases hh <;> cases h
   | ok v w2 =>
    rw[hr] at h
    obtain⟨R',v',w2',es',hrT,hwent,hv,hev,k0,l1,l2,l3⟩:=zhR hsr hw hr
    simp only[doReturn] at h
    obtain⟨_,_,rfl,rfl,rfl⟩:=zeD h
    obtain⟨hco,tc,rfl,htc⟩:=hc
    refine⟨R',({ c with tmps:=tc }:Frame).finish v',r,r',w2',seen M fn (#[]++es')++#[],rfl,?_,⟨hwent,Or.inl ⟨zbS hco (htc.mono hwent.le) hv,hcr.mono hwent.le⟩,?_⟩,k0,l1,l2,fun τ d hh=>?_⟩
    ·rw[zbf _ _ _ _ _ rfl]
     simp only[unwind,hfn2,hrT,List.cons_append,doReturn]
     rfl
    ·intro e he
     exact hev e (by simpa using mem_seen (by simpa using he))
    ·dsimp only
     rw[zbf _ _ _ _ _ rfl]
     simp only[unwind,hfn1,Sem.runT_eq,l3 τ d hh,doReturn,List.cons_append]
     exact⟨_,rfl⟩
theorem zjt[zaB L M](B:Bodies L M X){R:BR}{s s':Sem Next}(ho:zr2 L fr)(hrun:fr.mode=.run)(hw:zbb N R w w')(hs:@zai ⟨N⟩ _ L M (QX L) R s s')(hreg:∃ ops i r k,fr.todo=.inRegion ops (i::r)::k) :
  (∃ fr1 csx w1 es,stepG.apply L true fr cs none s w=.go (G fr1 csx) w1 es/\(fr1.mode=.run\/fr1.mode=.returning)) \/
  (∃ fr1 w1 es ch,stepG.apply L true fr cs none s w=.go (G fr1 cs) w1 es/\fr1.mode=.panicking ch/\fr1.defers=[]) \/
  (∃ o w1 es,stepG.apply L true fr cs none s w=.ended o w1 es):=by
 have hk1:(fr.kind == CallKind.early)=false:=by rw[ho.kind];rfl
 have hfin:∀ v,(fr.finish v).mode=.run:=by
  intro v
  obtain⟨ops,i,r,k,e⟩:=hreg
  unfold Frame.finish
  rw[e]
  exact hrun
 cases hr:s.run L w with
 | ok x w2 =>
  obtain⟨R',x',w2',es',hrT,hwent,hnr,hev,_⟩:=zhR hs hw hr
  refine Or.inl ?_
  cases hnr with
  | value hv =>
   obtain⟨es,e⟩:=zfs (cs:=cs) hk1 hr
   exact⟨_,_,_,es,e,Or.inl (hfin _)⟩
  | skip =>
   obtain⟨es,e⟩:=zgG (cs:=cs) hk1 hr
   exact⟨_,_,_,es,e,Or.inl (hfin _)⟩
  | enter f hfn _ ha =>
   obtain⟨es,e⟩:=zfr (cs:=cs) hk1 hreg hr
   exact⟨_,_,_,es,e,Or.inl rfl⟩
 | halt hh w2 =>
  have hsoft:=zld hs hw hr
  refine Or.inr ?_
  unfold stepG.apply
  simp only[Sem.runT_eq,if_true,hr,hk1]
  cases hsoft with
  | panic v =>
   refine Or.inl ⟨fr.raise [{ v,recovered:=false }],w2,_,[{ v,recovered:=false }],rfl,?_,?_⟩
   ·unfold Frame.raise;rw[hrun]
   ·unfold Frame.raise;rw[hrun];exact ho.defers
  | unsupported u =>
   refine Or.inr ?_
   cases u with
   | initOrder g =>
    obtain⟨o,w',es,e⟩:=zfx B fr cs g w2
    simp only[e]
    exact⟨_,_,_,rfl⟩
   | _=>exact⟨_,_,_,rfl⟩
  | stuck t=>exact Or.inr ⟨_,_,_,rfl⟩
theorem zlP[T:zaB L M](B:Bodies L M X)(hz:zbo L){R:BR}(hf:zgv L R fr fr')(hcs:zcj L R cs cs')(hw:zbb N R w w')(hne:fr.mode=.returning->cs≠[]) :
  (∃ fr1 csx w1 es,stepG L true (G fr (cs++base)) w=.go (G fr1 csx) w1 es/\(fr1.mode=.run\/fr1.mode=.returning)) \/
  (∃ fr1 w1 es ch,stepG L true (G fr (cs++base)) w=.go (G fr1 (cs++base)) w1 es/\fr1.mode=.panicking ch/\fr1.defers=[]) \/
  (∃ o w1 es,stepG L true (G fr (cs++base)) w=.ended o w1 es):=by
 obtain⟨ho,t,rfl,ht⟩:=hf
 obtain⟨hok,hdef,hmode,hkind,hround,hfn⟩:=ho
 obtain⟨fn,tmps,todo,defers,mode,kind,roundOf⟩:=fr
 simp only at hok hdef hmode hkind hround hfn ht hne
 subst hdef hkind hround
 rcases hmode with rfl|rfl
 ·cases todo with
  | nil=>exact Or.inl ⟨_,_,_,_,rfl,Or.inr rfl⟩
  | cons it k =>
   have hall:=hok
   simp only[List.all_cons,Bool.and_eq_true] at hok
   obtain⟨hit,hk⟩:=hok
   cases it with
   | code c =>
    cases c with
    | ret=>exact Or.inl ⟨_,_,_,_,rfl,Or.inr rfl⟩
    | cond c a b =>
     have hstep:stepG L true (G { fn:=fn,tmps:=tmps,todo:=.code (.cond c a b)::k,defers:=[],mode:=.run,kind:=.normal,roundOf:=none } (cs++base)) w =
       match ({ fn:=fn,tmps:=tmps,todo:=.code (.cond c a b)::k,defers:=[],mode:=.run,kind:=.normal,roundOf:=none }:Frame).eval c with
       | .bool bb=>.go { frame:={ fn:=fn,tmps:=tmps,todo:=.code (if bb then a else b)::k,defers:=[],mode:=.run,kind:=.normal,roundOf:=none },callers:=cs++base,status:=.running,dying:=none } w
       | _=>.ended (.stuck "cond: bool expected" (({ fn:=fn,tmps:=tmps,todo:=.code (.cond c a b)::k,defers:=[],mode:=.run,kind:=.normal,roundOf:=none }:Frame).pos L)) w:=rfl
     rw[hstep]
     split
     ·exact Or.inl ⟨_,_,_,_,rfl,Or.inl rfl⟩
     ·exact Or.inr (Or.inr ⟨_,_,_,rfl⟩)
    | exit id =>
     have hstep:stepG L true (G { fn:=fn,tmps:=tmps,todo:=.code (.exit id)::k,defers:=[],mode:=.run,kind:=.normal,roundOf:=none } (cs++base)) w =
       (exitTo id k).elim (.ended (.stuck "exit, goto: no such block or label" (({ fn:=fn,tmps:=tmps,todo:=.code (.exit id)::k,defers:=[],mode:=.run,kind:=.normal,roundOf:=none }:Frame).pos L)) w)
        fun k'=>.go { frame:={ fn:=fn,tmps:=tmps,todo:=k',defers:=[],mode:=.run,kind:=.normal,roundOf:=none },callers:=cs++base,status:=.running,dying:=none } w:=rfl
     rw[hstep]
     cases exitTo id k with
     | none=>exact Or.inr (Or.inr ⟨_,_,_,rfl⟩)
     | some k'=>exact Or.inl ⟨_,_,_,_,rfl,Or.inl rfl⟩
    | goto l =>
     have hstep:stepG L true (G { fn:=fn,tmps:=tmps,todo:=.code (.goto l)::k,defers:=[],mode:=.run,kind:=.normal,roundOf:=none } (cs++base)) w =
       (gotoIn l k).elim (.ended (.stuck "exit, goto: no such block or label" (({ fn:=fn,tmps:=tmps,todo:=.code (.goto l)::k,defers:=[],mode:=.run,kind:=.normal,roundOf:=none }:Frame).pos L)) w)
        fun k'=>.go { frame:={ fn:=fn,tmps:=tmps,todo:=k',defers:=[],mode:=.run,kind:=.normal,roundOf:=none },callers:=cs++base,status:=.running,dying:=none } w:=rfl
     rw[hstep]
     cases gotoIn l k with
     | none=>exact Or.inr (Or.inr ⟨_,_,_,rfl⟩)
     | some k'=>exact Or.inl ⟨_,_,_,_,rfl,Or.inl rfl⟩
    | rangeFunc f ps a b=>simp[zaR,codeOk] at hit
    | refuse why=>exact Or.inr (Or.inr ⟨_,_,_,rfl⟩)
    | region id ops draw=>cases draw <;> exact Or.inl ⟨_,_,_,_,rfl,Or.inl rfl⟩
    | _=>exact Or.inl ⟨_,_,_,_,rfl,Or.inl rfl⟩
   | inBlock id=>exact Or.inl ⟨_,_,_,_,rfl,Or.inl rfl⟩
   | inScope c=>exact Or.inl ⟨_,_,_,_,rfl,Or.inl rfl⟩
   | inLoop c=>exact Or.inl ⟨_,_,_,_,rfl,Or.inl rfl⟩
   | inRegion ops td =>
    cases td with
    | nil=>exact Or.inl ⟨_,_,_,_,rfl,Or.inl rfl⟩
    | cons i r =>
     have hstep:stepG L true (G { fn:=fn,tmps:=tmps,todo:=.inRegion ops (i::r)::k,defers:=[],mode:=.run,kind:=.normal,roundOf:=none } (cs++base)) w =
       if ((ops[i]?).map (Region.wanted · (yielded ops tmps))).getD false=true then stepG.oper L true { fn:=fn,tmps:=tmps,todo:=.inRegion ops (i::r)::k,defers:=[],mode:=.run,kind:=.normal,roundOf:=none } (cs++base) none w
       else .go { frame:=({ fn:=fn,tmps:=tmps,todo:=.inRegion ops (i::r)::k,defers:=[],mode:=.run,kind:=.normal,roundOf:=none }:Frame).finish undef,callers:=cs++base,status:=.running,dying:=none } w:=rfl
     rw[hstep]
     split
     ·cases hoi:ops[i]? with
      | none=>rename_i hwant;rw[hoi] at hwant;cases hwant
      | some o =>
       have hopk:zgU L o.op=true:=by
        simp only[zaR] at hit
        rw[Array.all_eq_true_iff_forall_mem] at hit
        exact hit o (Array.mem_of_getElem? hoi)
       have hsr:=zoC (low:=⟨N⟩) (M:=M) hz hw.one (fun _=>⟨rfl,rfl⟩) ⟨rfl,rfl⟩ (zhn (fr:={ fn:=fn,tmps:=tmps,todo:=.inRegion ops (i::r)::k,defers:=[],mode:=.run,kind:=.normal,roundOf:=none }) ht) (o:=o) hopk
       simp only[stepG.oper,Frame.oper?,hoi]
       exact zjt B (fr:={ fn:=fn,tmps:=tmps,todo:=.inRegion ops (i::r)::k,defers:=[],mode:=.run,kind:=.normal,roundOf:=none }) ⟨hall,rfl,Or.inl rfl,rfl,rfl,hfn⟩ rfl hw hsr ⟨ops,i,r,k,rfl⟩
     ·exact Or.inl ⟨_,_,_,_,rfl,Or.inl rfl⟩
   | _=>simp[zaR] at hit
 ·cases hcs with
  | nil=>exact absurd rfl (hne rfl)
  | @cons c c' r r' hc hcm hcr =>
   obtain⟨fun1,hfn1,hb⟩:=hfn
   have hsr:=zeH (low:=⟨N⟩) (L:=L) (M:=M) (fn':=fun1) rfl ht
   rw[zbf _ _ _ _ _ rfl]
   simp only[unwind,hfn1,Sem.runT_eq,List.cons_append]
   cases hr:(results fun1 tmps).run L w with
   | halt hh w2 =>
    refine Or.inr (Or.inr ?_)
    cases zld hsr hw hr with
    | panic v=>exact⟨_,_,_,rfl⟩
    | unsupported u=>exact⟨_,_,_,rfl⟩
    | stuck t=>exact⟨_,_,_,rfl⟩
   | ok v w2 =>
    refine Or.inl ⟨c.finish v,_,w2,_,rfl,?_⟩
    obtain⟨hco,tc,rfl,htc⟩:=hc
    exact(zbS hco htc (zao.undef)).1.mode.imp (fun h=>by unfold Frame.finish at h ⊢;split at h <;> simp_all) (fun h=>by unfold Frame.finish at h ⊢;split at h <;> simp_all)
def zaP(L:Program):Frame:={ fn:=L.funcs.size,tmps:=#[],todo:=[.call default false "fmt's door" #[]],defers:=[],mode:=.run,kind:=.normal }
theorem zrU(h:stepG L true (G fr cs) w=.go (G fr1 cs1) w1 es):step L (lone fr cs w)=.next (lone fr1 cs1 w1):=by
 refine step_lone_go ?_
 have:stepG L true { frame:=fr,callers:=cs,status:=.running,dying:=none } w=.go (G fr1 cs1) w1 es:=h
 rw[this]
 rfl
theorem step_end{o:Outcome}(h:stepG L true (G fr cs) w=.ended o w1 es):step L (lone fr cs w)=.ended o w1:=by
 refine step_lone_ended ?_
 have:stepG L true { frame:=fr,callers:=cs,status:=.running,dying:=none } w=.ended o w1 es:=h
 rw[this]
 rfl
theorem zcn(h:stepG L true (G fr cs) w=.go (G fr1 cs1) w1 es)(n:Nat):runN L (n+1) (lone fr cs w)=runN L n (lone fr1 cs1 w1):=by
 simp only[runN,zrU h]
theorem zce{o:Outcome}(h:stepG L true (G fr cs) w=.ended o w1 es)(n:Nat):runN L (n+1) (lone fr cs w)=.ended o w1:=by
 simp only[runN,step_end h]
theorem zcc(h:Stepped.next (lone fr cs w)=.next (lone fr1 cs1 w1)):fr=fr1/\cs=cs1/\w=w1:=by
 simp only[lone,Stepped.next.injEq,Machine.mk.injEq] at h
 obtain⟨h1,h2,_⟩:=h
 have h3:=congrArg (fun a=>a[0]?) h2
 simp at h3
 exact⟨h3.1,h3.2,h1⟩
theorem zie(h1:fr.fn=L.funcs.size)(h2:fr.todo=[.call default false "fmt's door" #[]]):fr.catches L=true:=by
 have e:L.funcs[fr.fn]?=none:=by rw[h1];exact Array.getElem?_eq_none (Nat.le_refl _)
 unfold Frame.catches
 rw[e,h2]
 simp
theorem zrH:∀(cs:List Frame),(∀ c∈cs,c.defers=[])->∀(fr:Frame) (ch:List PanicEntry) (w:World),fr.mode=.panicking ch->fr.defers=[]->∀(n:Nat) (m:Machine),runN L n (lone fr (cs++[zaP L]) w)=.next m->∃ fr' cs' w' ch',m=lone fr' cs' w'/\fr'.mode=.panicking ch':=by
 have hstep:∀(fr c:Frame) (r:List Frame) (ch:List PanicEntry) (w:World),fr.mode=.panicking ch->fr.defers=[]->(∃ o w1 es,stepG L true (G fr (c::r)) w=.ended o w1 es)\/∃ es,stepG L true (G fr (c::r)) w=.go (G (c.raise ch) r) w es:=by
  intro fr c r ch w h1 h2
  have e:stepG L true (G fr (c::r)) w=unwind L true fr (c::r) none w:=by unfold stepG G;simp only[h1]
  rw[e]
  simp only[unwind,h2,h1]
  split
  ·exact Or.inl ⟨_,_,_,rfl⟩
  ·exact Or.inr ⟨_,rfl⟩
 intro cs
 induction cs with
 | nil =>
  intro _ fr ch w h1 h2 n m hr
  cases n with
  | zero=>simp only[runN,Stepped.next.injEq] at hr;exact⟨_,_,_,ch,hr.symm,h1⟩
  | succ n =>
   rcases hstep fr (zaP L) [] ch w h1 h2 with ⟨o,w1,es,e⟩|⟨es,e⟩
   ·rw[List.nil_append,zce e] at hr;cases hr
   ·rw[List.nil_append,zcn e] at hr
    have hm:((zaP L).raise ch).mode=.panicking ch:=rfl
    cases n with
    | zero=>simp only[runN,Stepped.next.injEq] at hr;exact⟨_,_,_,ch,hr.symm,hm⟩
    | succ n =>
     have e2:stepG L true (G ((zaP L).raise ch) []) w=.ended (.unsupported (.noEntry "a panic or Goexit out of a method that fmt calls behind a cut's door") (((zaP L).raise ch).pos L)) w:=by
      have e3:stepG L true (G ((zaP L).raise ch) []) w=unwind L true ((zaP L).raise ch) [] none w:=by unfold stepG G;simp only[hm]
      rw[e3]
      have hc:((zaP L).raise ch).catches L=true:=zie rfl rfl
      have hd:((zaP L).raise ch).defers=[]:=rfl
      simp only[unwind,hd,hm,hc,if_true]
     rw[zce e2] at hr
     cases hr
 | cons c cs ih =>
  intro hall fr ch w h1 h2 n m hr
  cases n with
  | zero=>simp only[runN,Stepped.next.injEq] at hr;exact⟨_,_,_,ch,hr.symm,h1⟩
  | succ n =>
   rcases hstep fr c (cs++[zaP L]) ch w h1 h2 with ⟨o,w1,es,e⟩|⟨es,e⟩
   ·rw[List.cons_append,zce e] at hr;cases hr
   ·rw[List.cons_append,zcn e] at hr
    obtain⟨ch',hm⟩:=raise_mode c ch
    have hd:(c.raise ch).defers=[]:=by
     have:=hall c (by simp)
     unfold Frame.raise
     split <;> exact this
    exact ih (fun x hx=>hall x (by simp[hx])) (c.raise ch) ch' w hm hd n m hr
theorem zq2:Extern.next "fmt's door"=none:=by decide
theorem zkG{fn:Func}(h1:fr.mode=.returning)(h2:fr.defers=[])(h3:fr.kind=.normal)(h4:L.funcs[fr.fn]?=some fn)(n:Nat)(h:runN L (n+1) (lone fr [zaP L] w)=.next (lone fr' [zaP L] w')):False:=by
 have e:stepG L true (G fr [zaP L]) w=unwind L true fr [zaP L] none w:=zbf _ _ _ _ _ h1
 simp only[unwind,h2,h1,h4,Sem.runT_eq] at e
 cases hr:(results fn fr.tmps).run L w with
 | halt hh w2 =>
  rw[hr] at e
  cases hh <;> (rw[zce e] at h;cases h)
 | ok v w2 =>
  rw[hr] at e
  simp only[doReturn,h3] at e
  have e':stepG L true (G fr [zaP L]) w=.go (G ((zaP L).finish v) []) w2 (seen L fr.fn ((results fn fr.tmps).events L w #[])++#[]):=e
  rw[zcn e'] at h
  cases n with
  | zero=>obtain⟨_,hc,_⟩:=zcc h;cases hc
  | succ n =>
   have e2:stepG L true (G ((zaP L).finish v) []) w2=.ended (.stuck ("no extern row "++ "fmt's door") (((zaP L).finish v).pos L)) w2:=by
    have hm:((zaP L).finish v).mode=.run:=rfl
    rw[zeo _ _ _ _ _ hm]
    have ht:((zaP L).finish v).todo=[.extern "fmt's door" (#[].push v)]:=rfl
    simp only[stepG.exec,ht,zq2,Option.elim_none]
   rw[zce e2] at h
   cases h
end
section
open Go Go.Conc
variable{L:Program}
def zlq(L:Program)(fr:Frame)(cs:List Frame)(w:World):Prop:=∃ N R fr' cs' w',zgv L R fr fr'/\zcj L R cs cs'/\zbb N R w w'
theorem zbb.tp{R:BR}(h:zbb N R w w')(τ:Nat->Question->Nat)(d:Nat):zbb N R (w.tp τ d) (w'.tp τ d):=⟨h.one,h.blk,rfl,rfl,h.low⟩
theorem zlq.tp(h:zlq L fr cs w)(τ:Nat->Question->Nat)(d:Nat):zlq L fr cs (w.tp τ d):=let ⟨N,R,fr',cs',w',a,b,c⟩:=h;⟨N,R,fr',cs',w'.tp τ d,a,b,c.tp τ d⟩
theorem zrX(w:World)(τ τ':Nat->Question->Nat)(d d':Nat):(w.tp τ d).tp τ' d'=w.tp τ' d':=rfl
theorem zh1{τ:Nat->Question->Nat}{d:Nat}(h1:w.tape=τ)(h2:w.drawn=d):w.tp τ d=w:=by subst h1 h2;rfl
structure Whole(L:Program):Prop extends Bodies L L (fun _=>False) where
 zero:zbo L
theorem zcj.defers{R:BR}(h:zcj L R cs cs'):∀ c∈cs,c.defers=[]:=by
 induction h with
 | nil=>intro c hc;simp at hc
 | cons hf _ _ ih =>
  intro c hc
  rcases List.mem_cons.1 hc with rfl|hc
  ·exact hf.1.defers
  ·exact ih c hc
theorem zkZ[zaB L L](W:Whole L)(hS:zlq L fr cs w)(hne:fr.mode=.returning->cs≠[])(hr:runN L (n+1) (lone fr (cs++[zaP L]) w)=.next (lone fr' [zaP L] w'))(hm':fr'.mode=.returning) :
  ∃ fr1 cs1 w1 es,stepG L true (G fr (cs++[zaP L])) w=.go (G fr1 (cs1++[zaP L])) w1 es/\(fr1.mode=.run\/fr1.mode=.returning)/\zlq L fr1 cs1 w1/\zfq w w1 (stepG L true (G fr (cs++[zaP L]))) fr1 (cs1++[zaP L])/\runN L n (lone fr1 (cs1++[zaP L]) w1)=.next (lone fr' [zaP L] w'):=by
 obtain⟨N,R,frp,csp,wp,hf,hcs,hw⟩:=hS
 rcases zlP (base:=[zaP L]) W.toBodies W.zero hf hcs hw hne with ⟨fr1,csx,w1,es,e,hm⟩|⟨fr1,w1,es,ch,e,hm,hd⟩|⟨o,w1,es,e⟩
 ·obtain⟨R',fr1',cs1,cs1',w1',es',rfl,hM,hst,hloc⟩:=zhX (rest:=[]) (base:=[zaP L]) W.toBodies W.zero true hf hcs hw e hm hne
  rw[zcn e] at hr
  refine⟨fr1,cs1,w1,es,e,hm,?_,hloc,hr⟩
  rcases hst.after with ⟨h1,h2⟩|⟨_,_,_,hx,_⟩
  ·exact⟨N,R',fr1',cs1',w1',h1,h2,hst.went.rel⟩
  ·exact hx.elim
 ·rw[zcn e] at hr
  obtain⟨f2,c2,w2,ch',e2,hm2⟩:=zrH cs hcs.defers fr1 ch w1 hm hd n _ hr
  obtain⟨rfl,_,_⟩:=zcc (congrArg Stepped.next e2)
  rw[hm'] at hm2
  cases hm2
 ·rw[zce e] at hr
  cases hr
theorem ziY[zaB L L](W:Whole L):∀(n:Nat) {fr:Frame} {cs:List Frame} {w:World},zlq L fr cs w->∀ {fr':Frame} {w':World},runN L n (lone fr (cs++[zaP L]) w)=.next (lone fr' [zaP L] w')->fr'.mode=.returning ->
  ∀ {τ:Nat->Question->Nat} {d:Nat},(∀ i q,τ (d+i) q=w.tape (w.drawn+i) q)->∃ d',runN L n (lone fr (cs++[zaP L]) (w.tp τ d))=.next (lone fr' [zaP L] (w'.tp τ d'))
 | 0,fr,cs,w,_,fr',w',hr,_,τ,d,_=>by
  simp only[runN] at hr
  obtain⟨rfl,hc,rfl⟩:=zcc hr
  exact⟨d,by simp only[runN];rw[hc]⟩
 | n+1,fr,cs,w,hS,fr',w',hr,hm',τ,d,ht=>by
  by_cases hne:fr.mode=.returning->cs≠[]
  ·obtain⟨fr1,cs1,w1,es,e,hm,hS1,⟨k,l1,l2,l3⟩,hr1⟩:=zkZ W hS hne hr hm'
   obtain⟨es2,e2⟩:=l3 τ d (fun i _ q=>ht i q)
   obtain⟨d',h'⟩:=ziY W n hS1 hr1 hm' (τ:=τ) (d:=d+k) (fun i q=>by rw[l1,l2,Nat.add_assoc,Nat.add_assoc];exact ht (k+i) q)
   refine⟨d',?_⟩
   rw[zcn e2]
   exact h'
  ·have h1:fr.mode=.returning:=Classical.byContradiction fun q=>hne (fun h=>absurd h q)
   have h2:cs=[]:=Classical.byContradiction fun q=>hne (fun _=>q)
   subst h2
   obtain⟨N,R,frp,csp,wp,hf,_,_⟩:=hS
   obtain⟨fn,hfn,_⟩:=hf.1.fnok
   exact(zkG h1 hf.1.defers hf.1.kind hfn n hr).elim
def Good(L:Program)(FinP:Frame->World->Prop)(fr:Frame)(cs:List Frame)(w:World):Prop :=
 ∀ τ d,∃ n fr' w',runN L n (lone fr (cs++[zaP L]) (w.tp τ d))=.next (lone fr' [zaP L] w')/\fr'.mode=.returning/\FinP fr' w'
inductive zbY(L:Program)(FinP:Frame->World->Prop):Frame->List Frame->World->Prop
 | fin {fr:Frame} {w:World}:fr.mode=.returning->(∀ τ d,FinP fr (w.tp τ d))->zlq L fr [] w->zbY L FinP fr [] w
 | step {fr:Frame} {cs:List Frame} {w:World}:(fr.mode=.returning->cs≠[])->zlq L fr cs w->(F:(Nat->Question->Nat)->Nat->Frame)->(C:(Nat->Question->Nat)->Nat->List Frame)->(V:(Nat->Question->Nat)->Nat->World) ->
   (∀ τ d,(∃ es,stepG L true (G fr (cs++[zaP L])) (w.tp τ d)=.go (G (F τ d) (C τ d++[zaP L])) (V τ d) es)/\((F τ d).mode=.run\/(F τ d).mode=.returning))->(∀ τ d,zbY L FinP (F τ d) (C τ d) (V τ d))->zbY L FinP fr cs w
theorem good_step[zaB L L](W:Whole L)(hF:∀ fr w τ d,FinP fr w->FinP fr (w.tp τ d))(hG:Good L FinP fr cs w)(hS:zlq L fr cs w)(hne:fr.mode=.returning->cs≠[])(τ:Nat->Question->Nat)(d:Nat) :
  ∃ fr1 cs1 w1 es,stepG L true (G fr (cs++[zaP L])) (w.tp τ d)=.go (G fr1 (cs1++[zaP L])) w1 es/\(fr1.mode=.run\/fr1.mode=.returning)/\Good L FinP fr1 cs1 w1/\zlq L fr1 cs1 w1/\zfq (w.tp τ d) w1 (stepG L true (G fr (cs++[zaP L]))) fr1 (cs1++[zaP L]):=by
 have notz:∀ {τ:Nat->Question->Nat} {d:Nat} {fr':Frame} {w':World},runN L 0 (lone fr (cs++[zaP L]) (w.tp τ d))=.next (lone fr' [zaP L] w')->fr'.mode=.returning->False:=by
  intro τ d fr' w' hr hm'
  simp only[runN] at hr
  obtain⟨rfl,hc,_⟩:=zcc hr
  have:cs=[]:=by
   cases cs with
   | nil=>rfl
   | cons c cs=>simp at hc
  exact hne hm' this
 obtain⟨n,fr',w',hr,hm',_⟩:=hG τ d
 cases n with
 | zero=>exact(notz hr hm').elim
 | succ n =>
 obtain⟨fr1,cs1,w1,es,e,hm,hS1,⟨k,l1,l2,l3⟩,hr1⟩:=zkZ W (hS.tp τ d) hne hr hm'
 refine⟨fr1,cs1,w1,es,e,hm,?_,hS1,k,l1,l2,l3⟩
 intro τ' d'
 let σ:Nat->Question->Nat:=fun i q=>if i<k then τ (d+i) q else τ' (d'+(i - k)) q
 obtain⟨es2,e2⟩:=l3 σ 0 (fun i hi q=>by show (if 0+i<k then _ else _)=_;rw[Nat.zero_add,if_pos hi];rfl)
 obtain⟨n2,f2,w2,hr2,hm2,hf2⟩:=hG σ 0
 cases n2 with
 | zero=>exact(notz hr2 hm2).elim
 | succ n2 =>
  have e2':stepG L true (G fr (cs++[zaP L])) (w.tp σ 0)=.go (G fr1 (cs1++[zaP L])) (w1.tp σ (0+k)) es2:=e2
  rw[zcn e2'] at hr2
  obtain⟨d3,h3⟩:=ziY W n2 (hS1.tp σ (0+k)) hr2 hm2 (τ:=τ') (d:=d') (fun i q=>by
   show τ' (d'+i) q=(if 0+k+i<k then τ (d+(0+k+i)) q else τ' (d'+(0+k+i - k)) q)
   rw[if_neg (by omega),show 0+k+i - k=i by omega])
  exact⟨n2,f2,_,h3,hm2,hF _ _ _ _ hf2⟩
structure Bad(L:Program)(FinP:Frame->World->Prop)(c:Frame × List Frame × World):Prop where
 good:Good L FinP c.1 c.2.1 c.2.2
 self:zlq L c.1 c.2.1 c.2.2
 not:¬ zbY L FinP c.1 c.2.1 c.2.2
theorem Bad.going{c:Frame × List Frame × World}(h:Bad L FinP c):c.1.mode=.returning->c.2.1≠[]:=by
 obtain⟨fr,cs,w⟩:=c
 obtain⟨hG,hS,hT⟩:=h
 simp only at hG hS hT ⊢
 intro hm hc
 subst hc
 refine hT (.fin hm (fun τ d=>?_) hS)
 obtain⟨n,fr',w',hr,hm',hf⟩:=hG τ d
 cases n with
 | zero =>
  simp only[runN] at hr
  obtain⟨rfl,_,rfl⟩:=zcc hr
  exact hf
 | succ n =>
  obtain⟨N,R,frp,csp,wp,hfr,_,_⟩:=hS
  obtain⟨fn,hfn,_⟩:=hfr.1.fnok
  exact(zkG hm hfr.1.defers hfr.1.kind hfn n hr).elim
theorem Bad.next[zaB L L](W:Whole L)(hF:∀ fr w τ d,FinP fr w->FinP fr (w.tp τ d)){c:Frame × List Frame × World}(h:Bad L FinP c) :
  ∃ (τ:Nat->Question->Nat) (d k:Nat) (c1:Frame × List Frame × World),Bad L FinP c1/\∀ τ' d',(∀ i,i<k->∀ q,τ' (d'+i) q=τ (d+i) q)->∃ es,stepG L true (G c.1 (c.2.1++[zaP L])) (c.2.2.tp τ' d')=.go (G c1.1 (c1.2.1++[zaP L])) (c1.2.2.tp τ' (d'+k)) es:=by
 have hne:=h.going
 obtain⟨fr,cs,w⟩:=c
 obtain⟨hG,hS,hT⟩:=h
 simp only at hG hS hT hne ⊢
 have hall:=fun τ d=>good_step W hF hG hS hne τ d
 refine Classical.byContradiction fun hno=>hT ?_
 have hs:=fun τ d=>(hall τ d).choose_spec.choose_spec.choose_spec.choose_spec
 refine .step hne hS (fun τ d=>(hall τ d).choose) (fun τ d=>(hall τ d).choose_spec.choose) (fun τ d=>(hall τ d).choose_spec.choose_spec.choose) (fun τ d=>⟨⟨_,(hs τ d).1⟩,(hs τ d).2.1⟩) (fun τ d=>?_)
 refine Classical.byContradiction fun hnt=>hno ?_
 obtain⟨_,_,h3,h4,k,l1,l2,l3⟩:=hs τ d
 exact⟨τ,d,k,(_,_,_),⟨h3,h4,hnt⟩,fun τ' d' ha=>l3 τ' d' ha⟩
def atK(k:Nat->Nat):Nat->Nat
 | 0=>0
 | j+1=>atK k j+k j
theorem zqY(k:Nat->Nat):∀ {i j:Nat},i<=j->atK k i<=atK k j:=by
 intro i j h
 induction j with
 | zero=>have:i=0:=by omega
         subst this;exact Nat.le_refl _
 | succ j ih =>
  rcases Nat.lt_or_ge i (j+1) with q|q
  ·exact Nat.le_trans (ih (by omega)) (by simp only[atK];omega)
  ·have:i=j+1:=by omega
   subst this;exact Nat.le_refl _
theorem zrm(k:Nat->Nat){j p:Nat}(h1:atK k i<=p)(h2:p<atK k (i+1))(h3:atK k j<=p)(h4:p<atK k (j+1)):i=j:=by
 rcases Nat.lt_trichotomy i j with q|q|q
 ·have:=zqY k (i:=i+1) (j:=j) (by omega);omega
 ·exact q
 ·have:=zqY k (i:=j+1) (j:=i) (by omega);omega
open Classical in
noncomputable def zjr(k:Nat->Nat)(τ:Nat->Nat->Question->Nat)(d:Nat->Nat):Nat->Question->Nat:=fun p q =>
 if h:∃ j,atK k j<=p/\p<atK k (j+1) then τ h.choose (d h.choose+(p - atK k h.choose)) q else 0
theorem zlt(k:Nat->Nat)(τ:Nat->Nat->Question->Nat)(d:Nat->Nat)(j i:Nat)(hi:i<k j)(q:Question):zjr k τ d (atK k j+i) q=τ j (d j+i) q:=by
 have h:∃ j',atK k j'<=atK k j+i/\atK k j+i<atK k (j'+1):=⟨j,by omega,by simp only[atK];omega⟩
 have hj:h.choose=j:=zrm k h.choose_spec.1 h.choose_spec.2 (by omega) (by simp only[atK];omega)
 unfold zjr
 rw[dif_pos h,hj]
 congr 1
 omega
theorem zdd[zaB L L](W:Whole L)(hF:∀ fr w τ d,FinP fr w->FinP fr (w.tp τ d))(hG:Good L FinP fr cs w)(hS:zlq L fr cs w):zbY L FinP fr cs w:=by
 refine Classical.byContradiction fun hT=>?_
 have h0:Bad L FinP (fr,cs,w):=⟨hG,hS,hT⟩
 let nx:{ c // Bad L FinP c }->{ c // Bad L FinP c }:=fun c=>⟨_,(c.2.next W hF).choose_spec.choose_spec.choose_spec.choose_spec.1⟩
 let sq:Nat->{ c // Bad L FinP c }:=fun n=>Nat.rec ⟨(fr,cs,w),h0⟩ (fun _ c=>nx c) n
 let τs:Nat->Nat->Question->Nat:=fun j=>((sq j).2.next W hF).choose
 let ds:Nat->Nat:=fun j=>((sq j).2.next W hF).choose_spec.choose
 let ks:Nat->Nat:=fun j=>((sq j).2.next W hF).choose_spec.choose_spec.choose
 have hstep:∀ j τ' d',(∀ i,i<ks j->∀ q,τ' (d'+i) q=τs j (ds j+i) q)->∃ es,stepG L true (G (sq j).1.1 ((sq j).1.2.1++[zaP L])) ((sq j).1.2.2.tp τ' d')=.go (G (sq (j+1)).1.1 ((sq (j+1)).1.2.1++[zaP L])) ((sq (j+1)).1.2.2.tp τ' (d'+ks j)) es :=
  fun j=>((sq j).2.next W hF).choose_spec.choose_spec.choose_spec.choose_spec.2
 let σ:=zjr ks τs ds
 have hone:∀ j,∃ es,stepG L true (G (sq j).1.1 ((sq j).1.2.1++[zaP L])) ((sq j).1.2.2.tp σ (atK ks j))=.go (G (sq (j+1)).1.1 ((sq (j+1)).1.2.1++[zaP L])) ((sq (j+1)).1.2.2.tp σ (atK ks (j+1))) es :=
  fun j=>hstep j σ (atK ks j) (fun i hi q=>zlt ks τs ds j i hi q)
 have hrun:∀ j i,runN L j (lone (sq i).1.1 ((sq i).1.2.1++[zaP L]) ((sq i).1.2.2.tp σ (atK ks i)))=.next (lone (sq (i+j)).1.1 ((sq (i+j)).1.2.1++[zaP L]) ((sq (i+j)).1.2.2.tp σ (atK ks (i+j)))):=by
  intro j
  induction j with
  | zero=>intro i;rfl
  | succ j ih =>
   intro i
   obtain⟨es,e⟩:=hone i
   rw[zcn e,ih (i+1),show i+1+j=i+(j+1) by omega]
 obtain⟨n,fr',w',hr,hm',_⟩:=hG σ 0
 have hr2:=hrun n 0
 have e0:runN L n (lone fr (cs++[zaP L]) (w.tp σ 0))=.next (lone (sq (0+n)).1.1 ((sq (0+n)).1.2.1++[zaP L]) ((sq (0+n)).1.2.2.tp σ (atK ks (0+n)))):=hr2
 rw[hr] at e0
 obtain⟨h1,h2,_⟩:=zcc e0
 have hc:(sq (0+n)).1.2.1=[]:=by
  cases hq:(sq (0+n)).1.2.1 with
  | nil=>rfl
  | cons a b=>rw[hq] at h2;simp at h2
 exact(sq (0+n)).2.going (by rw[<- h1];exact hm') hc
end
section
open Go Go.Conc
variable{L M:Program}
inductive Rk:Type
 | z
 | s (f:World->Rk)
structure zaT(Live:World->Prop)(K S:Nat->Prop)(w w₁:World):Prop where
 size:w.heap.size<=w₁.heap.size
 same:∀ c,K c\/S c->w₁.heap[c]?=w.heap[c]?
 tape:w₁.tape=w.tape
 os:w₁.os=w.os
 out:w₁.output=w.output
 live:Live w->Live w₁
theorem zaT.refl{Live:World->Prop}{K:Nat->Prop}(w:World):zaT Live K S w w:=⟨Nat.le_refl _,fun _ _=>rfl,rfl,rfl,rfl,fun h=>h⟩
theorem zaT.trans{Live:World->Prop}{K:Nat->Prop}{w₂:World}(h:zaT Live K S w w₁)(h':zaT Live K S w₁ w₂):zaT Live K S w w₂ :=
 ⟨Nat.le_trans h.size h'.size,fun c hc=>(h'.same c hc).trans (h.same c hc),h'.tape.trans h.tape,h'.os.trans h.os,h'.out.trans h.out,fun x=>h'.live (h.live x)⟩
theorem zaT.mono{Live:World->Prop}{K S':Nat->Prop}(h:zaT Live K S w w₁)(hs:∀ c,K' c\/S' c->K c\/S c):zaT Live K' S' w w₁ :=
 ⟨h.size,fun c hc=>h.same c (hs c hc),h.tape,h.os,h.out,h.live⟩
def EvS(K S:Nat->Prop)(e:Event):Prop :=
 (∃ a wr,e=⟨.cell a,wr,false⟩/\(S a.block\/(K a.block/\wr=false)))\/(∃ r wr,e=⟨.obj r,wr,false⟩/\(S r\/(K r/\wr=false)))\/e=⟨.mark .noRoom,false,true⟩
structure Does(Ex:Event->Prop)(K S S':Nat->Prop)(w w':World)(es:Array Event):Prop where
 size:w.heap.size<=w'.heap.size
 sub:∀ c,S c->S' c
 new:∀ c,S' c->S c\/(w.heap.size<=c/\c<w'.heap.size)
 kept:∀ c,c<w.heap.size->¬ S c->w'.heap[c]?=w.heap[c]?
 tape:w'.tape=w.tape
 os:w'.os=w.os
 out:w'.output=w.output
 evs:∀ e∈es,EvS K S' e\/Ex e
theorem Does.none{Ex:Event->Prop}{K:Nat->Prop}(w:World):Does Ex K S S w w #[]:=⟨Nat.le_refl _,fun _ h=>h,fun _ h=>Or.inl h,fun _ _ _=>rfl,rfl,rfl,rfl,by simp⟩
section
variable(M:Program)(main:Bool)(Live:World->Prop)(Ex:Event->Prop)(Stop:Nat->(Nat->Prop)->Goroutine->World->Prop)(Snd:Nat->(Nat->Prop)->Value->World->Prop)(ch:Nat)(K:Nat->Prop)
def Way:Rk->Nat->(Nat->Prop)->Goroutine->World->Prop
 | .z,σ,S,g,w=>∀ w₁,zaT Live K S w w₁->Stop σ S g w₁
 | .s f,σ,S,g,w=>(∀ w₁,zaT Live K S w w₁->Stop σ S g w₁)\/(g.status=.running/\∀ w₁,zaT Live K S w w₁ ->
   (∃ g' w' es S',stepG M main g w₁=.go g' w' es/\Does Ex K S S' w₁ w' es/\Way (f w₁) σ S' g' w') \/
   (∃ g1 v z S',stepG M main g w₁=.comm g1 #[⟨.chan (some ch),some v,z⟩] true .send w₁ #[]/\(∀ c,S' c->S c)/\Snd σ (fun c=>S c/\¬ S' c) v w₁/\Way (f w₁) (σ+1) S' (g1.finishComm M #[⟨.chan (some ch),some v,z⟩] .send 0 undef false) w₁))
def zaZ(σ:Nat)(S:Nat->Prop)(g:Goroutine)(w:World):Prop:=∃ r,Way M main Live Ex Stop Snd ch K r σ S g w
end
section
variable{main:Bool}{Live:World->Prop}{Ex:Event->Prop}{Stop:Nat->(Nat->Prop)->Goroutine->World->Prop}{Snd:Nat->(Nat->Prop)->Value->World->Prop}{ch:Nat}{K:Nat->Prop}
theorem Way.rely{r:Rk}(h:Way M main Live Ex Stop Snd ch K r σ S g w)(hs:zaT Live K S w w₁):Way M main Live Ex Stop Snd ch K r σ S g w₁:=by
 cases r with
 | z=>exact fun w₂ h₂=>h w₂ (hs.trans h₂)
 | s f =>
  rcases h with h|⟨hr,h⟩
  ·exact Or.inl fun w₂ h₂=>h w₂ (hs.trans h₂)
  ·exact Or.inr ⟨hr,fun w₂ h₂=>h w₂ (hs.trans h₂)⟩
theorem zaZ.rely(h:zaZ M main Live Ex Stop Snd ch K σ S g w)(hs:zaT Live K S w w₁):zaZ M main Live Ex Stop Snd ch K σ S g w₁:=let ⟨r,h⟩:=h;⟨r,h.rely hs⟩
theorem zaZ.stop(h:∀ w₁,zaT Live K S w w₁->Stop σ S g w₁):zaZ M main Live Ex Stop Snd ch K σ S g w:=⟨.z,h⟩
open Classical in
theorem zaZ.step(hr:g.status=.running)(h:∀ w₁,zaT Live K S w w₁ ->
   (∃ g' w' es S',stepG M main g w₁=.go g' w' es/\Does Ex K S S' w₁ w' es/\zaZ M main Live Ex Stop Snd ch K σ S' g' w') \/
   (∃ g1 v z S',stepG M main g w₁=.comm g1 #[⟨.chan (some ch),some v,z⟩] true .send w₁ #[]/\(∀ c,S' c->S c)/\Snd σ (fun c=>S c/\¬ S' c) v w₁/\zaZ M main Live Ex Stop Snd ch K (σ+1) S' (g1.finishComm M #[⟨.chan (some ch),some v,z⟩] .send 0 undef false) w₁)) :
  zaZ M main Live Ex Stop Snd ch K σ S g w:=by
 have h2:∀ w₁,zaT Live K S w w₁->∃ r,(∃ g' w' es S',stepG M main g w₁=.go g' w' es/\Does Ex K S S' w₁ w' es/\Way M main Live Ex Stop Snd ch K r σ S' g' w') \/
   (∃ g1 v z S',stepG M main g w₁=.comm g1 #[⟨.chan (some ch),some v,z⟩] true .send w₁ #[]/\(∀ c,S' c->S c)/\Snd σ (fun c=>S c/\¬ S' c) v w₁/\Way M main Live Ex Stop Snd ch K r (σ+1) S' (g1.finishComm M #[⟨.chan (some ch),some v,z⟩] .send 0 undef false) w₁):=by
  intro w₁ hs
  rcases h w₁ hs with ⟨g',w',es,S',h1,h2,r,h3⟩|⟨g1,v,z,S',h1,h0,h2,r,h3⟩
  ·exact⟨r,Or.inl ⟨g',w',es,S',h1,h2,h3⟩⟩
  ·exact⟨r,Or.inr ⟨g1,v,z,S',h1,h0,h2,h3⟩⟩
 refine⟨.s (fun w₁=>if hs:zaT Live K S w w₁ then (h2 w₁ hs).choose else .z),Or.inr ⟨hr,fun w₁ hs=>?_⟩⟩
 have e:(fun w₁=>if hs:zaT Live K S w w₁ then (h2 w₁ hs).choose else Rk.z) w₁=(h2 w₁ hs).choose:=dif_pos hs
 rw[e]
 exact(h2 w₁ hs).choose_spec
theorem zaZ.go(hr:g.status=.running)(h:∀ w₁,zaT Live K S w w₁->∃ g' w' es S',stepG M main g w₁=.go g' w' es/\Does Ex K S S' w₁ w' es/\zaZ M main Live Ex Stop Snd ch K σ S' g' w') :
  zaZ M main Live Ex Stop Snd ch K σ S g w:=zaZ.step hr fun w₁ hs=>Or.inl (h w₁ hs)
theorem zaZ.bind(hb:∀ σ S g w,Stop σ S g w->zaZ M main Live Ex Stop2 Snd ch K σ S g w):∀(r:Rk) {σ:Nat} {S:Nat->Prop} {g:Goroutine} {w:World},Way M main Live Ex Stop Snd ch K r σ S g w->zaZ M main Live Ex Stop2 Snd ch K σ S g w:=by
 intro r
 induction r with
 | z=>intro σ S g w h;exact hb _ _ _ _ (h w (zaT.refl w))
 | s f ih =>
  intro σ S g w h
  rcases h with h|⟨hr,h⟩
  ·exact hb _ _ _ _ (h w (zaT.refl w))
  ·refine zaZ.step hr fun w₁ hs=>?_
   rcases h w₁ hs with ⟨g',w',es,S',h1,h2,h3⟩|⟨g1,v,z,S',h1,h0,h2,h3⟩
   ·exact Or.inl ⟨g',w',es,S',h1,h2,ih w₁ h3⟩
   ·exact Or.inr ⟨g1,v,z,S',h1,h0,h2,ih w₁ h3⟩
theorem zaZ.sends(hs2:∀ σ S v w,Snd σ S v w->Snd2 σ S v w):∀(r:Rk) {σ:Nat} {S:Nat->Prop} {g:Goroutine} {w:World},Way M main Live Ex Stop Snd ch K r σ S g w->zaZ M main Live Ex Stop Snd2 ch K σ S g w:=by
 intro r
 induction r with
 | z=>intro σ S g w h;exact zaZ.stop h
 | s f ih =>
  intro σ S g w h
  rcases h with h|⟨hr,h⟩
  ·exact zaZ.stop h
  ·refine zaZ.step hr fun w₁ hs=>?_
   rcases h w₁ hs with ⟨g',w',es,S',h1,h2,h3⟩|⟨g1,v,z,S',h1,h0,h2,h3⟩
   ·exact Or.inl ⟨g',w',es,S',h1,h2,ih w₁ h3⟩
   ·exact Or.inr ⟨g1,v,z,S',h1,h0,hs2 _ _ _ _ h2,ih w₁ h3⟩
theorem zaZ.then(h:zaZ M main Live Ex Stop Snd ch K σ S g w)(hb:∀ σ S g w,Stop σ S g w->zaZ M main Live Ex Stop2 Snd ch K σ S g w):zaZ M main Live Ex Stop2 Snd ch K σ S g w :=
 let ⟨r,h⟩:=h;zaZ.bind hb r h
end
def zc0(N:Nat)(R:BR):Nat->Prop:=fun c=>∃ b,R b c/\b<N
def zbC(N:Nat)(R:BR):Nat->Prop:=fun c=>∃ b,R b c/\N<=b
theorem zew.keptSame{R R':BR}(h:zew N R R' w w' w1 w1')(hN:N<=w.heap.size):zc0 N R'=zc0 N R:=by
 funext c
 refine propext ⟨fun ⟨b,hb,hn⟩=>?_,fun ⟨b,hb,hn⟩=>⟨b,h.le.1 _ _ hb,hn⟩⟩
 rcases h.new b c hb with x|x
 ·exact⟨b,x,hn⟩
 ·omega
theorem EvR.evS{R:BR}(h:EvR N R e):EvS (zc0 N R) (zbC N R) e:=by
 rcases h with ⟨a,b,wr,rfl,h1,h2⟩|⟨r,b,wr,rfl,h1,h2⟩|rfl
 ·refine Or.inl ⟨a,wr,rfl,?_⟩
  by_cases q:N<=b
  ·exact Or.inl ⟨b,h1,q⟩
  ·refine Or.inr ⟨⟨b,h1,by omega⟩,?_⟩
   cases wr with
   | false=>rfl
   | true=>exact absurd (h2 rfl) q
 ·refine Or.inr (Or.inl ⟨r,wr,rfl,?_⟩)
  by_cases q:N<=b
  ·exact Or.inl ⟨b,h1,q⟩
  ·refine Or.inr ⟨⟨b,h1,by omega⟩,?_⟩
   cases wr with
   | false=>rfl
   | true=>exact absurd (h2 rfl) q
 ·exact Or.inr (Or.inr rfl)
theorem zew.does{R R':BR}(h:zew N R R' w w' w1 w1')(hw:zbb N R w w'){Ex:Event->Prop}(he:∀ e∈es,EvR N R' e):Does Ex (zc0 N R) (zbC N R) (zbC N R') w' w1' es:=by
 refine⟨h.size,fun c ⟨b,x,y⟩=>⟨b,h.le.1 _ _ x,y⟩,fun c ⟨b,x,y⟩=>?_,fun c hc hn=>h.kept c hc fun b x=>?_,h.tp,h.os,h.out,fun e hx=>?_⟩
 ·rcases h.new b c x with z|z
  ·exact Or.inl ⟨b,z,y⟩
  ·exact Or.inr ⟨z.2,(h.rel.lt x).2⟩
 ·exact Nat.lt_of_not_le fun q=>hn ⟨b,x,q⟩
 ·rw[<- h.keptSame hw.low]
  exact Or.inl (he e hx).evS
theorem zbb.sees{R:BR}{Live:World->Prop}(h:zbb N R w w')(hs:zaT Live (zc0 N R) (zbC N R) w' w₁):zbb N R (w.tp w₁.tape w₁.drawn) w₁:=by
 refine⟨h.one,fun b c hb=>?_,rfl,rfl,h.low⟩
 obtain⟨o,o',e1,e2,ho⟩:=h.blk b c hb
 refine⟨o,o',e1,?_,ho⟩
 rw[hs.same c (by by_cases q:N<=b;exact Or.inr ⟨b,hb,q⟩;exact Or.inl ⟨b,hb,by omega⟩)]
 exact e2
def zsX(L M:Program)(X:FuncId->Prop)(N:Nat)(K:Nat->Prop)(FinP:Frame->World->Prop)(rest:List Frame)(S:Nat->Prop)(g:Goroutine)(w:World):Prop :=
 (∃ R fr fr' wl,g=G fr' rest/\fr.mode=.returning/\zgv L R fr fr'/\zbb N R wl w/\S=zbC N R/\K=zc0 N R/\∀ τ d,FinP fr (wl.tp τ d)) \/
 (∃ R f a a' cs cs' wl,X f/\g=G (Frame.enter M f a' .normal) (cs'++rest)/\zaz R a a'/\zcj L R cs cs'/\zbb N R wl w/\S=zbC N R/\K=zc0 N R/\zbY L FinP (Frame.enter L f a .normal) cs wl)
theorem zbY.tp(h:zbY L FinP fr cs w)(τ:Nat->Question->Nat)(d:Nat):zbY L FinP fr cs (w.tp τ d):=by
 cases h with
 | fin h1 h2 h3=>exact .fin h1 (fun τ' d'=>h2 τ' d') (h3.tp τ d)
 | step h1 h2 F C V h3 h4=>exact .step h1 (h2.tp τ d) F C V (fun τ' d'=>h3 τ' d') h4
theorem zgq[T:zaB L M](B:Bodies L M X)(hz:zbo L){main:Bool}{Live:World->Prop}{Ex:Event->Prop}{Snd:Nat->(Nat->Prop)->Value->World->Prop}{ch:Nat}{K:Nat->Prop}{wl:World}(h:zbY L FinP fr cs wl):∀ {R:BR} {fr':Frame} {cs':List Frame} {w:World},zgv L R fr fr'->zcj L R cs cs'->zbb N R (wl.tp w.tape w.drawn) w->K=zc0 N R ->
   zaZ M main Live Ex (fun σ' S g w=>σ'=σ/\zsX L M X N K FinP rest S g w) Snd ch K σ (zbC N R) (G fr' (cs'++rest)) w:=by
 induction h with
 | @fin fr wl hm hF hS =>
  intro R fr' cs' w hf hcs hw hK
  cases hcs
  subst hK
  refine zaZ.stop fun w₁ hs=>?_
  exact⟨rfl,Or.inl ⟨R,fr,fr',_,by rw[List.nil_append],hm,hf,hw.sees hs,rfl,rfl,fun τ d=>hF τ d⟩⟩
 | @step fr cs wl hne hS F C V h1 h2 ih =>
  intro R fr' cs' w hf hcs hw hK
  subst hK
  refine zaZ.go rfl fun w₁ hs=>?_
  have hw1:=hw.sees hs
  rw[zrX] at hw1
  obtain⟨⟨es,e⟩,hm⟩:=h1 w₁.tape w₁.drawn
  obtain⟨R',fr1',cs1,cs1',w1',es',hcx,hM,hst,hloc⟩:=zhX (rest:=rest) B hz main hf hcs hw1 e hm hne
  have hC:cs1=C w₁.tape w₁.drawn:=(List.append_cancel_right hcx).symm
  subst hC
  have hrel:zbb N R' ((V w₁.tape w₁.drawn).tp w1'.tape w1'.drawn) w1':=by
   rw[zh1 hst.went.rel.tape hst.went.rel.drawn]
   exact hst.went.rel
  refine⟨_,w1',es',zbC N R',hM,hst.went.does hw1 hst.evs,?_⟩
  rcases hst.after with ⟨hf1,hc1⟩|⟨f,a,a',hX,_,e1,e2,ha,hc1,_⟩
  ·exact ih _ _ hf1 hc1 hrel (hst.went.keptSame hw1.low).symm
  ·refine zaZ.stop fun w₂ hs2=>⟨rfl,Or.inr ⟨R',f,a,a',C w₁.tape w₁.drawn,cs1',((V w₁.tape w₁.drawn).tp w1'.tape w1'.drawn).tp w₂.tape w₂.drawn,hX,by rw[e2],ha,hc1,?_,rfl,(hst.went.keptSame hw1.low).symm,?_⟩⟩
   ·rw[<- hst.went.keptSame hw1.low] at hs2
    exact hrel.sees hs2
   ·rw[<- e1]
    exact((h2 w₁.tape w₁.drawn).tp _ _).tp _ _
end
section
open Go Go.Conc
abbrev zji(L:Program)(X:FuncId->Prop):Prop:=∀ f,X f->∃ t,((L.funcs[f]?).bind (·.body)).getD (.refuse "unsupported: a function without a Go body is entered")=.refuse t
variable{L M:Program}
def zk4(t:Array Value):ResultVar->Value
 | .tmp i=>t.getD i undef
 | .cell _ _=>undef
def packed(vs:Array Value):Value:=if h:vs.size=1 then vs[0] else .tuple vs
def zcQ(fn:Func)(t:Array Value):Value:=packed (fn.results.map (zk4 t))
def zbM(fn:Func):Bool:=fn.results.all fun|.tmp _=>true|_=>false
theorem ziD{t:Array Value}{f:ResultVar->Sem Value}(hf:∀ i,f (.tmp i)=pure (t.getD i undef)):∀ l:List ResultVar,(∀ x∈l,∃ i,x=.tmp i)->l.mapM f=pure (l.map (zk4 t))
 | [],_=>by rw[List.mapM_nil];rfl
 | x::l,hl=>by
  obtain⟨i,e⟩:=hl x (by simp)
  subst e
  rw[List.mapM_cons,ziD hf l (fun y hy=>hl y (by simp[hy])),hf]
  rfl
theorem zc3{fn:Func}(h:zbM fn=true)(t:Array Value):results fn t=pure (zcQ fn t):=by
 unfold results
 rw[Array.mapM_eq_mapM_toList,ziD (t:=t) (fun i=>rfl) fn.results.toList (fun x hx=>?_)]
 ·have e:(List.map (zk4 t) fn.results.toList).toArray=fn.results.map (zk4 t):=by
   rw[<- Array.toList_map]
  simp only[map_pure,pure_bind,zcQ,e]
  rfl
 ·unfold zbM at h
  rw[<- Array.all_toList,List.all_eq_true] at h
  have:=h x hx
  cases x with
  | tmp i=>exact⟨i,rfl⟩
  | cell a ty=>simp at this
theorem zl0{R:BR}(h:zaz R c c'):zao R (packed c) (packed c'):=by
 unfold packed
 by_cases q:c.size=1
 ·rw[dif_pos q,dif_pos (by rw[<- h.1];exact q)]
  exact h.2 0 (by omega) (by rw[<- h.1];omega)
 ·rw[dif_neg q,dif_neg (by rw[<- h.1];exact q)]
  exact h.tup
theorem ziS{R:BR}{fn:Func}(he:fn'.results=fn.results){t:Array Value}(h:zaz R t t'):zao R (zcQ fn t) (zcQ fn' t'):=by
 unfold zcQ
 rw[he]
 refine zl0 ⟨by simp,fun i h1 h2=>?_⟩
 simp only[Array.getElem_map]
 cases fn.results[i]'(by simpa using h1) with
 | tmp j=>exact h.getD j
 | cell a ty=>exact zao.undef
def zr1(L:Program)(f:FuncId)(Post:Value->World->Prop)(fr:Frame)(w:World):Prop:=fr.fn=f/\∃ fn,L.funcs[f]?=some fn/\∀ τ d,Post (zcQ fn fr.tmps) (w.tp τ d)
theorem zd0{fn:Func}(hf:L.funcs[f]?=some fn)(hres:zbM fn=true){a:Array Value}(hP:∀ v w τ d,Post v w->Post v (w.tp τ d))(hC:∀ τ d,Calls L f a (w.tp τ d) fun e w'=>∃ v,e=.returned v/\Post v w'):Good L (zr1 L f Post) (Frame.enter L f a .normal) [] w:=by
 intro τ d
 obtain⟨e,w',fr,⟨v,rfl,hv⟩,hc,hfn,hl⟩:=hC τ d [zaP L]
 obtain⟨n,hn⟩:=hc
 obtain⟨h1,h2,h3,fn',hf',hr⟩:=hl
 rw[hfn] at hf'
 rw[hf] at hf'
 cases hf'
 rw[zc3 hres] at hr
 have hv2:v=zcQ fn fr.tmps:=by
  simp[pure] at hr
  exact hr.symm
 exact⟨n,fr,w',hn,h1,hfn,fn,hf,fun τ d=>by rw[<- hv2];exact hP _ _ _ _ hv⟩
theorem zr1.tp :∀ fr w τ d,zr1 L f Post fr w->zr1 L f Post fr (w.tp τ d):=fun _ _ _ _ ⟨h1,fn,h2,h3⟩=>⟨h1,fn,h2,fun τ' d'=>h3 τ' d'⟩
theorem zq9(hx:zdy=false):∀(n:Nat) (v:Value),SizeOf.sizeOf v<=n->∃ u,zao (fun _ _=>False) u v:=by
 intro n
 induction n with
 | zero=>intro v h;cases v <;> simp at h
 | succ n ih =>
  intro v h
  have row:∀ c:Array Value,SizeOf.sizeOf c<=n->∃ d:Array Value,d.size=c.size/\∀ i (h1:i<d.size) (h2:i<c.size),zao (fun _ _=>False) d[i] c[i]:=by
   intro c hc
   have hx:∀ i:Fin c.size,∃ u,zao (fun _ _=>False) u c[i]:=fun i=>ih _ (by have:=Array.sizeOf_getElem c i.val i.isLt;simp only[Fin.getElem_fin];omega)
   obtain⟨f,hf⟩:=Classical.axiomOfChoice hx
   exact⟨Array.ofFn f,by simp,fun i h1 h2=>by simp only[Array.getElem_ofFn];exact hf ⟨i,h2⟩⟩
  cases v with
  | bool b=>exact⟨_,.bool b⟩
  | int k n=>exact⟨_,.int k n⟩
  | string s=>exact⟨_,.string s⟩
  | agg c =>
   obtain⟨d,h1,h2⟩:=row c (by simp at h;omega)
   exact⟨.agg d,.agg h1 h2⟩
  | tuple c =>
   obtain⟨d,h1,h2⟩:=row c (by simp at h;omega)
   exact⟨.tuple d,.tuple h1 h2⟩
  | iface t v =>
   obtain⟨u,hu⟩:=ih v (by simp at h;omega)
   exact⟨.iface t u,.iface t hu⟩
  | nilIface=>exact⟨_,.nilIface⟩
  | pointer o =>
   cases o with
   | none=>exact⟨_,.nilPtr⟩
   | some a=>exact⟨.tuple #[],.junk hx rfl⟩
  | nilFunc=>exact⟨_,.nilFunc⟩
  | func fn f c =>
   cases fn with
   | method n=>exact⟨.func (.method n) #[.nilIface] #[],.junkM hx⟩
   | _=>exact⟨.tuple #[],.junk hx rfl⟩
  | _=>exact⟨.tuple #[],.junk hx rfl⟩
noncomputable def zr5(v:Value):Value:=match v with
 | .bool b=>.bool b
 | .int k n=>.int k n
 | .string s=>.string s
 | v=>if h:zdy=false then Classical.choose (zq9 h _ v (Nat.le_refl _)) else v
theorem zk9{R:BR}(hx:zdy=false)(hR:R.One)(v:Value):zao R (zr5 v) v:=by
 have hle:BR.le (fun _ _=>False) R:=⟨fun _ _ h=>h.elim,fun _=>hR⟩
 cases v with
 | bool b=>exact .bool b
 | int k n=>exact .int k n
 | string s=>exact .string s
 | _=>simp only[zr5,dif_pos hx];exact(Classical.choose_spec (zq9 hx _ _ (Nat.le_refl _))).mono hle
noncomputable def _root_.Go.World.frz(w:World):World:={ w with heap:=w.heap.map fun|.cells c e _=>.cells (c.map zr5) e (0,c.size)|.map _ _=>.coro none|o=>o }
theorem zpG(w:World)(a:Addr):w.frz.cell? a=(w.cell? a).map zr5:=by
 unfold World.cell? World.frz
 simp only[Array.getElem?_map]
 cases w.heap[a.block]? with
 | none=>rfl
 | some o =>
  cases o with
  | cells c e f =>
   simp only[Option.map_some]
   split
   ·rfl
   ·simp
  | _=>rfl
theorem ze8(w:World):w.frz.heap.size=w.heap.size:=by simp[World.frz]
def zcu(K:Nat->Prop):BR:=fun b c=>b=c/\K b
def Closed(K:Nat->Prop)(w:World):Prop:=∀ b,K b->(∃ c e f,w.heap[b]?=some (.cells c e f)/\zdy=false)\/(zdy=false/\((∃ a l,w.heap[b]?=some (.number a l)/\zbQ (zcu K) a a)\/∃ c n,w.heap[b]?=some (.map c n)))
theorem Closed.lt{K:Nat->Prop}(h:Closed K w){b:Nat}(hb:K b):b<w.heap.size:=by
 rcases h b hb with ⟨_,_,_,hx,_⟩|⟨_,⟨_,_,hx,_⟩|⟨_,_,hx⟩⟩
 ·exact(gei hx).1
 ·exact(gei hx).1
 ·exact(gei hx).1
theorem ze9(K:Nat->Prop):(zcu K).One:=⟨fun _ _ _ h h'=>h.1.symm.trans h'.1,fun _ _ _ h h'=>h.1.trans h'.1.symm⟩
theorem znv{K:Nat->Prop}(h:Closed K w):zbb w.heap.size (zcu K) w.frz w:=by
 refine⟨ze9 K,?_,rfl,rfl,by rw[ze8];exact Nat.le_refl _⟩
 rintro b c ⟨rfl,hb⟩
 rcases h b hb with ⟨x,e,f,hx,hxo⟩|⟨ho,⟨a,l,hx,hr⟩|⟨c,n,hx⟩⟩
 ·exact⟨.cells (x.map zr5) e (0,x.size),.cells x e f,by simp[World.frz,hx],hx,.cells ⟨by simp,fun i h1 h2=>by simp only[Array.getElem_map];exact zk9 hxo (ze9 K) _⟩ (fun _ i hi=>⟨Nat.zero_le _,by simpa using hi⟩) (fun q=>absurd (gei hx).1 q)⟩
 ·exact⟨.number a l,.number a l,by simp[World.frz,hx],hx,.other (.number hr) (fun _ _ q=>by cases q)⟩
 ·exact⟨.coro none,.map c n,by simp[World.frz,hx],hx,.other .hid (fun _ _ q=>by cases q)⟩
theorem ziw{K:Nat->Prop}(h:Closed K w):zc0 w.heap.size (zcu K)=K:=by
 funext c
 refine propext ⟨fun ⟨b,⟨e,hb⟩,_⟩=>e ▸ hb,fun hc=>⟨c,⟨rfl,hc⟩,?_⟩⟩
 exact h.lt hc
theorem zk0{K:Nat->Prop}(h:Closed K w):zbC w.heap.size (zcu K)=fun _=>False:=by
 funext c
 refine propext ⟨fun ⟨b,⟨_,hb⟩,hn⟩=>?_,fun q=>q.elim⟩
 have:=h.lt hb
 omega
section
variable{main:Bool}{Live:World->Prop}{Ex:Event->Prop}{Snd:Nat->(Nat->Prop)->Value->World->Prop}{ch:Nat}
theorem zaZ.frame{Stop:Nat->(Nat->Prop)->Goroutine->World->Prop}{K:Nat->Prop}(hK:∀ c,K' c->K c)(hNo:∀ σ S v w,¬ Snd σ S v w)(hLv:∀ w w':World,(∀ c,Lv c->w'.heap[c]?=w.heap[c]?)->Live w->Live w')(w0:World)(hlv:∀ c,Lv c->c<w0.heap.size):∀(r:Rk) {σ:Nat} {S:Nat->Prop} {g:Goroutine} {w:World},Way M main Live Ex Stop Snd ch K' r σ S g w ->
  zaT Live K S₀ w0 w->(∀ c,K c\/S₀ c->c<w0.heap.size)->(∀ c,S c->w0.heap.size<=c) ->
  zaZ M main Live Ex (fun σ S₁ g w₁=>∃ S',S₁=(fun c=>S₀ c\/S' c)/\Stop σ S' g w₁/\zaT Live K S₀ w0 w₁/\∀ c,S' c->w0.heap.size<=c) Snd ch K σ (fun c=>S₀ c\/S c) g w:=by
 intro r
 induction r with
 | z =>
  intro σ S g w h hs hlt hS
  refine zaZ.stop fun w₁ hs1=>⟨S,rfl,h w₁ (hs1.mono fun c hc=>?_),hs.trans (hs1.mono fun c hc=>?_),hS⟩
  ·rcases hc with hc|hc
   ·exact Or.inl (hK c hc)
   ·exact Or.inr (Or.inr hc)
  ·rcases hc with hc|hc
   ·exact Or.inl hc
   ·exact Or.inr (Or.inl hc)
 | s f ih =>
  intro σ S g w h hs hlt hS
  have up1:∀ {w₁},zaT Live K (fun c=>S₀ c\/S c) w w₁->zaT Live K' S w w₁:=fun hs1=>hs1.mono fun c hc=>by
   rcases hc with hc|hc
   ·exact Or.inl (hK c hc)
   ·exact Or.inr (Or.inr hc)
  have up2:∀ {w₁},zaT Live K (fun c=>S₀ c\/S c) w w₁->zaT Live K S₀ w w₁:=fun hs1=>hs1.mono fun c hc=>by
   rcases hc with hc|hc
   ·exact Or.inl hc
   ·exact Or.inr (Or.inl hc)
  rcases h with h|⟨hr,h⟩
  ·exact zaZ.stop fun w₁ hs1=>⟨S,rfl,h w₁ (up1 hs1),hs.trans (up2 hs1),hS⟩
  ·refine zaZ.go hr fun w₁ hs1=>?_
   rcases h w₁ (up1 hs1) with ⟨g',w',es,S',e,hd,hw⟩|⟨g1,v,z,S',_,_,hsn,_⟩
   ·have hs2:=hs.trans (up2 hs1)
    have hd2:zaT Live K S₀ w₁ w':=by
     refine⟨hd.size,fun c hc=>hd.kept c ?_ ?_,hd.tape,hd.os,hd.out,?_⟩
     ·exact nll (hlt c hc) hs2.size
     ·intro q
      have:=hS c q
      have:=hlt c hc
      omega
     ·refine hLv _ _ fun c hc=>hd.kept c ?_ ?_
      ·exact nll (hlv c hc) hs2.size
      ·intro q
       have:=hS c q
       have:=hlv c hc
       omega
    refine⟨g',w',es,fun c=>S₀ c\/S' c,e,⟨hd.size,fun c hc=>hc.imp id (hd.sub c),fun c hc=>?_,fun c hc hn=>hd.kept c hc fun q=>hn (Or.inr q),hd.tape,hd.os,hd.out,fun x hx=>?_⟩,?_⟩
    ·rcases hc with hc|hc
     ·exact Or.inl (Or.inl hc)
     ·exact(hd.new c hc).imp Or.inr id
    ·rcases hd.evs x hx with (⟨a,wr,rfl,q⟩|⟨r,wr,rfl,q⟩|rfl)|q
     ·refine Or.inl (Or.inl ⟨a,wr,rfl,?_⟩)
      rcases q with q|q
      ·exact Or.inl (Or.inr q)
      ·exact Or.inr ⟨hK _ q.1,q.2⟩
     ·exact Or.inl (Or.inr (Or.inl ⟨r,wr,rfl,q.elim (fun q=>Or.inl (Or.inr q)) (fun q=>Or.inr ⟨hK _ q.1,q.2⟩)⟩))
     ·exact Or.inl (Or.inr (Or.inr rfl))
     ·exact Or.inr q
    ·refine ih w₁ hw (hs2.trans hd2) hlt fun c hc=>?_
     rcases hd.new c hc with q|q
     ·exact hS c q
     ·have:=hs2.size
      omega
   ·exact(hNo _ _ _ _ hsn).elim
theorem zpi[T:zaB L M][zaB L L](W:Whole L)(B:Bodies L M X){Stop:Nat->(Nat->Prop)->Goroutine->World->Prop}{K Kc:Nat->Prop}(hLv:∀ w w':World,(∀ c,Lv c->w'.heap[c]?=w.heap[c]?)->Live w->Live w')(hX:zji L X){fn:Func}(hf:L.funcs[f]?=some fn)(hb:fn.body.isSome=true)(hnX:¬ X f)(hres:zbM fn=true){a:Array Value}(hP:∀ v w τ d,Post v w->Post v (w.tp τ d))(hKc:∀ c,Kc c->K c)(hcl:Closed Kc w)(ha:zaz (zcu Kc) a a)(hlt:∀ c,K c\/S₀ c->c<w.heap.size)(hlv:∀ c,Lv c->c<w.heap.size)(hC:∀ τ d,Calls L f a (w.frz.tp τ d) fun e w'=>∃ v,e=.returned v/\Post v w'){c:Frame}(hgo:∀ v' w₁ S',zaT Live K S₀ w w₁->(∀ c,S' c->w.heap.size<=c)->(∃ R wl v,zao R v v'/\zbb w.heap.size R wl w₁/\Post v wl/\S'=zbC w.heap.size R)->zaZ M main Live Ex Stop Snd ch K σ (fun c=>S₀ c\/S' c) (G (c.finish v') cs) w₁) :
  zaZ M main Live Ex Stop Snd ch K σ S₀ (G (Frame.enter M f a .normal) (c::cs)) w:=by
 have hent:zgv L (zcu Kc) (Frame.enter L f a .normal) (Frame.enter M f a .normal):=zdV B hf hb hnX ha
 have hrel:=znv hcl
 have hG:=zd0 hf hres hP hC
 have hT:=zdd W (zr1.tp (L:=L) (f:=f) (Post:=Post)) hG ⟨_,_,_,[],_,hent,.nil,hrel⟩
 have hway:=zgq (M:=M) (main:=main) (Live:=Live) (Ex:=Ex) (Snd:=fun _ _ _ _=>False) (ch:=ch) (rest:=c::cs) (σ:=σ) (K:=Kc) B W.zero hT hent .nil (w:=w) (by
  have e:w.frz.tp w.tape w.drawn=w.frz:=rfl
  rw[e]
  exact hrel) (ziw hcl).symm
 rw[zk0 hcl] at hway
 obtain⟨r,hway⟩:=hway
 have hfr:=zaZ.frame (K:=K) (S₀:=S₀) hKc (fun _ _ _ _ q=>q) hLv w hlv r hway (zaT.refl w) hlt (fun c q=>q.elim)
 have e0:(fun c=>S₀ c\/(fun _=>False) c)=S₀:=by
  funext c
  simp
 rw[e0] at hfr
 obtain⟨r2,hfr⟩:=hfr
 refine(zaZ.sends (Snd2:=Snd) (fun _ _ _ _ q=>q.elim) r2 hfr).then ?_
 rintro σ₁ S₁ g w₁ ⟨S',rfl,⟨rfl,hst⟩,hsees,hnew⟩
 rcases hst with ⟨R,fr,fr',wl,rfl,hm,hfR,hwR,rfl,hkk,hF⟩|⟨R,f',a1,a2,cs1,cs2,wl,hXf,rfl,_,_,_,_,_,hTr⟩
 ·obtain⟨ho,t,rfl,ht⟩:=hfR
  obtain⟨rfl,fn1,hfn1,hpost⟩:=hF wl.tape wl.drawn
  rw[hf] at hfn1
  cases hfn1
  have hM:=B.same fr.fn fn hf hb hnX
  have hrun:∀ w₂,stepG M main (G { fr with tmps:=t } (c::cs)) w₂=.go (G (c.finish (zcQ fn t)) cs) w₂ #[]:=by
   intro w₂
   rw[zbf _ _ _ _ _ (show ({ fr with tmps:=t }:Frame).mode=.returning from hm)]
   have hev:(pure (zcQ fn t):Sem Value).events M w₂ #[]=#[]:=rfl
   simp only[unwind,ho.defers,hm,hM,zc3 hres,Sem.runT_eq,doReturn,ho.kind,hev]
   have hr1:(pure (zcQ fn t):Sem Value).run M w₂=.ok (zcQ fn t) w₂:=rfl
   have hsn:seen M fr.fn #[]=#[]:=by rw[seen_def];rfl
   rw[hr1,hsn]
   rfl
  refine zaZ.go rfl fun w₂ hs2=>⟨_,w₂,#[],_,hrun w₂,Does.none w₂,?_⟩
  have hs3:zaT Live K S₀ w w₂:=hsees.trans (hs2.mono fun c hc=>hc.imp id Or.inl)
  have hw2:zbb w.heap.size R (wl.tp w₂.tape w₂.drawn) w₂:=by
   refine⟨hwR.one,fun b c hbc=>?_,rfl,rfl,hwR.low⟩
   obtain⟨o,o',e1,e2,hor⟩:=hwR.blk b c hbc
   refine⟨o,o',e1,?_,hor⟩
   rw[hs2.same c ?_]
   ·exact e2
   ·by_cases q:w.heap.size<=b
    ·exact Or.inr (Or.inr ⟨b,hbc,q⟩)
    ·refine Or.inl (hKc c ?_)
     rw[hkk]
     exact⟨b,hbc,by omega⟩
  exact hgo (zcQ fn t) w₂ _ hs3 hnew ⟨R,wl.tp w₂.tape w₂.drawn,zcQ fn fr.tmps,ziS rfl ht,hw2,hP _ _ _ _ (hpost wl.tape wl.drawn),rfl⟩
 ·exfalso
  obtain⟨tx,htx⟩:=hX f' hXf
  cases hTr with
  | fin h1 _ _=>cases h1
  | step _ _ F C V h1 _ =>
   obtain⟨⟨es,e⟩,_⟩:=h1 wl.tape wl.drawn
   rw[zeo _ _ _ _ _ rfl] at e
   have htd:(Frame.enter L f' a1 .normal).todo=[.code (.refuse tx)]:=by unfold Frame.enter;dsimp only;rw[htx]
   simp only[stepG.exec,htd] at e
   cases e
end
end
section
open Go Go.Conc
variable{M:Program}
def Rlt(x y:Rk):Prop:=∃ f w,y=.s f/\x=f w
theorem zoh:∀ r:Rk,Acc Rlt r:=by
 intro r
 induction r with
 | z=>exact⟨_,fun y ⟨f,w,e,_⟩=>by cases e⟩
 | s f ih=>exact⟨_,fun y ⟨f',w,e,e2⟩=>by cases e;rw[e2];exact ih w⟩
def Fam(N:Nat)(ρ' ρ:Nat->Rk):Prop:=∃ i,i<N/\Rlt (ρ' i) (ρ i)/\∀ k,k≠i->ρ' k=ρ k
theorem zrw:∀(N:Nat) (ρ:Nat->Rk),Acc (Fam N) ρ:=by
 intro N
 induction N with
 | zero=>exact fun ρ=>⟨_,fun y ⟨i,h,_⟩=>by omega⟩
 | succ N ih =>
  have key:∀ r:Rk,Acc Rlt r->∀ ρ:Nat->Rk,Acc (Fam N) ρ->ρ N=r->Acc (Fam (N+1)) ρ:=by
   intro r hr
   induction hr with
   | intro r _ ihr =>
    intro ρ hρ
    induction hρ with
    | intro ρ _ ihρ =>
     intro e
     refine⟨_,fun ρ' ⟨i,hi,hlt,hk⟩=>?_⟩
     by_cases q:i=N
     ·subst q
      exact ihr (ρ' i) (by rw[<- e];exact hlt) ρ' (ih ρ') rfl
     ·exact ihρ ρ' ⟨i,by omega,hlt,hk⟩ (by rw[hk N (by omega)];exact e)
  exact fun ρ=>key _ (zoh _) ρ (ih ρ) rfl
theorem zsg(N:Nat):WellFounded (Fam N):=⟨zrw N⟩
theorem zsv:WellFounded Rlt:=⟨zoh⟩
abbrev Mea:=Nat × (Nat->Rk) × Rk
def zdz(N:Nat):Mea->Mea->Prop:=Prod.Lex (· < ·) (Prod.Lex (Fam N) Rlt)
theorem zsn(N:Nat):WellFounded (zdz N):=(Prod.lex ⟨_,Nat.lt_wfRel.wf⟩ (Prod.lex ⟨_,zsg N⟩ ⟨_,zsv⟩)).wf
section
variable{main:Bool}{Live:World->Prop}{Ex:Event->Prop}{Snd:Nat->(Nat->Prop)->Value->World->Prop}{ch:Nat}{K:Nat->Prop}
theorem zaZ.ctl{Stop:Nat->(Nat->Prop)->Goroutine->World->Prop}{g':Goroutine}(hr:g.status=.running)(h:∀ w,stepG M main g w=.go g' w #[])(hn:zaZ M main Live Ex Stop Snd ch K σ S g' w):zaZ M main Live Ex Stop Snd ch K σ S g w :=
 zaZ.go hr fun w₁ hs=>⟨g',w₁,#[],S,h w₁,Does.none w₁,hn.rely hs⟩
