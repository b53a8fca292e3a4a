/- Of the proof: Sx, Aa, Ab, Ac, Ad, Ae, Af, Ag, Ah, Ai, Aj, Ak, Al, Am, An, Ao, Ap, Aq, Ar, As, At, Au, Av, Aw, Ax, Ay -/
import Derived.Test.YtfbbcooklhmeaaaGreatLZz
import Derived.Calls
import Derived.Laws.Sem
import Derived.Conc.Listed
namespace Go.Proofs.YtfbbcooklhmeaaaGreat
variable {a a':Addr} {ps ps':Array (Nat × Value)} {es es1:Array Event} {ts:Array TypeId} {as as' c c' t':Array Value} {d d':Deferred} {e:Event} {fr fr' fr1:Frame} {FinP:Frame->World->Prop} {fn':Func} {f:FuncId} {X:FuncId->Prop} {st:GoStatus} {g:Goroutine} {l l':List (Nat × Value)} {base cs cs' cs1 csx rest:List Frame} {N n r r' σ:Nat} {Stop2:Nat->(Nat->Prop)->Goroutine->World->Prop} {Snd2:Nat->(Nat->Prop)->Value->World->Prop} {K' Lv S S₀:Nat->Prop} {o o':Obj} {ρ ρ':Operand->Value} {hi hi' lo lo' mx mx':Option Value} {P:Program} {m name:String} {s t:TypeId} {b k k' u v v' x x' y y':Value} {Post:Value->World->Prop} {w w' w1 w1' w2 w₁:World}
section
open Go
def xAr (f:Nat):Option Nat:=([(16,1)]:List (Nat × Nat)).lookup f
def znR (f n:Nat):Bool:=match xAr f with
 | none=>true
 | some k=>n == k
def zbE:Bool:=false
theorem zdC {f:Nat} (h:(xAr f).isNone=true) (n:Nat):znR f n=true:=by
 unfold znR
 cases hx:xAr f with
 | none=>rfl
 | some k=>rw [hx] at h; cases h
abbrev BR:=Nat->Nat->Prop
def BR.One (R:BR):Prop:=(∀ b c c',R b c->R b c'->c=c')/\(∀ b b' c,R b c->R b' c->b=b')
def BR.le (R R':BR):Prop:=(∀ b c,R b c->R' b c)/\(R.One->R'.One)
theorem BR.le_refl (R:BR):R.le R:=⟨fun _ _ h=>h,fun h=>h⟩
theorem BR.le_trans {R R' R'':BR} (h:R.le R') (h':R'.le R''):R.le R'':=⟨fun b c x=>h'.1 b c (h.1 b c x),fun x=>h'.2 (h.2 x)⟩
def BR.more (R:BR) (x y:Nat):BR:=fun b c=>R b c\/(b=x/\c=y)
def zbG (R:BR) (a c:Addr):Prop:=R a.block c.block/\a.off=c.off/\a.spot=c.spot
theorem zbG.mono {R R':BR} (hR:R.le R') {c:Addr} (h:zbG R a c):zbG R' a c:=⟨hR.1 _ _ h.1,h.2⟩
def zmc:Fn->Bool
 | .func f=>(xAr f).isNone
 | .via _ path f _=>path.isEmpty && (xAr f).isNone
 | _=>false
def zfb:Value->Bool
 | .bool _ | .int _ _ | .string _ | .agg _ | .tuple _ | .iface _ _ | .nilIface | .pointer none | .nilFunc | .func (.method _) _ _=>false
 | _=>true
inductive zao (R:BR):Value->Value->Prop
 | bool (b:Bool):zao R (.bool b) (.bool b)
 | int (k:IntKind) (n:Int):zao R (.int k n) (.int k n)
 | string (s:ByteArray):zao R (.string s) (.string s)
 | ptr {a c:Addr}:zbG R a c->zao R (.pointer (some a)) (.pointer (some c))
 | nilPtr:zao R (.pointer none) (.pointer none)
 | slice {a c:Addr} (n m:Nat):zbG R a c->zao R (.slice (some a) n m) (.slice (some c) n m)
 | nilSlice (n m:Nat):zao R (.slice none n m) (.slice none n m)
 | map {r s:Nat}:R r s->zao R (.map (some r)) (.map (some s))
 | nilMap:zao R (.map none) (.map none)
 | nilChan:zao R (.chan none) (.chan none)
 | func (fn:Fn) {f f' c c':Array Value}:zmc fn=true->f.size=f'.size->(∀ i (h:i < f.size) (h':i < f'.size),zao R f[i] f'[i])->c.size=c'.size->(∀ i (h:i < c.size) (h':i < c'.size),zao R c[i] c'[i])->zao R (.func fn f c) (.func fn f' c')
 | nilFunc:zao R .nilFunc .nilFunc
 | iface (t:TypeId) {v v':Value}:zao R v v'->zao R (.iface t v) (.iface t v')
 | nilIface:zao R .nilIface .nilIface
 | agg {c c':Array Value}:c.size=c'.size->(∀ i (h:i < c.size) (h':i < c'.size),zao R c[i] c'[i])->zao R (.agg c) (.agg c')
 | junkM {n n':String} {f c:Array Value}:zbE=false->zao R (.func (.method n) #[.nilIface] #[]) (.func (.method n') f c)
 | junk {v':Value}:zbE=false->zfb v'=true->zao R (.tuple #[]) v'
 | tuple {c c':Array Value}:c.size=c'.size->(∀ i (h:i < c.size) (h':i < c'.size),zao R c[i] c'[i])->zao R (.tuple c) (.tuple c')
theorem zao.mono {R R':BR} (hR:R.le R') (h:zao R v v'):zao R' v v':=by
 induction h with
 | bool b=>exact .bool b
 | int k n=>exact .int k n
 | string s=>exact .string s
 | ptr h=>exact .ptr (h.mono hR)
 | nilPtr=>exact .nilPtr
 | slice n m h=>exact .slice n m (h.mono hR)
 | nilSlice n m=>exact .nilSlice n m
 | map h=>exact .map (hR.1 _ _ h)
 | nilMap=>exact .nilMap
 | nilChan=>exact .nilChan
 | func fn h0 h1 _ h3 _ i1 i2=>exact .func fn h0 h1 i1 h3 i2
 | nilFunc=>exact .nilFunc
 | iface t _ i=>exact .iface t i
 | nilIface=>exact .nilIface
 | agg h1 _ i=>exact .agg h1 i
 | junkM h0=>exact .junkM h0
 | junk h0 h=>exact .junk h0 h
 | tuple h1 _ i=>exact .tuple h1 i
def zaz (R:BR) (c c':Array Value):Prop:=c.size=c'.size/\∀ i (h:i < c.size) (h':i < c'.size),zao R c[i] c'[i]
theorem zaz.mono {R R':BR} (hR:R.le R') (h:zaz R c c'):zaz R' c c':=⟨h.1,fun i a b=>(h.2 i a b).mono hR⟩
structure znL (R:BR) (e e':MapEntry):Prop where
 key:zao R e.key e'.key
 val:zao R e.val e'.val
 born:e.born=e'.born
def zcC (R:BR) (c c':Array MapEntry):Prop:=c.size=c'.size/\∀ i (h:i < c.size) (h':i < c'.size),znL R c[i] c'[i]
theorem znL.mono {R R':BR} (hR:R.le R') {e e':MapEntry} (h:znL R e e'):znL R' e e':=⟨h.key.mono hR,h.val.mono hR,h.born⟩
theorem zcC.mono {R R':BR} (hR:R.le R') {c c':Array MapEntry} (h:zcC R c c'):zcC R' c c':=⟨h.1,fun i a b=>(h.2 i a b).mono hR⟩
inductive zpl (R:BR):Obj->Obj->Prop
 | map {c c':Array MapEntry} {n:Nat}:zbE=true->zcC R c c'->zpl R (.map c n) (.map c' n)
 | number {a a':Addr} {l:Bool}:zbG R a a'->zpl R (.number a l) (.number a' l)
theorem zpl.mono {R R':BR} (hR:R.le R') (h:zpl R o o'):zpl R' o o':=by
 cases h with
 | map hx h=>exact .map hx (h.mono hR)
 | number h=>exact .number (h.mono hR)
inductive znD (R:BR) (ro:Prop):Obj->Obj->Prop
 | cells {c c':Array Value} {e:TypeId} {f f':Nat × Nat}:zaz R c c'->(ro->∀ i,i < c.size->f.1<=i/\i < f.2)->(¬ ro->f=f')->znD R ro (.cells c e f) (.cells c' e f')
 | other {o o':Obj}:zpl R o o'->(zbE=true->¬ ro)->znD R ro o o'
theorem znD.mono {R R':BR} (hR:R.le R') {ro:Prop} (h:znD R ro o o'):znD R' ro o o':=by
 cases h with
 | cells h1 h2 h3=>exact .cells (h1.mono hR) h2 h3
 | other h1 h2=>exact .other (h1.mono hR) h2
inductive zpo:Halt->Prop
 | panic (v:Value):zpo (.panic v)
 | unsupported (u:Unsupported):zpo (.unsupported u)
 | stuck (s:String):zpo (.stuck s)
class zkx (h:Halt):Prop where
 soft:zpo h
instance (v:Value):zkx (.panic v):=⟨.panic v⟩
instance (u:Unsupported):zkx (.unsupported u):=⟨.unsupported u⟩
instance (s:String):zkx (.stuck s):=⟨.stuck s⟩
def zcB {α:Type} (P:Program) (s:Sem α):Prop:=∀ w,∃ h w',s.run P w=.halt h w'/\zpo h
class zaJ {α:Type} (P:Program) (s:Sem α):Prop where
 soft:∀ w h w',s.run P w=.halt h w'->zpo h
inductive zaj {α:Type} (L M:Program) (Q:BR->α->α->Prop):BR->Sem α->Sem α->Prop
 | pure {R:BR} {a a':α}:Q R a a'->zaj L M Q R (.pure a) (.pure a')
 | load {R:BR} {a a':Addr} {k k':Value->Sem α}:zbG R a a'->(∀ R':BR,R.le R'->∀ v v',zao R' v v'->zaj L M Q R' (k v) (k' v'))->zaj L M Q R (.load .plain a k) (.load .plain a' k')
 | store {R:BR} {a a':Addr} {v v':Value} {k k':Sem α}:zbG R a a'->zao R v v'->zaj L M Q R k k'->zaj L M Q R (.store .plain a v k) (.store .plain a' v' k')
 | new {R:BR} {o o':Obj} {k k':Nat->Sem α}:znD R False o o'->(∀ R':BR,R.le R'->∀ r r',R' r r'->zaj L M Q R' (k r) (k' r'))->zaj L M Q R (.new o k) (.new o' k')
 | shape {R:BR} {r r':Nat} {k k':Option (TypeId × Nat)->Sem α}:R r r'->(∀ s,zaj L M Q R (k s) (k' s))->zaj L M Q R (.shape r k) (.shape r' k')
 | getObj {R:BR} {r r':Nat} {k k':Obj->Sem α}:R r r'->(∀ R':BR,R.le R'->∀ o o',zpl R' o o'->zaj L M Q R' (k o) (k' o'))->zaj L M Q R (.getObj r k) (.getObj r' k')
 | setObj {R:BR} {r r':Nat} {c c':Array MapEntry} {n:Nat} {k k':Sem α}:zbE=true->R r r'->zcC R c c'->zaj L M Q R k k'->zaj L M Q R (.setObj r (.map c n) k) (.setObj r' (.map c' n) k')
 | choose {R:BR} {q:Question} {k k':Nat->Sem α}:(∀ n,zaj L M Q R (k n) (k' n))->zaj L M Q R (.choose q k) (.choose q k')
 | program {R:BR} {k k':Program->Sem α}:zaj L M Q R (k L) (k' M)->zaj L M Q R (.program k) (.program k')
 | mark {R:BR} {k k':Sem α}:zaj L M Q R k k'->zaj L M Q R (.mark .noRoom k) (.mark .noRoom k')
 | never {R:BR} {s s':Sem α}:zcB L s->zaj L M Q R s s'
theorem zaj.halt {α:Type} {L M:Program} {Q:BR->α->α->Prop} {R:BR} {h:Halt} [S:zkx h] {s:Sem α}:zaj L M Q R (.halt h) s:=.never (fun w=>⟨h,w,rfl,S.soft⟩)
theorem zau {α β:Type} {s:Sem α} {f:α->Sem β} (h:zcB P s):zcB P (s.bind f):=by
 intro w
 obtain ⟨hh,w',e,hs⟩:=h w
 have e2:=Sem.run_bind' P s f w
 rw [e] at e2
 exact ⟨hh,w',e2,hs⟩
theorem zcB.not {α:Type} {s:Sem α} (h:zcB P s) {x:α} :s.run P w ≠ .ok x w':=by
 obtain ⟨hh,w2,e,_⟩:=h w
 rw [e]
 intro q
 cases q
theorem zaj.imp {α:Type} {L M:Program} {Q Q':BR->α->α->Prop} (hQ:∀ R a a',Q R a a'->Q' R a a') {R:BR} {s s':Sem α} (h:zaj L M Q R s s'):zaj L M Q' R s s':=by
 induction h with
 | pure h=>exact .pure (hQ _ _ _ h)
 | load h _ ih=>exact .load h ih
 | store h hv _ ih=>exact .store h hv ih
 | new h _ ih=>exact .new h ih
 | shape h _ ih=>exact .shape h ih
 | getObj h _ ih=>exact .getObj h ih
 | setObj hx h hc _ ih=>exact .setObj hx h hc ih
 | choose _ ih=>exact .choose ih
 | program _ ih=>exact .program ih
 | mark _ ih=>exact .mark ih
 | never h=>exact .never h
theorem zaj.bind {α β:Type} {L M:Program} {Q:BR->α->α->Prop} {Q':BR->β->β->Prop} {R:BR} {s s':Sem α} {f f':α->Sem β} (h:zaj L M Q R s s')
  (hf:∀ R':BR,R.le R'->∀ a a',Q R' a a'->zaj L M Q' R' (f a) (f' a')):zaj L M Q' R (s.bind f) (s'.bind f'):=by
 induction h with
 | pure h=>exact hf _ (BR.le_refl _) _ _ h
 | load h _ ih=>exact .load h (fun R' hR v v' hv=>ih R' hR v v' hv (fun R'' hR''=>hf R'' (BR.le_trans hR hR'')))
 | store h hv _ ih=>exact .store h hv (ih hf)
 | new h _ ih=>exact .new h (fun R' hR r r' hr=>ih R' hR r r' hr (fun R'' hR''=>hf R'' (BR.le_trans hR hR'')))
 | shape h _ ih=>exact .shape h (fun s=>ih s hf)
 | getObj h _ ih=>exact .getObj h (fun R' hR o o' hc=>ih R' hR o o' hc (fun R'' hR''=>hf R'' (BR.le_trans hR hR'')))
 | setObj hx h hc _ ih=>exact .setObj hx h hc (ih hf)
 | choose _ ih=>exact .choose (fun n=>ih n hf)
 | program _ ih=>exact .program (ih hf)
 | mark _ ih=>exact .mark (ih hf)
 | never h=>exact .never (zau h)
structure za8 (N:Nat) (R:BR) (w w':World):Prop where
 one:R.One
 blk:∀ b c,R b c->∃ o o',w.heap[b]?=some o/\w'.heap[c]?=some o'/\znD R (b < N) o o'
 tape:w.tape=w'.tape
 drawn:w.drawn=w'.drawn
 low:N<=w.heap.size
theorem za8.lt {R:BR} (h:za8 N R w w') {b c:Nat} (hb:R b c):b < w.heap.size/\c < w'.heap.size:=by
 obtain ⟨o,o',e1,e2,_⟩:=h.blk b c hb
 exact ⟨(gei e1).1,(gei e2).1⟩
structure zd9 (N:Nat) (R R':BR) (w w' w1 w1':World):Prop where
 le:R.le R'
 rel:za8 N R' w1 w1'
 new:∀ b c,R' b c->R b c\/(w.heap.size<=b/\w'.heap.size<=c)
 size:w'.heap.size<=w1'.heap.size
 sizeL:w.heap.size<=w1.heap.size
 kept:∀ c,c < w'.heap.size->(∀ b,R b c->b < N)->w1'.heap[c]?=w'.heap[c]?
 tp:w1'.tape=w'.tape
 os:w1'.os=w'.os
 out:w1'.output=w'.output
theorem zd9.refl {R:BR} (h:za8 N R w w'):zd9 N R R w w' w w':=⟨BR.le_refl R,h,fun _ _ x=>Or.inl x,Nat.le_refl _,Nat.le_refl _,fun _ _ _=>rfl,rfl,rfl,rfl⟩
theorem zd9.trans {R R' R'':BR} {w2':World} (h:zd9 N R R' w w' w1 w1') (h2:zd9 N R' R'' w1 w1' w2 w2'):zd9 N R R'' w w' w2 w2':=by
 refine ⟨BR.le_trans h.le h2.le,h2.rel,fun b c x=>?_,Nat.le_trans h.size h2.size,Nat.le_trans h.sizeL h2.sizeL,fun c hc hn=>?_,h2.tp.trans h.tp,h2.os.trans h.os,h2.out.trans h.out⟩
 ·rcases h2.new b c x with y | y
  ·exact h.new b c y
  ·exact Or.inr ⟨Nat.le_trans h.sizeL y.1,Nat.le_trans h.size y.2⟩
 ·rw [h2.kept c (nll hc h.size) (fun b x=>?_)]
  ·exact h.kept c hc hn
  ·rcases h.new b c x with y | y
   ·exact hn b y
   ·omega
theorem za8.cell {R:BR} (h:za8 N R w w') {c:Addr} (ha:zbG R a c) (hv:w.cell? a=some v):∃ v',w'.cell? c=some v'/\zao R v v':=by
 obtain ⟨h1,h2,h3⟩:=ha
 obtain ⟨o,o',e1,e2,ho⟩:=h.blk _ _ h1
 cases ho with
 | @cells x y e f f' hr _ _ =>
  obtain ⟨hs,hr⟩:=hr
  unfold World.cell? at hv ⊢
  rw [e1] at hv
  rw [e2]
  simp only at hv ⊢
  rw [<- h3,<- h2]
  by_cases hsp:a.spot.isSome=true
  ·rw [if_pos hsp] at hv; cases hv
  ·rw [if_neg hsp] at hv ⊢
   obtain ⟨hi,rfl⟩:=gei hv
   have hi':a.off < y.size:=by rw [<- hs]; exact hi
   exact ⟨y[a.off],Array.getElem?_eq_getElem hi',hr _ hi hi'⟩
 | other hj _ =>
  unfold World.cell? at hv
  rw [e1] at hv
  cases hj <;> simp at hv
theorem zlW (h:w.cell? a=some v):∃ c e f,w.heap[a.block]?=some (.cells c e f)/\a.off < c.size/\a.spot.isSome=false:=by
 unfold World.cell? at h
 split at h
 ·rename_i c e f hc
  split at h
  ·cases h
  ·rename_i hs
   exact ⟨c,e,f,hc,(gei h).1,by simpa using hs⟩
 ·cases h
theorem za8.mine {R:BR} (h:za8 N R w w') {c:Addr} (ha:zbG R a c) (hv:w.cell? a=some v) (hf:w.frozen? a=false):N<=a.block/\w'.frozen? c=false:=by
 obtain ⟨h1,h2,h3⟩:=ha
 obtain ⟨x,e,f,e1,hlt,_⟩:=zlW hv
 obtain ⟨o,o',e1',e2,ho⟩:=h.blk _ _ h1
 rw [e1] at e1'
 cases e1'
 cases ho with
 | other hj _=>cases hj
 | cells hr h4 h5 =>
  obtain ⟨f1,f2⟩:=f
  have hN:N<=a.block:=by
   apply Nat.le_of_not_lt
   intro hlt'
   have hh:=h4 hlt' _ hlt
   simp only [World.frozen?,e1] at hf
   simp only [Bool.and_eq_false_iff,decide_eq_false_iff_not] at hf
   omega
  refine ⟨hN,?_⟩
  have e5:=h5 (by omega)
  subst e5
  simp only [World.frozen?,e1] at hf
  simp only [World.frozen?,e2,<- h2]
  exact hf
theorem za8.shp {R:BR} (h:za8 N R w w') {s:Nat} (hr:R r s):w.shape? r=w'.shape? s:=by
 obtain ⟨o,o',e1,e2,ho⟩:=h.blk _ _ hr
 cases ho with
 | cells hr _ _=>simp only [World.shape?,e1,e2,hr.1]
 | other hj _=>cases hj <;> simp only [World.shape?,e1,e2]
theorem zaz.set {R:BR} {x y:Array Value} (h:zaz R x y) (i:Nat) (hv:zao R v v'):zaz R (x.setIfInBounds i v) (y.setIfInBounds i v'):=by
 refine ⟨by simpa using h.1,fun j h1 h2=>?_⟩
 simp only [Array.size_setIfInBounds] at h1 h2
 rw [Array.getElem_setIfInBounds h1,Array.getElem_setIfInBounds h2]
 split
 ·exact hv
 ·exact h.2 j h1 h2
theorem zd9.store {R:BR} (h:za8 N R w w') {c:Addr} (ha:zbG R a c) (hN:N<=a.block) (hv:zao R v v'):zd9 N R R w w' (w.setCell a v) (w'.setCell c v'):=by
 have hrel:za8 N R (w.setCell a v) (w'.setCell c v'):=by
  obtain ⟨h1,h2,h3⟩:=ha
  refine ⟨h.one,fun b d hbd=>?_,h.tape,h.drawn,by simpa [World.setCell] using h.low⟩
  by_cases e:a.block=b
  ·subst e
   have ed:c.block=d:=h.one.1 _ _ _ h1 hbd
   subst ed
   obtain ⟨o,o',e1,e2,ho⟩:=h.blk _ _ h1
   cases ho with
   | @cells x y e f f' hr h4 h5 =>
    refine ⟨.cells (if a.spot.isSome then x else x.setIfInBounds a.off v) e f,.cells (if c.spot.isSome then y else y.setIfInBounds c.off v') e f',by simp [World.setCell,Array.getElem?_modify,e1],by simp [World.setCell,Array.getElem?_modify,e2],.cells ?_ ?_ h5⟩
    ·rw [<- h3,<- h2]
     split
     ·exact hr
     ·exact hr.set _ hv
    ·intro hro
     omega
   | @other o o' hj h4=>exact ⟨o,o',by cases hj <;> simp [World.setCell,Array.getElem?_modify,e1],by cases hj <;> simp [World.setCell,Array.getElem?_modify,e2],.other hj h4⟩
  ·have ed:¬ c.block=d:=fun q=>e (h.one.2 _ _ _ h1 (by rw [q]; exact hbd))
   have g1:(w.setCell a v).heap[b]?=w.heap[b]?:=by simp [World.setCell,Array.getElem?_modify,e]
   have g2:(w'.setCell c v').heap[d]?=w'.heap[d]?:=by simp [World.setCell,Array.getElem?_modify,ed]
   rw [g1,g2]
   exact h.blk _ _ hbd
 refine ⟨BR.le_refl _,hrel,fun _ _ x=>Or.inl x,by simp [World.setCell],by simp [World.setCell],fun d _ hn=>?_,rfl,rfl,rfl⟩
 have:¬ c.block=d:=fun q=>by
  have:=hn a.block (by rw [<- q]; exact ha.1)
  omega
 simp [World.setCell,Array.getElem?_modify,this]
theorem zd9.push {R:BR} (h:za8 N R w w') (ho:znD R False o o') :
  zd9 N R (R.more w.heap.size w'.heap.size) w w' { w with heap:=w.heap.push o } { w' with heap:=w'.heap.push o' }:=by
 have hone:(R.more w.heap.size w'.heap.size).One:=by
  refine ⟨fun b c c' x y=>?_,fun b b' c x y=>?_⟩
  ·rcases x with x | ⟨rfl,rfl⟩
   ·rcases y with y | ⟨rfl,rfl⟩
    ·exact h.one.1 _ _ _ x y
    ·exact absurd (h.lt x).1 (by omega)
   ·rcases y with y | ⟨_,rfl⟩
    ·exact absurd (h.lt y).1 (by omega)
    ·rfl
  ·rcases x with x | ⟨rfl,rfl⟩
   ·rcases y with y | ⟨rfl,rfl⟩
    ·exact h.one.2 _ _ _ x y
    ·exact absurd (h.lt x).2 (by omega)
   ·rcases y with y | ⟨rfl,_⟩
    ·exact absurd (h.lt y).2 (by omega)
    ·rfl
 have hle:R.le (R.more w.heap.size w'.heap.size):=⟨fun _ _ h=>Or.inl h,fun _=>hone⟩
 refine ⟨hle,⟨hone,fun b c x=>?_,h.tape,h.drawn,by simp; have:=h.low; omega⟩,fun b c x=>?_,by simp,by simp,fun c hc _=>?_,rfl,rfl,rfl⟩
 ·rcases x with x | ⟨rfl,rfl⟩
  ·have hl:=h.lt x
   have g1:(w.heap.push o)[b]?=w.heap[b]?:=by rw [Array.getElem?_push]; rw [if_neg (by omega)]
   have g2:(w'.heap.push o')[c]?=w'.heap[c]?:=by rw [Array.getElem?_push]; rw [if_neg (by omega)]
   simp only [g1,g2]
   obtain ⟨p,p',e1,e2,hr⟩:=h.blk _ _ x
   exact ⟨p,p',e1,e2,hr.mono hle⟩
  ·have hN:¬ w.heap.size < N:=by have:=h.low; omega
   refine ⟨o,o',by simp,by simp,?_⟩
   cases ho.mono hle with
   | cells h1 h2 h3=>exact .cells h1 (fun q=>absurd q hN) (fun _=>h3 (fun q=>q))
   | other h1 h2=>exact .other h1 (fun _=>hN)
 ·rcases x with x | ⟨rfl,rfl⟩
  ·exact Or.inl x
  ·exact Or.inr ⟨Nat.le_refl _,Nat.le_refl _⟩
 ·simp only [Array.getElem?_push]; rw [if_neg (by omega)]
theorem zd9.remap {R:BR} (hx:zbE=true) (h:za8 N R w w') {s:Nat} (hr:R r s) {c c':Array MapEntry} (hN:N<=r) (hc:zcC R c c') :
  zd9 N R R w w' { w with heap:=w.heap.setIfInBounds r (.map c n) } { w' with heap:=w'.heap.setIfInBounds s (.map c' n) }:=by
 have hl:=h.lt hr
 refine ⟨BR.le_refl _,⟨h.one,fun b d hbd=>?_,h.tape,h.drawn,by simpa using h.low⟩,fun _ _ x=>Or.inl x,by simp,by simp,fun d _ hn=>?_,rfl,rfl,rfl⟩
 ·by_cases e:r=b
  ·subst e
   have ed:s=d:=h.one.1 _ _ _ hr hbd
   subst ed
   exact ⟨_,_,Array.getElem?_setIfInBounds_self_of_lt hl.1,Array.getElem?_setIfInBounds_self_of_lt hl.2,.other (.map hx hc) (fun _=>by omega)⟩
  ·have ed:¬ s=d:=fun q=>e (h.one.2 _ _ _ hr (by rw [q]; exact hbd))
   simp only [Array.getElem?_setIfInBounds_ne e,Array.getElem?_setIfInBounds_ne ed]
   exact h.blk _ _ hbd
 ·have:s ≠ d:=fun q=>by
   have:=hn r (by rw [<- q]; exact hr)
   omega
  simp only [Array.getElem?_setIfInBounds_ne this]
theorem zao.flat {R:BR} (h:zao R v v') (h1:∀ c,v ≠ .agg c) (h2:∀ c,v ≠ .tuple c):(∀ c,v' ≠ .agg c)/\(∀ c,v' ≠ .tuple c):=by
 cases h with
 | agg _ _=>exact absurd rfl (h1 _)
 | tuple _ _=>exact absurd rfl (h2 _)
 | junk _ _=>exact absurd rfl (h2 _)
 | _=>exact ⟨fun c q=>(by cases q),fun c q=>(by cases q)⟩
theorem run_store {α:Type} (P:Program) (m:Mode) (a:Addr) (v:Value) (k:Sem α) (w:World) (h1:∀ c,v ≠ .agg c) (h2:∀ c,v ≠ .tuple c) (hc:w.cell? a=some u) (hf:w.frozen? a=false) :
  (Sem.store m a v k).run P w=k.run P (w.setCell a v):=by
 cases v with
 | agg c=>exact absurd rfl (h1 c)
 | tuple c=>exact absurd rfl (h2 c)
 | _=>simp only [Sem.run,hc,hf]; rfl
theorem zla {α:Type} (P:Program) (a:Addr) (v:Value) (k:Sem α) (w:World) (es:Array Event) (h1:∀ c,v ≠ .agg c) (h2:∀ c,v ≠ .tuple c) (hc:w.cell? a=some u) (hf:w.frozen? a=false) :
  (Sem.store .plain a v k).runT P w es=k.runT P (w.setCell a v) (es.push ⟨.cell a,true,false⟩):=by
 cases v with
 | agg c=>exact absurd rfl (h1 c)
 | tuple c=>exact absurd rfl (h2 c)
 | _=>simp only [Sem.runT,hc,hf]; rfl
theorem zn9 {R:BR} (hw:za8 N R w w') {c:Addr} (ha:zbG R a c) (m:Bool):∃ hh,w.farLoad P a m=.error hh:=by
 obtain ⟨o,o',e1,e2,ho⟩:=hw.blk _ _ ha.1
 cases ho with
 | cells _ _ _=>exact ⟨_,by simp [World.farLoad,e1]; rfl⟩
 | other hj _=>cases hj <;> exact ⟨_,by simp [World.farLoad,e1]; rfl⟩
theorem zl7 {R:BR} (hw:za8 N R w w') {c:Addr} (ha:zbG R a c) (v:Value) (m:Bool):∃ hh,w.farStore P a v m=.error hh:=by
 obtain ⟨o,o',e1,e2,ho⟩:=hw.blk _ _ ha.1
 cases ho with
 | cells _ _ _=>exact ⟨_,by simp [World.farStore,e1]; rfl⟩
 | other hj _=>cases hj <;> exact ⟨_,by simp [World.farStore,e1]; rfl⟩
theorem zhg {α:Type} {m:Mode} {k:Sem α} {x:α} {R:BR} {c:Addr} (hw:za8 N R w w') (ha:zbG R a c) (h:(Sem.store m a v k).run P w=.ok x w1) :
  (∀ c,v ≠ .agg c)/\(∀ c,v ≠ .tuple c)/\(∃ u,w.cell? a=some u)/\w.frozen? a=false:=by
 have far:w.cell? a=none->False:=fun hn=>by
  obtain ⟨hh,e⟩:=zl7 (P:=P) hw ha v (m == .atomic)
  cases v <;> simp [Sem.run,hn,e] at h
 have go:∃ u,w.cell? a=some u:=by
  cases hc:w.cell? a with
  | none=>exact (far hc).elim
  | some u=>exact ⟨u,rfl⟩
 obtain ⟨u,hu⟩:=go
 have hfz:w.frozen? a=false:=by
  cases hf:w.frozen? a with
  | false=>rfl
  | true=>cases v <;> simp [Sem.run,hu,hf] at h
 refine ⟨fun c q=>?_,fun c q=>?_,⟨u,hu⟩,hfz⟩
 ·subst q; simp [Sem.run] at h
 ·subst q; simp [Sem.run] at h
theorem zij {α:Type} {m:Mode} {k:Value->Sem α} {x:α} {R:BR} {c:Addr} (hw:za8 N R w w') (ha:zbG R a c) (h:(Sem.load m a k).run P w=.ok x w1):∃ u,w.cell? a=some u:=by
 cases hc:w.cell? a with
 | some u=>exact ⟨u,rfl⟩
 | none =>
  obtain ⟨hh,e⟩:=zn9 (P:=P) hw ha (m == .atomic)
  simp [Sem.run,hc,e] at h
def EvR (N:Nat) (R:BR) (e:Event):Prop :=
 (∃ a b wr,e=⟨.cell a,wr,false⟩/\R b a.block/\(wr=true->N<=b))\/(∃ r b wr,e=⟨.obj r,wr,false⟩/\R b r/\(wr=true->N<=b))\/e=⟨.mark .noRoom,false,true⟩
theorem EvR.mono {R R':BR} (h:R.le R') (he:EvR N R e):EvR N R' e:=by
 rcases he with ⟨a,b,wr,e,h1,h2⟩ | ⟨r,b,wr,e,h1,h2⟩ | e
 ·exact Or.inl ⟨a,b,wr,e,h.1 _ _ h1,h2⟩
 ·exact Or.inr (Or.inl ⟨r,b,wr,e,h.1 _ _ h1,h2⟩)
 ·exact Or.inr (Or.inr e)
def _root_.Go.World.tp (w:World) (τ:Nat->Question->Nat) (d:Nat):World:={ w with tape:=τ,drawn:=d }
def zpK {α:Type} (L:Program) (s:Sem α) (w:World) (x:α) (w1:World):Prop :=
 ∃ k,w1.tape=w.tape/\w1.drawn=w.drawn + k/\∀ τ d,(∀ i,i < k->∀ q,τ (d + i) q=w.tape (w.drawn + i) q)->s.run L (w.tp τ d)=.ok x (w1.tp τ (d + k))
theorem zhi {α:Type} {Q:BR->α->α->Prop} {L M:Program} {R:BR} {s s':Sem α} (h:zaj L M Q R s s') :
  ∀ {N:Nat} {w w' w1:World} {x:α},za8 N R w w'->s.run L w=.ok x w1 ->
   ∃ R' x' w1' es,(∀ es0,s'.runT M w' es0=(.ok x' w1',es0 ++ es))/\zd9 N R R' w w' w1 w1'/\Q R' x x'/\(∀ e ∈ es,EvR N R' e)/\zpK L s w x w1:=by
 induction h with
 | pure h =>
  intro N w w' w1 x hw hr
  simp only [Sem.run,Result.ok.injEq] at hr
  obtain ⟨rfl,rfl⟩:=hr
  exact ⟨_,_,_,#[],fun es0=>by simp [Sem.runT],zd9.refl hw,h,by simp,0,rfl,rfl,fun τ d _=>rfl⟩
 | @load R a a' k k' ha _ ih =>
  intro N w w' w1 x hw hr
  obtain ⟨u,hu⟩:=zij hw ha hr
  obtain ⟨u',hu',hv⟩:=hw.cell ha hu
  simp only [Sem.run,hu] at hr
  obtain ⟨R',x',w1',es,e,hg,hq,hes,k0,l1,l2,l3⟩:=ih _ (BR.le_refl _) u u' hv hw hr
  refine ⟨R',x',w1',#[⟨.cell a',false,false⟩] ++ es,fun es0=>?_,hg,hq,?_,k0,l1,l2,fun τ d ht=>?_⟩
  ·simp only [Sem.runT,hu']
   rw [e]
   simp
   rfl
  ·intro x hx
   rcases Array.mem_append.1 hx with hx | hx
   ·have:x=⟨.cell a',false,false⟩:=by simpa using hx
    subst this
    exact Or.inl ⟨a',a.block,false,rfl,hg.le.1 _ _ ha.1,by simp⟩
   ·exact hes x hx
  ·have hu2:(w.tp τ d).cell? a=some u:=hu
   simp only [Sem.run,hu2]
   exact l3 τ d ht
 | @store R a a' v v' k k' ha hv _ ih =>
  intro N w w' w1 x hw hr
  obtain ⟨n1,n2,⟨u,hu⟩,hf⟩:=zhg hw ha hr
  rw [run_store L _ _ _ _ _ n1 n2 hu hf] at hr
  obtain ⟨m1,m2⟩:=hv.flat n1 n2
  obtain ⟨u',hu',_⟩:=hw.cell ha hu
  obtain ⟨hN,hf'⟩:=hw.mine ha hu hf
  have hst:=zd9.store hw ha hN hv
  obtain ⟨R',x',w1',es,e,hg,hq,hes,k0,l1,l2,l3⟩:=ih hst.rel hr
  refine ⟨R',x',w1',#[⟨.cell a',true,false⟩] ++ es,fun es0=>?_,hst.trans hg,hq,?_,k0,l1,l2,fun τ d ht=>?_⟩
  ·rw [zla M _ _ _ _ _ m1 m2 hu' hf',e]
   simp
  ·intro x hx
   rcases Array.mem_append.1 hx with hx | hx
   ·have:x=⟨.cell a',true,false⟩:=by simpa using hx
    subst this
    exact Or.inl ⟨a',a.block,true,rfl,hg.le.1 _ _ ha.1,fun _=>hN⟩
   ·exact hes x hx
  ·rw [run_store L _ _ _ _ _ n1 n2 (show (w.tp τ d).cell? a=some u from hu) (show (w.tp τ d).frozen? a=false from hf)]
   exact l3 τ d ht
 | new ho _ ih =>
  intro N w w' w1 x hw hr
  simp only [Sem.run] at hr
  have hp:=zd9.push hw ho
  obtain ⟨R',x',w1',es,e,hg,hq,hes,k0,l1,l2,l3⟩:=ih _ hp.le _ _ (Or.inr ⟨rfl,rfl⟩) hp.rel hr
  exact ⟨R',x',w1',es,fun es0=>by simp only [Sem.runT]; exact e es0,hp.trans hg,hq,hes,k0,l1,l2,fun τ d ht=>by simp only [Sem.run]; exact l3 τ d ht⟩
 | shape hrs _ ih =>
  intro N w w' w1 x hw hr
  simp only [Sem.run,hw.shp hrs] at hr
  obtain ⟨R',x',w1',es,e,hg,hq,hes,k0,l1,l2,l3⟩:=ih _ hw hr
  exact ⟨R',x',w1',es,fun es0=>by simp only [Sem.runT]; exact e es0,hg,hq,hes,k0,l1,l2,fun τ d ht=>by
   have hs2:(w.tp τ d).shape? _=_:=hw.shp hrs
   simp only [Sem.run,hs2]
   exact l3 τ d ht⟩
 | @getObj R r r' k k' hrs _ ih =>
  intro N w w' w1 x hw hr
  obtain ⟨o,o',e1,e2,ho⟩:=hw.blk _ _ hrs
  simp only [Sem.run,e1] at hr
  cases ho with
  | cells _ _ _=>simp at hr
  | @other o o' hj hN =>
   have hr2:(k o).run L w=.ok x w1:=by cases hj <;> exact hr
   obtain ⟨R',x',w1',es,e,hg,hq,hes,k0,l1,l2,l3⟩:=ih _ (BR.le_refl _) _ _ hj hw hr2
   have hT:∀ es0,(Sem.getObj r' k').runT M w' es0=(k' o').runT M w' (es0.push ⟨.obj r',false,false⟩):=by
    intro es0
    cases hj <;> (simp only [Sem.runT,e2]; rfl)
   refine ⟨R',x',w1',#[⟨.obj r',false,false⟩] ++ es,fun es0=>?_,hg,hq,?_,k0,l1,l2,fun τ d ht=>?_⟩
   ·rw [hT,e]
    simp
   ·intro x hx
    rcases Array.mem_append.1 hx with hx | hx
    ·have:x=⟨.obj r',false,false⟩:=by simpa using hx
     subst this
     exact Or.inr (Or.inl ⟨r',r,false,rfl,hg.le.1 _ _ hrs,fun q=>by cases q⟩)
    ·exact hes x hx
   ·have e1':(w.tp τ d).heap[r]?=some o:=e1
    have:=l3 τ d ht
    cases hj <;> (simp only [Sem.run,e1']; exact this)
 | @setObj R r r' c c' n k k' hx hrs hc _ ih =>
  intro N w w' w1 x hw hr
  obtain ⟨o,o',e1,e2,ho⟩:=hw.blk _ _ hrs
  simp only [Sem.run,e1] at hr
  cases ho with
  | cells _ _ _=>simp at hr
  | @other o o' hj hN =>
   have hr2:k.run L { w with heap:=w.heap.setIfInBounds r (.map c n) }=.ok x w1:=by cases hj <;> exact hr
   have hst:=zd9.remap (n:=n) hx hw hrs (by have:=hN hx; omega) hc
   obtain ⟨R',x',w1',es,e,hg,hq,hes,k0,l1,l2,l3⟩:=ih hst.rel hr2
   have hT:∀ es0,(Sem.setObj r' (.map c' n) k').runT M w' es0=k'.runT M { w' with heap:=w'.heap.setIfInBounds r' (.map c' n) } (es0.push ⟨.obj r',true,false⟩):=by
    intro es0
    cases hj <;> (simp only [Sem.runT,e2]; rfl)
   refine ⟨R',x',w1',#[⟨.obj r',true,false⟩] ++ es,fun es0=>?_,hst.trans hg,hq,?_,k0,l1,l2,fun τ d ht=>?_⟩
   ·rw [hT,e]
    simp
   ·intro x hx'
    rcases Array.mem_append.1 hx' with hx' | hx'
    ·have:x=⟨.obj r',true,false⟩:=by simpa using hx'
     subst this
     exact Or.inr (Or.inl ⟨r',r,true,rfl,hg.le.1 _ _ hrs,fun _=>by have:=hN hx; omega⟩)
    ·exact hes x hx'
   ·have e1':(w.tp τ d).heap[r]?=some o:=e1
    have:=l3 τ d ht
    cases hj <;> (simp only [Sem.run,e1']; exact this)
 | @choose R q k k' _ ih =>
  intro N w w' w1 x hw hr
  simp only [Sem.run] at hr
  by_cases hq:q.forced=true
  ·rw [if_pos hq] at hr
   obtain ⟨R',x',w1',es,e,hg,hq2,hes,k0,l1,l2,l3⟩:=ih _ hw hr
   exact ⟨R',x',w1',es,fun es0=>by simp only [Sem.runT]; rw [if_pos hq]; exact e es0,hg,hq2,hes,k0,l1,l2,fun τ d ht=>by simp only [Sem.run]; rw [if_pos hq]; exact l3 τ d ht⟩
  ·rw [if_neg hq] at hr
   have ht:w.tape w.drawn q=w'.tape w'.drawn q:=by rw [hw.tape,hw.drawn]
   rw [ht] at hr
   have hw2:za8 N R { w with drawn:=w.drawn + 1 } { w' with drawn:=w'.drawn + 1 }:=⟨hw.one,hw.blk,hw.tape,by simp [hw.drawn],hw.low⟩
   obtain ⟨R',x',w1',es,e,hg,hq2,hes,k0,l1,l2,l3⟩:=ih _ hw2 hr
   exact ⟨R',x',w1',es,fun es0=>by simp only [Sem.runT]; rw [if_neg hq]; exact e es0,⟨hg.le,hg.rel,hg.new,hg.size,hg.sizeL,hg.kept,hg.tp,hg.os,hg.out⟩,hq2,hes,k0 + 1,l1,by simp at l2; omega,fun τ d ht=>by
    simp only [Sem.run]
    rw [if_neg hq]
    have h0:(w.tp τ d).tape (w.tp τ d).drawn q=w'.tape w'.drawn q:=by rw [<- hw.tape,<- hw.drawn]; exact ht 0 (by omega) q
    rw [h0]
    have:=l3 τ (d + 1) (fun i hi q=>by have:=ht (i + 1) (by omega) q; simpa [Nat.add_assoc,Nat.add_comm 1 i] using this)
    simpa [World.tp,Nat.add_assoc,Nat.add_comm 1 k0] using this⟩
 | program _ ih =>
  intro N w w' w1 x hw hr
  simp only [Sem.run] at hr
  obtain ⟨R',x',w1',es,e,hg,hq,hes,k0,l1,l2,l3⟩:=ih hw hr
  exact ⟨R',x',w1',es,fun es0=>by simp only [Sem.runT]; exact e es0,hg,hq,hes,k0,l1,l2,fun τ d ht=>by simp only [Sem.run]; exact l3 τ d ht⟩
 | mark _ ih =>
  intro N w w' w1 x hw hr
  simp only [Sem.run] at hr
  obtain ⟨R',x',w1',es,e,hg,hq,hes,k0,l1,l2,l3⟩:=ih hw hr
  refine ⟨R',x',w1',#[⟨.mark .noRoom,false,true⟩] ++ es,fun es0=>?_,hg,hq,?_,k0,l1,l2,fun τ d ht=>?_⟩
  ·simp only [Sem.runT]
   rw [e]
   simp
  ·intro x hx
   rcases Array.mem_append.1 hx with hx | hx
   ·have:x=⟨.mark .noRoom,false,true⟩:=by simpa using hx
    subst this
    exact Or.inr (Or.inr rfl)
   ·exact hes x hx
  ·simp only [Sem.run]
   exact l3 τ d ht
 | never h =>
  intro N w w' w1 x hw hr
  exact absurd hr h.not
theorem zkm {α:Type} {Q:BR->α->α->Prop} {L M:Program} {R:BR} {s s':Sem α} (h:zaj L M Q R s s') :
  ∀ {N:Nat} {w w' w1:World} {hh:Halt},za8 N R w w'->s.run L w=.halt hh w1->zpo hh:=by
 have noc:∀ (w:World) (a:Addr) (t:String),zpo (w.noCell a t):=by
  intro w a t
  unfold World.noCell
  split
  ·exact .unsupported _
  ·exact .unsupported _
  ·exact .stuck _
 induction h with
 | pure h=>intro N w w' w1 hh hw hr; simp [Sem.run] at hr
 | @load R a a' k k' ha _ ih =>
  intro N w w' w1 hh hw hr
  cases hc:w.cell? a with
  | some u =>
   obtain ⟨u',hu',hv⟩:=hw.cell ha hc
   simp only [Sem.run,hc] at hr
   exact ih _ (BR.le_refl _) u u' hv hw hr
  | none =>
   obtain ⟨o,o',e1,e2,ho⟩:=hw.blk _ _ ha.1
   have e:w.farLoad L a (Mode.plain == .atomic)=.error (w.noCell a "load: no such cell"):=by
    cases ho with
    | cells _ _ _=>simp [World.farLoad,e1]
    | other hj _=>cases hj <;> simp [World.farLoad,e1]
   simp only [Sem.run,hc,e,Result.halt.injEq] at hr
   rw [<- hr.1]
   exact noc _ _ _
 | @store R a a' v v' k k' ha hv _ ih =>
  intro N w w' w1 hh hw hr
  by_cases n1:∃ c,v=.agg c
  ·obtain ⟨c,rfl⟩:=n1
   simp only [Sem.run,Result.halt.injEq] at hr
   rw [<- hr.1]
   exact .stuck _
  by_cases n2:∃ c,v=.tuple c
  ·obtain ⟨c,rfl⟩:=n2
   simp only [Sem.run,Result.halt.injEq] at hr
   rw [<- hr.1]
   exact .stuck _
  have m1:∀ c,v ≠ .agg c:=fun c q=>n1 ⟨c,q⟩
  have m2:∀ c,v ≠ .tuple c:=fun c q=>n2 ⟨c,q⟩
  cases hc:w.cell? a with
  | some u =>
   cases hf:w.frozen? a with
   | false =>
    rw [run_store L _ _ _ _ _ m1 m2 hc hf] at hr
    exact ih (zd9.store hw ha (hw.mine ha hc hf).1 hv).rel hr
   | true =>
    cases v with
    | agg c=>exact absurd rfl (m1 c)
    | tuple c=>exact absurd rfl (m2 c)
    | _ =>
     simp only [Sem.run,hc,hf,if_true,Result.halt.injEq] at hr
     rw [<- hr.1]
     exact .unsupported _
  | none =>
   obtain ⟨o,o',e1,e2,ho⟩:=hw.blk _ _ ha.1
   have e:w.farStore L a v (Mode.plain == .atomic)=.error (w.noCell a "store: no such cell"):=by
    cases ho with
    | cells _ _ _=>simp [World.farStore,e1]
    | other hj _=>cases hj <;> simp [World.farStore,e1]
   cases v with
   | agg c=>exact absurd rfl (m1 c)
   | tuple c=>exact absurd rfl (m2 c)
   | _ =>
    simp only [Sem.run,hc,e,Result.halt.injEq] at hr
    rw [<- hr.1]
    exact noc _ _ _
 | new ho _ ih =>
  intro N w w' w1 hh hw hr
  simp only [Sem.run] at hr
  have hp:=zd9.push hw ho
  exact ih _ hp.le _ _ (Or.inr ⟨rfl,rfl⟩) hp.rel hr
 | shape hrs _ ih =>
  intro N w w' w1 hh hw hr
  simp only [Sem.run,hw.shp hrs] at hr
  exact ih _ hw hr
 | @getObj R r r' k k' hrs _ ih =>
  intro N w w' w1 hh hw hr
  obtain ⟨o,o',e1,e2,ho⟩:=hw.blk _ _ hrs
  simp only [Sem.run,e1] at hr
  cases ho with
  | cells _ _ _ =>
   simp only [Result.halt.injEq] at hr
   rw [<- hr.1]
   exact .stuck _
  | @other o o' hj hN =>
   have hr2:(k o).run L w=.halt hh w1:=by cases hj <;> exact hr
   exact ih _ (BR.le_refl _) _ _ hj hw hr2
 | @setObj R r r' c c' n k k' hx hrs hc _ ih =>
  intro N w w' w1 hh hw hr
  obtain ⟨o,o',e1,e2,ho⟩:=hw.blk _ _ hrs
  simp only [Sem.run,e1] at hr
  cases ho with
  | cells _ _ _ =>
   simp only [Result.halt.injEq] at hr
   rw [<- hr.1]
   exact .stuck _
  | @other o o' hj hN =>
   have hr2:k.run L { w with heap:=w.heap.setIfInBounds r (.map c n) }=.halt hh w1:=by cases hj <;> exact hr
   exact ih (zd9.remap (n:=n) hx hw hrs (by have:=hN hx; omega) hc).rel hr2
 | @choose R q k k' _ ih =>
  intro N w w' w1 hh hw hr
  simp only [Sem.run] at hr
  split at hr
  ·exact ih _ hw hr
  ·have hw2:za8 N R { w with drawn:=w.drawn + 1 } { w' with drawn:=w'.drawn + 1 }:=⟨hw.one,hw.blk,hw.tape,by simp [hw.drawn],hw.low⟩
   exact ih _ hw2 hr
 | program _ ih=>intro N w w' w1 hh hw hr; simp only [Sem.run] at hr; exact ih hw hr
 | mark _ ih=>intro N w w' w1 hh hw hr; simp only [Sem.run] at hr; exact ih hw hr
 | never h =>
  intro N w w' w1 hh hw hr
  obtain ⟨h2,w2,e,hs⟩:=h w
  rw [e] at hr
  cases hr
  exact hs
class Twin (L M:Program):Prop where
 info:∀ t,M.info? t=L.info? t
 und:∀ t,M.underlying t=L.underlying t
variable {L M:Program}
abbrev QEq {α:Type}:BR->α->α->Prop:=fun _ a b=>a=b
abbrev QV:BR->Value->Value->Prop:=fun R v v'=>zao R v v'
abbrev QA:BR->Addr->Addr->Prop:=fun R a a'=>zbG R a a'
abbrev QR:BR->Array Value->Array Value->Prop:=fun R c c'=>zaz R c c'
theorem zae {α:Type} {Q:BR->α->α->Prop} {R:BR} {a a':α} (h:Q R a a'):zaj L M Q R (pure a) (pure a'):=.pure h
theorem zad {α β:Type} {Q:BR->α->α->Prop} {Q':BR->β->β->Prop} {R:BR} {s s':Sem α} {f f':α->Sem β} (h:zaj L M Q R s s')
  (hf:∀ R':BR,R.le R'->∀ a a',Q R' a a'->zaj L M Q' R' (f a) (f' a')):zaj L M Q' R (s >>= f) (s' >>= f'):=zaj.bind h hf
theorem zaC {α:Type} {Q:BR->α->α->Prop} {R:BR} {w:String} {s:Sem α}:zaj L M Q R (stuck w) s:=.halt
abbrev QP (L M:Program):BR->Program->Program->Prop:=fun _ p p'=>p=L/\p'=M
theorem zaS {R:BR}:zaj L M (QP L M) R program program:=.program (.pure ⟨rfl,rfl⟩)
theorem znl {R:BR} (h:zbG R a a'):zaj L M QV R (load a) (load a'):=.load h fun _ _ _ _ hv=>.pure hv
theorem zo0 {R:BR} (h:zbG R a a') (hv:zao R v v'):zaj L M QEq R (store a v) (store a' v'):=.store h hv (.pure rfl)
theorem zbj [Twin L M] {R:BR} (t:TypeId):zaj L M QEq R (typeInfo t) (typeInfo t):=by
 unfold typeInfo
 refine zad zaS ?_
 rintro R' _ p p' ⟨rfl,rfl⟩
 rw [Twin.info (L:=p) (M:=p') t]
 split
 ·exact zae rfl
 ·exact zaC
theorem zal [Twin L M] {R:BR} (t:TypeId):zaj L M QEq R (underlying t) (underlying t):=by
 unfold underlying
 refine zad zaS ?_
 rintro R' _ p p' ⟨rfl,rfl⟩
 rw [Twin.und (L:=p) (M:=p') t]
 split
 ·exact zae rfl
 ·exact zaC
theorem zaI [Twin L M] {R:BR} (t:TypeId):zaj L M QEq R (sizeOf t) (sizeOf t):=by
 unfold Go.sizeOf
 refine zad (zbj t) ?_
 rintro R' _ p _ rfl
 exact zae rfl
theorem zko [Twin L M] {R:BR} (t:TypeId):zaj L M QEq R (isAgg t) (isAgg t):=by
 unfold isAgg
 refine zad (zal t) ?_
 rintro R' _ p _ rfl
 split <;> exact zae rfl
theorem zbG.add {R:BR} (h:zbG R a a') (n:Nat):zbG R (a.add n) (a'.add n):=by
 unfold Addr.add
 split
 ·exact h
 ·exact ⟨h.1,by simp [h.2.1],rfl⟩
theorem zaz.push {R:BR} (h:zaz R c c') (hv:zao R v v'):zaz R (c.push v) (c'.push v'):=by
 refine ⟨by simp [h.1],fun i h1 h2=>?_⟩
 rw [Array.getElem_push,Array.getElem_push]
 simp only [Array.size_push] at h1 h2
 by_cases hi:i < c.size
 ·have hi':i < c'.size:=by rw [<- h.1]; exact hi
  rw [dif_pos hi,dif_pos hi']
  exact h.2 i hi hi'
 ·rw [dif_neg hi,dif_neg (by rw [<- h.1]; exact hi)]
  exact hv
theorem zeI {R:BR} (h:zbG R a a'):∀ (n i:Nat) {acc acc':Array Value},zaz R acc acc'->zaj L M QR R (loadCellsFrom a i n acc) (loadCellsFrom a' i n acc'):=by
 intro n
 induction n generalizing R with
 | zero=>exact fun i acc acc' hr=>zae hr
 | succ n ih =>
  intro i acc acc' hr
  refine zad (znl (h.add i)) ?_
  intro R' hR v v' hv
  exact ih (h.mono hR) (i + 1) ((hr.mono hR).push hv)
theorem zaz.nil {R:BR}:zaz R #[] #[]:=⟨rfl,fun i h _=>absurd h (by simp)⟩
theorem zey {R:BR} (h:zbG R a a') (n:Nat):zaj L M QR R (loadCells a n) (loadCells a' n):=zeI h n 0 zaz.nil
theorem zej [Twin L M] {R:BR} (t:TypeId) (h:zbG R a a'):zaj L M QV R (loadVar t a) (loadVar t a'):=by
 unfold loadVar
 refine zad (zko t) ?_
 rintro R' hR b _ rfl
 cases b with
 | true =>
  refine zad (zaI t) ?_
  rintro R2 hR2 n _ rfl
  refine zad (zey ((h.mono hR).mono hR2) n) ?_
  intro R3 hR3 c c' hc
  exact zae (.agg hc.1 hc.2)
 | false=>exact znl (h.mono hR)
theorem zaz.one {R:BR} (h:zao R v v'):zaz R #[v] #[v']:=zaz.nil.push h
theorem zao.cells {R:BR} (h:zao R v v'):zaz R v.cells v'.cells:=by
 cases h with
 | agg h1 h2=>exact ⟨h1,h2⟩
 | bool b=>exact zaz.one (.bool b)
 | int k n=>exact zaz.one (.int k n)
 | map h=>exact zaz.one (.map h)
 | nilMap=>exact zaz.one .nilMap
 | nilChan=>exact zaz.one .nilChan
 | string s=>exact zaz.one (.string s)
 | ptr h=>exact zaz.one (.ptr h)
 | nilPtr=>exact zaz.one .nilPtr
 | slice n m h=>exact zaz.one (.slice n m h)
 | nilSlice n m=>exact zaz.one (.nilSlice n m)
 | func fn h0 h1 h2 h3 h4=>exact zaz.one (.func fn h0 h1 h2 h3 h4)
 | nilFunc=>exact zaz.one .nilFunc
 | iface t h=>exact zaz.one (.iface t h)
 | nilIface=>exact zaz.one .nilIface
 | tuple h1 h2=>exact zaz.one (.tuple h1 h2)
 | junkM h0=>exact zaz.one (.junkM h0)
 | @junk v' hj0 hj =>
  have e:v'.cells=#[v']:=by cases v' with | agg c=>cases hj | _=>rfl
  rw [e]
  exact zaz.one (.junk hj0 hj)
inductive zf2 (R:BR):List Value->List Value->Prop
 | nil:zf2 R [] []
 | cons {v v':Value} {r r':List Value}:zao R v v'->zf2 R r r'->zf2 R (v :: r) (v' :: r')
theorem zf2.mono {R R':BR} (hR:R.le R') {l l':List Value} (h:zf2 R l l'):zf2 R' l l':=by
 induction h with
 | nil=>exact .nil
 | cons hv _ ih=>exact .cons (hv.mono hR) ih
theorem zf2.of_get {R:BR}:∀ (l l':List Value),l.length=l'.length->(∀ i (h:i < l.length) (h':i < l'.length),zao R l[i] l'[i])->zf2 R l l'
 | [],[],_,_=>.nil
 | [],_ :: _,h,_=>by simp at h
 | _ :: _,[],h,_=>by simp at h
 | v :: r,v' :: r',h,hg=>.cons (hg 0 (by simp) (by simp)) (zf2.of_get r r' (by simpa using h) (fun i h1 h2=>hg (i + 1) (Nat.succ_lt_succ h1) (Nat.succ_lt_succ h2)))
theorem zaz.all {R:BR} (h:zaz R c c'):zf2 R c.toList c'.toList :=
 zf2.of_get _ _ (by simpa using h.1) (fun i h1 h2=>by simpa using h.2 i (by simpa using h1) (by simpa using h2))
theorem zcw {R:BR} (h:zbG R a a') {vs vs':List Value} (hf:zf2 R vs vs'):∀ (i:Nat),zaj L M QEq R (storeCells a vs i) (storeCells a' vs' i):=by
 induction vs generalizing R vs' with
 | nil=>intro i; cases hf; exact zae rfl
 | cons v r ih =>
  intro i
  cases hf with
  | cons hv hr =>
   refine zad (zo0 (h.add i) hv) ?_
   intro R' hR _ _ _
   exact ih (h.mono hR) (hr.mono hR) (i + 1)
theorem zjz [Twin L M] {R:BR} (t:TypeId) (h:zbG R a a') (hv:zao R v v'):zaj L M QEq R (storeVar t a v) (storeVar t a' v'):=by
 unfold storeVar
 refine zad (zaI t) ?_
 rintro R' hR n _ rfl
 have hc:=(hv.mono hR).cells
 rw [<- hc.1]
 split
 ·exact zaj.halt
 ·exact zcw (h.mono hR) (zaz.all hc) 0
theorem zb0 {R:BR} (h:zao R v v'):zaj L M QA R (Instr.sureAddr v) (Instr.sureAddr v'):=by
 cases h with
 | ptr h=>exact zae h
 | _=>exact zaj.halt
theorem znm [Twin L M] {R:BR} (t:TypeId) (h:zao R v v'):zaj L M QV R (Instr.loadAt t v) (Instr.loadAt t v') :=
 zad (zb0 h) fun _ _ _ _ ha=>zej t ha
theorem zlw [Twin L M] {R:BR} (t:TypeId) (h:zao R v v') (hx:zao R x x'):zaj L M QEq R (Instr.storeAt t v x) (Instr.storeAt t v' x') :=
 zad (zb0 h) fun _ hR _ _ ha=>zjz t ha (hx.mono hR)
theorem zfG {R:BR} (h:znD R False o o'):zaj L M (fun R r r'=>R r r') R (newObj o) (newObj o'):=.new h fun _ _ _ _ hr=>.pure hr
theorem zdY {R:BR} (e:TypeId) (h:zaz R c c'):zaj L M QA R (newRow e c) (newRow e c') :=
 zad (zfG (.cells h (fun q=>q.elim) (fun _=>rfl))) fun _ _ _ _ hr=>zae ⟨hr,rfl,rfl⟩
theorem ziu {R:BR} (e:TypeId) (h:zao R v v'):zaj L M QA R (newVar e v) (newVar e v'):=zdY e h.cells
theorem zq1 {R:BR} (e:TypeId) (h:zao R v v'):zaj L M QV R (Instr.box e v) (Instr.box e v') :=
 zad (ziu e h) fun _ _ _ _ ha=>zae (.ptr ha)
theorem zlq {R:BR} (h:zao R v v') (i:Nat):zaj L M QV R (Instr.extract v i) (Instr.extract v' i):=by
 cases h with
 | tuple h1 h2 =>
  unfold Instr.extract
  rename_i c c'
  by_cases hi:i < c.size
  ·have hi':i < c'.size:=by rw [<- h1]; exact hi
   simp only [Array.getElem?_eq_getElem hi,Array.getElem?_eq_getElem hi']
   exact zae (h2 i hi hi')
  ·simp only [Array.getElem?_eq_none (Nat.le_of_not_lt hi)]
   exact zaC
 | _=>exact zaj.halt
instance softly_pure {P:Program} {α:Type} (a:α):zaJ P (pure a:Sem α):=⟨fun w h w' q=>by simp [pure] at q⟩
instance softly_bind {P:Program} {α β:Type} (s:Sem α) (f:α->Sem β) [S:zaJ P s] [F:∀ a,zaJ P (f a)]:zaJ P (s >>= f):=⟨fun w h w' q=>by
 rw [Sem.run_bind] at q
 cases hs:s.run P w with
 | ok y v=>rw [hs] at q; exact (F y).soft v h w' q
 | halt hh v =>
  rw [hs] at q
  have:hh=h:=by simp [Result.andThen] at q; exact q.1
  subst this
  exact S.soft w hh v hs⟩
instance softly_halt {P:Program} {α:Type} (h:Halt) [S:zkx h]:zaJ P (Sem.halt h:Sem α):=⟨fun w hh w' q=>by simp [Sem.run] at q; rw [<- q.1]; exact S.soft⟩
instance softly_stuck {P:Program} {α:Type} (t:String):zaJ P (stuck t:Sem α):=softly_halt (.stuck t)
instance softly_unsup {P:Program} {α:Type} (u:Unsupported):zaJ P (unsupported u:Sem α):=softly_halt (.unsupported u)
instance softly_choose {P:Program} (q:Question):zaJ P (choose q):=⟨fun w h w' e=>by simp only [choose,Sem.run] at e; split at e <;> simp at e⟩
instance softly_program {P:Program}:zaJ P program:=⟨fun w h w' e=>by simp [program,Sem.run] at e⟩
instance softly_shape {P:Program} (r:Nat):zaJ P (shape r):=⟨fun w h w' e=>by simp [shape,Sem.run] at e⟩
instance softly_frozen {P:Program} (a:Addr):zaJ P (frozen a):=⟨fun w h w' e=>by simp [frozen,Sem.run] at e⟩
instance softly_mark {P:Program} (m:Mark):zaJ P (mark m):=⟨fun w h w' e=>by simp [mark,Sem.run] at e⟩
instance softly_newObj {P:Program} (o:Obj):zaJ P (newObj o):=⟨fun w h w' e=>by simp [newObj,Sem.run] at e⟩
instance softly_getObj {P:Program} (r:Nat):zaJ P (getObj r):=⟨fun w h w' e=>by
 simp only [getObj,Sem.run] at e
 split at e
 ·simp at e; rw [<- e.1]; exact .stuck _
 ·simp at e
 ·simp at e; rw [<- e.1]; exact .stuck _⟩
instance softly_ite {P:Program} {α:Type} (c:Prop) [Decidable c] (a b:Sem α) [A:zaJ P a] [B:zaJ P b]:zaJ P (if c then a else b):=by split <;> assumption
instance softly_typeInfo {P:Program} (t:TypeId):zaJ P (typeInfo t):=by
 unfold typeInfo
 have:∀ p:Program,zaJ P (match p.info? t with | some i=>(pure i:Sem TypeInfo) | none=>stuck "no such type"):=fun p=>by split <;> infer_instance
 infer_instance
instance softly_underlying {P:Program} (t:TypeId):zaJ P (underlying t):=by
 unfold underlying
 have:∀ p:Program,zaJ P (match p.underlying t with | some i=>(pure i:Sem TypeDesc) | none=>stuck "no such type"):=fun p=>by split <;> infer_instance
 infer_instance
instance softly_newVar {P:Program} (t:TypeId) (v:Value):zaJ P (newVar t v):=by
 unfold newVar newRow
 infer_instance
instance softly_elemOf {P:Program} (t:TypeId):zaJ P (elemOf t):=by
 unfold elemOf
 have:∀ d:TypeDesc,zaJ P (match d with | .pointer e=>(pure e:Sem TypeId) | _=>stuck "pointer type expected"):=fun d=>by split <;> infer_instance
 infer_instance
theorem zav {α β:Type} {s:Sem α} [S:zaJ P s] {f:α->Sem β} (h:∀ a,zcB P (f a)):zcB P (s >>= f):=fun w=>by
 rw [Sem.run_bind]
 cases hs:s.run P w with
 | ok y v=>exact h y v
 | halt hh v=>exact ⟨hh,v,rfl,S.soft w hh v hs⟩
theorem zaq {α:Type} {hh:Halt} [S:zkx hh]:zcB P (Sem.halt hh:Sem α):=fun w=>⟨hh,w,rfl,S.soft⟩
theorem zap {α:Type} (e:RuntimeError):zcB P (runtimePanic e:Sem α):=by
 unfold runtimePanic
 refine zav fun p=>?_
 cases e with
 | bounds=>exact zaq
 | error=>exact zaq
 | plain=>exact zaq
 | nilDeref=>exact zaq
 | typeAssertion=>exact zav fun _=>zav fun _=>zaq
 | panicNil=>exact zav fun _=>zav fun _=>zaq
 | unhashable=>exact zaq
theorem zbk {α:Type} (k:IntKind) (x y:Int) (c:BoundsCode):zcB P (boundsPanic k x y c:Sem α):=by
 unfold boundsPanic
 split
 ·rw [<- bind_pure_comp]
  exact zav fun _=>zap _
 ·exact zav fun _=>zap _
def Plain (v:Value):Prop:=∀ R:BR,zao R v v
def zbo (P:Program):Prop:=∀ t i v,P.info? t=some i->i.zero=some v->Plain v
theorem zcX [Twin L M] {R:BR} (t:TypeId):zaj L M (fun _ i i'=>i=i'/\L.info? t=some i) R (typeInfo t) (typeInfo t):=by
 unfold typeInfo
 refine zad zaS ?_
 rintro R' _ p p' ⟨rfl,rfl⟩
 rw [Twin.info (L:=p) (M:=p') t]
 split
 ·next i hi=>exact zae ⟨rfl,hi⟩
 ·exact zaC
theorem zbm [Twin L M] (hz:zbo L) {R:BR} (t:TypeId):zaj L M QV R (zeroValue t) (zeroValue t):=by
 unfold zeroValue
 refine zad (zcX t) ?_
 rintro R' _ i _ ⟨rfl,hi⟩
 split
 ·next v hv=>exact zae (hz t i v hi hv R')
 ·exact zaj.halt
theorem zoT [Twin L M] (hz:zbo L) {R:BR} (e:TypeId):zaj L M QV R (Instr.alloc e true (.tuple #[])) (Instr.alloc e true (.tuple #[])):=by
 unfold Instr.alloc
 refine zad (zbm hz e) ?_
 intro R' _ v v' hv
 exact zad (ziu e hv) fun _ _ _ _ ha=>zae (.ptr ha)
theorem zeJ [Twin L M] {R:BR} (t:TypeId) (h:zao R v v'):zaj L M QV R (Instr.makeInterface t v) (Instr.makeInterface t v'):=by
 unfold Instr.makeInterface
 refine zad (zal t) ?_
 rintro R' hR d _ rfl
 split
 ·exact zaC
 ·exact zae (.iface t (h.mono hR))
theorem zoU {R:BR} (h:zao R v v'):zaj L M QR R (asAgg v) (asAgg v'):=by
 cases h with
 | agg h1 h2=>exact zae ⟨h1,h2⟩
 | _=>exact zaj.halt
theorem zaz.ext {R:BR} (h:zaz R c c') (i j:Nat):zaz R (c.extract i j) (c'.extract i j):=by
 refine ⟨by simp [h.1],fun k h1 h2=>?_⟩
 simp only [Array.getElem_extract]
 exact h.2 _ _ _
theorem zfI [Twin L M] {R:BR} (t:TypeId) (h:zaz R c c') (off:Nat):zaj L M QV R (part t c off) (part t c' off):=by
 unfold part
 refine zad (zko t) ?_
 rintro R' hR b _ rfl
 cases b with
 | true =>
  refine zad (zaI t) ?_
  rintro R2 hR2 n _ rfl
  have:=((h.mono hR).mono hR2).ext off (off + n)
  exact zae (.agg this.1 this.2)
 | false =>
  by_cases hi:off < c.size
  ·have hi':off < c'.size:=by rw [<- h.1]; exact hi
   simp only [Bool.false_eq_true,if_false,Array.getElem?_eq_getElem hi,Array.getElem?_eq_getElem hi']
   exact zae ((h.2 off hi hi').mono hR)
  ·simp only [Bool.false_eq_true,if_false,Array.getElem?_eq_none (Nat.le_of_not_lt hi)]
   exact zaC
theorem zoX [Twin L M] {R:BR} (t:TypeId) (h:zao R v v') (f:Nat):zaj L M QV R (Instr.field t v f) (Instr.field t v' f):=by
 unfold Instr.field
 refine zad (zal t) ?_
 rintro R' hR d _ rfl
 split
 ·split
  ·exact zad (zoU (h.mono hR)) fun _ _ _ _ hc=>zfI _ hc _
  ·exact zaC
 ·exact zaC
theorem zc8 {R:BR} (h:zao R v v'):zaj L M QEq R (asIntOf v) (asIntOf v'):=by
 cases h with
 | int k n=>exact zae rfl
 | _=>exact zaj.halt
theorem zdX {R:BR} (h:zao R v v'):zaj L M QEq R (asInt v) (asInt v'):=by
 unfold asInt
 refine zad (zc8 h) ?_
 rintro R' _ p _ rfl
 exact zae rfl
theorem znd {R:BR} (h:zao R v v'):zaj L M QEq R (asBool v) (asBool v'):=by
 cases h with
 | bool b=>exact zae rfl
 | _=>exact zaj.halt
theorem zoY [Twin L M] {R:BR} (t:TypeId) {i i':Value} (h:zao R v v') (hi:zao R i i'):zaj L M QV R (Instr.index t v i) (Instr.index t v' i'):=by
 unfold Instr.index
 refine zad (zc8 hi) ?_
 rintro R' hR ⟨k,n⟩ _ rfl
 refine zad (zal t) ?_
 rintro R2 hR2 d _ rfl
 replace h:=(h.mono hR).mono hR2
 cases h with
 | agg h1 h2 =>
  split
  ·split
   ·refine zad (zaI _) ?_
    rintro R3 hR3 m _ rfl
    rename_i e1 e2 _
    cases e2
    exact zfI _ (zaz.mono hR3 ⟨h1,h2⟩) _
   ·exact zaj.never (zbk _ _ _ _)
  ·next e2=>cases e2
  ·exact zaC
 | string s =>
  split
  ·next e2=>cases e2
  ·next e2=>cases e2; split
            · exact zae (.int _ _)
            · exact zaj.never (zbk _ _ _ _)
  ·exact zaC
 | _=>split <;> first | (next e2=>cases e2) | exact zaC
end
section
open Go
variable {L M:Program}
theorem zd0 {R:BR} (h:R r r'):zaj L M QEq R (shape r) (shape r'):=.shape h fun _=>.pure rfl
theorem zft {α:Type} {c:Prop} [Decidable c] {a b:Sem α} (ha:zcB P a) (hb:zcB P b):zcB P (if c then a else b):=by
 split
 ·exact ha
 ·exact hb
theorem zaT [Twin L M] {R:BR} (t:TypeId):zaj L M (fun _ d d'=>d=d'/\L.underlying t=some d) R (underlying t) (underlying t):=by
 unfold underlying
 refine zad zaS ?_
 rintro R' _ p p' ⟨rfl,rfl⟩
 rw [Twin.und (L:=p) (M:=p') t]
 split
 ·next d hd=>exact zae ⟨rfl,hd⟩
 ·exact zaC
theorem zlr [Twin L M] {R:BR} (s:TypeId) (h:zao R v v') (f:Nat) (hp:∀ fs fd,L.underlying s=some (.struct fs)->fs[f]?=some fd->∀ i,L.info? fd.type=some i->i.size ≠ 0):zaj L M QV R (Instr.fieldAt s v f) (Instr.fieldAt s v' f):=by
 unfold Instr.fieldAt
 refine zad (zaT s) ?_
 rintro R' hR d _ ⟨rfl,hd⟩
 split
 ·next fs =>
  split
  ·next fd hfd =>
   refine zad (zb0 (h.mono hR)) ?_
   intro R2 hR2 a a' ha
   refine zad (Q:=QA) ?_ (fun _ _ _ _ hx=>zae (.ptr hx))
   unfold fieldPlace
   have hsz:zaj L M (fun _ n n'=>n=n'/\n ≠ 0) R2 (Go.sizeOf fd.type) (Go.sizeOf fd.type):=by
    unfold Go.sizeOf
    refine zad (zcX fd.type) ?_
    rintro R3 _ i _ ⟨rfl,hi⟩
    exact zae ⟨rfl,hp fs fd hd hfd i hi⟩
   refine zad hsz ?_
   rintro R3 hR3 n _ ⟨rfl,hn⟩
   rw [if_neg hn,if_neg hn]
   exact zae ((ha.mono hR3).add _)
  ·exact zaC
 ·exact zaC
theorem zls [Twin L M] {R:BR} (t:TypeId) {i i':Value} (h:zao R x x') (hi:zao R i i'):zaj L M QV R (Instr.indexAt t x i) (Instr.indexAt t x' i'):=by
 unfold Instr.indexAt
 refine zad (zc8 hi) ?_
 rintro R' hR ⟨k,n⟩ _ rfl
 refine zad (zal t) ?_
 rintro R2 hR2 d _ rfl
 replace h:=(h.mono hR).mono hR2
 cases d with
 | array len elem =>
  refine zad (zb0 h) ?_
  intro R3 hR3 a a' ha
  show zaj L M QV R3 (underlying t >>= _) (underlying t >>= _)
  refine zad (zal t) ?_
  rintro R4 hR4 d2 _ rfl
  by_cases hin:0<=n/\n < ((len:Nat):Int)
  ·simp only [if_pos hin]
   refine zad (zaI _) ?_
   rintro R5 hR5 m _ rfl
   exact zae (.ptr ((((ha)).mono hR4).mono hR5 |>.add _))
  ·simp only [if_neg hin]
   exact zaj.never (zft zaq (zbk _ _ _ _))
 | slice elem =>
  cases h with
  | slice n2 m ha =>
   show zaj L M QV R2 (underlying t >>= _) (underlying t >>= _)
   refine zad (zal t) ?_
   rintro R4 hR4 d2 _ rfl
   by_cases hin:0<=n/\n < ((n2:Nat):Int)
   ·simp only [if_pos hin]
    refine zad (zaI _) ?_
    rintro R5 hR5 m _ rfl
    exact zae (.ptr ((((ha)).mono hR4).mono hR5 |>.add _))
   ·simp only [if_neg hin]
    exact zaj.never (zft zaq (zbk _ _ _ _))
  | nilSlice n2 m =>
   show zaj L M QV R2 (underlying t >>= _) (underlying t >>= _)
   refine zad (zal t) ?_
   rintro R4 hR4 d2 _ rfl
   exact zaj.never (zbk _ _ _ _)
  | _=>exact zaj.halt
 | _=>cases h <;> exact zaj.halt
theorem za4 {R:BR} (h:zao R x x') (y:Nat) (c:BoundsCode):zaj L M QEq R (Instr.sliceBound x y c) (Instr.sliceBound x' y c):=by
 unfold Instr.sliceBound
 refine zad (zc8 h) ?_
 rintro R' _ ⟨k,n⟩ _ rfl
 simp only
 split
 ·exact zae rfl
 ·exact zaj.never (zbk _ _ _ _)
theorem zgy {R:BR} (n:Nat):zaj L M QEq R (askRoom n) (askRoom n):=by
 unfold askRoom
 split
 ·exact .mark (.pure rfl)
 ·exact zae rfl
theorem zaz.plainMap {R:BR} (h:zaz R c c') (hd:Plain default) (n:Nat):zaz R ((Array.range n).map (c[· % c.size]!)) ((Array.range n).map (c'[· % c'.size]!)):=by
 refine ⟨by simp,fun i h1 h2=>?_⟩
 simp only [Array.getElem_map,Array.getElem_range]
 rw [<- h.1]
 by_cases hs:i % c.size < c.size
 ·have hs':i % c.size < c'.size:=by rw [<- h.1]; exact hs
  rw [getElem!_pos c _ hs,getElem!_pos c' _ hs']
  exact h.2 _ hs hs'
 ·rw [getElem!_neg c _ hs,getElem!_neg c' _ (by rw [<- h.1]; exact hs)]
  exact hd R
theorem zcu:Plain (default:Value):=fun _=>zao.bool _
theorem zao.slice' {R:BR} {a a':Option Addr} (n m:Nat) (h:(a=none/\a'=none)\/∃ x x',a=some x/\a'=some x'/\zbG R x x'):zao R (.slice a n m) (.slice a' n m):=by
 rcases h with ⟨rfl,rfl⟩ | ⟨x,x',rfl,rfl,h⟩
 ·exact .nilSlice n m
 ·exact .slice n m h
def zcF (R:BR) (o o':Option Value):Prop:=(o=none/\o'=none)\/∃ v v',o=some v/\o'=some v'/\zao R v v'
theorem zcF.mono {R R':BR} (hR:R.le R') {o o':Option Value} (h:zcF R o o'):zcF R' o o':=by
 rcases h with h | ⟨v,v',a,b,c⟩
 ·exact Or.inl h
 ·exact Or.inr ⟨v,v',a,b,c.mono hR⟩
theorem zcW {R:BR} (s:Bool) (len cap:Nat) (h1:zcF R lo lo') (h2:zcF R hi hi'):zaj L M QEq R (Instr.sliceBounds s len cap lo hi none) (Instr.sliceBounds s len cap lo' hi' none):=by
 unfold Instr.sliceBounds
 rcases h2 with ⟨rfl,rfl⟩ | ⟨v,v',rfl,rfl,hv⟩
 ·rcases h1 with ⟨rfl,rfl⟩ | ⟨u,u',rfl,rfl,hu⟩
  ·exact zae rfl
  ·show zaj L M QEq R (Instr.sliceBound _ _ _ >>= _) (Instr.sliceBound _ _ _ >>= _)
   refine zad (za4 hu _ _) ?_
   rintro R' _ l _ rfl
   exact zae rfl
 ·show zaj L M QEq R (Instr.sliceBound _ _ _ >>= _) (Instr.sliceBound _ _ _ >>= _)
  refine zad (za4 hv _ _) ?_
  rintro R' hR b _ rfl
  rcases h1 with ⟨rfl,rfl⟩ | ⟨u,u',rfl,rfl,hu⟩
  ·exact zae rfl
  ·refine zad (za4 (hu.mono hR) _ _) ?_
   rintro R2 _ l _ rfl
   exact zae rfl
theorem zpF [Twin L M] (hz:zbo L) {α:Type} {Q:BR->α->α->Prop} {R:BR} (e:TypeId) (n:Nat) {k k':Array Value->Sem α} (hk:∀ R':BR,R.le R'->∀ z z',zaz R' z z'->zaj L M Q R' (k z) (k' z')) :
  zaj L M Q R (if n=0 then (pure #[] >>= k) else (zeroValue e >>= fun v=>pure v.cells >>= k)) (if n=0 then (pure #[] >>= k') else (zeroValue e >>= fun v=>pure v.cells >>= k')):=by
 split
 ·exact hk R (BR.le_refl _) _ _ zaz.nil
 ·exact zad (zbm hz e) fun R' hR v v' hv=>hk R' hR _ _ hv.cells
theorem zis [Twin L M] (hz:zbo L) {R:BR} (t:TypeId) {l l' c c':Value} (hl:zao R l l') (hc:zao R c c'):zaj L M QV R (Instr.makeSlice t l c) (Instr.makeSlice t l' c'):=by
 unfold Instr.makeSlice
 refine zad (zal t) ?_
 rintro R1 hR1 d _ rfl
 split
 ·next elem =>
  refine zad (zdX (hl.mono hR1)) ?_
  rintro R2 hR2 len _ rfl
  refine zad (zdX ((hc.mono hR1).mono hR2)) ?_
  rintro R3 hR3 cap _ rfl
  refine zad (zbj elem) ?_
  rintro R4 hR4 i _ rfl
  dsimp only
  split
  ·refine zaj.never ?_
   split
   ·exact zau (zap _)
   ·split
    ·exact zau (zap _)
    ·first
     | exact zau (zav fun _=>zap _)
     | exact zav fun _=>zau (zap _)
     | exact zav fun _=>zap _
  ·refine zad (zgy _) ?_
   rintro R5 hR5 _ _ _
   refine zad (zaI elem) ?_
   rintro R6 hR6 n _ rfl
   refine zpF hz elem _ ?_
   intro R7 hR7 z z' hzz
   refine zad (zdY elem (hzz.plainMap zcu _)) ?_
   intro R8 hR8 a a' ha
   exact zae (.slice _ _ ha)
 ·exact zaC
inductive znE (R:BR):List (Nat × Value)->List (Nat × Value)->Prop
 | nil:znE R [] []
 | cons (i:Nat) {v v':Value} {r r':List (Nat × Value)}:zao R v v'->znE R r r'->znE R ((i,v) :: r) ((i,v') :: r')
theorem znE.mono {R R':BR} (hR:R.le R') (h:znE R l l'):znE R' l l':=by
 induction h with
 | nil=>exact .nil
 | cons i hv _ ih=>exact .cons i (hv.mono hR) ih
theorem zm1 {R:BR} (off:Nat):∀ (l l':List Value),zf2 R l l'->∀ (j:Nat) {cs cs':Array Value},zaz R cs cs' ->
  zaz R ((l.zipIdx j).foldl (fun cs (p:Value × Nat)=>cs.setIfInBounds (off + p.2) p.1) cs) ((l'.zipIdx j).foldl (fun cs (p:Value × Nat)=>cs.setIfInBounds (off + p.2) p.1) cs'):=by
 intro l l' h
 induction h with
 | nil=>exact fun j cs cs' hr=>hr
 | cons hv _ ih =>
  intro j cs cs' hr
  simp only [List.zipIdx_cons,List.foldl_cons]
  exact ih (j + 1) (hr.set _ hv)
theorem zk9 {R:BR} (off:Nat) (h:zaz R c c') {cs cs':Array Value} (hr:zaz R cs cs') :
  zaz R (c.zipIdx.foldl (fun cs (p:Value × Nat)=>cs.setIfInBounds (off + p.2) p.1) cs) (c'.zipIdx.foldl (fun cs (p:Value × Nat)=>cs.setIfInBounds (off + p.2) p.1) cs'):=by
 have:=zm1 off _ _ h.all 0 hr
 rw [<- Array.foldl_toList,<- Array.foldl_toList,Array.toList_zipIdx,Array.toList_zipIdx]
 exact this
theorem zgU {R:BR} (pl:Nat->Option (Nat × Nat)):∀ {ps ps':List (Nat × Value)},znE R ps ps'->∀ {cs cs':Array Value},zaz R cs cs' ->
  (Instr.fill pl cs ps=none)\/∃ d d',Instr.fill pl cs ps=some d/\Instr.fill pl cs' ps'=some d'/\zaz R d d':=by
 intro ps ps' h
 induction h with
 | nil=>exact fun hr=>Or.inr ⟨_,_,rfl,rfl,hr⟩
 | cons i hv _ ih =>
  intro cs cs' hr
  have hvc:=hv.cells
  unfold Instr.fill
  cases hp:pl i with
  | none=>exact Or.inl rfl
  | some q =>
   obtain ⟨off,size⟩:=q
   simp only
   rw [<- hvc.1,<- hr.1]
   split
   ·exact Or.inl rfl
   ·exact ih (zk9 off hvc hr)
theorem zhk [Twin L M] (hz:zbo L) {R:BR} (t:TypeId) (len:Nat) (h:znE R ps.toList ps'.toList):zaj L M QV R (Instr.buildSlice t len ps) (Instr.buildSlice t len ps'):=by
 unfold Instr.buildSlice
 refine zad (zal t) ?_
 rintro R1 hR1 d _ rfl
 split
 ·next elem =>
  refine zad (zaI elem) ?_
  rintro R2 hR2 size _ rfl
  dsimp only
  split
  ·exact zaj.never (zau zaq)
  ·refine zpF hz elem _ ?_
   intro R3 hR3 z z' hzz
   have hf:=zgU (fun i=>some (i * size,size)) (((h.mono hR1).mono hR2).mono hR3) (hzz.plainMap zcu (len * size))
   rcases hf with hf | ⟨d,d',e1,e2,hd⟩
   ·rw [hf]; exact zaC
   ·rw [e1,e2]
    exact zad (zdY elem hd) fun _ _ _ _ ha=>zae (.slice _ _ ha)
 ·exact zaC
theorem zfC {R:BR} (op:BinOp) (k:IntKind) (x y:Int):zaj L M QV R (Op.intArith op k x y) (Op.intArith op k x y):=by
 unfold Op.intArith
 split <;> first | exact zae (.int _ _) | exact zaC
theorem znj {R:BR} (op:BinOp) (k:IntKind) (x y:Int):zaj L M QV R (Op.intDiv op k x y) (Op.intDiv op k x y):=by
 unfold Op.intDiv
 split
 ·exact zaj.never (zap _)
 ·split <;> first | exact zae (.int _ _) | exact zaC
theorem zgB {R:BR} (op:BinOp) (k:IntKind) (x y:Int):zaj L M QV R (Op.intBits op k x y) (Op.intBits op k x y):=by
 unfold Op.intBits
 dsimp only
 split <;> first | exact zae (.int _ _) | exact zaC
theorem zni {R:BR} (op:BinOp) (x y:Int):zaj L M QV R (Op.intCmp op x y) (Op.intCmp op x y):=by
 unfold Op.intCmp
 split <;> first | exact zae (.bool _) | exact zaC
theorem zo1 {R:BR} (op:UnOp) (h:zao R v v'):zaj L M QV R (Op.unary op v) (Op.unary op v'):=by
 cases h with
 | int k n=>cases op <;> (simp only [Op.unary]; first | exact zfC _ _ _ _ | exact zgB _ _ _ _ | exact zaC)
 | bool b=>cases op <;> first | exact zae (.bool _) | exact zaj.halt
 | _=>cases op <;> exact zaj.halt
theorem zne {R:BR} (op:BinOp) (t:TypeId) (k:IntKind) (x y:Int) (hs:op ≠ .shl/\op ≠ .shr):zaj L M QV R (binOp op t (.int k x) (.int k y)) (binOp op t (.int k x) (.int k y)):=by
 obtain ⟨h1,h2⟩:=hs
 cases op <;> first
  | exact absurd rfl h1
  | exact absurd rfl h2
  | (simp only [binOp,ne_eq,not_true,if_false]; first | exact zfC _ _ _ _ | exact znj _ _ _ _ | exact zgB _ _ _ _ | exact zni _ _ _)
theorem zaU {α:Type} {Q:BR->α->α->Prop} {R:BR} {c:Prop} [Decidable c] {a a' b b':Sem α} (h1:c->zaj L M Q R a a') (h2:¬ c->zaj L M Q R b b'):zaj L M Q R (if c then a else b) (if c then a' else b'):=by
 split
 ·exact h1 (by assumption)
 ·exact h2 (by assumption)
theorem zbC {R:BR} (s:Bool) (len cap:Nat) (h1:zcF R lo lo') (h2:zcF R hi hi') (h3:zcF R mx mx'):zaj L M QEq R (Instr.sliceBounds s len cap lo hi mx) (Instr.sliceBounds s len cap lo' hi' mx'):=by
 rcases h3 with ⟨rfl,rfl⟩ | ⟨v,v',rfl,rfl,hv⟩
 ·exact zcW s len cap h1 h2
 ·unfold Instr.sliceBounds
  show zaj L M QEq R (Instr.sliceBound _ _ _ >>= _) (Instr.sliceBound _ _ _ >>= _)
  refine zad (za4 hv _ _) ?_
  rintro R1 hR1 m _ rfl
  replace h2:=h2.mono hR1
  rcases h2 with ⟨rfl,rfl⟩ | ⟨u,u',rfl,rfl,hu⟩
  ·exact zaj.halt
  ·show zaj L M QEq R1 (Instr.sliceBound _ _ _ >>= _) (Instr.sliceBound _ _ _ >>= _)
   refine zad (za4 hu _ _) ?_
   rintro R2 hR2 h _ rfl
   replace h1:=(h1.mono hR1).mono hR2
   rcases h1 with ⟨rfl,rfl⟩ | ⟨x,x',rfl,rfl,hx⟩
   ·exact zae rfl
   ·refine zad (za4 hx _ _) ?_
    rintro R3 _ l _ rfl
    exact zae rfl
theorem zfA {R:BR} (h:zao R v v'):zaj L M QA R (asAddr v) (asAddr v'):=by
 cases h with
 | ptr h=>exact zae h
 | nilPtr=>exact zaj.never (zap (α:=Addr) .nilDeref)
 | _=>exact zaj.halt
theorem zbG.cut {R:BR} (h:zbG R a a') (c:Prop) [Decidable c] (n:Nat):zbG R (if c then a else a.add n) (if c then a' else a'.add n):=by
 split
 ·exact h
 ·exact h.add n
theorem zoZ [Twin L M] {R:BR} (t:TypeId) (h:zao R x x') (h1:zcF R lo lo') (h2:zcF R hi hi') (h3:zcF R mx mx'):zaj L M QV R (Instr.slice t x lo hi mx) (Instr.slice t x' lo' hi' mx'):=by
 unfold Instr.slice
 refine zad (zal t) ?_
 rintro R1 hR1 d _ rfl
 replace h:=h.mono hR1
 replace h1:=h1.mono hR1
 replace h2:=h2.mono hR1
 replace h3:=h3.mono hR1
 cases d with
 | string =>
  cases h with
  | string s =>
   have e3:mx.isSome=mx'.isSome:=by rcases h3 with ⟨rfl,rfl⟩ | ⟨_,_,rfl,rfl,_⟩ <;> rfl
   dsimp only
   rw [e3]
   refine zaU (fun _=>zaj.halt) (fun _=>?_)
   refine zad (zcW false _ _ h1 h2) ?_
   rintro R2 _ ⟨l,hh,m⟩ _ rfl
   exact zae (.string _)
  | _=>exact zaj.halt
 | slice e =>
  cases h with
  | slice n m ha =>
   refine zad (zbC true n m h1 h2 h3) ?_
   rintro R2 hR2 ⟨l,hh,mm⟩ _ rfl
   refine zad (zaI e) ?_
   rintro R3 hR3 k _ rfl
   refine zae (zao.slice' _ _ ?_)
   by_cases q:mm=l
   ·simp only [if_pos q]
    exact Or.inr ⟨_,_,rfl,rfl,(ha.mono hR2).mono hR3⟩
   ·simp only [if_neg q]
    exact Or.inr ⟨_,_,rfl,rfl,((ha.mono hR2).mono hR3).add _⟩
  | nilSlice n m =>
   refine zad (zbC true n m h1 h2 h3) ?_
   rintro R2 hR2 ⟨l,hh,mm⟩ _ rfl
   refine zad (zaI e) ?_
   rintro R3 hR3 k _ rfl
   refine zae (zao.slice' _ _ ?_)
   by_cases q:mm=l
   ·exact Or.inl ⟨by simp,by simp⟩
   ·exact Or.inl ⟨by simp,by simp⟩
  | _=>exact zaj.halt
 | pointer arr =>
  have hh:zaj L M QV R1 (asAddr x >>= fun a=>underlying arr >>= fun d=>match d with
    | .array n elem=>Instr.sliceBounds false n n lo hi mx >>= fun p=>sizeOf elem >>= fun size=>pure (.slice (some (if p.2.2=p.1 then a else a.add (p.1 * size))) (p.2.1 - p.1) (p.2.2 - p.1))
    | _=>stuck "Slice: array type expected") (asAddr x' >>= fun a=>underlying arr >>= fun d=>match d with
    | .array n elem=>Instr.sliceBounds false n n lo' hi' mx' >>= fun p=>sizeOf elem >>= fun size=>pure (.slice (some (if p.2.2=p.1 then a else a.add (p.1 * size))) (p.2.1 - p.1) (p.2.2 - p.1))
    | _=>stuck "Slice: array type expected"):=by
   refine zad (zfA h) ?_
   intro R2 hR2 a a' ha
   refine zad (zal arr) ?_
   rintro R3 hR3 d _ rfl
   split
   ·refine zad (zbC false _ _ ((h1.mono hR2).mono hR3) ((h2.mono hR2).mono hR3) ((h3.mono hR2).mono hR3)) ?_
    rintro R4 hR4 ⟨l,hh,m⟩ _ rfl
    refine zad (zaI _) ?_
    rintro R5 hR5 k _ rfl
    exact zae (.slice _ _ ((((ha.mono hR3).mono hR4).mono hR5).cut _ _))
   ·exact zaj.halt
  cases h <;> exact hh
 | _=>cases h <;> exact zaj.halt
theorem zlv [Twin L M] {R:BR} (t:TypeId) (h:zao R x x') (h1:zcF R lo lo') (h2:zcF R hi hi') (h3:zcF R mx mx'):zaj L M QV R (Instr.sliceAt t x lo hi mx) (Instr.sliceAt t x' lo' hi' mx'):=by
 unfold Instr.sliceAt
 refine zad (zal t) ?_
 rintro R1 hR1 d _ rfl
 cases d with
 | array n elem =>
  refine zad (zb0 (h.mono hR1)) ?_
  intro R2 hR2 a a' ha
  refine zad (zbC false n n ((h1.mono hR1).mono hR2) ((h2.mono hR1).mono hR2) ((h3.mono hR1).mono hR2)) ?_
  rintro R3 hR3 ⟨l,hh,m⟩ _ rfl
  refine zad (zaI elem) ?_
  rintro R4 hR4 k _ rfl
  exact zae (.slice _ _ (((ha.mono hR3).mono hR4).cut _ _))
 | _=>exact zoZ t (h.mono hR1) (h1.mono hR1) (h2.mono hR1) (h3.mono hR1)
theorem zhn {R:BR} (h:zao R v v'):zaj L M QEq R (Builtin.lenOf v) (Builtin.lenOf v'):=by
 cases h with
 | slice n m _=>exact zae rfl
 | nilSlice n m=>exact zae rfl
 | string s=>exact zae rfl
 | _=>exact zaj.halt
theorem zaz.plain {R:BR} (h:∀ i (h:i < c.size),zao R c[i] c[i]):zaz R c c:=⟨rfl,fun i h1 _=>h i h1⟩
theorem zbs {R:BR} (size n:Nat) (h:zao R v v'):zaj L M QR R (Builtin.firstCells size n v) (Builtin.firstCells size n v'):=by
 cases h with
 | slice _ _ ha=>exact zey ha _
 | nilSlice _ _=>exact zae zaz.nil
 | string s=>exact zae (zaz.plain fun i hi=>by simp only [Array.getElem_map]; exact .int _ _)
 | _=>exact zaj.halt
theorem zaz.app {R:BR} {d d':Array Value} (h:zaz R c c') (h2:zaz R d d'):zaz R (c ++ d) (c' ++ d'):=by
 refine ⟨by simp [h.1,h2.1],fun i h3 h4=>?_⟩
 by_cases q:i < c.size
 ·rw [Array.getElem_append_left q,Array.getElem_append_left (by rw [<- h.1]; exact q)]
  exact h.2 i q _
 ·have q':c'.size<=i:=by have:=h.1; omega
  rw [Array.getElem_append_right (by omega),Array.getElem_append_right q']
  have e:i - c'.size=i - c.size:=by rw [h.1]
  have h5:i - c.size < d.size:=by simp at h3; omega
  have:=h2.2 (i - c.size) h5 (by rw [<- h2.1]; exact h5)
  simpa only [e] using this
theorem zaz.zeros {R:BR} {z z':Array Value} (h:zaz R z z') (n:Nat):zaz R (Builtin.zeroCells z n) (Builtin.zeroCells z' n):=by
 unfold Builtin.zeroCells
 rw [<- h.1]
 have:=h.plainMap zcu (n * z.size)
 rw [<- h.1] at this
 exact this
theorem zaz.get? {R:BR} (h:zaz R c c') (i:Nat):zcF R c[i]? c'[i]?:=by
 by_cases q:i < c.size
 ·have q':i < c'.size:=by rw [<- h.1]; exact q
  exact Or.inr ⟨_,_,Array.getElem?_eq_getElem q,Array.getElem?_eq_getElem q',h.2 i q q'⟩
 ·exact Or.inl ⟨Array.getElem?_eq_none (by omega),Array.getElem?_eq_none (by have:=h.1; omega)⟩
def zpm (L:Program) (ts:Array TypeId):Prop:=∃ t d,ts[1]?=some t/\L.underlying t=some d/\∀ k,d ≠ .int k
theorem zq6 {R:BR} [Twin L M] {d:TypeDesc} (h:L.underlying t=some d):zaj L M (fun _ a b=>a=d/\b=d) R (underlying t) (underlying t):=by
 unfold underlying
 refine zad zaS ?_
 rintro R' _ p p' ⟨rfl,rfl⟩
 rw [Twin.und (L:=p) (M:=p') t,h]
 exact zae ⟨rfl,rfl⟩
instance softly_holds {P:Program} (a:Addr) (n:Nat):zaJ P (Builtin.holdsCells a n):=by
 unfold Builtin.holdsCells
 have:∀ o:Option (TypeId × Nat),zaJ P (match o with | some (_,k)=>(pure (a.spot.isNone && a.off + n<=k):Sem Bool) | none=>pure false):=fun o=>by split <;> infer_instance
 infer_instance
instance softly_mayShare {P:Program} (size sLen n:Nat) (base:Option Addr) (x:Value):zaJ P (Builtin.mayShare size sLen n base x):=by
 have tail:∀ (base:Option Addr) (t:Bool),zaJ P (if (!t)=true then (pure true:Sem Bool) else (match x with | .slice (some b) _ _=>(do pure (!(<- Builtin.holdsCells b (n * size)) || base.any (·.block == b.block)):Sem Bool) | _=>pure false)):=by
  intro base t
  split
  ·infer_instance
  ·split <;> infer_instance
 unfold Builtin.mayShare
 cases base with
 | none=>exact tail none true
 | some a=>exact softly_bind _ _ (F:=fun c=>softly_bind _ _ (F:=fun d=>tail (some a) _))
theorem znc [Twin L M] (hz:zbo L) {R:BR} (ts:Array TypeId) (ty:TypeId) (h:zaz R as as') (hm:zpm L ts):zaj L M QV R (Builtin.append_ ts ty as) (Builtin.append_ ts ty as'):=by
 obtain ⟨t1,d1,hm1,hm2,hm3⟩:=hm
 unfold Builtin.append_
 rw [hm1]
 cases ts[0]? with
 | none=>exact zaj.halt
 | some t0 =>
 rcases h.get? 0 with ⟨e1,e2⟩ | ⟨s,s',e1,e2,hs⟩
 ·rw [e1,e2]; exact zaj.halt
 rcases h.get? 1 with ⟨e3,e4⟩ | ⟨x,x',e3,e4,hx⟩
 ·rw [e1,e2,e3,e4]; exact zaj.halt
 rw [e1,e2,e3,e4]
 dsimp only
 refine zad (zal t0) ?_
 rintro R1 hR1 d _ rfl
 replace hs:=hs.mono hR1
 replace hx:=hx.mono hR1
 cases d with
 | slice elem =>
  have hbase:∃ base base' n m,s=.slice base n m/\s'=.slice base' n m/\((base=none/\base'=none)\/∃ x x',base=some x/\base'=some x'/\zbG R1 x x')\/∀ b n m,s ≠ .slice b n m:=by
   cases hs with
   | slice n m ha=>exact ⟨_,_,n,m,Or.inl ⟨rfl,rfl,Or.inr ⟨_,_,rfl,rfl,ha⟩⟩⟩
   | nilSlice n m=>exact ⟨none,none,n,m,Or.inl ⟨rfl,rfl,Or.inl ⟨rfl,rfl⟩⟩⟩
   | _=>exact ⟨none,none,0,0,Or.inr (fun _ _ _ q=>by cases q)⟩
  obtain ⟨base,base',sLen,sCap,hb | hb⟩:=hbase
  ·obtain ⟨rfl,rfl,hb⟩:=hb
   dsimp only
   refine zad (zaI elem) ?_
   rintro R2 hR2 size _ rfl
   refine zad (zq6 hm2) ?_
   rintro R3 hR3 _ _ ⟨rfl,rfl⟩
   rename_i dd
   refine zad (Q:=fun _ a b=>a=false/\b=false) (zae ⟨?_,?_⟩) ?_
   ·revert hm3
    clear hm2
    intro hm3
    cases dd <;> first | rfl | exact absurd rfl (hm3 _)
   ·revert hm3
    clear hm2
    intro hm3
    cases dd <;> first | rfl | exact absurd rfl (hm3 _)
   rintro R3' hR3' _ _ ⟨rfl,rfl⟩
   replace hR3:=BR.le_trans hR3 hR3'
   show zaj L M QV R3' (Builtin.lenOf x >>= _) (Builtin.lenOf x' >>= _)
   refine zad (zhn ((hx.mono hR2).mono hR3)) ?_
   rintro R4 hR4 n _ rfl
   have hx4:=((hx.mono hR2).mono hR3).mono hR4
   have hs4:=((hs.mono hR2).mono hR3).mono hR4
   have hb4:(base=none/\base'=none)\/∃ x x',base=some x/\base'=some x'/\zbG R4 x x':=by
    rcases hb with hb | ⟨a,a',q1,q2,q3⟩
    ·exact Or.inl hb
    ·exact Or.inr ⟨a,a',q1,q2,((q3.mono hR2).mono hR3).mono hR4⟩
   refine zaU (fun _=>?_) (fun _=>?_)
   ·refine zad (zbs size n hx4) ?_
    intro R5 hR5 c c' hc
    rcases hb4 with ⟨rfl,rfl⟩ | ⟨a,a',rfl,rfl,ha⟩
    ·exact zae (.nilSlice _ _)
    ·refine zad (zcw ((ha.mono hR5).add _) (zaz.all hc) 0) ?_
     intro R6 hR6 _ _ _
     exact zae (.slice _ _ ((ha.mono hR5).mono hR6))
   ·have tail:∀ R5:BR,R4.le R5->zaj L M QV R5
      (choose (Question.appendCap (sLen + n) sCap elem) >>= fun newCap=>typeInfo elem >>= fun i=>askRoom (newCap * i.bytes) >>= fun _=>Builtin.firstCells size sLen (Value.slice base sLen sCap) >>= fun old =>
       Builtin.firstCells size n x >>= fun new=>zeroValue elem >>= fun z=>newRow elem (old ++ new ++ Builtin.zeroCells z.cells (newCap - (sLen + n))) >>= fun a=>pure (Value.slice (some a) (sLen + n) newCap))
      (choose (Question.appendCap (sLen + n) sCap elem) >>= fun newCap=>typeInfo elem >>= fun i=>askRoom (newCap * i.bytes) >>= fun _=>Builtin.firstCells size sLen (Value.slice base' sLen sCap) >>= fun old =>
       Builtin.firstCells size n x' >>= fun new=>zeroValue elem >>= fun z=>newRow elem (old ++ new ++ Builtin.zeroCells z.cells (newCap - (sLen + n))) >>= fun a=>pure (Value.slice (some a) (sLen + n) newCap)):=by
     intro R5 hR5
     refine zad (Q:=QEq) (.choose fun n=>.pure rfl) ?_
     rintro R6 hR6 newCap _ rfl
     refine zad (zbj elem) ?_
     rintro R7 hR7 i _ rfl
     refine zad (zgy _) ?_
     rintro R8 hR8 _ _ _
     have up:R4.le R8:=BR.le_trans hR5 (BR.le_trans hR6 (BR.le_trans hR7 hR8))
     refine zad (zbs size sLen (hs4.mono up)) ?_
     intro R9 hR9 c c' hc
     refine zad (zbs size n ((hx4.mono up).mono hR9)) ?_
     intro R10 hR10 e e' he
     refine zad (zbm hz elem) ?_
     intro R11 hR11 z z' hzz
     refine zad (zdY elem ((((hc.mono hR10).mono hR11).app (he.mono hR11)).app (hzz.cells.zeros _))) ?_
     intro R12 hR12 a a' ha
     exact zae (.slice _ _ ha)
    refine zad (zbj elem) ?_
    rintro R5 hR5 i _ rfl
    refine zaU (fun _=>zaj.never (zau (zap _))) (fun _=>?_)
    refine zad (zbj elem) ?_
    rintro R6 hR6 i _ rfl
    refine zaU (fun _=>zaj.never (zau (zav fun b=>?_))) (fun _=>tail R6 (BR.le_trans hR5 hR6))
    split
    ·exact zav fun _=>zaq
    ·exact zaq
  ·cases s <;> first | exact absurd rfl (hb _ _ _) | exact zaj.halt
 | _=>exact zaj.halt
theorem zqh [Twin L M] {R:BR} (ts:Array TypeId) (ty:TypeId) (h:zaz R as as'):zaj L M QV R (Builtin.copy_ ts ty as) (Builtin.copy_ ts ty as'):=by
 unfold Builtin.copy_
 cases ts[0]? with
 | none=>exact zaj.halt
 | some t0 =>
 rcases h.get? 0 with ⟨e1,e2⟩ | ⟨s,s',e1,e2,hs⟩
 ·rw [e1,e2]; exact zaj.halt
 rcases h.get? 1 with ⟨e3,e4⟩ | ⟨x,x',e3,e4,hx⟩
 ·rw [e1,e2,e3,e4]; exact zaj.halt
 rw [e1,e2,e3,e4]
 dsimp only
 refine zad (zal t0) ?_
 rintro R1 hR1 d _ rfl
 replace hs:=hs.mono hR1
 replace hx:=hx.mono hR1
 cases d with
 | slice elem =>
  cases hs with
  | slice n m ha =>
   refine zad (zhn hx) ?_
   rintro R2 hR2 k _ rfl
   refine zad (zaI elem) ?_
   rintro R3 hR3 size _ rfl
   refine zad (zbs size _ ((hx.mono hR2).mono hR3)) ?_
   intro R4 hR4 c c' hc
   refine zad (zcw (((ha.mono hR2).mono hR3).mono hR4) (zaz.all hc) 0) ?_
   intro R5 hR5 _ _ _
   exact zae (.int _ _)
  | nilSlice n m =>
   refine zad (zhn hx) ?_
   rintro R2 hR2 k _ rfl
   refine zad (zaI elem) ?_
   rintro R3 hR3 size _ rfl
   refine zad (zbs size _ ((hx.mono hR2).mono hR3)) ?_
   intro R4 hR4 c c' hc
   exact zae (.int _ _)
  | _=>exact zaj.halt
 | _=>exact zaj.halt
theorem zcV {R:BR} (h:R r r'):zaj L M (fun R o o'=>zpl R o o') R (getObj r) (getObj r') :=
 .getObj h fun _ _ _ _ hc=>.pure hc
theorem ziv {R:BR} (hx:zbE=true) (h:R r r') {c c':Array MapEntry} (n:Nat) (hc:zcC R c c'):zaj L M QEq R (setObj r (.map c n)) (setObj r' (.map c' n)):=.setObj hx h hc (.pure rfl)
theorem zq4 [Twin L M] {R:BR} (ts:Array TypeId) (ty:TypeId) (h:zaz R as as'):zaj L M QV R (Builtin.len_ ts ty as) (Builtin.len_ ts ty as'):=by
 unfold Builtin.len_
 cases ts[0]? with
 | none=>exact zaj.halt
 | some t0 =>
 rcases h.get? 0 with ⟨e1,e2⟩ | ⟨s,s',e1,e2,hs⟩
 ·rw [e1,e2]; exact zaj.halt
 rw [e1,e2]
 dsimp only
 refine zad (zal t0) ?_
 rintro R1 hR1 d _ rfl
 replace hs:=hs.mono hR1
 cases d with
 | string=>cases hs <;> first | exact zae (.int _ _) | exact zaj.halt
 | slice e=>cases hs <;> first | exact zae (.int _ _) | exact zaj.halt
 | array n e=>cases hs <;> exact zae (.int _ _)
 | map k e =>
  cases hs with
  | map hr =>
   refine zad (zcV hr) ?_
   rintro R2 hR2 _ _ (@⟨c,c',n,_,hc⟩ | _)
   rotate_left
   ·exact zaj.halt
   dsimp only
   rw [hc.1]
   exact zae (.int _ _)
  | nilMap=>exact zae (.int _ _)
  | _=>exact zaj.halt
 | pointer arr =>
  have hh:zaj L M QV R1 (underlying arr >>= fun d=>match d with | .array n _=>pure (goInt n) | _=>stuck "len: pointer to array expected") (underlying arr >>= fun d=>match d with | .array n _=>pure (goInt n) | _=>stuck "len: pointer to array expected"):=by
   refine zad (zal arr) ?_
   rintro R2 hR2 d _ rfl
   split
   ·exact zae (.int _ _)
   ·exact zaj.halt
  cases hs <;> exact hh
 | chan _ _=>cases hs <;> first | exact zae (.int _ _) | exact zaj.halt
 | _=>cases hs <;> exact zaj.halt
theorem zq2 [Twin L M] {R:BR} (ts:Array TypeId) (ty:TypeId) (h:zaz R as as'):zaj L M QV R (Builtin.cap_ ts ty as) (Builtin.cap_ ts ty as'):=by
 unfold Builtin.cap_
 cases ts[0]? with
 | none=>exact zaj.halt
 | some t0 =>
 rcases h.get? 0 with ⟨e1,e2⟩ | ⟨s,s',e1,e2,hs⟩
 ·rw [e1,e2]; exact zaj.halt
 rw [e1,e2]
 dsimp only
 refine zad (zal t0) ?_
 rintro R1 hR1 d _ rfl
 replace hs:=hs.mono hR1
 cases d with
 | slice e=>cases hs <;> first | exact zae (.int _ _) | exact zaj.halt
 | array n e=>cases hs <;> exact zae (.int _ _)
 | pointer arr =>
  have hh:zaj L M QV R1 (underlying arr >>= fun d=>match d with | .array n _=>pure (goInt n) | _=>stuck "cap: pointer to array expected") (underlying arr >>= fun d=>match d with | .array n _=>pure (goInt n) | _=>stuck "cap: pointer to array expected"):=by
   refine zad (zal arr) ?_
   rintro R2 hR2 d _ rfl
   split
   ·exact zae (.int _ _)
   ·exact zaj.halt
  cases hs <;> exact hh
 | chan _ _=>cases hs <;> first | exact zae (.int _ _) | exact zaj.halt
 | _=>cases hs <;> exact zaj.halt
theorem zno {α β:Type} {f:α->Sem β} (hf:∀ a R',zaj L M QEq R' (f a) (f a)):∀ (as:List α) (R:BR),zaj L M QEq R (as.mapM f) (as.mapM f)
 | [],R=>by rw [List.mapM_nil]; exact zae rfl
 | a :: as,R=>by
  rw [List.mapM_cons]
  refine zad (hf a R) ?_
  rintro R1 hR1 b _ rfl
  refine zad (zno hf as R1) ?_
  rintro R2 hR2 bs _ rfl
  exact zae rfl
theorem zqi {α β:Type} {R:BR} {f:α->Sem β} (hf:∀ a R',zaj L M QEq R' (f a) (f a)) (as:Array α):zaj L M QEq R (as.mapM f) (as.mapM f):=by
 rw [Array.mapM_eq_mapM_toList,<- bind_pure_comp]
 exact zad (zno hf as.toList R) fun _ _ _ _ e=>zae (by rw [e])
theorem zoW [Twin L M] (hz:zbo L) {R:BR} (t:TypeId) (h:znE R ps.toList ps'.toList):zaj L M QV R (Instr.build t ps) (Instr.build t ps'):=by
 unfold Instr.build
 refine zad (zbm hz t) ?_
 intro R1 hR1 z z' hzz
 refine zad (zal t) ?_
 rintro R2 hR2 d _ rfl
 have hzc:=(hzz.mono hR2).cells
 replace h:=(h.mono hR1).mono hR2
 cases d with
 | struct fields =>
  refine zad (zqi (fun f R'=>zad (zaI f.type) fun _ _ _ _ e=>zae (by rw [e])) fields) ?_
  rintro R3 hR3 places _ rfl
  rcases zgU (places[·]?) (h.mono hR3) (hzc.mono hR3) with hf | ⟨d,d',e1,e2,hd⟩
  ·rw [hf]; exact zaj.halt
  ·rw [e1,e2]
   exact zae (.agg hd.1 hd.2)
 | array n elem =>
  refine zad (zaI elem) ?_
  rintro R3 hR3 size _ rfl
  rcases zgU (fun i=>some (i * size,size)) (h.mono hR3) (hzc.mono hR3) with hf | ⟨d,d',e1,e2,hd⟩
  ·rw [hf]; exact zaj.halt
  ·rw [e1,e2]
   exact zae (.agg hd.1 hd.2)
 | _=>exact zaj.halt
theorem zaz.two {R:BR} {u':Value} (h:zao R v v') (h2:zao R u u'):zaz R #[v,u] #[v',u']:=(zaz.one h).push h2
theorem zaz.tup {R:BR} (h:zaz R c c'):zao R (.tuple c) (.tuple c'):=.tuple h.1 h.2
theorem zho [Twin L M] (hz:zbo L) {R:BR} (h:zao R x x') (t a:TypeId) (ok:Bool):zaj L M QV R (Instr.typeAssert x t a ok) (Instr.typeAssert x' t a ok):=by
 have holds:∀ {R:BR} {v v':Value},zao R v v'->zaj L M QV R (pure (if ok=true then .tuple #[v,.bool true] else v)) (pure (if ok=true then .tuple #[v',.bool true] else v')):=by
  intro R v v' hv
  cases ok
  ·exact zae hv
  ·exact zae (zaz.two hv (.bool true)).tup
 have fails:∀ {R:BR} (e:RuntimeError),zaj L M QV R (if ok=true then (zeroValue a >>= fun z=>pure (.tuple #[z,.bool false])) else runtimePanic e) (if ok=true then (zeroValue a >>= fun z=>pure (.tuple #[z,.bool false])) else runtimePanic e):=by
  intro R e
  cases ok
  ·exact zaj.never (zap e)
  ·exact zad (zbm hz a) fun _ _ _ _ hv=>zae (zaz.two hv (.bool false)).tup
 unfold Instr.typeAssert
 refine zad (zal a) ?_
 rintro R1 hR1 d _ rfl
 replace h:=h.mono hR1
 cases h with
 | nilIface=>cases d <;> exact fails _
 | @iface t' v v' hv =>
  cases d with
  | interface want =>
   refine zad (zbj t') ?_
   rintro R2 hR2 i _ rfl
   split
   ·exact holds (.iface t' (hv.mono hR2))
   ·exact fails _
  | _=>exact zaU (fun _=>holds hv) (fun _=>fails _)
 | _=>cases d <;> exact zaj.halt
theorem zjy {R:BR} {fn:Fn} (hf:zmc fn=true) {a a':Array Value} (h:zaz R a a') (h2:zaz R c c'):zaj L M QV R (Instr.makeFunc fn a c) (Instr.makeFunc fn a' c'):=zae (.func fn hf h.1 h.2 h2.1 h2.2)
theorem zlt [Twin L M] {R:BR} (hx:zbE=true) (t:TypeId) {o o':Option Value} (h:zcF R o o'):zaj L M QV R (Instr.makeMap t o) (Instr.makeMap t o'):=by
 have tail:∀ R:BR,zaj L M QV R (newObj (.map #[] 0) >>= fun r=>pure (.map (some r))) (newObj (.map #[] 0) >>= fun r=>pure (.map (some r))):=fun R =>
  zad (zfG (.other (.map hx ⟨rfl,fun i h=>absurd h (by simp)⟩) (fun _ q=>q))) fun _ _ _ _ hr=>zae (.map hr)
 unfold Instr.makeMap
 rcases h with ⟨rfl,rfl⟩ | ⟨v,v',rfl,rfl,hv⟩
 ·exact tail R
 ·refine zad (zal t) ?_
  rintro R1 hR1 d _ rfl
  cases d with
  | map _ _ =>
   refine zad (zdX (hv.mono hR1)) ?_
   rintro R2 hR2 n _ rfl
   exact tail R2
  | _=>exact zaj.halt
theorem zhb {α β:Type} {s:Sem α} [S:zaJ P s] {f:α->Sem β} (Q:α->Prop) (hs:∀ w x w',s.run P w=.ok x w'->Q x) (hf:∀ a,Q a->zcB P (f a)):zcB P (s >>= f):=fun w=>by
 rw [Sem.run_bind]
 cases hr:s.run P w with
 | ok y v=>exact hf y (hs w y v hr) v
 | halt hh v=>exact ⟨hh,v,rfl,S.soft w hh v hr⟩
instance softly_numberAt {P:Program} (r:Nat):zaJ P (numberAt r):=by
 unfold numberAt
 have:∀ o:Obj,zaJ P (match o with | .number a lost=>(pure (some (a,lost)):Sem (Option (Addr × Bool))) | _=>pure none):=fun o=>by split <;> infer_instance
 infer_instance
instance softly_behind {P:Program} (a:Addr):zaJ P (behindNumber a):=by
 unfold behindNumber
 infer_instance
theorem run_program {x:Program} (h:(program).run P w=.ok x w'):x=P:=by
 simp [program,Sem.run] at h
 exact h.1.symm
theorem run_typeInfo {x:TypeInfo} (h:(typeInfo t).run P w=.ok x w'):P.info? t=some x:=by
 unfold typeInfo at h
 rw [Sem.run_bind] at h
 simp only [program,Sem.run,Result.andThen] at h
 cases hi:P.info? t with
 | none=>rw [hi] at h; simp [stuck] at h
 | some i=>rw [hi] at h; simp [pure] at h; rw [h.1]
def zhc (L:Program) (t:TypeId):Bool:=match L.info? t with
 | some i=>(match i.desc with | .named n _=>n != "sync.copyChecker" | _=>true)
 | none=>true
def eqTy (L:Program):Nat->TypeId->Bool
 | 0,_=>false
 | d + 1,t=>match L.underlying t with
  | some .bool | some .string | some (.slice _) | some (.map ..) | some (.func ..)=>true
  | some (.int _)=>zhc L t
  | some (.struct fs)=>!L.stoodInHeld t && fs.all fun f=>eqTy L d f.type
  | _=>false
class zbD (L M:Program):Prop extends Twin L M where
 stood:∀ t,M.stoodInHeld t=L.stoodInHeld t
 eqg:∀ d t,M.eqGuardType d t=L.eqGuardType d t
 depth:M.depth=L.depth
 globals:L.globals.size=0
 boc:∀ d e n,byteOfCell M d e n=byteOfCell L d e n
 cab:∀ d e c o n,cellAtBytes M d e c o n=cellAtBytes L d e c o n
theorem znh {α β:Type} {Q:BR->β->β->Prop} (hQ:∀ R R':BR,R.le R'->∀ a b,Q R a b->Q R' a b) {f f':α->β->Sem (ForInStep β)}:∀ (as:List α) (R:BR) (b b':β),Q R b b' ->
  (∀ a ∈ as,∀ R':BR,R.le R'->∀ c c',Q R' c c'->zaj L M (fun R x x'=>(∃ d d',x=.done d/\x'=.done d'/\Q R d d')\/(∃ d d',x=.yield d/\x'=.yield d'/\Q R d d')) R' (f a c) (f' a c')) ->
  zaj L M Q R (forIn as b f) (forIn as b' f')
 | [],R,b,b',h,_=>by rw [List.forIn_nil,List.forIn_nil]; exact zae h
 | a :: as,R,b,b',h,hf=>by
  rw [List.forIn_cons,List.forIn_cons]
  refine zad (hf a (by simp) R (BR.le_refl R) b b' h) ?_
  rintro R1 hR1 x x' (⟨d,d',rfl,rfl,hd⟩ | ⟨d,d',rfl,rfl,hd⟩)
  ·exact zae hd
  ·exact znh hQ as R1 d d' hd (fun a ha R' hR'=>hf a (by simp [ha]) R' (BR.le_trans hR1 hR'))
theorem zh6 (hg:P.globals.size=0) (ht:zhc P t=true) (a b:Addr):zcB P (do
   let (a,b):=((<- behindNumber a).1,(<- behindNumber b).1)
   if a.block == b.block && a.block < (<- program).globals.size then return (<- byteOf a) == (<- byteOf b)
   let .named "sync.copyChecker" _:=(<- typeInfo t).desc | unsupported .addressObserved
   if a == b then pure true else unsupported .addressObserved:Sem Bool):=by
 refine zav fun p=>zav fun q=>zhb (fun x=>x=P) (fun w x w' h=>run_program h) ?_
 intro y hy
 rw [hy]
 have e:¬ ((p.fst.block == q.fst.block && decide (p.fst.block < P.globals.size))=true):=by rw [hg]; simp
 simp only [e]
 refine zhb (fun i=>P.info? t=some i) (fun w x w' h=>run_typeInfo h) ?_
 intro i hi
 have hd:∀ u,i.desc ≠ .named "sync.copyChecker" u:=by
  intro u q
  simp [zhc,hi,q] at ht
 split
 ·rename_i u hu
  exact absurd hu (hd _)
 ·exact zaq
theorem zgz [T:zbD L M]:∀ (D d:Nat) (t:TypeId),eqTy L d t=true->∀ (R:BR) {x x' y y':Value},zao R x x'->zao R y y'->zaj L M QEq R (Op.equalIn D t x y) (Op.equalIn D t x' y'):=by
 intro D
 induction D with
 | zero=>exact fun d t _ R x x' y y' _ _=>zaj.halt
 | succ D ih =>
  intro d t ht R x x' y y' hx hy
  cases d with
  | zero=>simp [eqTy] at ht
  | succ d =>
  unfold Op.equalIn
  refine zad (zaT t) ?_
  rintro R1 hR1 ds _ ⟨rfl,hds⟩
  replace hx:=hx.mono hR1
  replace hy:=hy.mono hR1
  simp only [eqTy,hds] at ht
  cases ds with
  | bool=>cases hx <;> cases hy <;> first | exact zae rfl | exact zaj.halt
  | string=>cases hx <;> cases hy <;> first | exact zae rfl | exact zaj.halt
  | int k =>
   have hn:∀ a b:Addr,zcB L (do
     let (a,b):=((<- behindNumber a).1,(<- behindNumber b).1)
     if a.block == b.block && a.block < (<- program).globals.size then return (<- byteOf a) == (<- byteOf b)
     let .named "sync.copyChecker" _:=(<- typeInfo t).desc | unsupported .addressObserved
     if a == b then pure true else unsupported .addressObserved:Sem Bool):=fun a b=>zh6 T.globals ht a b
   cases hx with
   | int k1 n1 =>
    cases hy with
    | int k2 n2=>exact zaU (fun _=>zae rfl) (fun _=>zaj.halt)
    | ptr h =>
     cases n1 with
     | ofNat m=>cases m <;> first | exact zae rfl | exact zaj.halt
     | negSucc m=>exact zaj.halt
    | nilPtr =>
     cases n1 with
     | ofNat m=>cases m <;> exact zaj.halt
     | negSucc m=>exact zaj.halt
    | _=>exact zaj.halt
   | ptr h =>
    cases hy with
    | int k2 n2 =>
     cases n2 with
     | ofNat m=>cases m <;> first | exact zae rfl | exact zaj.halt
     | negSucc m=>exact zaj.halt
    | ptr h2=>exact zaj.never (hn _ _)
    | _=>exact zaj.halt
   | nilPtr =>
    cases hy with
    | int k2 n2 =>
     cases n2 with
     | ofNat m=>cases m <;> exact zaj.halt
     | negSucc m=>exact zaj.halt
    | _=>exact zaj.halt
   | _=>cases hy <;> exact zaj.halt
  | slice e=>cases hx <;> cases hy <;> first | exact zae rfl | exact zaj.halt
  | map k e=>cases hx <;> cases hy <;> first | exact zae rfl | exact zaj.halt
  | func a b c=>cases hx <;> cases hy <;> first | exact zae rfl | exact zaj.halt
  | struct fields =>
   cases hx with
   | agg h1 h2 =>
    cases hy with
    | agg h3 h4 =>
     refine zad zaS ?_
     rintro R2 hR2 p p' ⟨rfl,rfl⟩
     simp only [Bool.and_eq_true,Bool.not_eq_true',Array.all_eq_true_iff_forall_mem] at ht
     rw [T.stood,ht.1]
     simp only [Bool.false_eq_true,if_false]
     rw [<- Array.forIn_toList,<- Array.forIn_toList]
     refine zad (znh (Q:=QEq) (fun _ _ _ _ _ e=>e) fields.toList R2 _ _ rfl ?_) ?_
     ·rintro f hf R3 hR3 c _ rfl
      refine zaU (fun _=>?_) (fun _=>zae (Or.inr ⟨_,_,rfl,rfl,rfl⟩))
      refine zad (zfI f.type (zaz.mono hR3 (zaz.mono hR2 ⟨h1,h2⟩)) _) ?_
      intro R4 hR4 u u' hu
      refine zad (zfI f.type (zaz.mono hR4 (zaz.mono hR3 (zaz.mono hR2 ⟨h3,h4⟩))) _) ?_
      intro R5 hR5 v v' hv
      refine zad (ih d f.type (ht.2 f (by simpa using hf)) R5 (hu.mono hR5) hv) ?_
      rintro R6 hR6 b _ rfl
      refine zaU (fun _=>zae (Or.inl ⟨_,_,rfl,rfl,rfl⟩)) (fun _=>zae (Or.inr ⟨_,_,rfl,rfl,rfl⟩))
     ·rintro R3 hR3 c _ rfl
      split <;> exact zae rfl
    | _=>exact zaj.halt
   | _=>cases hy <;> exact zaj.halt
  | _=>simp at ht
def zg5 (L:Program) (t:TypeId):Bool:=match L.underlying t with
 | some .bool | some .string=>true
 | some (.int _)=>zhc L t
 | _=>false
theorem zg5.eqTy {t:TypeId} (h:zg5 L t=true):eqTy L 1 t=true:=by
 unfold zg5 at h
 unfold Proofs.YtfbbcooklhmeaaaGreat.eqTy
 split at h <;> simp_all
theorem zfB [Twin L M] {R:BR} (h:zg5 L t=true) (b:Bool) (n:Nat) (hv:zao R v v'):zaj L M QEq R (Instr.checkKey b (n + 1) t v) (Instr.checkKey b (n + 1) t v'):=by
 unfold Instr.checkKey
 refine zad (zaT t) ?_
 rintro R1 hR1 d _ ⟨rfl,hd⟩
 simp only [zg5,hd] at h
 cases d <;> first | (simp at h; done) | (cases hv <;> exact zae rfl)
abbrev QF:BR->Option (Nat × Value)->Option (Nat × Value)->Prop:=fun R a b=>(a=none/\b=none)\/∃ i v v',a=some (i,v)/\b=some (i,v')/\zao R v v'
inductive zdy (R:BR):List MapEntry->List MapEntry->Prop
 | nil:zdy R [] []
 | cons {v v':MapEntry} {r r':List MapEntry}:znL R v v'->zdy R r r'->zdy R (v :: r) (v' :: r')
theorem zdy.mono {R R':BR} (hR:R.le R') {l l':List MapEntry} (h:zdy R l l'):zdy R' l l':=by
 induction h with
 | nil=>exact .nil
 | cons hv _ ih=>exact .cons (hv.mono hR) ih
theorem zdy.of_get {R:BR}:∀ (l l':List MapEntry),l.length=l'.length->(∀ i (h:i < l.length) (h':i < l'.length),znL R l[i] l'[i])->zdy R l l'
 | [],[],_,_=>.nil
 | [],_ :: _,h,_=>by simp at h
 | _ :: _,[],h,_=>by simp at h
 | v :: r,v' :: r',h,hg=>.cons (hg 0 (by simp) (by simp)) (zdy.of_get r r' (by simpa using h) (fun i h1 h2=>hg (i + 1) (Nat.succ_lt_succ h1) (Nat.succ_lt_succ h2)))
theorem zcC.all {R:BR} {c c':Array MapEntry} (h:zcC R c c'):zdy R c.toList c'.toList :=
 zdy.of_get _ _ (by simpa using h.1) (fun i h1 h2=>by simpa using h.2 i (by simpa using h1) (by simpa using h2))
theorem zhm [zbD L M] (ht:zg5 L t=true) {R0:BR} {es es':List MapEntry} (h:zdy R0 es es'):∀ {R:BR},R0.le R->∀ {k k':Value},zao R k k'->∀ i,zaj L M QF R (Instr.findAsking t k es i) (Instr.findAsking t k' es' i):=by
 induction h with
 | nil=>exact fun _ _ _ _ _=>zae (Or.inl ⟨rfl,rfl⟩)
 | cons he _ ih =>
  intro R hR k k' hk i
  unfold Instr.findAsking
  refine zad (zgz _ 1 t (zg5.eqTy ht) R hk (he.key.mono hR)) ?_
  rintro R1 hR1 b _ rfl
  cases b
  ·exact ih (BR.le_trans hR hR1) (hk.mono hR1) (i + 1)
  ·exact zae (Or.inr ⟨_,_,_,rfl,rfl,(he.val.mono hR).mono hR1⟩)
def zrr:Value->Bool
 | .bool _ | .int _ _ | .string _=>true
 | _=>false
theorem zim (d:TypeDesc) (h:zrr k=false) (e:Value):Instr.sameNow d k e=none:=by
 cases k <;> first | (cases h; done) | (cases d <;> rfl)
theorem zin (d:TypeDesc) (k:Value) {e:Value} (h:zrr e=false):Instr.sameNow d k e=none:=by
 cases e <;> first | (cases h; done) | (cases d <;> first | rfl | (cases k <;> rfl))
theorem zgo (h:zfb v=true):zrr v=false:=by cases v with | bool b=>cases h | int k n=>cases h | string s=>cases h | _=>rfl
theorem zjr {R:BR} (d:TypeDesc) {e e':Value} (hk:zao R k k') (he:zao R e e'):Instr.sameNow d k e=Instr.sameNow d k' e':=by
 by_cases q1:∃ h:zfb k'=true,k=.tuple #[]
 ·obtain ⟨h,rfl⟩:=q1
  rw [zim d rfl,zim d (zgo h)]
 by_cases q2:∃ h:zfb e'=true,e=.tuple #[]
 ·obtain ⟨h,rfl⟩:=q2
  rw [zin d k rfl,zin d k' (zgo h)]
 cases hk with
 | junk _ h=>exact absurd ⟨h,rfl⟩ q1
 | _ =>
  cases he with
  | junk _ h=>exact absurd ⟨h,rfl⟩ q2
  | _=>cases d <;> rfl
theorem ziZ {R:BR} (d:TypeDesc) (hk:zao R k k') {es es':List MapEntry} (h:zdy R es es'):∀ i,(Instr.findNow d k es i=none/\Instr.findNow d k' es' i=none)\/∃ r r',Instr.findNow d k es i=some r/\Instr.findNow d k' es' i=some r'/\QF R r r':=by
 induction h with
 | nil=>exact fun i=>Or.inr ⟨_,_,rfl,rfl,Or.inl ⟨rfl,rfl⟩⟩
 | cons he _ ih =>
  intro i
  unfold Instr.findNow
  rw [<- zjr d hk he.key]
  cases Instr.sameNow d k _ with
  | none=>exact Or.inl ⟨rfl,rfl⟩
  | some b =>
   cases b
   ·exact ih (i + 1)
   ·exact Or.inr ⟨_,_,rfl,rfl,Or.inr ⟨_,_,_,rfl,rfl,he.val⟩⟩
theorem zgA [zbD L M] {R:BR} (ht:zg5 L t=true) (hk:zao R k k') {es es':List MapEntry} (h:zdy R es es'):zaj L M QF R (Instr.findKey t k es) (Instr.findKey t k' es'):=by
 unfold Instr.findKey
 refine zad (zal t) ?_
 rintro R1 hR1 d _ rfl
 rcases ziZ d (hk.mono hR1) (h.mono hR1) 0 with ⟨e1,e2⟩ | ⟨r,r',e1,e2,hr⟩
 ·rw [e1,e2]
  exact zhm ht h hR1 (hk.mono hR1) 0
 ·rw [e1,e2]
  exact zae hr
def zkV (L:Program) (t:TypeId):Bool:=match L.underlying t with
 | some (.map k _)=>zg5 L k
 | _=>true
theorem znn [zbD L M] (hz:zbo L) {R:BR} (ht:zkV L t=true) (hx:zao R x x') (hk:zao R k k') (ok:Bool):zaj L M QV R (Instr.lookup t x k ok) (Instr.lookup t x' k' ok):=by
 unfold Instr.lookup
 refine zad (zaT t) ?_
 rintro R1 hR1 d _ ⟨rfl,hd⟩
 simp only [zkV,hd] at ht
 replace hx:=hx.mono hR1
 replace hk:=hk.mono hR1
 cases d with
 | map key elem =>
  simp only at ht
  have tail:∀ (R:BR) {es es':Array MapEntry},zcC R es es'->zao R k k'->zaj L M QV R
    (Instr.checkKey es.isEmpty 10000 key k >>= fun _=>Instr.findKey key k es.toList >>= fun r=>match r with | some (_,v)=>pure (if ok then .tuple #[v,.bool true] else v) | none=>zeroValue elem >>= fun z=>pure (if ok then .tuple #[z,.bool false] else z))
    (Instr.checkKey es'.isEmpty 10000 key k' >>= fun _=>Instr.findKey key k' es'.toList >>= fun r=>match r with | some (_,v)=>pure (if ok then .tuple #[v,.bool true] else v) | none=>zeroValue elem >>= fun z=>pure (if ok then .tuple #[z,.bool false] else z)):=by
   intro R es es' hes hk
   have ee:es'.isEmpty=es.isEmpty:=by rw [Bool.eq_iff_iff]; simp [Array.isEmpty_iff,<- Array.size_eq_zero_iff,hes.1]
   rw [ee]
   refine zad (zfB ht _ 9999 hk) ?_
   rintro R2 hR2 _ _ _
   refine zad (zgA ht (hk.mono hR2) (hes.mono hR2).all) ?_
   rintro R3 hR3 r r' (⟨rfl,rfl⟩ | ⟨i,v,v',rfl,rfl,hv⟩)
   ·refine zad (zbm hz elem) ?_
    intro R4 hR4 z z' hzz
    cases ok
    ·exact zae hzz
    ·exact zae (zaz.two hzz (.bool false)).tup
   ·cases ok
    ·exact zae hv
    ·exact zae (zaz.two hv (.bool true)).tup
  cases hx with
  | map hr =>
   refine zad (zcV hr) ?_
   rintro R2 hR2 _ _ (@⟨c,c',n,_,hc⟩ | _)
   rotate_left
   ·exact zaj.halt
   exact tail R2 hc (hk.mono hR2)
  | nilMap=>exact tail R1 (es:=#[]) (es':=#[]) ⟨rfl,fun i h=>absurd h (by simp)⟩ hk
  | _=>exact zaj.halt
 | _=>exact zaj.halt
theorem zbG.eq_iff {R:BR} (h1:R.One) {b b':Addr} (ha:zbG R a a') (hb:zbG R b b'):a=b ↔ a'=b':=by
 obtain ⟨a1,a2,a3⟩:=a
 obtain ⟨b1,b2,b3⟩:=b
 obtain ⟨c1,c2,c3⟩:=a'
 obtain ⟨d1,d2,d3⟩:=b'
 obtain ⟨p1,p2,p3⟩:=ha
 obtain ⟨q1,q2,q3⟩:=hb
 simp only at p1 p2 p3 q1 q2 q3
 subst p2 p3 q2 q3
 constructor
 ·intro e
  cases e
  rw [h1.1 _ _ _ p1 q1]
 ·intro e
  cases e
  rw [h1.2 _ _ _ p1 q1]
theorem zil {R:BR} (hx:zbE=true) (h1:R.One):∀ (n:Nat) {a a' b b':Value},zao R a a'->zao R b b'->Instr.sameBits n a b=Instr.sameBits n a' b':=by
 intro n
 induction n with
 | zero =>
  intro a a' b b' ha hb
  cases ha with
  | ptr h =>
   cases hb with
   | ptr h'=>simp only [Instr.sameBits]; rw [Bool.eq_iff_iff]; simp [zbG.eq_iff h1 h h']
   | junk h0 _=>rw [hx] at h0; cases h0
   | junkM h0=>rw [hx] at h0; cases h0
   | _=>rfl
  | junk h0 _=>rw [hx] at h0; cases h0
  | junkM h0=>rw [hx] at h0; cases h0
  | _ =>
   cases hb with
   | junk h0 _=>rw [hx] at h0; cases h0
   | junkM h0=>rw [hx] at h0; cases h0
   | _=>rfl
 | succ n ih =>
  intro a a' b b' ha hb
  have key:∀ {c c' d d':List Value},zf2 R c c'->zf2 R d d'->((c.zip d).all fun (x,y)=>Instr.sameBits n x y)=((c'.zip d').all fun (x,y)=>Instr.sameBits n x y):=by
   intro c c' d d' hc
   induction hc generalizing d d' with
   | nil=>intro hd; cases hd <;> rfl
   | cons hv _ ihl =>
    intro hd
    cases hd with
    | nil=>rfl
    | cons hu hr =>
     simp only [List.zip_cons_cons,List.all_cons]
     rw [ih hv hu,ihl hr]
  cases ha with
  | iface t hv =>
   cases hb with
   | iface u hu=>simp only [Instr.sameBits]; rw [ih hv hu]
   | junk h0 _=>rw [hx] at h0; cases h0
   | junkM h0=>rw [hx] at h0; cases h0
   | _=>rfl
  | agg e1 e2 =>
   cases hb with
   | agg e3 e4 =>
    simp only [Instr.sameBits]
    rw [e1,e3,key (zaz.all ⟨e1,e2⟩) (zaz.all ⟨e3,e4⟩)]
   | junk h0 _=>rw [hx] at h0; cases h0
   | junkM h0=>rw [hx] at h0; cases h0
   | _=>rfl
  | ptr h =>
   cases hb with
   | ptr h'=>simp only [Instr.sameBits]; rw [Bool.eq_iff_iff]; simp [zbG.eq_iff h1 h h']
   | junk h0 _=>rw [hx] at h0; cases h0
   | junkM h0=>rw [hx] at h0; cases h0
   | _=>rfl
  | junk h0 _=>rw [hx] at h0; cases h0
  | junkM h0=>rw [hx] at h0; cases h0
  | _ =>
   cases hb with
   | junk h0 _=>rw [hx] at h0; cases h0
   | junkM h0=>rw [hx] at h0; cases h0
   | _=>rfl
theorem zfE {R:BR} (hx:zbE=true) (h1:R.One) {a a' b':Value} (ha:zao R a a') (hb:zao R b b'):zaj L M QV R (Instr.keyThatStays a b) (Instr.keyThatStays a' b'):=by
 unfold Instr.keyThatStays
 rw [zil hx h1 _ ha hb]
 refine zaU (fun _=>zae hb) (fun _=>?_)
 refine zad (Q:=QEq) (.choose fun n=>.pure rfl) ?_
 rintro R1 hR1 n _ rfl
 refine zae ?_
 split
 ·exact hb.mono hR1
 ·exact ha.mono hR1
theorem zcC.modify {R:BR} {c c':Array MapEntry} (h:zcC R c c') (i:Nat) {f f':MapEntry->MapEntry} (hf:∀ e e',znL R e e'->znL R (f e) (f' e')):zcC R (c.modify i f) (c'.modify i f'):=by
 refine ⟨by simp [h.1],fun j h1 h2=>?_⟩
 simp only [Array.size_modify] at h1 h2
 rw [Array.getElem_modify,Array.getElem_modify]
 split
 ·exact hf _ _ (h.2 j h1 h2)
 ·exact h.2 j h1 h2
theorem zcC.push {R:BR} {c c':Array MapEntry} (h:zcC R c c') {e e':MapEntry} (he:znL R e e'):zcC R (c.push e) (c'.push e'):=by
 refine ⟨by simp [h.1],fun i h1 h2=>?_⟩
 rw [Array.getElem_push,Array.getElem_push]
 simp only [Array.size_push] at h1 h2
 by_cases hi:i < c.size
 ·have hi':i < c'.size:=by rw [<- h.1]; exact hi
  rw [dif_pos hi,dif_pos hi']
  exact h.2 i hi hi'
 ·rw [dif_neg hi,dif_neg (by rw [<- h.1]; exact hi)]
  exact he
theorem zcC.keyAt {R:BR} {c c':Array MapEntry} (h:zcC R c c') (i:Nat) (hk:zao R k k'):zao R (((c[i]?).map (·.key)).getD k) (((c'[i]?).map (·.key)).getD k'):=by
 by_cases q:i < c.size
 ·have q':i < c'.size:=by rw [<- h.1]; exact q
  rw [Array.getElem?_eq_getElem q,Array.getElem?_eq_getElem q']
  exact (h.2 i q q').key
 ·rw [Array.getElem?_eq_none (by omega),Array.getElem?_eq_none (by have:=h.1; omega)]
  exact hk
theorem zez [zbD L M] {R:BR} (h1:R.One) (ht:zkV L t=true) {m m':Value} (hm:zao R m m') (hk:zao R k k') (hv:zao R v v'):zaj L M QEq R (Instr.mapUpdate t m k v) (Instr.mapUpdate t m' k' v'):=by
 unfold Instr.mapUpdate
 refine zad (zaT t) ?_
 rintro R1 hR1 d _ ⟨rfl,hd⟩
 simp only [zkV,hd] at ht
 replace hm:=hm.mono hR1
 replace hk:=hk.mono hR1
 replace hv:=hv.mono hR1
 cases d with
 | map key elem =>
  simp only at ht
  cases hm with
  | map hr =>
   refine zad (zcV hr) ?_
   rintro R2 hR2 _ _ (@⟨c,c',n,hxo,hc⟩ | _)
   rotate_left
   ·exact zaj.halt
   dsimp only
   refine zad (zfB ht false 9999 (hk.mono hR2)) ?_
   rintro R3 hR3 _ _ _
   refine zad (zgA ht ((hk.mono hR2).mono hR3) (hc.mono hR3).all) ?_
   rintro R4 hR4 r r' (⟨rfl,rfl⟩ | ⟨i,u,u',rfl,rfl,hu⟩)
   ·have up:R1.le R4:=BR.le_trans hR2 (BR.le_trans hR3 hR4)
    exact ziv hxo (up.1 _ _ hr) _ (((hc.mono hR3).mono hR4).push ⟨hk.mono up,hv.mono up,rfl⟩)
   ·have up:R1.le R4:=BR.le_trans hR2 (BR.le_trans hR3 hR4)
    have hc4:=(hc.mono hR3).mono hR4
    refine zad (zfE hxo ((BR.le_trans hR1 up).2 h1) (hc4.keyAt i (hk.mono up)) (hk.mono up)) ?_
    intro R5 hR5 kk kk' hkk
    exact ziv hxo ((BR.le_trans up hR5).1 _ _ hr) _ ((hc4.mono hR5).modify i fun e e' he=>⟨hkk,(hv.mono up).mono hR5,he.born⟩)
  | nilMap=>exact zaj.never (zap _)
  | _=>exact zaj.halt
 | _=>exact zaj.halt
theorem ze2 {R:BR} (op:BinOp) (k:IntKind) (x:Int) (yk:IntKind) (y:Int):zaj L M QV R (Op.shift op k x yk y) (Op.shift op k x yk y):=by
 unfold Op.shift
 split
 ·exact zaj.never (zap _)
 ·dsimp only
  split <;> first | exact zae (.int _ _) | exact zaC
theorem zdr {R:BR} (op:BinOp) (x y:ByteArray):zaj L M QV R (Op.stringOp op x y) (Op.stringOp op x y):=by
 unfold Op.stringOp
 dsimp only
 split
 ·split
  ·exact zaj.halt
  ·exact zae (.string _)
 all_goals first | exact zae (.bool _) | exact zaC
theorem zkn [zbD L M] {R:BR} (ht:eqTy L 40 t=true) (hx:zao R x x') (hy:zao R y y'):zaj L M QEq R (Op.equal t x y) (Op.equal t x' y'):=zgz _ 40 t ht R hx hy
theorem zgg [Twin L M] (t:TypeId):M.cellsOf t=L.cellsOf t:=by unfold Program.cellsOf; rw [Twin.info (L:=L) (M:=M)]
theorem zkE [Twin L M] (t:TypeId):M.bytesOf t=L.bytesOf t:=by unfold Program.bytesOf; rw [Twin.info (L:=L) (M:=M)]
theorem ziw {R:BR} (h:R r r'):zaj L M (fun _ a b=>a=none/\b=none) R (viewAt r) (viewAt r'):=by
 unfold viewAt
 refine zad (zd0 h) ?_
 rintro R1 hR1 s _ rfl
 refine zaU (fun _=>zae ⟨rfl,rfl⟩) (fun _=>?_)
 refine zad (zcV (hR1.1 _ _ h)) ?_
 intro R2 hR2 o o' ho
 cases ho <;> exact zae ⟨rfl,rfl⟩
theorem znp {R:BR} (h:zbG R a a'):zaj L M QEq R (noView a) (noView a'):=by
 unfold noView
 refine zad (ziw h.1) ?_
 rintro R1 hR1 _ _ ⟨rfl,rfl⟩
 exact zae rfl
abbrev QN:BR->Addr × Bool->Addr × Bool->Prop:=fun R a b=>zbG R a.1 b.1/\a.2=b.2
theorem zfH {R:BR} (h:R r r'):zaj L M (fun R a b=>(a=none/\b=none)\/∃ x x',a=some x/\b=some x'/\QN R x x') R (numberAt r) (numberAt r'):=by
 unfold numberAt
 refine zad (zd0 h) ?_
 rintro R1 hR1 s _ rfl
 refine zaU (fun _=>zae (Or.inl ⟨rfl,rfl⟩)) (fun _=>?_)
 refine zad (zcV (hR1.1 _ _ h)) ?_
 intro R2 hR2 o o' ho
 cases ho with
 | map _ _=>exact zae (Or.inl ⟨rfl,rfl⟩)
 | number ha=>exact zae (Or.inr ⟨_,_,rfl,rfl,ha,rfl⟩)
theorem zcU {R:BR} (h:zbG R a a'):zaj L M QN R (behindNumber a) (behindNumber a'):=by
 unfold behindNumber
 refine zad (zfH h.1) ?_
 rintro R1 hR1 _ _ (⟨rfl,rfl⟩ | ⟨x,x',rfl,rfl,hx⟩)
 ·exact zae ⟨h.mono hR1,rfl⟩
 ·exact zae hx
theorem znf [zbD L M] {R:BR} (h:zbG R a a'):zaj L M QEq R (byteOf a) (byteOf a'):=by
 unfold byteOf
 rw [<- h.2.2]
 cases a.spot with
 | some s=>exact zae rfl
 | none =>
  refine zad zaS ?_
  rintro R1 hR1 p p' ⟨rfl,rfl⟩
  refine zad (znp (h.mono hR1)) ?_
  rintro R2 hR2 _ _ _
  refine zad (zd0 ((h.mono hR1).mono hR2).1) ?_
  rintro R3 hR3 s _ rfl
  cases s with
  | none=>exact zaj.halt
  | some e =>
   obtain ⟨e,n⟩:=e
   dsimp only
   rw [zgg (L:=p) (M:=p'),zkE (L:=p) (M:=p'),zbD.boc (L:=p) (M:=p'),zbD.depth (L:=p) (M:=p'),h.2.1]
   refine zaU (fun _=>zae rfl) (fun _=>?_)
   split
   ·exact zae rfl
   ·exact zaj.halt
theorem zjx {R:BR} (h:zbG R a a') (l:Bool):zaj L M QV R (asNumber a l) (asNumber a' l):=by
 unfold asNumber
 exact zad (zfG (.other (.number h) (fun _ q=>q))) fun _ _ _ _ hr=>zae (.ptr ⟨hr,rfl,rfl⟩)
abbrev QPt:BR->Value->Value->Prop:=fun R v v'=>∃ a a',v=.pointer (some a)/\v'=.pointer (some a')/\zbG R a a'
theorem ptP {R:BR} (h:zbG R a a'):QPt R (.pointer (some a)) (.pointer (some a')):=⟨a,a',rfl,rfl,h⟩
theorem zd1 [zbD L M] {R:BR} (ts:Array TypeId) (t:TypeId) (hx:zao R x x') (hy:zao R y y'):zaj L M QPt R (Builtin.unsafeAdd_ ts t #[x,y]) (Builtin.unsafeAdd_ ts t #[x',y']):=by
 unfold Builtin.unsafeAdd_
 cases hx with
 | ptr ha =>
  refine zad (zdX hy) ?_
  rintro R1 hR1 n _ rfl
  refine zaU (fun _=>?_) (fun _=>?_)
  ·refine zad (ziw (ha.mono hR1).1) ?_
   rintro R2 hR2 _ _ ⟨rfl,rfl⟩
   exact zae (ptP ((ha.mono hR1).mono hR2))
  ·refine zaU (fun _=>zaj.never (zau zaq)) (fun _=>?_)
   refine zad (zd0 (ha.mono hR1).1) ?_
   rintro R2 hR2 s _ rfl
   cases s with
   | none=>exact zaj.halt
   | some e =>
    obtain ⟨e,c⟩:=e
    refine zad zaS ?_
    rintro R3 hR3 p p' ⟨rfl,rfl⟩
    rw [zgg (L:=p) (M:=p'),zbD.cab (L:=p) (M:=p'),zbD.depth (L:=p) (M:=p'),ha.2.1]
    split
    ·exact zae (ptP ⟨(((ha.mono hR1).mono hR2).mono hR3).1,rfl,ha.2.2⟩)
    ·exact zaj.halt
 | nilPtr =>
  refine zad (zdX hy) ?_
  rintro R1 hR1 n _ rfl
  exact zaU (fun _=>zaj.halt) (fun _=>zaU (fun _=>zaj.never (zau zaq)) (fun _=>zaj.halt))
 | _=>exact zaj.halt
theorem zcY [zbD L M] {R:BR} (ts:Array TypeId) (t:TypeId) (hx:zao R x x') (hy:zao R y y'):zaj L M QV R (Builtin.unsafeAdd_ ts t #[x,y]) (Builtin.unsafeAdd_ ts t #[x',y']) :=
 (zd1 ts t hx hy).imp fun R v v' h=>by
  obtain ⟨a,a',rfl,rfl,h⟩:=h
  exact .ptr h
theorem zbd [zbD L M] {R:BR} (t:TypeId) (hx:zao R x x') (hy:zao R y y'):zaj L M QV R (movedNumber t x y) (movedNumber t x' y'):=by
 unfold movedNumber
 refine zad (zal t) ?_
 rintro R1 hR1 d _ rfl
 replace hx:=hx.mono hR1
 replace hy:=hy.mono hR1
 have hx0:=hx
 cases hx with
 | ptr ha =>
  rename_i n n'
  have tail:zaj L M QV R1 (behindNumber n >>= fun p=>match p with
     | (a,lost)=>Builtin.unsafeAdd_ #[] t #[.pointer (some a),y] >>= fun v=>match v with | .pointer (some b)=>asNumber b lost | v=>pure v)
    (behindNumber n' >>= fun p=>match p with
     | (a,lost)=>Builtin.unsafeAdd_ #[] t #[.pointer (some a),y'] >>= fun v=>match v with | .pointer (some b)=>asNumber b lost | v=>pure v):=by
   refine zad (zcU ha) ?_
   rintro R2 hR2 ⟨a,l⟩ ⟨a',l'⟩ ⟨h1,h2⟩
   simp only at h1 h2
   subst h2
   refine zad (zd1 #[] t (.ptr h1) (hy.mono hR2)) ?_
   rintro R3 hR3 _ _ ⟨b,b',rfl,rfl,hb⟩
   exact zjx hb _
  cases d <;> first | exact tail | exact zaj.halt
 | _=>cases d <;> first | exact zcY #[] t hx0 hy | exact zaj.halt
theorem zfF [zbD L M] {R:BR} (t:TypeId) (hx:zao R x x') (hy:zao R y y'):zaj L M QV R (movedPointer t x y) (movedPointer t x' y'):=by
 unfold movedPointer
 have hx0:=hx
 cases hx with
 | ptr ha =>
  refine zad (zfH ha.1) ?_
  rintro R1 hR1 _ _ (⟨rfl,rfl⟩ | ⟨u,u',rfl,rfl,_⟩)
  ·exact zcY #[] t (hx0.mono hR1) (hy.mono hR1)
  ·exact zaj.halt
 | junk _ _=>exact zaj.halt
 | _=>exact zcY #[] t hx0 hy
theorem zcP (hg:P.globals.size=0) (a b:Addr):zcB P (Op.twoPlaces a b):=by
 unfold Op.twoPlaces
 refine zhb (fun x=>x=P) (fun w x w' h=>run_program h) ?_
 intro y hy
 rw [hy,hg]
 have e:(a.block != b.block || decide (a.block ≥ 0))=true:=by simp
 rw [if_pos e]
 exact zau zaq
theorem zlm [zbD L M] {R:BR} (k:IntKind) (h:zbG R a a') (n:Int):zaj L M QV R (Op.addrMod k a n) (Op.addrMod k a' n):=by
 unfold Op.addrMod
 refine zad (zd0 h.1) ?_
 rintro R1 hR1 s _ rfl
 cases s with
 | none=>exact zaj.halt
 | some e =>
  obtain ⟨e,c⟩:=e
  refine zad (zbj e) ?_
  rintro R2 hR2 i _ rfl
  refine zaU (fun _=>zaj.never (zau zaq)) (fun _=>?_)
  refine zad (znf ((h.mono hR1).mono hR2)) ?_
  rintro R3 hR3 b _ rfl
  exact zae (.int _ _)
def zkA (L:Program) (op:BinOp) (t:TypeId):Bool:=match op with
 | .eql | .neq=>eqTy L 40 t && !L.eqGuardType L.depth t
 | _=>true
def zmj:Value->Bool
 | .nilIface | .agg _=>true
 | _=>false
theorem zmk (op:BinOp) (t:TypeId) (x y:Operand) {a:Value} (h:zmj a=false) (b:Value):eqGuard op t x y a b=pure ():=by
 unfold eqGuard
 cases a <;> first | (cases h; done) | (cases op <;> rfl)
theorem zml (op:BinOp) (t:TypeId) (x y:Operand) (a:Value) (h:zmj b=false):eqGuard op t x y a b=pure ():=by
 unfold eqGuard
 cases b <;> first | (cases h; done) | (cases op <;> first | rfl | (cases a <;> rfl))
theorem zeq (h:zfb v=true):zmj v=false:=by cases v with | nilIface=>cases h | agg c=>cases h | _=>rfl
theorem zlp [zbD L M] {R:BR} (op:BinOp) (ht:zkA L op t=true) (x y:Operand) {a a' b':Value} (ha:zao R a a') (hb:zao R b b'):zaj L M QEq R (eqGuard op t x y a b) (eqGuard op t x y a' b'):=by
 by_cases q1:zfb a'=true/\a=.tuple #[]
 ·obtain ⟨h,rfl⟩:=q1
  rw [zmk op t x y rfl,zmk op t x y (zeq h)]
  exact zae rfl
 by_cases q2:zfb b'=true/\b=.tuple #[]
 ·obtain ⟨h,rfl⟩:=q2
  rw [zml op t x y a rfl,zml op t x y a' (zeq h)]
  exact zae rfl
 by_cases h:op=.eql\/op=.neq
 ·have hg:L.eqGuardType L.depth t=false:=by rcases h with rfl | rfl <;> (simp [zkA] at ht; exact ht.2)
  have e2:zaj L M QEq R (if ((match x with | .const _=>true | _=>false) || (match y with | .const _=>true | _=>false))=true then pure () else Op.eqGuardIn Op.maxDepth t .nilIface .nilIface >>= fun g=>if g=true then unsupported (.noEntry "binop/eql: two nil values of an interface type with methods, neither of them the literal nil") else pure ()) (if ((match x with | .const _=>true | _=>false) || (match y with | .const _=>true | _=>false))=true then pure () else Op.eqGuardIn Op.maxDepth t .nilIface .nilIface >>= fun g=>if g=true then unsupported (.noEntry "binop/eql: two nil values of an interface type with methods, neither of them the literal nil") else pure ()):=by
   refine zaU (fun _=>zae rfl) (fun _=>?_)
   refine zad (Q:=QEq) ?_ ?_
   ·show zaj L M QEq R (Op.eqGuardIn (9999 + 1) t .nilIface .nilIface) (Op.eqGuardIn (9999 + 1) t .nilIface .nilIface)
    unfold Op.eqGuardIn
    refine zad (zal t) ?_
    rintro R1 hR1 d _ rfl
    cases d <;> exact zae rfl
   ·rintro R1 hR1 g _ rfl
    exact zaU (fun _=>zaj.halt) (fun _=>zae rfl)
  have e3:∀ u u' v v':Value,zaj L M QEq R (program >>= fun p=>program >>= fun q=>if (!p.eqGuardType q.depth t)=true then pure () else Op.eqGuardIn Op.maxDepth t u v >>= fun g=>if g=true then unsupported (.noEntry "binop/eql: two nil values of an interface type with methods, in a part of a struct or an array") else pure ()) (program >>= fun p=>program >>= fun q=>if (!p.eqGuardType q.depth t)=true then pure () else Op.eqGuardIn Op.maxDepth t u' v' >>= fun g=>if g=true then unsupported (.noEntry "binop/eql: two nil values of an interface type with methods, in a part of a struct or an array") else pure ()):=by
   intro u u' v v'
   refine zad zaS ?_
   rintro R1 hR1 p p' ⟨rfl,rfl⟩
   refine zad zaS ?_
   rintro R2 hR2 q q' ⟨rfl,rfl⟩
   rw [zbD.eqg (L:=q) (M:=q'),zbD.depth (L:=q) (M:=q'),hg]
   exact zae rfl
  rcases h with rfl | rfl
  ·cases ha with
   | nilIface =>
    cases hb with
    | nilIface=>exact e2
    | junk _ h=>exact absurd ⟨h,rfl⟩ q2
    | _=>exact zae rfl
   | agg _ _ =>
    cases hb with
    | agg _ _=>exact e3 _ _ _ _
    | junk _ h=>exact absurd ⟨h,rfl⟩ q2
    | _=>exact zae rfl
   | junk _ h=>exact absurd ⟨h,rfl⟩ q1
   | _ =>
    cases hb with
    | junk _ h=>exact absurd ⟨h,rfl⟩ q2
    | _=>exact zae rfl
  ·cases ha with
   | nilIface =>
    cases hb with
    | nilIface=>exact e2
    | junk _ h=>exact absurd ⟨h,rfl⟩ q2
    | _=>exact zae rfl
   | agg _ _ =>
    cases hb with
    | agg _ _=>exact e3 _ _ _ _
    | junk _ h=>exact absurd ⟨h,rfl⟩ q2
    | _=>exact zae rfl
   | junk _ h=>exact absurd ⟨h,rfl⟩ q1
   | _ =>
    cases hb with
    | junk _ h=>exact absurd ⟨h,rfl⟩ q2
    | _=>exact zae rfl
 ·have e1:∀ a b,eqGuard op t x y a b=pure ():=by
   intro a b
   unfold eqGuard
   cases op <;> first | rfl | exact absurd (Or.inl rfl) h | exact absurd (Or.inr rfl) h
  rw [e1,e1]
  exact zae rfl
theorem zfD {R:BR} (op:BinOp) (t:TypeId) (k k':IntKind) (x y:Int):zaj L M QV R (binOp op t (.int k x) (.int k' y)) (binOp op t (.int k x) (.int k' y)):=by
 by_cases hk:k=k'
 ·subst hk
  by_cases h:op=.shl\/op=.shr
  ·rcases h with rfl | rfl
   ·exact ze2 .shl k x k y
   ·exact ze2 .shr k x k y
  ·exact zne op t k x y ⟨fun q=>h (Or.inl q),fun q=>h (Or.inr q)⟩
 ·cases op <;> first
   | exact ze2 .shl k x k' y
   | exact ze2 .shr k x k' y
   | (simp only [binOp,ne_eq,hk,not_false_eq_true,if_true]; exact zaC)
theorem zgt (t:TypeId) (y:Value):zcB P (Op.equal t (.tuple #[]) y):=by
 show zcB P (Op.equalIn (9999 + 1) t (.tuple #[]) y)
 unfold Op.equalIn
 refine zav fun d=>?_
 cases d <;> (cases y <;> exact zaq)
theorem zbR (t:TypeId) (x:Value):zcB P (Op.equal t x (.tuple #[])):=by
 show zcB P (Op.equalIn (9999 + 1) t x (.tuple #[]))
 unfold Op.equalIn
 refine zav fun d=>?_
 cases x with
 | pointer o=>cases o <;> (cases d <;> exact zaq)
 | slice o _ _=>cases o <;> (cases d <;> exact zaq)
 | map o=>cases o <;> (cases d <;> exact zaq)
 | _=>cases d <;> exact zaq
theorem zq3 [zbD L M] {R:BR} (ht:eqTy L 40 t=true) (hx:zao R x x') (hy:zao R y y'):zaj L M QV R (binOp .eql t x y) (binOp .eql t x' y'):=by
 have tail:zaj L M QV R (Op.equal t x y >>= fun b=>pure (.bool b)) (Op.equal t x' y' >>= fun b=>pure (.bool b)) :=
  zad (zkn ht hx hy) fun _ _ _ _ e=>by rw [e]; exact zae (.bool _)
 cases hx with
 | int k n =>
  cases hy with
  | int k' n'=>exact zfD _ _ _ _ _ _
  | junk _ _=>exact zaj.never (show zcB L (Op.equal t _ (.tuple #[]) >>= (fun b=>pure (Value.bool b):Bool->Sem Value)) from zau (zbR t _))
  | _=>exact tail
 | string s =>
  cases hy with
  | string s'=>exact zdr .eql s s'
  | junk _ _=>exact zaj.never (show zcB L (Op.equal t _ (.tuple #[]) >>= (fun b=>pure (Value.bool b):Bool->Sem Value)) from zau (zbR t _))
  | _=>exact tail
 | junk _ _=>exact zaj.never (show zcB L (Op.equal t (.tuple #[]) _ >>= (fun b=>pure (Value.bool b):Bool->Sem Value)) from zau (zgt t _))
 | _ =>
  cases hy with
  | junk _ _=>exact zaj.never (show zcB L (Op.equal t _ (.tuple #[]) >>= (fun b=>pure (Value.bool b):Bool->Sem Value)) from zau (zbR t _))
  | _=>exact tail
theorem zq5 [zbD L M] {R:BR} (ht:eqTy L 40 t=true) (hx:zao R x x') (hy:zao R y y'):zaj L M QV R (binOp .neq t x y) (binOp .neq t x' y'):=by
 have tail:zaj L M QV R (Op.equal t x y >>= fun b=>pure (.bool (!b))) (Op.equal t x' y' >>= fun b=>pure (.bool (!b))) :=
  zad (zkn ht hx hy) fun _ _ _ _ e=>by rw [e]; exact zae (.bool _)
 cases hx with
 | int k n =>
  cases hy with
  | int k' n'=>exact zfD _ _ _ _ _ _
  | junk _ _=>exact zaj.never (show zcB L (Op.equal t _ (.tuple #[]) >>= (fun b=>pure (Value.bool (!b)):Bool->Sem Value)) from zau (zbR t _))
  | _=>exact tail
 | string s =>
  cases hy with
  | string s'=>exact zdr .neq s s'
  | junk _ _=>exact zaj.never (show zcB L (Op.equal t _ (.tuple #[]) >>= (fun b=>pure (Value.bool (!b)):Bool->Sem Value)) from zau (zbR t _))
  | _=>exact tail
 | junk _ _=>exact zaj.never (show zcB L (Op.equal t (.tuple #[]) _ >>= (fun b=>pure (Value.bool (!b)):Bool->Sem Value)) from zau (zgt t _))
 | _ =>
  cases hy with
  | junk _ _=>exact zaj.never (show zcB L (Op.equal t _ (.tuple #[]) >>= (fun b=>pure (Value.bool (!b)):Bool->Sem Value)) from zau (zbR t _))
  | _=>exact tail
theorem zmB (hg:P.globals.size=0) (op:BinOp) (a b:Addr):zcB P (behindNumber a >>= fun p=>behindNumber b >>= fun q=>Op.addrCmp op p.1 q.1:Sem Value) :=
 zav fun _=>zav fun _=>zau (zcP hg _ _)
theorem zmC (hg:P.globals.size=0) (k:IntKind) (a b:Addr):zcB P (behindNumber a >>= fun p=>behindNumber b >>= fun q=>Op.addrSub k p.1 q.1:Sem Value) :=
 zav fun _=>zav fun _=>zau (zcP hg _ _)
theorem zpG [zbD L M] {R:BR} (k:IntKind) (h:zbG R a a') (n:Int):zaj L M QV R (behindNumber a >>= fun p=>Op.addrMod k p.1 n) (behindNumber a' >>= fun p=>Op.addrMod k p.1 n) :=
 zad (zcU h) fun _ _ _ _ hp=>zlm k hp.1 n
theorem zkp [zbD L M] {R:BR} (t:TypeId) (hx:zao R x x') (hy:zao R y y'):zaj L M QV R (underlying t >>= fun d=>if (match d with | .unsafePointer=>true | _=>false)=true then movedPointer t x y else movedNumber t x y) (underlying t >>= fun d=>if (match d with | .unsafePointer=>true | _=>false)=true then movedPointer t x' y' else movedNumber t x' y'):=by
 refine zad (zal t) ?_
 rintro R1 hR1 d _ rfl
 exact zaU (fun _=>zfF t (hx.mono hR1) (hy.mono hR1)) (fun _=>zbd t (hx.mono hR1) (hy.mono hR1))
theorem zoV [T:zbD L M] {R:BR} (op:BinOp) (ht:zkA L op t=true) (hx:zao R x x') (hy:zao R y y'):zaj L M QV R (binOp op t x y) (binOp op t x' y'):=by
 by_cases h:op=.eql\/op=.neq
 ·rcases h with rfl | rfl
  ·exact zq3 (by simp [zkA] at ht; exact ht.1) hx hy
  ·exact zq5 (by simp [zkA] at ht; exact ht.1) hx hy
 have n1:op ≠ .eql:=fun q=>h (Or.inl q)
 have n2:op ≠ .neq:=fun q=>h (Or.inr q)
 have hx0:=hx
 have hy0:=hy
 cases hx with
 | int k n =>
  cases hy with
  | int k' n'=>exact zfD _ _ _ _ _ _
  | ptr ha =>
   cases op <;> first
    | exact zaj.halt
    | exact zbd t hy0 hx0
    | exact zpG _ ha _
    | exact absurd rfl n1
    | exact absurd rfl n2
  | nilPtr =>
   cases op <;> first
    | exact zaj.halt
    | exact zbd t hy0 hx0
    | exact absurd rfl n1
    | exact absurd rfl n2
  | _=>cases op <;> first | exact zaj.halt | exact absurd rfl n1 | exact absurd rfl n2
 | ptr ha =>
  cases hy with
  | int k n =>
   cases op <;> first
    | exact zaj.halt
    | exact zkp t hx0 hy0
    | exact zbd t hx0 (.int _ _)
    | exact zpG _ ha _
    | exact absurd rfl n1
    | exact absurd rfl n2
  | ptr hb =>
   cases op <;> first
    | exact zaj.halt
    | exact zaj.never (zmB T.globals _ _ _)
    | exact zaj.never (zmC T.globals _ _ _)
    | exact absurd rfl n1
    | exact absurd rfl n2
  | _=>cases op <;> first | exact zaj.halt | exact absurd rfl n1 | exact absurd rfl n2
 | nilPtr =>
  cases hy with
  | int k n =>
   cases op <;> first
    | exact zaj.halt
    | exact zkp t hx0 hy0
    | exact zbd t hx0 (.int _ _)
    | exact absurd rfl n1
    | exact absurd rfl n2
  | _=>cases op <;> first | exact zaj.halt | exact absurd rfl n1 | exact absurd rfl n2
 | string s =>
  cases hy with
  | string s'=>cases op <;> first | (simp only [binOp]; exact zdr _ _ _) | exact absurd rfl n1 | exact absurd rfl n2
  | _=>cases op <;> first | exact zaj.halt | exact absurd rfl n1 | exact absurd rfl n2
 | _=>cases hy <;> (cases op <;> first | exact zaj.halt | exact absurd rfl n1 | exact absurd rfl n2)
def zlZ (L:Program) (s d:TypeId):Bool:=match L.underlying s,L.underlying d with
 | some (.int _),some (.int _)=>true
 | some .string,some .string=>true
 | _,_=>false
theorem zlo [Twin L M] {R:BR} {d:TypeId} (h:zlZ L s d=true) (hx:zao R x x'):zaj L M QV R (convert s d x) (convert s d x'):=by
 unfold convert
 refine zad (zaT s) ?_
 rintro R1 hR1 ds _ ⟨rfl,h1⟩
 refine zad (zaT d) ?_
 rintro R2 hR2 dd _ ⟨rfl,h2⟩
 simp only [zlZ,h1,h2] at h
 replace hx:=(hx.mono hR1).mono hR2
 cases ds <;> cases dd <;> first
  | (simp at h; done)
  | (cases hx <;> first | exact zae (.int _ _) | exact zae (.string _) | exact zaj.halt)
class zaB (L M:Program):Prop extends zbD L M where
 fn:∀ (f:Nat) (fn:Func),L.funcs[f]?=some fn->fn.body.isSome=true->(fn.name == "runtime.NumGoroutine")=false/\∃ fn':Func,M.funcs[f]?=some fn'/\fn'.body.isSome=true/\(fn'.name == "runtime.NumGoroutine")=false
 dead:∀ (f:Nat) (fn:Func),L.funcs[f]?=some fn->fn.body.isSome=false->∀ args,zcB L (callFunc f args)
 types:M.types.size=L.types.size
inductive zra (L:Program) (R:BR):Next->Next->Prop
 | value {v v':Value}:zao R v v'->zra L R (.value v) (.value v')
 | skip:zra L R .skip .skip
 | enter (f:FuncId) {a a':Array Value}:(∃ fn:Func,L.funcs[f]?=some fn/\fn.body.isSome=true)->znR f a.size=true->zaz R a a'->zra L R (.enter f a) (.enter f a')
abbrev QX (L:Program):BR->Next->Next->Prop:=fun R a b=>zra L R a b
theorem zcv [T:zaB L M] {R:BR} (f:FuncId) {a a':Array Value} (har:znR f a.size=true) (h:zaz R a a'):zaj L M (QX L) R (callFunc f a) (callFunc f a'):=by
 by_cases hd:∃ fn,L.funcs[f]?=some fn/\fn.body.isSome=false
 ·obtain ⟨fn,h1,h2⟩:=hd
  exact zaj.never (T.dead f fn h1 h2 a)
 ·unfold callFunc
  refine zad zaS ?_
  rintro R1 hR1 p p' ⟨rfl,rfl⟩
  cases hf:p.funcs[f]? with
  | none=>exact zaj.halt
  | some fn =>
   have hb:fn.body.isSome=true:=by
    cases hb:fn.body.isSome with
    | true=>rfl
    | false=>exact absurd ⟨fn,hf,hb⟩ hd
   obtain ⟨n1,fn',hf',hb',n2⟩:=T.fn f fn hf hb
   rw [hf']
   have e1:fn.body.isNone=false:=by cases q:fn.body <;> simp_all
   have e2:fn'.body.isNone=false:=by cases q:fn'.body <;> simp_all
   simp only [n1,n2,e1,e2]
   exact zae (.enter f ⟨fn,hf,hb⟩ har (h.mono hR1))
theorem zlx {R:BR} (ts:Array TypeId) (t:TypeId) (h:zao R v v') (m:String):zaj L M QV R (Builtin.ssaWrapNilChk_ ts t #[v,strVal "",strVal m]) (Builtin.ssaWrapNilChk_ ts t #[v',strVal "",strVal m]):=by
 cases h with
 | ptr h=>exact zae (.ptr h)
 | nilPtr =>
  refine zaj.never (zav (s:=choose (.extern "ssa:wrapnilchk.dereferenced" 2)) fun n=>?_)
  refine zft (zau (zap _)) ?_
  split
  ·refine zav fun d=>?_
   split
   ·refine zav fun i=>?_
    split
    ·split
     ·dsimp only
      split
      ·exact zap _
      ·exact zaq
     ·exact zaq
    ·exact zaq
   ·exact zaq
  ·exact zaq
 | _=>exact zaj.halt
theorem zdZ [Twin L M] {R:BR} (t:TypeId) (h:zao R v v') (p:Bool) (wr:Option String):zaj L M QV R (receiverAt t (.val v) p wr) (receiverAt t (.val v') p wr):=by
 unfold receiverAt
 refine zad (zal t) ?_
 rintro R1 hR1 d _ rfl
 replace h:=h.mono hR1
 cases p with
 | true=>cases d <;> first | exact zae h | exact zaj.halt
 | false =>
  cases d with
  | pointer elem =>
   have tail:∀ (R2:BR),R1.le R2->∀ {u u':Value},zao R2 u u'->zaj L M QV R2 (asAddr u >>= fun a=>loadVar elem a) (asAddr u' >>= fun a=>loadVar elem a) :=
    fun R2 _ u u' hu=>zad (zfA hu) fun _ _ _ _ ha=>zej elem ha
   cases wr with
   | none=>exact tail R1 (BR.le_refl _) h
   | some m =>
    show zaj L M QV R1 (Builtin.ssaWrapNilChk_ #[t] t #[v,strVal "",strVal m] >>= fun u=>asAddr u >>= fun a=>loadVar elem a) (Builtin.ssaWrapNilChk_ #[t] t #[v',strVal "",strVal m] >>= fun u=>asAddr u >>= fun a=>loadVar elem a)
    exact zad (zlx _ _ h m) fun R2 hR2 u u' hu=>tail R2 hR2 hu
  | _=>exact zae h
def zh5 (L:Program) (name:String):Bool:=L.types.toList.all fun i=>match i.methods.find? (·.name == name) with | some m=>m.path.toList.all (fun s=>!s.deref) && (match m.func with | some q=>(xAr q.1).isNone | none=>true) | none=>true
theorem zh1 {info:TypeId->Option TypeInfo} {d:TypeDesc} {i:TypeInfo} (h:Made.reckon info d=some i):i.methods=#[]:=by
 unfold Made.reckon at h
 cases d with
 | pointer e =>
  obtain ⟨j,hj,h⟩:=Option.bind_eq_some_iff.1 h
  simp only at h
  split at h
  ·cases h
  ·split at h
   ·cases h
   ·obtain ⟨s,hs,h⟩:=Option.bind_eq_some_iff.1 h
    cases h
    rfl
  ·obtain ⟨s,hs,h⟩:=Option.bind_eq_some_iff.1 h
   cases h
   rfl
 | slice e =>
  obtain ⟨j,hj,h⟩:=Option.bind_eq_some_iff.1 h
  obtain ⟨s,hs,h⟩:=Option.bind_eq_some_iff.1 h
  cases h
  rfl
 | map k e =>
  obtain ⟨j,hj,h⟩:=Option.bind_eq_some_iff.1 h
  obtain ⟨s,hs,h⟩:=Option.bind_eq_some_iff.1 h
  obtain ⟨j2,hj2,h⟩:=Option.bind_eq_some_iff.1 h
  obtain ⟨s2,hs2,h⟩:=Option.bind_eq_some_iff.1 h
  cases h
  rfl
 | chan dir e =>
  obtain ⟨j,hj,h⟩:=Option.bind_eq_some_iff.1 h
  obtain ⟨s,hs,h⟩:=Option.bind_eq_some_iff.1 h
  cases h
  rfl
 | func ps rs v =>
  obtain ⟨s,hs,h⟩:=Option.bind_eq_some_iff.1 h
  cases h
  rfl
 | array n e =>
  obtain ⟨j,hj,h⟩:=Option.bind_eq_some_iff.1 h
  obtain ⟨s,hs,h⟩:=Option.bind_eq_some_iff.1 h
  have e:=Option.some.inj h
  subst e
  rfl
 | struct fs =>
  have h':Made.reckonStruct info fs=some i:=h
  unfold Made.reckonStruct at h'
  simp only [<- Array.forIn_toList] at h'
  obtain ⟨s,hs,h'⟩:=Option.bind_eq_some_iff.1 h'
  split at h'
  all_goals
   have e:=Option.some.inj h'
   subst e
   rfl
 | _=>cases h
theorem zmA (hn:zh5 L name=true) {i:TypeInfo} {m:Method} (hi:L.info? t=some i) (hm:i.methods.find? (·.name == name)=some m):(∀ s ∈ m.path.toList,s.deref=false)/\∀ q,m.func=some q->(xAr q.1).isNone=true:=by
 have tab:∀ (t:Nat) (i:TypeInfo),L.types[t]?=some i->i.methods.find? (·.name == name)=some m->(∀ s ∈ m.path.toList,s.deref=false)/\∀ q,m.func=some q->(xAr q.1).isNone=true:=by
  intro t i h2 hm
  have hin:i ∈ L.types.toList:=by
   rw [Array.mem_toList_iff]
   exact Array.mem_of_getElem? h2
  have:=List.all_eq_true.1 hn i hin
  simp only [hm,Bool.and_eq_true] at this
  refine ⟨fun s hs=>?_,fun q hq=>?_⟩
  ·have h3:=List.all_eq_true.1 this.1 s hs
   simpa using h3
  ·have h4:=this.2
   rw [hq] at h4
   exact h4
 have made:∀ (n:Nat) (t:TypeId) (i:TypeInfo),Made.infoAt L.toTables n t=some i->i.methods.find? (·.name == name)=some m->(∀ s ∈ m.path.toList,s.deref=false)/\∀ q,m.func=some q->(xAr q.1).isNone=true:=by
  intro n t i h hm
  cases n with
  | zero=>cases h
  | succ n =>
   unfold Made.infoAt at h
   split at h
   ·exact tab t i h hm
   ·obtain ⟨d,hd,h⟩:=Option.bind_eq_some_iff.1 h
    rw [zh1 h] at hm
    simp at hm
 have hi':(if t < L.types.size then L.types[t]? else Made.infoAt L.toTables Made.depth t)=some i:=hi
 split at hi'
 ·exact tab t i hi' hm
 ·exact made _ t i hi' hm
abbrev QPl:BR->TypeId × Place->TypeId × Place->Prop:=fun R x x'=>∃ t u u',x=(t,.val u)/\x'=(t,.val u')/\zao R u u'
theorem zir [T:zaB L M]:∀ (l:List FieldStep),(∀ s ∈ l,s.deref=false)->∀ {R:BR} (t:TypeId) {v v':Value},zao R v v'->zaj L M QPl R (follow l t (.val v)) (follow l t (.val v'))
 | [],_,_,t,v,v',h=>zae ⟨t,v,v',rfl,rfl,h⟩
 | s :: l,hl,R,t,v,v',h=>by
  unfold follow
  refine zad (zal s.struct) ?_
  rintro R1 hR1 d _ rfl
  replace h:=h.mono hR1
  cases d with
  | struct fields =>
   dsimp only
   cases hf:fields[s.index]? with
   | none=>exact zaj.halt
   | some f =>
    simp only [hl s mcs,Bool.false_eq_true,↓reduceIte]
    cases h with
    | agg h1 h2 =>
     refine zad (zfI f.type ⟨h1,h2⟩ f.offset) ?_
     intro R2 hR2 u u' hu
     exact zir l (fun s hs=>hl s (mcm hs)) f.type hu
    | _=>exact zaj.halt
  | _=>exact zaj.halt
abbrev QM:BR->FuncId × Value->FuncId × Value->Prop:=fun R a b=>a.1=b.1/\zao R a.2 b.2/\(xAr a.1).isNone=true
theorem zit [T:zaB L M] {name:String} (hn:zh5 L name=true):∀ (n:Nat) {R:BR} (t:TypeId) {v v':Value},zao R v v'->zaj L M QM R (Go.method n t v name) (Go.method n t v' name)
 | 0,_,_,_,_,_=>zaj.halt
 | n + 1,R,t,v,v',h=>by
  unfold Go.method
  refine zad (zcX t) ?_
  rintro R1 hR1 i _ ⟨rfl,hi⟩
  cases hm:i.methods.find? (·.name == name) with
  | none=>exact zaj.halt
  | some m =>
   obtain ⟨hp,hq⟩:=zmA hn hi hm
   dsimp only
   refine zad (zir m.path.toList hp t (h.mono hR1)) ?_
   rintro R2 hR2 _ _ ⟨xt,u,u',rfl,rfl,hu⟩
   dsimp only
   cases hmf:m.func with
   | none =>
    show zaj L M QM R2 ((pure u:Sem Value) >>= fun u=>match u with | .iface t' v'=>Go.method n t' v' name | .nilIface=>runtimePanic .nilDeref | _=>stuck "method row: interface value expected") ((pure u':Sem Value) >>= fun u=>match u with | .iface t' v'=>Go.method n t' v' name | .nilIface=>runtimePanic .nilDeref | _=>stuck "method row: interface value expected")
    cases hu with
    | iface t' hv=>exact zit hn n t' hv
    | nilIface=>exact zaj.never (zap (α:=FuncId × Value) .nilDeref)
    | _=>exact zaj.halt
   | some q =>
    obtain ⟨f,pr⟩:=q
    exact zad (zdZ xt hu pr _) fun _ _ _ _ hr=>zae ⟨rfl,hr,hq _ hmf⟩
theorem zhl [T:zaB L M] {R:BR} (h:zao R v v') (hn:zh5 L name=true) {a a':Array Value} (ha:zaz R a a'):zaj L M (QX L) R (callMethod v name a) (callMethod v' name a'):=by
 unfold callMethod
 cases h with
 | iface t hv =>
  refine zad zaS ?_
  rintro R1 hR1 p p' ⟨rfl,rfl⟩
  rw [T.types]
  refine zad (zit hn _ t (hv.mono hR1)) ?_
  rintro R2 hR2 ⟨f,r⟩ ⟨f',r'⟩ ⟨e,hr,hx⟩
  simp only at e hr hx
  subst e
  exact zcv f (zdC hx _) ((zaz.one hr).app ((ha.mono hR1).mono hR2))
 | nilIface=>exact zaj.never (zap (α:=Next) .nilDeref)
 | _=>exact zaj.halt
inductive znP (R:BR):Target->Target->Prop
 | fn (fn:Fn) {c c':Array Value}:zmc fn=true->zaz R c c'->znP R (.fn fn c) (.fn fn c')
 | dir (f:FuncId):znP R (.fn (.func f) #[]) (.fn (.func f) #[])
 | nil:znP R .nil .nil
 | meth (name:String):znP R (.fn (.method name) #[]) (.fn (.method name) #[])
 | builtin (b:Builtin) (ts:Array TypeId) (t:TypeId) (cs:Array Bool):znP R (.builtin b ts t cs) (.builtin b ts t cs)
structure zqy (R:BR) (d d':Deferred):Prop where
 target:znP R d.target d'.target
 args:zaz R d.args d'.args
theorem znP.mono {R R':BR} (hR:R.le R') {t t':Target} (h:znP R t t'):znP R' t t':=by
 cases h with
 | fn f h0 h=>exact .fn f h0 (h.mono hR)
 | dir f=>exact .dir f
 | nil=>exact .nil
 | meth n=>exact .meth n
 | builtin b ts t cs=>exact .builtin b ts t cs
theorem zqy.mono {R R':BR} (hR:R.le R') (h:zqy R d d'):zqy R' d d':=⟨h.target.mono hR,h.args.mono hR⟩
def zbq:Nat->Value->Bool
 | 0,_=>false
 | _,.bool _ | _,.int _ _ | _,.string _ | _,.pointer none | _,.slice none _ _ | _,.map none | _,.chan none | _,.nilFunc | _,.nilIface=>true
 | n + 1,.iface _ v=>zbq n v
 | n + 1,.agg c | n + 1,.tuple c=>c.all (zbq n)
 | n + 1,.func f a b=>zmc f && a.all (zbq n) && b.all (zbq n)
 | _,_=>false
theorem zdS:∀ (n:Nat) (v:Value),zbq n v=true->Plain v
 | 0,v,h=>by simp [zbq] at h
 | n + 1,v,h=>by
  intro R
  have row:∀ c:Array Value,c.all (zbq n)=true->∀ i (h:i < c.size),zao R c[i] c[i]:=by
   intro c hc i hi
   rw [Array.all_eq_true] at hc
   exact zdS n _ (hc i hi) R
  cases v with
  | bool b=>exact .bool b
  | int k n=>exact .int k n
  | string s=>exact .string s
  | pointer a=>cases a with | none=>exact .nilPtr | some a=>simp [zbq] at h
  | slice a n m=>cases a with | none=>exact .nilSlice n m | some a=>simp [zbq] at h
  | map r=>cases r with | none=>exact .nilMap | some a=>simp [zbq] at h
  | chan r=>cases r with | none=>exact .nilChan | some a=>simp [zbq] at h
  | nilFunc=>exact .nilFunc
  | nilIface=>exact .nilIface
  | iface t v=>exact .iface t (zdS n v (by simpa [zbq] using h) R)
  | agg c=>exact .agg rfl (fun i h1 _=>row c (by simpa [zbq] using h) i h1)
  | tuple c=>exact .tuple rfl (fun i h1 _=>row c (by simpa [zbq] using h) i h1)
  | func f a b =>
   simp only [zbq,Bool.and_eq_true] at h
   exact .func f h.1.1 rfl (fun i h1 _=>row a h.1.2 i h1) rfl (fun i h1 _=>row b h.2 i h1)
  | float k n=>simp [zbq] at h
  | complex k n m=>simp [zbq] at h
def za1:Operand->Bool
 | .tmp _=>true
 | .func f=>(xAr f).isNone
 | .const v=>zbq 9 v
 | .global _=>false
def zeB (R:BR) (ρ ρ':Operand->Value):Prop:=∀ x,za1 x=true->zao R (ρ x) (ρ' x)
theorem zeB.mono {R R':BR} (hR:R.le R') (h:zeB R ρ ρ'):zeB R' ρ ρ':=fun x hx=>(h x hx).mono hR
theorem zeB.row {R:BR} (h:zeB R ρ ρ') {as:Array Operand} (ha:as.all za1=true):zaz R (as.map ρ) (as.map ρ'):=by
 refine ⟨by simp,fun i h1 h2=>?_⟩
 simp only [Array.getElem_map]
 rw [Array.all_eq_true] at ha
 exact h _ (ha i (by simpa using h1))
theorem zeB.opt {R:BR} (h:zeB R ρ ρ') {o:Option Operand} (ho:o.all za1=true):zcF R (o.map ρ) (o.map ρ'):=by
 cases o with
 | none=>exact Or.inl ⟨rfl,rfl⟩
 | some x=>exact Or.inr ⟨_,_,rfl,rfl,h x (by simpa using ho)⟩
theorem zeB.parts {R:BR} (h:zeB R ρ ρ') {ps:Array (Nat × Operand)} (hp:ps.all (fun p=>za1 p.2)=true):znE R (ps.map fun (i,x)=>(i,ρ x)).toList (ps.map fun (i,x)=>(i,ρ' x)).toList:=by
 rw [Array.toList_map,Array.toList_map]
 rw [<- Array.all_toList] at hp
 revert hp
 generalize ps.toList=l
 intro hp
 induction l with
 | nil=>exact .nil
 | cons p l ih =>
  simp only [List.all_cons,Bool.and_eq_true] at hp
  simp only [List.map_cons]
  exact .cons _ (h _ hp.1) (ih hp.2)
def zcH (L:Program) (b:Builtin) (ts:Array TypeId):Bool:=match b with
 | .len | .cap | .copy=>true
 | .append=>match ts[1]? with
  | some t=>(match L.underlying t with | some (.int _)=>false | some _=>true | none=>false)
  | none=>false
 | _=>false
def zc0 (L:Program) (c:Call):Bool:=match c.callee with
 | .value (.func f)=>znR f c.args.size
 | .value f=>za1 f
 | .invoke r name=>za1 r && zh5 L name
 | .builtin b=>zcH L b c.argTypes
theorem zln [zaB L M] (hz:zbo L) {R:BR} {b:Builtin} (h:zcH L b ts=true) (t:TypeId) (cs:Array Bool) {a a':Array Value} (ha:zaz R a a'):zaj L M (QX L) R (builtin b ts t cs a) (builtin b ts t cs a'):=by
 cases b with
 | len=>exact zad (zq4 ts t ha) fun _ _ _ _ hv=>zae (.value hv)
 | cap=>exact zad (zq2 ts t ha) fun _ _ _ _ hv=>zae (.value hv)
 | copy=>exact zad (zqh ts t ha) fun _ _ _ _ hv=>zae (.value hv)
 | append =>
  have hm:zpm L ts:=by
   simp only [zcH] at h
   split at h
   ·rename_i x hx
    split at h
    ·cases h
    ·rename_i d hk hd
     exact ⟨x,d,hx,hd,fun k q=>hk k (by rw [<- q])⟩
    ·cases h
   ·cases h
  exact zad (znc hz ts t ha hm) fun _ _ _ _ hv=>zae (.value hv)
 | _=>simp [zcH] at h
def zqD (L:Program) (t:Target):Prop:=(∀ b ts ty cs,t=.builtin b ts ty cs->zcH L b ts=true)/\∀ name c,t=.fn (.method name) c->zh5 L name=true
def zqx (d:Deferred):Prop:=∀ f,d.target=.fn (.func f) #[]->znR f d.args.size=true
theorem zlu {R:BR} (hfn:∀ f,ρ (.func f)=.func (.func f) #[] #[]/\ρ' (.func f)=.func (.func f) #[] #[]) (h:zeB R ρ ρ') {c:Call} (hc:zc0 L c=true) (ha:c.args.all za1=true) (t:TypeId) (hM:∀ x,c.callee=.value x->∀ n,ρ x ≠ .func (.method n) #[.nilIface] #[]):zaj L M (fun R d d'=>zqy R d d'/\zqD L d.target/\zqx d) R (resolve ρ c t) (resolve ρ' c t):=by
 unfold resolve
 have hr:=h.row ha
 cases hcc:c.callee with
 | builtin b =>
  simp only [zc0,hcc] at hc
  refine zae ⟨⟨.builtin _ _ _ _,hr⟩,⟨?_,?_⟩,fun f e=>by cases e⟩
  ·intro b' ts ty cs e
   cases e
   exact hc
  ·intro n c e
   cases e
 | invoke r name =>
  simp only [zc0,hcc,Bool.and_eq_true] at hc
  refine zae ⟨⟨.meth _,(zaz.one (h r hc.1)).app hr⟩,⟨?_,?_⟩,fun f e=>by cases e⟩
  ·intro b' ts ty cs e
   cases e
  ·intro n c e
   cases e
   exact hc.2
 | value f =>
  by_cases hdir:∃ g,f=.func g
  ·obtain ⟨g,rfl⟩:=hdir
   simp only [zc0,hcc] at hc
   dsimp only
   rw [(hfn g).1,(hfn g).2]
   refine zae ⟨⟨.dir g,by simpa using hr⟩,⟨fun _ _ _ _ e=>(by cases e),fun _ _ e=>(by cases e)⟩,fun f e=>?_⟩
   cases e
   simpa using hc
  have hc:za1 f=true:=by
   cases f with
   | func g=>exact absurd ⟨g,rfl⟩ hdir
   | _=>simpa only [zc0,hcc] using hc
  have hv:=h f hc
  have hM1:=hM f hcc
  dsimp only
  revert hv hM1
  generalize ρ f=u
  generalize ρ' f=u'
  intro hv hM1
  cases hv with
  | junkM _=>exact absurd rfl (hM1 _)
  | func fn h0 h1 h2 h3 h4 =>
   refine zae ⟨⟨.fn fn h0 ⟨h3,h4⟩,zaz.app ⟨h1,h2⟩ hr⟩,⟨?_,?_⟩,fun f e=>?_⟩
   ·intro b' ts ty cs e
    cases e
   ·intro n c e
    cases e
    simp [zmc] at h0
   ·have e':fn=.func f:=by
     injection e
    subst e'
    exact zdC h0 _
  | nilFunc =>
   refine zae ⟨⟨.nil,hr⟩,⟨?_,?_⟩,fun f e=>by cases e⟩
   ·intro b' ts ty cs e
    cases e
   ·intro n c e
    cases e
  | _=>exact zaj.halt
theorem znk [zaB L M] (hz:zbo L) {R:BR} (h:zqy R d d') (hb:zqD L d.target) (hA:zqx d):zaj L M (QX L) R (invoke d.target d.args) (invoke d'.target d'.args):=by
 obtain ⟨t,a⟩:=d
 obtain ⟨t',a'⟩:=d'
 obtain ⟨ht,ha⟩:=h
 simp only at ht ha hb
 unfold invoke
 cases ht with
 | dir f=>exact zcv f (by have:=hA f rfl; simpa using this) (by simpa using ha)
 | nil=>exact zaj.never (zap (α:=Next) .nilDeref)
 | builtin b ts ty cs=>exact zln hz (hb.1 _ _ _ _ rfl) ty cs ha
 | meth name =>
  rcases ha.get? 0 with ⟨e1,e2⟩ | ⟨v,v',e1,e2,hv⟩
  ·simp only [e1,e2]; exact zaj.halt
  ·simp only [e1,e2]
   rw [<- ha.1]
   exact zhl hv (hb.2 _ _ rfl) (ha.ext 1 _)
 | fn fn h0 hc =>
  cases fn with
  | func f=>exact zcv f (zdC h0 _) (ha.app hc)
  | method name=>simp [zmc] at h0
  | methodOf t name=>simp [zmc] at h0
  | via t path f p =>
   simp only [zmc,Bool.and_eq_true,Array.isEmpty_iff] at h0
   obtain ⟨h0,hx⟩:=h0
   subst h0
   rcases ha.get? 0 with ⟨e1,e2⟩ | ⟨v,v',e1,e2,hv⟩
   ·simp only [e1,e2]; exact zaj.halt
   ·simp only [e1,e2]
    rw [<- ha.1]
    refine zad (Q:=QV) (zdZ t hv p none) ?_
    intro R1 hR1 u u' hu
    exact zcv f (zdC hx _) ((zaz.one hu).app ((ha.mono hR1).ext 1 _))
  | yield l=>simp [zmc] at h0
def ziY (L:Program) (s:TypeId) (f:Nat):Bool:=match L.underlying s with
 | some (.struct fs)=>(match fs[f]? with
  | some fd=>(match L.info? fd.type with | some i=>i.size != 0 | none=>true)
  | none=>true)
 | _=>true
def zga (L:Program) (o:Op):Bool:=match o with
 | .move x | .assign x | .box _ x | .load _ x | .unOp _ _ x | .makeInterface _ x | .field _ x _ | .extract x _ | .typeAssert x _ _ _=>za1 x
 | .nilCheck x=>za1 x
 | .pick c a b=>za1 c && za1 a && za1 b
 | .alloc _=>true
 | .build _ ps | .buildSlice _ _ ps=>ps.all fun p=>za1 p.2
 | .store _ a x | .makeSlice _ a x | .indexAddr _ a x | .index _ a x=>za1 a && za1 x
 | .binOp op t x y _=>zkA L op t && za1 x && za1 y
 | .convert s d x=>zlZ L s d && za1 x
 | .makeFunc fn a c=>zmc fn && a.all za1 && c.all za1
 | .makeMap _ r=>zbE && r.all za1
 | .slice _ x lo hi mx=>za1 x && lo.all za1 && hi.all za1 && mx.all za1
 | .fieldAddr s x f=>ziY L s f && za1 x
 | .lookup t x k _=>zkV L t && za1 x && za1 k
 | .mapUpdate t m k x | .insert t m k x=>zkV L t && za1 m && za1 k && za1 x
 | .call c=>zc0 L c && c.args.all za1
 | _=>false
theorem sv {R:BR} {s s':Sem Value} (h:zaj L M QV R s s'):zaj L M (QX L) R (s >>= fun v=>pure (.value v)) (s' >>= fun v=>pure (.value v)):=zad h fun _ _ _ _ hv=>zae (.value hv)
theorem su {R:BR} {s s':Sem Unit} (h:zaj L M QEq R s s'):zaj L M (QX L) R (s >>= fun _=>pure .skip) (s' >>= fun _=>pure .skip):=zad h fun _ _ _ _ _=>zae .skip
theorem zkL {f:Nat} (h:ziY L s f=true):∀ fs fd,L.underlying s=some (.struct fs)->fs[f]?=some fd->∀ i,L.info? fd.type=some i->i.size ≠ 0:=by
 intro fs fd h1 h2 i h3
 simp only [ziY,h1,h2,h3] at h
 simpa using h
theorem zng [T:zaB L M] (hz:zbo L) {R:BR} (h1:R.One) (hfn:∀ f,ρ (.func f)=.func (.func f) #[] #[]/\ρ' (.func f)=.func (.func f) #[] #[]) (h:zeB R ρ ρ') {o:Oper} (ho:zga L o.op=true):zaj L M (QX L) R (execOp ρ o) (execOp ρ' o):=by
 obtain ⟨dst,op,ty,pos,after,guard⟩:=o
 simp only at ho
 cases op with
 | move x=>exact zae (.value (h x ho))
 | assign x=>exact zae (.value (h x ho))
 | pick c a b =>
  simp only [zga,Bool.and_eq_true] at ho
  refine zad (znd (h c ho.1.1)) ?_
  rintro R1 hR1 t _ rfl
  cases t
  ·exact zae (.value ((h b ho.2).mono hR1))
  ·exact zae (.value ((h a ho.1.2).mono hR1))
 | alloc e=>exact sv (zoT hz e)
 | box e x=>exact sv (zq1 e (h x ho))
 | build t ps=>exact sv (zoW hz t (h.parts ho))
 | buildSlice t n ps=>exact sv (zhk hz t n (h.parts ho))
 | load t a=>exact sv (znm t (h a ho))
 | store t a x =>
  simp only [zga,Bool.and_eq_true] at ho
  exact su (zlw t (h a ho.1) (h x ho.2))
 | nilCheck x =>
  have hx:=h x ho
  show zaj L M (QX L) R (match ρ x with
   | .pointer none | .nilIface | .nilFunc=>runtimePanic .nilDeref
   | .func (.method name) first captured =>
    match (first[0]?:Option Value) with
    | some .nilIface=>runtimePanic .nilDeref
    | some (.iface t w)=>do
     if (<- nilAhead ((<- program).types.size + Made.depth) t w name) != some false then
      unsupported (.noEntry "op/nilCheck.the method's receiver behind this interface value is a nil pointer, or cannot be seen to be none, and the arguments act or may panic (ledger 612)")
     pure (.value (.func (.method name) first captured))
    | _=>pure (.value (.func (.method name) first captured))
   | x=>pure (.value x)) (match ρ' x with
   | .pointer none | .nilIface | .nilFunc=>runtimePanic .nilDeref
   | .func (.method name) first captured =>
    match (first[0]?:Option Value) with
    | some .nilIface=>runtimePanic .nilDeref
    | some (.iface t w)=>do
     if (<- nilAhead ((<- program).types.size + Made.depth) t w name) != some false then
      unsupported (.noEntry "op/nilCheck.the method's receiver behind this interface value is a nil pointer, or cannot be seen to be none, and the arguments act or may panic (ledger 612)")
     pure (.value (.func (.method name) first captured))
    | _=>pure (.value (.func (.method name) first captured))
   | x=>pure (.value x))
  revert hx
  generalize ρ x=u
  generalize ρ' x=u'
  intro hx
  cases hx with
  | nilPtr=>exact zaj.never (zap _)
  | nilIface=>exact zaj.never (zap _)
  | nilFunc=>exact zaj.never (zap _)
  | func fn h0 q1 q2 q3 q4 =>
   cases fn with
   | method name=>simp [zmc] at h0
   | _=>exact zae (.value (.func _ h0 q1 q2 q3 q4))
  | ptr a=>exact zae (.value (.ptr a))
  | bool b=>exact zae (.value (.bool b))
  | int k n=>exact zae (.value (.int k n))
  | string s=>exact zae (.value (.string s))
  | slice n m a=>exact zae (.value (.slice n m a))
  | nilSlice n m=>exact zae (.value (.nilSlice n m))
  | map r=>exact zae (.value (.map r))
  | nilMap=>exact zae (.value .nilMap)
  | nilChan=>exact zae (.value .nilChan)
  | iface t v=>exact zae (.value (.iface t v))
  | agg q1 q2=>exact zae (.value (.agg q1 q2))
  | tuple q1 q2=>exact zae (.value (.tuple q1 q2))
  | junkM h0=>exact zaj.never (zap _)
  | junk h0 hj =>
   have e:(match u' with
    | .pointer none | .nilIface | .nilFunc=>(runtimePanic .nilDeref:Sem Next)
    | .func (.method name) first captured =>
     match (first[0]?:Option Value) with
     | some .nilIface=>runtimePanic .nilDeref
     | some (.iface t w)=>do
      if (<- nilAhead ((<- program).types.size + Made.depth) t w name) != some false then
       unsupported (.noEntry "op/nilCheck.the method's receiver behind this interface value is a nil pointer, or cannot be seen to be none, and the arguments act or may panic (ledger 612)")
      pure (.value (.func (.method name) first captured))
     | _=>pure (.value (.func (.method name) first captured))
    | x=>pure (.value x))=pure (.value u'):=by
    cases u' with
    | pointer o=>cases o <;> first | rfl | cases hj
    | func fn _ _=>cases fn <;> first | rfl | cases hj
    | nilIface=>cases hj
    | nilFunc=>cases hj
    | _=>rfl
   exact e ▸ zae (.value (.junk h0 hj))
 | binOp op t x y yt =>
  simp only [zga,Bool.and_eq_true] at ho
  refine sv (zad (zlp op ho.1.1 x y (h x ho.1.2) (h y ho.2)) ?_)
  rintro R1 hR1 _ _ _
  exact zoV op ho.1.1 ((h x ho.1.2).mono hR1) ((h y ho.2).mono hR1)
 | unOp op t x=>exact sv (zo1 op (h x ho))
 | convert s d x =>
  simp only [zga,Bool.and_eq_true] at ho
  exact sv (zlo ho.1 (h x ho.2))
 | makeInterface t x=>exact sv (zeJ t (h x ho))
 | makeFunc fn a c =>
  simp only [zga,Bool.and_eq_true] at ho
  exact sv (zjy ho.1.1 (h.row ho.1.2) (h.row ho.2))
 | makeMap t r =>
  simp only [zga,Bool.and_eq_true] at ho
  exact sv (zlt ho.1 t (h.opt ho.2))
 | makeSlice t l c =>
  simp only [zga,Bool.and_eq_true] at ho
  exact sv (zis hz t (h l ho.1) (h c ho.2))
 | slice t x lo hi mx =>
  simp only [zga,Bool.and_eq_true] at ho
  exact sv (zlv t (h x ho.1.1.1) (h.opt ho.1.1.2) (h.opt ho.1.2) (h.opt ho.2))
 | fieldAddr s x f =>
  simp only [zga,Bool.and_eq_true] at ho
  exact sv (zlr s (h x ho.2) f (zkL ho.1))
 | field t x f=>exact sv (zoX t (h x ho) f)
 | indexAddr t x i =>
  simp only [zga,Bool.and_eq_true] at ho
  exact sv (zls t (h x ho.1) (h i ho.2))
 | index t x i =>
  simp only [zga,Bool.and_eq_true] at ho
  exact sv (zoY t (h x ho.1) (h i ho.2))
 | lookup t x k ok =>
  simp only [zga,Bool.and_eq_true] at ho
  exact sv (znn hz ho.1.1 (h x ho.1.2) (h k ho.2) ok)
 | mapUpdate t m k x =>
  simp only [zga,Bool.and_eq_true] at ho
  exact su (zez h1 ho.1.1.1 (h m ho.1.1.2) (h k ho.1.2) (h x ho.2))
 | insert t m k x =>
  simp only [zga,Bool.and_eq_true] at ho
  exact su (zez h1 ho.1.1.1 (h m ho.1.1.2) (h k ho.1.2) (h x ho.2))
 | typeAssert x t a ok=>exact sv (zho hz (h x ho) t a ok)
 | extract x i=>exact sv (zlq (h x ho) i)
 | call c =>
  simp only [zga,Bool.and_eq_true] at ho
  by_cases hj:∃ x n,c.callee=.value x/\ρ x=.func (.method n) #[.nilIface] #[]
  ·obtain ⟨x,n,e1,e2⟩:=hj
   refine zaj.never ?_
   have e3:resolve ρ c ty=pure { target:=.fn (.method n) #[],args:=#[.nilIface] ++ c.args.map ρ }:=by
    unfold resolve
    simp only [e1,e2]
    rfl
   show zcB L (resolve ρ c ty >>= fun d=>invoke d.target d.args)
   rw [e3]
   show zcB L (invoke (.fn (.method n) #[]) (#[.nilIface] ++ c.args.map ρ))
   unfold invoke
   have e4:(#[Value.nilIface] ++ c.args.map ρ)[0]?=some .nilIface:=by rw [Array.getElem?_append_left (by simp)]; rfl
   simp only [e4]
   exact zap (α:=Next) .nilDeref
  exact zad (zlu hfn h ho.1 ho.2 ty (fun x e n q=>hj ⟨x,n,e,q⟩)) fun _ _ _ _ hd=>znk hz hd.1 hd.2.1 hd.2.2
 | _=>simp [zga] at ho
end
section
open Go Go.Conc
variable {L M:Program}
def codeOk (L:Program):Code->Bool
 | .region _ ops _=>ops.all fun o=>zga L o.op
 | .seq a b=>codeOk L a && codeOk L b
 | .cond c a b=>za1 c && codeOk L a && codeOk L b
 | .block _ c | .loop c | .scope c=>codeOk L c
 | .rangeFunc ..=>false
 | _=>true
def zaO (L:Program):Item->Bool
 | .code c | .inLoop c | .inScope c=>codeOk L c
 | .inBlock _=>true
 | .inRegion ops _=>ops.all fun o=>zga L o.op
 | _=>false
structure zqs (L:Program) (fr:Frame):Prop where
 ok:fr.todo.all (zaO L)=true
 defers:fr.defers=[]
 mode:fr.mode=.run\/fr.mode=.returning
 kind:fr.kind=.normal
 round:fr.roundOf=none
 fnok:∃ fn:Func,L.funcs[fr.fn]?=some fn/\fn.body.isSome=true
def zfZ (L:Program) (R:BR) (fr fr':Frame):Prop:=zqs L fr/\∃ t,fr'={ fr with tmps:=t }/\zaz R fr.tmps t
theorem zfZ.mono {R R':BR} (hR:R.le R') (h:zfZ L R fr fr'):zfZ L R' fr fr':=let ⟨a,t,b,c⟩:=h; ⟨a,t,b,c.mono hR⟩
inductive zcd (L:Program) (R:BR):List Frame->List Frame->Prop
 | nil:zcd L R [] []
 | cons {f f':Frame} {r r':List Frame}:zfZ L R f f'->f.mode=.run->zcd L R r r'->zcd L R (f :: r) (f' :: r')
theorem zcd.mono {R R':BR} (hR:R.le R') {l l':List Frame} (h:zcd L R l l'):zcd L R' l l':=by
 induction h with
 | nil=>exact .nil
 | cons hv hm _ ih=>exact .cons (hv.mono hR) hm ih
theorem zaz.getD {R:BR} (h:zaz R c c') (i:Nat):zao R (c.getD i undef) (c'.getD i undef):=by
 rw [Array.getD_eq_getD_getElem?,Array.getD_eq_getD_getElem?]
 rcases h.get? i with ⟨e1,e2⟩ | ⟨v,v',e1,e2,hv⟩
 ·rw [e1,e2]; exact .tuple rfl (fun i h=>absurd h (by simp))
 ·rw [e1,e2]; exact hv
theorem zgR {R:BR} {t:Array Value} (h:zaz R fr.tmps t):zeB R fr.eval ({ fr with tmps:=t }:Frame).eval:=by
 intro x hx
 cases x with
 | tmp i=>exact h.getD i
 | const v=>exact zdS 9 v hx R
 | func f=>exact .func (.func f) hx rfl (fun i h=>absurd h (by simp)) rfl (fun i h=>absurd h (by simp))
 | global g=>simp [za1] at hx
theorem zao.undef {R:BR}:zao R undef undef:=.tuple rfl (fun i h=>absurd h (by simp))
theorem zjK {R:BR} {t:Array Value} (h:zaz R t t') (ops:Array Oper) (j:Nat):yielded ops t j=yielded ops t' j:=by
 unfold yielded
 cases (ops[j]?).bind (·.dst) with
 | none=>rfl
 | some d =>
  simp only [Option.bind_some]
  rcases h.get? d with ⟨e1,e2⟩ | ⟨v,v',e1,e2,hv⟩
  ·rw [e1,e2]
  ·rw [e1,e2]
   cases hv with
   | junk _ hj=>cases v' with | bool b=>cases hj | _=>rfl
   | _=>rfl
theorem zbQ {R:BR} {t:Array Value} (ho:zqs L fr) (h:zaz R fr.tmps t) (hv:zao R v v'):zfZ L R (fr.finish v) (({ fr with tmps:=t }:Frame).finish v'):=by
 have hok:=ho.ok
 unfold Frame.finish
 dsimp only
 split
 ·rename_i ops i rest k htd
  rw [htd] at hok
  have hok2:(Item.inRegion ops rest :: k).all (zaO L)=true:=by simpa [zaO] using hok
  cases hd:(ops[i]?).bind (·.dst) with
  | none=>exact ⟨⟨hok2,ho.defers,ho.mode,ho.kind,ho.round,ho.fnok⟩,t,rfl,h⟩
  | some d=>exact ⟨⟨hok2,ho.defers,ho.mode,ho.kind,ho.round,ho.fnok⟩,t.setIfInBounds d v',rfl,h.set d hv⟩
 ·rename_i htd; rw [htd] at hok; simp [zaO] at hok
 ·rename_i htd; rw [htd] at hok; simp [zaO] at hok
 ·rename_i htd; rw [htd] at hok; simp [zaO] at hok
 ·rename_i htd; rw [htd] at hok; simp [zaO] at hok
 ·exact ⟨ho,t,rfl,h⟩
structure Bodies (L M:Program) (X:FuncId->Prop):Prop where
 same:∀ (f:Nat) (fn:Func),L.funcs[f]?=some fn->fn.body.isSome=true->¬ X f->M.funcs[f]?=some fn
 code:∀ (f:Nat) (fn:Func) (c:Code),L.funcs[f]?=some fn->fn.body=some c->¬ X f->codeOk L c=true
 res:∀ (f:Nat) (fn fn':Func),L.funcs[f]?=some fn->M.funcs[f]?=some fn'->fn'.results=fn.results
 early:∀ g,L.stepOf g=none
 ahead:L.follows .staticDataAhead=true
 mixed:M.follows .mixedOrders=L.follows .mixedOrders
theorem zdF {R:BR} (B:Bodies L M X) {f:Nat} {fn:Func} (hf:L.funcs[f]?=some fn) (hb:fn.body.isSome=true) (hx:¬ X f) {a a':Array Value} (h:zaz R a a'):zfZ L R (Frame.enter L f a .normal) (Frame.enter M f a' .normal):=by
 have hM:=B.same f fn hf hb hx
 cases hc:fn.body with
 | none=>rw [hc] at hb; cases hb
 | some c =>
  have hok:=B.code f fn c hf hc hx
  unfold Frame.enter
  simp only [hf,hM,hc,Option.map_some,Option.getD_some,Option.bind_some]
  refine ⟨⟨by simpa [zaO] using hok,rfl,Or.inl rfl,rfl,rfl,fn,hf,by rw [hc]; rfl⟩,a' ++ Array.replicate (fn.ntmps - a'.size) undef,rfl,?_⟩
  rw [<- h.1]
  refine h.app ⟨by simp,fun i h1 h2=>?_⟩
  simp only [Array.getElem_replicate]
  exact zao.undef
theorem zeg {dy:Option Dying} (h:GStep.go { frame:=fr,callers:=cs,status:=st,dying:=dy } w es=.go (G fr1 cs1) w1 es1):st=.running/\dy=none/\fr=fr1/\cs=cs1/\w=w1:=by
 simp only [G,GStep.go.injEq,Goroutine.mk.injEq] at h
 exact ⟨h.1.2.2.1,h.1.2.2.2.1,h.1.1,h.1.2.1,h.2.1⟩
theorem raise_mode (fr:Frame) (vs:List PanicEntry):∃ c,(fr.raise vs).mode=.panicking c:=by
 unfold Frame.raise
 split <;> exact ⟨_,rfl⟩
def zpk (L M:Program) (X:FuncId->Prop) (R:BR) (fr fr':Frame) (cs cs':List Frame):Prop :=
 (zfZ L R fr fr'/\zcd L R cs cs')\/∃ f a a',X f/\znR f a.size=true/\fr=Frame.enter L f a .normal/\fr'=Frame.enter M f a' .normal/\zaz R a a'/\zcd L R cs cs'/\(∃ fn fn':Func,L.funcs[f]?=some fn/\M.funcs[f]?=some fn'/\fn.body.isSome=true)/\cs ≠ []
def ze7 (w w1:World) (f:World->GStep) (fr1:Frame) (cs1:List Frame):Prop :=
 ∃ k,w1.tape=w.tape/\w1.drawn=w.drawn + k/\∀ τ d,(∀ i,i < k->∀ q,τ (d + i) q=w.tape (w.drawn + i) q)->∃ es,f (w.tp τ d)=.go (G fr1 cs1) (w1.tp τ (d + k)) es
structure zgM (L M:Program) (X:FuncId->Prop) (N:Nat) (R R':BR) (w w' w1 w1':World) (fr1 fr1':Frame) (cs1 cs1':List Frame) (es:Array Event):Prop where
 went:zd9 N R R' w w' w1 w1'
 after:zpk L M X R' fr1 fr1' cs1 cs1'
 evs:∀ e ∈ es,EvR N R' e
theorem zfd (B:Bodies L M X) (fr:Frame) (cs:List Frame) (g:Nat) (w:World):∃ o w' es,early L fr cs none g w=.ended o w' es:=by
 unfold early
 simp only [B.ahead,B.early,Bool.not_true,Bool.false_eq_true,if_false]
 exact ⟨_,_,_,rfl⟩
theorem zl8 (h:endFatal L fr cs none m w=.go (G fr1 cs1) w1 es1):False:=by
 unfold endFatal at h
 dsimp only at h
 split at h
 ·unfold dieOf at h
  have:=(zeg h).2.1
  cases this
 ·cases h
 ·cases h
theorem znt (h:endThrow fr m w=.go (G fr1 cs1) w1 es1):False:=by
 unfold endThrow dieOf at h
 have:=(zeg h).2.1
 cases this
theorem zdA {s:GStep} (h:GStep.after es s=.go g w es1):∃ es2,s=.go g w es2/\es1=es ++ es2:=by
 cases s <;> simp only [GStep.after] at h <;> first | (cases h; exact ⟨_,rfl,rfl⟩) | cases h
theorem zhD (B:Bodies L M X) {s:Sem Next} (h:stepG.apply L true fr cs none s w=.go (G fr1 cs1) w1 es1) (hm:fr1.mode=.run\/fr1.mode=.returning):∃ x w2,s.run L w=.ok x w2:=by
 cases hr:s.run L w with
 | ok x w2=>exact ⟨x,w2,rfl⟩
 | halt hh w2 =>
  exfalso
  unfold stepG.apply at h
  simp only [Sem.runT_eq,if_true,hr] at h
  obtain ⟨es2,h,_⟩:=zdA h
  cases hh with
  | panic v =>
   obtain ⟨_,_,e,_,_⟩:=zeg h
   obtain ⟨c,hc⟩:=raise_mode fr [{ v,recovered:=false }]
   rw [e] at hc
   rcases hm with hm | hm <;> (rw [hm] at hc; cases hc)
  | goexit =>
   obtain ⟨_,_,e,_,_⟩:=zeg h
   obtain ⟨c,hc⟩:=raise_mode fr [goexitEntry]
   rw [e] at hc
   rcases hm with hm | hm <;> (rw [hm] at hc; cases hc)
  | blocked=>have:=(zeg h).1; cases this
  | waiting=>have:=(zeg h).1; cases this
  | exit c=>cases h
  | fatal m=>exact zl8 h
  | throw m=>exact znt h
  | unsupported u =>
   cases u with
   | initOrder g =>
    obtain ⟨o,w',es,e⟩:=zfd B fr cs g w2
    have h':early L fr cs none g w2=.go (G fr1 cs1) w1 es2:=h
    rw [e] at h'
    cases h'
   | _=>cases h
  | stuck s=>cases h
theorem ze9 {s:Sem Next} (hk:(fr.kind == CallKind.early)=false) (h:s.run P w=.ok (.value v) w2):∃ es,stepG.apply P true fr cs none s w=.go (G (fr.finish v) cs) w2 es:=by
 unfold stepG.apply
 simp only [Sem.runT_eq,if_true,h,hk]
 exact ⟨_,rfl⟩
theorem zgf {s:Sem Next} (hk:(fr.kind == CallKind.early)=false) (h:s.run P w=.ok .skip w2):∃ es,stepG.apply P true fr cs none s w=.go (G (fr.finish undef) cs) w2 es:=by
 unfold stepG.apply
 simp only [Sem.runT_eq,if_true,h,hk]
 exact ⟨_,rfl⟩
theorem ze8 {s:Sem Next} {a:Array Value} (hk:(fr.kind == CallKind.early)=false) (hreg:∃ ops i r k,fr.todo=.inRegion ops (i :: r) :: k) (h:s.run P w=.ok (.enter f a) w2) :
  ∃ es,stepG.apply P true fr cs none s w=.go (G (Frame.enter P f a .normal) (fr :: cs)) w2 es:=by
 obtain ⟨ops,i,r,k,hreg⟩:=hreg
 unfold stepG.apply
 simp only [Sem.runT_eq,if_true,h,hk]
 simp only [hreg]
 exact ⟨_,rfl⟩
theorem zlO [zaB L M] (B:Bodies L M X) {R:BR} {t:Array Value} {s s':Sem Next} 
  (ho:zqs L fr) (hrun:fr.mode=.run) (ht:zaz R fr.tmps t) (hcs:zcd L R cs cs') (hw:za8 N R w w') (hs:zaj L M (QX L) R s s') (hreg:∃ ops i r k,fr.todo=.inRegion ops (i :: r) :: k)
  (h:stepG.apply L true fr (cs ++ base) none s w=.go (G fr1 csx) w1 es1) (hm:fr1.mode=.run\/fr1.mode=.returning) :
  ∃ R' fr1' cs1 cs1' w1' es',csx=cs1 ++ base/\stepG.apply M true { fr with tmps:=t } (cs' ++ rest) none s' w'=.go (G fr1' (cs1' ++ rest)) w1' es'/\zgM L M X N R R' w w' w1 w1' fr1 fr1' cs1 cs1' es'/\ze7 w w1 (stepG.apply L true fr (cs ++ base) none s) fr1 csx:=by
 obtain ⟨x,w2,hx⟩:=zhD B h hm
 obtain ⟨R',x',w2',es',hrT,hwent,hnr,hev,k0,l1,l2,l3⟩:=zhi hs hw hx
 have hregE:=hreg
 obtain ⟨ops,i,r,k,hreg⟩:=hreg
 have hk1:(fr.kind == CallKind.early)=false:=by rw [ho.kind]; rfl
 have hk2:(({ fr with tmps:=t }:Frame).kind == CallKind.early)=false:=hk1
 have hr2:=hrT #[]
 unfold stepG.apply at h
 simp only [Sem.runT_eq,if_true,hx,hk1] at h
 have hgo:∀ (g:Goroutine),(∀ es,GStep.after (seen M fr.fn (#[] ++ es')) (.go g w2' es)=.go g w2' (seen M fr.fn (#[] ++ es') ++ es)):=fun g es=>rfl
 have hevs:∀ e ∈ seen M fr.fn (#[] ++ es') ++ #[],EvR N R' e:=by
  intro e he
  have:=mem_seen (by simpa using he)
  exact hev e this
 cases hnr with
 | value hv =>
  obtain ⟨es2,h,_⟩:=zdA h
  obtain ⟨_,_,rfl,rfl,rfl⟩:=zeg h
  refine ⟨R',_,cs,cs',w2',_,rfl,?_,⟨hwent,Or.inl ⟨zbQ ho (ht.mono hwent.le) hv,hcs.mono hwent.le⟩,hevs⟩,k0,l1,l2,fun τ d hh=>ze9 hk1 (l3 τ d hh)⟩
  unfold stepG.apply
  simp only [if_true,hr2,hk1]
  rfl
 | skip =>
  obtain ⟨es2,h,_⟩:=zdA h
  obtain ⟨_,_,rfl,rfl,rfl⟩:=zeg h
  refine ⟨R',_,cs,cs',w2',_,rfl,?_,⟨hwent,Or.inl ⟨zbQ ho (ht.mono hwent.le) zao.undef,hcs.mono hwent.le⟩,hevs⟩,k0,l1,l2,fun τ d hh=>zgf hk1 (l3 τ d hh)⟩
  unfold stepG.apply
  simp only [if_true,hr2,hk1]
  rfl
 | @enter f a a' hfn har ha =>
  obtain ⟨es2,h,_⟩:=zdA h
  obtain ⟨fn,hf,hb⟩:=hfn
  have hkind:(match fr.todo with | .call _ true _ _ :: _=>CallKind.wrapped | _=>CallKind.normal)=CallKind.normal:=by rw [hreg]
  have h':GStep.go { frame:=Frame.enter L f a (match fr.todo with | .call _ true _ _ :: _=>CallKind.wrapped | _=>CallKind.normal),callers:=fr :: (cs ++ base),status:=.running,dying:=none } w2=GStep.go (G fr1 csx) w1 es2:=h
  rw [hkind] at h'
  obtain ⟨_,_,rfl,rfl,rfl⟩:=zeg h'
  have hcs2:zcd L R' (fr :: cs) ({ fr with tmps:=t } :: cs'):=.cons ⟨ho,t,rfl,ht.mono hwent.le⟩ hrun (hcs.mono hwent.le)
  refine ⟨R',Frame.enter M f a' .normal,fr :: cs,{ fr with tmps:=t } :: cs',w2',seen M fr.fn (#[] ++ es') ++ #[],rfl,?_,⟨hwent,?_,hevs⟩,k0,l1,l2,fun τ d hh=>ze8 hk1 hregE (l3 τ d hh)⟩
  ·unfold stepG.apply
   simp only [if_true,hr2,hk1]
   show GStep.after _ (GStep.go { frame:=Frame.enter M f a' (match fr.todo with | .call _ true _ _ :: _=>CallKind.wrapped | _=>CallKind.normal),callers:=_,status:=.running,dying:=none } w2')=_
   rw [hkind]
   rfl
  ·by_cases hX:X f
   ·obtain ⟨_,fn',hf',_,_⟩:=zaB.fn (L:=L) (M:=M) f fn hf hb
    exact Or.inr ⟨f,a,a',hX,har,rfl,rfl,ha,hcs2,⟨fn,fn',hf,hf',hb⟩,by simp⟩
   ·exact Or.inl ⟨zdF B hf hb hX ha,hcs2⟩
theorem zd2 (P:Program) (main:Bool) (fr:Frame) (cs:List Frame) (w:World) (h:fr.mode=.run):stepG P main (G fr cs) w=stepG.exec P main true fr cs none w:=by
 unfold stepG G
 simp only [h]
theorem zbe (P:Program) (main:Bool) (fr:Frame) (cs:List Frame) (w:World) (h:fr.mode=.returning):stepG P main (G fr cs) w=unwind P main fr cs none w:=by
 unfold stepG G
 simp only [h]
theorem zek [Twin L M] {R:BR} {fn:Func} (hr:fn'.results=fn.results) {t:Array Value} (h:zaz R t t'):zaj L M QV R (results fn t) (results fn' t'):=by
 unfold results
 rw [hr,Array.mapM_eq_mapM_toList,Array.mapM_eq_mapM_toList,<- bind_pure_comp,<- bind_pure_comp]
 have key:∀ (l:List ResultVar) (R1:BR),R.le R1->zaj L M (fun R a b=>zf2 R a b) R1
   (l.mapM fun | .tmp t'=>pure (t.getD t' undef) | .cell a ty=>do loadVar ty (<- asAddr (t.getD a undef)))
   (l.mapM fun | .tmp t=>pure (t'.getD t undef) | .cell a ty=>do loadVar ty (<- asAddr (t'.getD a undef))):=by
  intro l
  induction l with
  | nil=>intro R1 _; rw [List.mapM_nil,List.mapM_nil]; exact zae .nil
  | cons x l ih =>
   intro R1 hR1
   rw [List.mapM_cons,List.mapM_cons]
   have hx:zaj L M QV R1 ((fun | .tmp t'=>pure (t.getD t' undef) | .cell a ty=>do loadVar ty (<- asAddr (t.getD a undef)):ResultVar->Sem Value) x) ((fun | .tmp t=>pure (t'.getD t undef) | .cell a ty=>do loadVar ty (<- asAddr (t'.getD a undef)):ResultVar->Sem Value) x):=by
    cases x with
    | tmp i=>exact zae ((h.mono hR1).getD i)
    | cell a ty=>exact zad (zfA ((h.mono hR1).getD a)) fun _ _ _ _ ha=>zej ty ha
   refine zad hx ?_
   intro R2 hR2 v v' hv
   refine zad (ih R2 (BR.le_trans hR1 hR2)) ?_
   intro R3 hR3 vs vs' hvs
   exact zae (.cons (hv.mono hR3) hvs)
 refine zad (zad (key fn.results.toList R (BR.le_refl R)) fun R1 hR1 vs vs' hvs=>zae (Q:=fun R (a b:Array Value)=>zf2 R a.toList b.toList) (by simpa using hvs)) ?_
 intro R1 hR1 vs vs' hvs
 refine zae ?_
 obtain ⟨vs⟩:=vs
 obtain ⟨vs'⟩:=vs'
 replace hvs:zf2 R1 vs vs':=hvs
 cases hvs with
 | nil=>exact .tuple rfl (fun i h=>absurd h (by simp))
 | cons hv hr =>
  cases hr with
  | nil=>exact hv
  | cons hv2 hr2 =>
   have hl:zf2 R1 (_ :: _ :: _) (_ :: _ :: _):=.cons hv (.cons hv2 hr2)
   rw [dif_neg (by simp),dif_neg (by simp)]
   have len:∀ {a b:List Value},zf2 R1 a b->a.length=b.length:=by
    intro a b hab
    induction hab with
    | nil=>rfl
    | cons _ _ ih=>simp [ih]
   have get:∀ {a b:List Value},zf2 R1 a b->∀ i (h:i < a.length) (h':i < b.length),zao R1 a[i] b[i]:=by
    intro a b hab
    induction hab with
    | nil=>intro i h; simp at h
    | cons hv _ ih =>
     intro i h h'
     cases i with
     | zero=>exact hv
     | succ i=>exact ih i (by simpa using h) (by simpa using h')
   exact .tuple (by simpa using len hl) (fun i h1 h2=>by simpa using get hl i (by simpa using h1) (by simpa using h2))
theorem zfh {id:Nat}:∀ {k k':List Item},exitTo id k=some k'->k.all (zaO L)=true->k'.all (zaO L)=true
 | [],k',h,_=>by simp [exitTo] at h
 | i :: k,k',h,hk=>by
  simp only [List.all_cons,Bool.and_eq_true] at hk
  cases i with
  | inBlock id' =>
   simp only [exitTo] at h
   split at h
   ·cases h; exact hk.2
   ·exact zfh h hk.2
  | _=>simp only [exitTo] at h; exact zfh h hk.2
theorem zcK {l:Nat}:∀ {c c':Code},findLabel c l=some c'->codeOk L c=true->codeOk L c'=true
 | .seq a b,c',h,hc=>by
  simp only [codeOk,Bool.and_eq_true] at hc
  unfold findLabel at h
  split at h
  ·rename_i r hr
   cases h
   simp only [codeOk,Bool.and_eq_true]
   exact ⟨zcK hr hc.1,hc.2⟩
  ·exact zcK h hc.2
 | .label l',c',h,_=>by
  unfold findLabel at h
  split at h
  ·cases h; rfl
  ·cases h
 | .skip,_,h,_ | .region _ _ _,_,h,_ | .cond _ _ _,_,h,_ | .block _ _,_,h,_ | .loop _,_,h,_ | .rangeFunc _ _ _ _,_,h,_ | .exit _,_,h,_ | .scope _,_,h,_ | .goto _,_,h,_ | .ret,_,h,_ | .refuse _,_,h,_=>by simp [findLabel] at h
theorem zfi {l:Nat}:∀ {k k':List Item},gotoIn l k=some k'->k.all (zaO L)=true->k'.all (zaO L)=true
 | [],k',h,_=>by simp [gotoIn] at h
 | i :: k,k',h,hk=>by
  simp only [List.all_cons,Bool.and_eq_true] at hk
  cases i with
  | inScope body =>
   simp only [gotoIn] at h
   split at h
   ·rename_i r hr
    cases h
    have hb:codeOk L body=true:=by simpa [zaO] using hk.1
    simp only [List.all_cons,zaO,Bool.and_eq_true]
    exact ⟨zcK hr hb,hb,hk.2⟩
   ·exact zfi h hk.2
  | _=>simp only [gotoIn] at h; exact zfi h hk.2
theorem zao.bool_of {R:BR} (h:zao R v v') {b:Bool} (e:v=.bool b):v'=.bool b:=by
 subst e
 cases h
 rfl
theorem za7 {R:BR} {t:Array Value} (main:Bool) (ht:zaz R fr.tmps t) (hcs:zcd L R cs cs') (hw:za8 N R w w')
  {fr2:Frame} (hok:zqs L fr2) (ht2:fr2.tmps=fr.tmps)
  (h:GStep.go { frame:=fr2,callers:=cs ++ base,status:=.running,dying:=none } w=.go (G fr1 csx) w1 es1)
  (hL:∀ ww,stepG L true (G fr (cs ++ base)) ww=.go { frame:=fr2,callers:=cs ++ base,status:=.running,dying:=none } ww)
  (hM:stepG M main (G { fr with tmps:=t } (cs' ++ rest)) w'=.go { frame:={ fr2 with tmps:=t },callers:=cs' ++ rest,status:=.running,dying:=none } w') :
  ∃ R' fr1' cs1 cs1' w1' es',csx=cs1 ++ base/\stepG M main (G { fr with tmps:=t } (cs' ++ rest)) w'=.go (G fr1' (cs1' ++ rest)) w1' es'/\zgM L M X N R R' w w' w1 w1' fr1 fr1' cs1 cs1' es'/\ze7 w w1 (stepG L true (G fr (cs ++ base))) fr1 csx:=by
 obtain ⟨_,_,rfl,rfl,rfl⟩:=zeg h
 exact ⟨R,{ fr2 with tmps:=t },cs,cs',w',#[],rfl,hM,⟨zd9.refl hw,Or.inl ⟨⟨hok,t,rfl,by rw [ht2]; exact ht⟩,hcs⟩,by simp⟩,0,rfl,rfl,fun τ d _=>⟨#[],hL (w.tp τ d)⟩⟩
theorem zhp [T:zaB L M] (B:Bodies L M X) (hz:zbo L) {R:BR} (main:Bool)
  (hf:zfZ L R fr fr') (hcs:zcd L R cs cs') (hw:za8 N R w w') (h:stepG L true (G fr (cs ++ base)) w=.go (G fr1 csx) w1 es1) (hm:fr1.mode=.run\/fr1.mode=.returning) (hne:fr.mode=.returning->cs ≠ []) :
  ∃ R' fr1' cs1 cs1' w1' es',csx=cs1 ++ base/\stepG M main (G fr' (cs' ++ rest)) w'=.go (G fr1' (cs1' ++ rest)) w1' es'/\zgM L M X N R R' w w' w1 w1' fr1 fr1' cs1 cs1' es'/\ze7 w w1 (stepG L true (G fr (cs ++ base))) fr1 csx:=by
 obtain ⟨ho,t,rfl,ht⟩:=hf
 obtain ⟨hok,hdef,hmode,hkind,hround,hfn⟩:=ho
 obtain ⟨fn,tmps,todo,defers,mode,kind,roundOf⟩:=fr
 simp only at hok hdef hmode hkind hround hfn ht hne
 subst hdef hkind hround
 have ho:∀ {td:List Item} {md:FrameMode},td.all (zaO L)=true->(md=.run\/md=.returning)->zqs L { fn:=fn,tmps:=tmps,todo:=td,defers:=[],mode:=md,kind:=.normal,roundOf:=none }:=fun a b=>⟨a,rfl,b,rfl,rfl,hfn⟩
 rcases hmode with rfl | rfl
 ·skip
  cases todo with
  | nil=>exact za7 main ht hcs hw (ho hok (Or.inr rfl)) rfl h (fun _=>rfl) rfl
  | cons it k =>
   simp only [List.all_cons,Bool.and_eq_true] at hok
   obtain ⟨hit,hk⟩:=hok
   have hall:(it :: k).all (zaO L)=true:=by simp only [List.all_cons,Bool.and_eq_true]; exact ⟨hit,hk⟩
   cases it with
   | code c =>
    cases c with
    | ret=>exact za7 main ht hcs hw (ho hall (Or.inr rfl)) rfl h (fun _=>rfl) rfl
    | skip=>exact za7 main ht hcs hw (ho hk (Or.inl rfl)) rfl h (fun _=>rfl) rfl
    | label l=>exact za7 main ht hcs hw (ho hk (Or.inl rfl)) rfl h (fun _=>rfl) rfl
    | seq a b =>
     simp only [zaO,codeOk,Bool.and_eq_true] at hit
     exact za7 main ht hcs hw (ho (td:=.code a :: .code b :: k) (by simp only [List.all_cons,zaO,Bool.and_eq_true]; exact ⟨hit.1,hit.2,hk⟩) (Or.inl rfl)) rfl h (fun _=>rfl) rfl
    | cond c a b =>
     simp only [zaO,codeOk,Bool.and_eq_true] at hit
     have hev:=zgR (fr:={ fn:=fn,tmps:=tmps,todo:=.code (.cond c a b) :: k,defers:=[],mode:=.run,kind:=.normal,roundOf:=none }) ht c hit.1.1
     have hstep:∀ (P:Program) (main:Bool) (tm:Array Value) (cc:List Frame) (ww:World),stepG P main (G { fn:=fn,tmps:=tm,todo:=.code (.cond c a b) :: k,defers:=[],mode:=.run,kind:=.normal,roundOf:=none } cc) ww =
       match ({ fn:=fn,tmps:=tm,todo:=.code (.cond c a b) :: k,defers:=[],mode:=.run,kind:=.normal,roundOf:=none }:Frame).eval c with
       | .bool bb=>.go { frame:={ fn:=fn,tmps:=tm,todo:=.code (if bb then a else b) :: k,defers:=[],mode:=.run,kind:=.normal,roundOf:=none },callers:=cc,status:=.running,dying:=none } ww
       | _=>.ended (.stuck "cond: bool expected" (({ fn:=fn,tmps:=tm,todo:=.code (.cond c a b) :: k,defers:=[],mode:=.run,kind:=.normal,roundOf:=none }:Frame).pos P)) ww:=fun _ _ _ _ _=>rfl
     have hM0:=hstep M main t (cs' ++ rest) w'
     rw [hstep] at h
     split at h
     ·rename_i bb hbb
      have hbb':=hev.bool_of hbb
      refine za7 main ht hcs hw (ho (td:=.code (if bb then a else b) :: k) (by simp only [List.all_cons,zaO,Bool.and_eq_true]; exact ⟨by cases bb <;> simp [hit.2,hit.1.2],hk⟩) (Or.inl rfl)) rfl h (fun ww=>by rw [hstep]; simp only [hbb]) ?_
      refine hM0.trans ?_
      simp only [hbb']
     ·cases h
    | block id c=>exact za7 main ht hcs hw (ho (td:=.code c :: .inBlock id :: k) (by simp only [List.all_cons,zaO,Bool.and_eq_true,true_and]; exact ⟨hit,hk⟩) (Or.inl rfl)) rfl h (fun _=>rfl) rfl
    | loop c=>exact za7 main ht hcs hw (ho (td:=.code c :: .inLoop c :: k) (by simp only [List.all_cons,zaO,Bool.and_eq_true]; exact ⟨hit,hit,hk⟩) (Or.inl rfl)) rfl h (fun _=>rfl) rfl
    | scope c=>exact za7 main ht hcs hw (ho (td:=.code c :: .inScope c :: k) (by simp only [List.all_cons,zaO,Bool.and_eq_true]; exact ⟨hit,hit,hk⟩) (Or.inl rfl)) rfl h (fun _=>rfl) rfl
    | exit id =>
     have hstep:∀ (P:Program) (main:Bool) (tm:Array Value) (cc:List Frame) (ww:World),stepG P main (G { fn:=fn,tmps:=tm,todo:=.code (.exit id) :: k,defers:=[],mode:=.run,kind:=.normal,roundOf:=none } cc) ww =
       (exitTo id k).elim (.ended (.stuck "exit, goto: no such block or label" (({ fn:=fn,tmps:=tm,todo:=.code (.exit id) :: k,defers:=[],mode:=.run,kind:=.normal,roundOf:=none }:Frame).pos P)) ww)
        fun k'=>.go { frame:={ fn:=fn,tmps:=tm,todo:=k',defers:=[],mode:=.run,kind:=.normal,roundOf:=none },callers:=cc,status:=.running,dying:=none } ww:=fun _ _ _ _ _=>rfl
     have hM0:=hstep M main t (cs' ++ rest) w'
     rw [hstep] at h
     cases hx:exitTo id k with
     | none=>rw [hx] at h; cases h
     | some k' =>
      rw [hx] at h hM0
      exact za7 main ht hcs hw (ho (zfh hx hk) (Or.inl rfl)) rfl h (fun ww=>by rw [hstep,hx]; rfl) hM0
    | goto l =>
     have hstep:∀ (P:Program) (main:Bool) (tm:Array Value) (cc:List Frame) (ww:World),stepG P main (G { fn:=fn,tmps:=tm,todo:=.code (.goto l) :: k,defers:=[],mode:=.run,kind:=.normal,roundOf:=none } cc) ww =
       (gotoIn l k).elim (.ended (.stuck "exit, goto: no such block or label" (({ fn:=fn,tmps:=tm,todo:=.code (.goto l) :: k,defers:=[],mode:=.run,kind:=.normal,roundOf:=none }:Frame).pos P)) ww)
        fun k'=>.go { frame:={ fn:=fn,tmps:=tm,todo:=k',defers:=[],mode:=.run,kind:=.normal,roundOf:=none },callers:=cc,status:=.running,dying:=none } ww:=fun _ _ _ _ _=>rfl
     have hM0:=hstep M main t (cs' ++ rest) w'
     rw [hstep] at h
     cases hx:gotoIn l k with
     | none=>rw [hx] at h; cases h
     | some k' =>
      rw [hx] at h hM0
      exact za7 main ht hcs hw (ho (zfi hx hk) (Or.inl rfl)) rfl h (fun ww=>by rw [hstep,hx]; rfl) hM0
    | rangeFunc f ps a b=>simp [zaO,codeOk] at hit
    | refuse why=>cases h
    | region id ops draw =>
     have hops:∀ l,(Item.inRegion ops l :: k).all (zaO L)=true:=fun l=>by simp only [List.all_cons,zaO,Bool.and_eq_true]; exact ⟨hit,hk⟩
     cases draw with
     | false=>exact za7 main ht hcs hw (ho (hops _) (Or.inl rfl)) rfl h (fun _=>rfl) rfl
     | true =>
      have hstep:∀ (P:Program) (main:Bool) (tm:Array Value) (cc:List Frame) (ww:World),stepG P main (G { fn:=fn,tmps:=tm,todo:=.code (.region id ops true) :: k,defers:=[],mode:=.run,kind:=.normal,roundOf:=none } cc) ww =
        .go { frame:={ fn:=fn,tmps:=tm,todo:=.inRegion ops (Region.schedule (P.follows .mixedOrders) ops (ww.tape ww.drawn (.order fn id))) :: k,defers:=[],mode:=.run,kind:=.normal,roundOf:=none },callers:=cc,status:=.running,dying:=none } { ww with drawn:=ww.drawn + 1 }:=fun _ _ _ _ _=>rfl
      rw [hstep] at h
      obtain ⟨_,_,rfl,rfl,rfl⟩:=zeg h
      refine ⟨R,_,cs,cs',_,#[],rfl,hstep M main t (cs' ++ rest) w',⟨?_,Or.inl ⟨⟨ho (hops _) (Or.inl rfl),t,?_,ht⟩,hcs⟩,by simp⟩,1,rfl,rfl,fun τ d hh=>⟨#[],?_⟩⟩
      ·exact ⟨BR.le_refl R,⟨hw.one,hw.blk,hw.tape,by simp [hw.drawn],hw.low⟩,fun _ _ x=>Or.inl x,Nat.le_refl _,Nat.le_refl _,fun _ _ _=>rfl,rfl,rfl,rfl⟩
      ·rw [B.mixed,<- hw.tape,<- hw.drawn]
      ·refine (hstep L true tmps (cs ++ base) (w.tp τ d)).trans ?_
       have h0:(w.tp τ d).tape (w.tp τ d).drawn (.order fn id)=w.tape w.drawn (.order fn id):=hh 0 (by omega) _
       rw [h0]
       rfl
   | inBlock id=>exact za7 main ht hcs hw (ho hk (Or.inl rfl)) rfl h (fun _=>rfl) rfl
   | inScope c=>exact za7 main ht hcs hw (ho hk (Or.inl rfl)) rfl h (fun _=>rfl) rfl
   | inLoop c=>exact za7 main ht hcs hw (ho (td:=.code c :: .inLoop c :: k) (by simp only [List.all_cons,zaO,Bool.and_eq_true]; exact ⟨hit,hit,hk⟩) (Or.inl rfl)) rfl h (fun _=>rfl) rfl
   | inRegion ops td =>
    cases td with
    | nil=>exact za7 main ht hcs hw (ho hk (Or.inl rfl)) rfl h (fun _=>rfl) rfl
    | cons i r =>
     have hy:yielded ops tmps=yielded ops t:=funext (zjK ht ops)
     have hstep:∀ (P:Program) (main:Bool) (tm:Array Value) (cc:List Frame) (ww:World),stepG P main (G { fn:=fn,tmps:=tm,todo:=.inRegion ops (i :: r) :: k,defers:=[],mode:=.run,kind:=.normal,roundOf:=none } cc) ww =
       if ((ops[i]?).map (Region.wanted · (yielded ops tm))).getD false=true then stepG.oper P true { fn:=fn,tmps:=tm,todo:=.inRegion ops (i :: r) :: k,defers:=[],mode:=.run,kind:=.normal,roundOf:=none } cc none ww
       else .go { frame:=({ fn:=fn,tmps:=tm,todo:=.inRegion ops (i :: r) :: k,defers:=[],mode:=.run,kind:=.normal,roundOf:=none }:Frame).finish undef,callers:=cc,status:=.running,dying:=none } ww:=fun _ _ _ _ _=>rfl
     have hM0:=hstep M main t (cs' ++ rest) w'
     rw [<- hy] at hM0
     rw [hstep] at h
     split at h
     ·rename_i hwant
      rw [if_pos hwant] at hM0
      simp only [stepG.oper,Frame.oper?] at h
      cases hoi:ops[i]? with
      | none=>rw [hoi] at hwant; cases hwant
      | some o =>
       rw [hoi] at h
       simp only at h
       have hopk:zga L o.op=true:=by
        simp only [zaO] at hit
        rw [Array.all_eq_true_iff_forall_mem] at hit
        exact hit o (Array.mem_of_getElem? hoi)
       have hsr:=zng (M:=M) hz hw.one (fun _=>⟨rfl,rfl⟩) (zgR (fr:={ fn:=fn,tmps:=tmps,todo:=.inRegion ops (i :: r) :: k,defers:=[],mode:=.run,kind:=.normal,roundOf:=none }) ht) (o:=o) hopk
       obtain ⟨R',fr1',cs1,cs1',w1',es',hcx,h1,h2,k0,l1,l2,l3⟩:=zlO (rest:=rest) B (ho hall (Or.inl rfl)) rfl ht hcs hw hsr ⟨ops,i,r,k,rfl⟩ h hm
       refine ⟨R',fr1',cs1,cs1',w1',es',hcx,hM0.trans ?_,h2,k0,l1,l2,fun τ d hh=>?_⟩
       rotate_left
       ·obtain ⟨es,he⟩:=l3 τ d hh
        refine ⟨es,?_⟩
        refine (hstep L true tmps (cs ++ base) (w.tp τ d)).trans ?_
        rw [if_pos hwant]
        simp only [stepG.oper,Frame.oper?,hoi]
        exact he
       simp only [stepG.oper,Frame.oper?,hoi]
       exact h1
     ·rename_i hwant
      rw [if_neg hwant] at hM0
      obtain ⟨_,_,rfl,rfl,rfl⟩:=zeg h
      exact ⟨R,_,cs,cs',w',#[],rfl,hM0,⟨zd9.refl hw,Or.inl ⟨zbQ (ho hall (Or.inl rfl)) ht zao.undef,hcs⟩,by simp⟩,0,rfl,rfl,fun τ d _=>⟨#[],(hstep L true tmps (cs ++ base) (w.tp τ d)).trans (by rw [if_neg hwant]; rfl)⟩⟩
   | _=>simp [zaO] at hit
 ·skip
  cases hcs with
  | nil=>exact absurd rfl (hne rfl)
  | @cons c c' r r' hc hcm hcr =>
   obtain ⟨fun1,hfn1,hb⟩:=hfn
   obtain ⟨_,fun2,hfn2,_,_⟩:=zaB.fn (L:=L) (M:=M) fn fun1 hfn1 hb
   have hsr:=zek (L:=L) (M:=M) (B.res _ _ _ hfn1 hfn2) ht
   rw [zbe _ _ _ _ _ rfl] at h
   simp only [unwind,hfn1,Sem.runT_eq,List.cons_append] at h
   obtain ⟨es2,h,_⟩:=zdA h
   cases hr:(results fun1 tmps).run L w with
   | halt hh w2 =>
    rw [hr] at h
    exfalso
    cases hh <;> cases h
   | ok v w2 =>
    rw [hr] at h
    obtain ⟨R',v',w2',es',hrT,hwent,hv,hev,k0,l1,l2,l3⟩:=zhi hsr hw hr
    simp only [doReturn] at h
    obtain ⟨_,_,rfl,rfl,rfl⟩:=zeg h
    obtain ⟨hco,tc,rfl,htc⟩:=hc
    refine ⟨R',({ c with tmps:=tc }:Frame).finish v',r,r',w2',seen M fn (#[] ++ es') ++ #[],rfl,?_,⟨hwent,Or.inl ⟨zbQ hco (htc.mono hwent.le) hv,hcr.mono hwent.le⟩,?_⟩,k0,l1,l2,fun τ d hh=>?_⟩
    ·rw [zbe _ _ _ _ _ rfl]
     simp only [unwind,hfn2,hrT,List.cons_append,doReturn]
     rfl
    ·intro e he
     exact hev e (by simpa using mem_seen (by simpa using he))
    ·dsimp only
     rw [zbe _ _ _ _ _ rfl]
     simp only [unwind,hfn1,Sem.runT_eq,l3 τ d hh,doReturn,List.cons_append]
     exact ⟨_,rfl⟩
theorem ziO [zaB L M] (B:Bodies L M X) {R:BR} {s s':Sem Next} 
  (ho:zqs L fr) (hrun:fr.mode=.run) (hw:za8 N R w w') (hs:zaj L M (QX L) R s s') (hreg:∃ ops i r k,fr.todo=.inRegion ops (i :: r) :: k) :
  (∃ fr1 csx w1 es,stepG.apply L true fr cs none s w=.go (G fr1 csx) w1 es/\(fr1.mode=.run\/fr1.mode=.returning)) \/
  (∃ fr1 w1 es ch,stepG.apply L true fr cs none s w=.go (G fr1 cs) w1 es/\fr1.mode=.panicking ch/\fr1.defers=[]) \/
  (∃ o w1 es,stepG.apply L true fr cs none s w=.ended o w1 es):=by
 have hk1:(fr.kind == CallKind.early)=false:=by rw [ho.kind]; rfl
 have hfin:∀ v,(fr.finish v).mode=.run:=by
  intro v
  obtain ⟨ops,i,r,k,e⟩:=hreg
  unfold Frame.finish
  rw [e]
  exact hrun
 cases hr:s.run L w with
 | ok x w2 =>
  obtain ⟨R',x',w2',es',hrT,hwent,hnr,hev,_⟩:=zhi hs hw hr
  refine Or.inl ?_
  cases hnr with
  | value hv =>
   obtain ⟨es,e⟩:=ze9 (cs:=cs) hk1 hr
   exact ⟨_,_,_,es,e,Or.inl (hfin _)⟩
  | skip =>
   obtain ⟨es,e⟩:=zgf (cs:=cs) hk1 hr
   exact ⟨_,_,_,es,e,Or.inl (hfin _)⟩
  | enter f hfn _ ha =>
   obtain ⟨es,e⟩:=ze8 (cs:=cs) hk1 hreg hr
   exact ⟨_,_,_,es,e,Or.inl rfl⟩
 | halt hh w2 =>
  have hsoft:=zkm hs hw hr
  refine Or.inr ?_
  unfold stepG.apply
  simp only [Sem.runT_eq,if_true,hr,hk1]
  cases hsoft with
  | panic v =>
   refine Or.inl ⟨fr.raise [{ v,recovered:=false }],w2,_,[{ v,recovered:=false }],rfl,?_,?_⟩
   ·unfold Frame.raise; rw [hrun]
   ·unfold Frame.raise; rw [hrun]; exact ho.defers
  | unsupported u =>
   refine Or.inr ?_
   cases u with
   | initOrder g =>
    obtain ⟨o,w',es,e⟩:=zfd B fr cs g w2
    simp only [e]
    exact ⟨_,_,_,rfl⟩
   | _=>exact ⟨_,_,_,rfl⟩
  | stuck t=>exact Or.inr ⟨_,_,_,rfl⟩
theorem zkT [T:zaB L M] (B:Bodies L M X) (hz:zbo L) {R:BR} 
  (hf:zfZ L R fr fr') (hcs:zcd L R cs cs') (hw:za8 N R w w') (hne:fr.mode=.returning->cs ≠ []) :
  (∃ fr1 csx w1 es,stepG L true (G fr (cs ++ base)) w=.go (G fr1 csx) w1 es/\(fr1.mode=.run\/fr1.mode=.returning)) \/
  (∃ fr1 w1 es ch,stepG L true (G fr (cs ++ base)) w=.go (G fr1 (cs ++ base)) w1 es/\fr1.mode=.panicking ch/\fr1.defers=[]) \/
  (∃ o w1 es,stepG L true (G fr (cs ++ base)) w=.ended o w1 es):=by
 obtain ⟨ho,t,rfl,ht⟩:=hf
 obtain ⟨hok,hdef,hmode,hkind,hround,hfn⟩:=ho
 obtain ⟨fn,tmps,todo,defers,mode,kind,roundOf⟩:=fr
 simp only at hok hdef hmode hkind hround hfn ht hne
 subst hdef hkind hround
 rcases hmode with rfl | rfl
 ·cases todo with
  | nil=>exact Or.inl ⟨_,_,_,_,rfl,Or.inr rfl⟩
  | cons it k =>
   have hall:=hok
   simp only [List.all_cons,Bool.and_eq_true] at hok
   obtain ⟨hit,hk⟩:=hok
   cases it with
   | code c =>
    cases c with
    | ret=>exact Or.inl ⟨_,_,_,_,rfl,Or.inr rfl⟩
    | cond c a b =>
     have hstep:stepG L true (G { fn:=fn,tmps:=tmps,todo:=.code (.cond c a b) :: k,defers:=[],mode:=.run,kind:=.normal,roundOf:=none } (cs ++ base)) w =
       match ({ fn:=fn,tmps:=tmps,todo:=.code (.cond c a b) :: k,defers:=[],mode:=.run,kind:=.normal,roundOf:=none }:Frame).eval c with
       | .bool bb=>.go { frame:={ fn:=fn,tmps:=tmps,todo:=.code (if bb then a else b) :: k,defers:=[],mode:=.run,kind:=.normal,roundOf:=none },callers:=cs ++ base,status:=.running,dying:=none } w
       | _=>.ended (.stuck "cond: bool expected" (({ fn:=fn,tmps:=tmps,todo:=.code (.cond c a b) :: k,defers:=[],mode:=.run,kind:=.normal,roundOf:=none }:Frame).pos L)) w:=rfl
     rw [hstep]
     split
     ·exact Or.inl ⟨_,_,_,_,rfl,Or.inl rfl⟩
     ·exact Or.inr (Or.inr ⟨_,_,_,rfl⟩)
    | exit id =>
     have hstep:stepG L true (G { fn:=fn,tmps:=tmps,todo:=.code (.exit id) :: k,defers:=[],mode:=.run,kind:=.normal,roundOf:=none } (cs ++ base)) w =
       (exitTo id k).elim (.ended (.stuck "exit, goto: no such block or label" (({ fn:=fn,tmps:=tmps,todo:=.code (.exit id) :: k,defers:=[],mode:=.run,kind:=.normal,roundOf:=none }:Frame).pos L)) w)
        fun k'=>.go { frame:={ fn:=fn,tmps:=tmps,todo:=k',defers:=[],mode:=.run,kind:=.normal,roundOf:=none },callers:=cs ++ base,status:=.running,dying:=none } w:=rfl
     rw [hstep]
     cases exitTo id k with
     | none=>exact Or.inr (Or.inr ⟨_,_,_,rfl⟩)
     | some k'=>exact Or.inl ⟨_,_,_,_,rfl,Or.inl rfl⟩
    | goto l =>
     have hstep:stepG L true (G { fn:=fn,tmps:=tmps,todo:=.code (.goto l) :: k,defers:=[],mode:=.run,kind:=.normal,roundOf:=none } (cs ++ base)) w =
       (gotoIn l k).elim (.ended (.stuck "exit, goto: no such block or label" (({ fn:=fn,tmps:=tmps,todo:=.code (.goto l) :: k,defers:=[],mode:=.run,kind:=.normal,roundOf:=none }:Frame).pos L)) w)
        fun k'=>.go { frame:={ fn:=fn,tmps:=tmps,todo:=k',defers:=[],mode:=.run,kind:=.normal,roundOf:=none },callers:=cs ++ base,status:=.running,dying:=none } w:=rfl
     rw [hstep]
     cases gotoIn l k with
     | none=>exact Or.inr (Or.inr ⟨_,_,_,rfl⟩)
     | some k'=>exact Or.inl ⟨_,_,_,_,rfl,Or.inl rfl⟩
    | rangeFunc f ps a b=>simp [zaO,codeOk] at hit
    | refuse why=>exact Or.inr (Or.inr ⟨_,_,_,rfl⟩)
    | region id ops draw=>cases draw <;> exact Or.inl ⟨_,_,_,_,rfl,Or.inl rfl⟩
    | _=>exact Or.inl ⟨_,_,_,_,rfl,Or.inl rfl⟩
   | inBlock id=>exact Or.inl ⟨_,_,_,_,rfl,Or.inl rfl⟩
   | inScope c=>exact Or.inl ⟨_,_,_,_,rfl,Or.inl rfl⟩
   | inLoop c=>exact Or.inl ⟨_,_,_,_,rfl,Or.inl rfl⟩
   | inRegion ops td =>
    cases td with
    | nil=>exact Or.inl ⟨_,_,_,_,rfl,Or.inl rfl⟩
    | cons i r =>
     have hstep:stepG L true (G { fn:=fn,tmps:=tmps,todo:=.inRegion ops (i :: r) :: k,defers:=[],mode:=.run,kind:=.normal,roundOf:=none } (cs ++ base)) w =
       if ((ops[i]?).map (Region.wanted · (yielded ops tmps))).getD false=true then stepG.oper L true { fn:=fn,tmps:=tmps,todo:=.inRegion ops (i :: r) :: k,defers:=[],mode:=.run,kind:=.normal,roundOf:=none } (cs ++ base) none w
       else .go { frame:=({ fn:=fn,tmps:=tmps,todo:=.inRegion ops (i :: r) :: k,defers:=[],mode:=.run,kind:=.normal,roundOf:=none }:Frame).finish undef,callers:=cs ++ base,status:=.running,dying:=none } w:=rfl
     rw [hstep]
     split
     ·cases hoi:ops[i]? with
      | none=>rename_i hwant; rw [hoi] at hwant; cases hwant
      | some o =>
       have hopk:zga L o.op=true:=by
        simp only [zaO] at hit
        rw [Array.all_eq_true_iff_forall_mem] at hit
        exact hit o (Array.mem_of_getElem? hoi)
       have hsr:=zng (M:=M) hz hw.one (fun _=>⟨rfl,rfl⟩) (zgR (fr:={ fn:=fn,tmps:=tmps,todo:=.inRegion ops (i :: r) :: k,defers:=[],mode:=.run,kind:=.normal,roundOf:=none }) ht) (o:=o) hopk
       simp only [stepG.oper,Frame.oper?,hoi]
       exact ziO B (fr:={ fn:=fn,tmps:=tmps,todo:=.inRegion ops (i :: r) :: k,defers:=[],mode:=.run,kind:=.normal,roundOf:=none }) ⟨hall,rfl,Or.inl rfl,rfl,rfl,hfn⟩ rfl hw hsr ⟨ops,i,r,k,rfl⟩
     ·exact Or.inl ⟨_,_,_,_,rfl,Or.inl rfl⟩
   | _=>simp [zaO] at hit
 ·cases hcs with
  | nil=>exact absurd rfl (hne rfl)
  | @cons c c' r r' hc hcm hcr =>
   obtain ⟨fun1,hfn1,hb⟩:=hfn
   have hsr:=zek (L:=L) (M:=M) (fn':=fun1) rfl ht
   rw [zbe _ _ _ _ _ rfl]
   simp only [unwind,hfn1,Sem.runT_eq,List.cons_append]
   cases hr:(results fun1 tmps).run L w with
   | halt hh w2 =>
    refine Or.inr (Or.inr ?_)
    cases zkm hsr hw hr with
    | panic v=>exact ⟨_,_,_,rfl⟩
    | unsupported u=>exact ⟨_,_,_,rfl⟩
    | stuck t=>exact ⟨_,_,_,rfl⟩
   | ok v w2 =>
    refine Or.inl ⟨c.finish v,_,w2,_,rfl,?_⟩
    obtain ⟨hco,tc,rfl,htc⟩:=hc
    exact (zbQ hco htc (zao.undef)).1.mode.imp (fun h=>by unfold Frame.finish at h ⊢; split at h <;> simp_all) (fun h=>by unfold Frame.finish at h ⊢; split at h <;> simp_all)
def zaM (L:Program):Frame:={ fn:=L.funcs.size,tmps:=#[],todo:=[.call default false "fmt's door" #[]],defers:=[],mode:=.run,kind:=.normal }
theorem zqj (h:stepG L true (G fr cs) w=.go (G fr1 cs1) w1 es):step L (lone fr cs w)=.next (lone fr1 cs1 w1):=by
 refine step_lone_go ?_
 have:stepG L true { frame:=fr,callers:=cs,status:=.running,dying:=none } w=.go (G fr1 cs1) w1 es:=h
 rw [this]
 rfl
theorem step_end {o:Outcome} (h:stepG L true (G fr cs) w=.ended o w1 es):step L (lone fr cs w)=.ended o w1:=by
 refine step_lone_ended ?_
 have:stepG L true { frame:=fr,callers:=cs,status:=.running,dying:=none } w=.ended o w1 es:=h
 rw [this]
 rfl
theorem zch (h:stepG L true (G fr cs) w=.go (G fr1 cs1) w1 es) (n:Nat):runN L (n + 1) (lone fr cs w)=runN L n (lone fr1 cs1 w1):=by
 simp only [runN,zqj h]
theorem zb9 {o:Outcome} (h:stepG L true (G fr cs) w=.ended o w1 es) (n:Nat):runN L (n + 1) (lone fr cs w)=.ended o w1:=by
 simp only [runN,step_end h]
theorem zb7 (h:Stepped.next (lone fr cs w)=.next (lone fr1 cs1 w1)):fr=fr1/\cs=cs1/\w=w1:=by
 simp only [lone,Stepped.next.injEq,Machine.mk.injEq] at h
 obtain ⟨h1,h2,_⟩:=h
 have h3:=congrArg (fun a=>a[0]?) h2
 simp at h3
 exact ⟨h3.1,h3.2,h1⟩
theorem zhF (h1:fr.fn=L.funcs.size) (h2:fr.todo=[.call default false "fmt's door" #[]]):fr.catches L=true:=by
 have e:L.funcs[fr.fn]?=none:=by rw [h1]; exact Array.getElem?_eq_none (Nat.le_refl _)
 unfold Frame.catches
 rw [e,h2]
 simp
theorem zp7:∀ (cs:List Frame),(∀ c ∈ cs,c.defers=[])->∀ (fr:Frame) (ch:List PanicEntry) (w:World),fr.mode=.panicking ch->fr.defers=[]->∀ (n:Nat) (m:Machine),runN L n (lone fr (cs ++ [zaM L]) w)=.next m->∃ fr' cs' w' ch',m=lone fr' cs' w'/\fr'.mode=.panicking ch':=by
 have hstep:∀ (fr c:Frame) (r:List Frame) (ch:List PanicEntry) (w:World),fr.mode=.panicking ch->fr.defers=[]->(∃ o w1 es,stepG L true (G fr (c :: r)) w=.ended o w1 es)\/∃ es,stepG L true (G fr (c :: r)) w=.go (G (c.raise ch) r) w es:=by
  intro fr c r ch w h1 h2
  have e:stepG L true (G fr (c :: r)) w=unwind L true fr (c :: r) none w:=by unfold stepG G; simp only [h1]
  rw [e]
  simp only [unwind,h2,h1]
  split
  ·exact Or.inl ⟨_,_,_,rfl⟩
  ·exact Or.inr ⟨_,rfl⟩
 intro cs
 induction cs with
 | nil =>
  intro _ fr ch w h1 h2 n m hr
  cases n with
  | zero=>simp only [runN,Stepped.next.injEq] at hr; exact ⟨_,_,_,ch,hr.symm,h1⟩
  | succ n =>
   rcases hstep fr (zaM L) [] ch w h1 h2 with ⟨o,w1,es,e⟩ | ⟨es,e⟩
   ·rw [List.nil_append,zb9 e] at hr; cases hr
   ·rw [List.nil_append,zch e] at hr
    have hm:((zaM L).raise ch).mode=.panicking ch:=rfl
    cases n with
    | zero=>simp only [runN,Stepped.next.injEq] at hr; exact ⟨_,_,_,ch,hr.symm,hm⟩
    | succ n =>
     have e2:stepG L true (G ((zaM L).raise ch) []) w=.ended (.unsupported (.noEntry "a panic or Goexit out of a method that fmt calls behind a cut's door") (((zaM L).raise ch).pos L)) w:=by
      have e3:stepG L true (G ((zaM L).raise ch) []) w=unwind L true ((zaM L).raise ch) [] none w:=by unfold stepG G; simp only [hm]
      rw [e3]
      have hc:((zaM L).raise ch).catches L=true:=zhF rfl rfl
      have hd:((zaM L).raise ch).defers=[]:=rfl
      simp only [unwind,hd,hm,hc,if_true]
     rw [zb9 e2] at hr
     cases hr
 | cons c cs ih =>
  intro hall fr ch w h1 h2 n m hr
  cases n with
  | zero=>simp only [runN,Stepped.next.injEq] at hr; exact ⟨_,_,_,ch,hr.symm,h1⟩
  | succ n =>
   rcases hstep fr c (cs ++ [zaM L]) ch w h1 h2 with ⟨o,w1,es,e⟩ | ⟨es,e⟩
   ·rw [List.cons_append,zb9 e] at hr; cases hr
   ·rw [List.cons_append,zch e] at hr
    obtain ⟨ch',hm⟩:=raise_mode c ch
    have hd:(c.raise ch).defers=[]:=by
     have:=hall c (by simp)
     unfold Frame.raise
     split <;> exact this
    exact ih (fun x hx=>hall x (by simp [hx])) (c.raise ch) ch' w hm hd n m hr
theorem zpt:Extern.next "fmt's door"=none:=by decide
theorem zjV {fn:Func} (h1:fr.mode=.returning) (h2:fr.defers=[]) (h3:fr.kind=.normal) (h4:L.funcs[fr.fn]?=some fn) (n:Nat) (h:runN L (n + 1) (lone fr [zaM L] w)=.next (lone fr' [zaM L] w')):False:=by
 have e:stepG L true (G fr [zaM L]) w=unwind L true fr [zaM L] none w:=zbe _ _ _ _ _ h1
 simp only [unwind,h2,h1,h4,Sem.runT_eq] at e
 cases hr:(results fn fr.tmps).run L w with
 | halt hh w2 =>
  rw [hr] at e
  cases hh <;> (rw [zb9 e] at h; cases h)
 | ok v w2 =>
  rw [hr] at e
  simp only [doReturn,h3] at e
  have e':stepG L true (G fr [zaM L]) w=.go (G ((zaM L).finish v) []) w2 (seen L fr.fn ((results fn fr.tmps).events L w #[]) ++ #[]):=e
  rw [zch e'] at h
  cases n with
  | zero=>obtain ⟨_,hc,_⟩:=zb7 h; cases hc
  | succ n =>
   have e2:stepG L true (G ((zaM L).finish v) []) w2=.ended (.stuck ("no extern row " ++ "fmt's door") (((zaM L).finish v).pos L)) w2:=by
    have hm:((zaM L).finish v).mode=.run:=rfl
    rw [zd2 _ _ _ _ _ hm]
    have ht:((zaM L).finish v).todo=[.extern "fmt's door" (#[].push v)]:=rfl
    simp only [stepG.exec,ht,zpt,Option.elim_none]
   rw [zb9 e2] at h
   cases h
end
section
open Go Go.Conc
variable {L:Program}
def zkw (L:Program) (fr:Frame) (cs:List Frame) (w:World):Prop:=∃ N R fr' cs' w',zfZ L R fr fr'/\zcd L R cs cs'/\za8 N R w w'
theorem za8.tp {R:BR} (h:za8 N R w w') (τ:Nat->Question->Nat) (d:Nat):za8 N R (w.tp τ d) (w'.tp τ d):=⟨h.one,h.blk,rfl,rfl,h.low⟩
theorem zkw.tp (h:zkw L fr cs w) (τ:Nat->Question->Nat) (d:Nat):zkw L fr cs (w.tp τ d):=let ⟨N,R,fr',cs',w',a,b,c⟩:=h; ⟨N,R,fr',cs',w'.tp τ d,a,b,c.tp τ d⟩
theorem zqm (w:World) (τ τ':Nat->Question->Nat) (d d':Nat):(w.tp τ d).tp τ' d'=w.tp τ' d':=rfl
theorem zhs {τ:Nat->Question->Nat} {d:Nat} (h1:w.tape=τ) (h2:w.drawn=d):w.tp τ d=w:=by subst h1 h2; rfl
structure Whole (L:Program):Prop extends Bodies L L (fun _=>False) where
 zero:zbo L
theorem zcd.defers {R:BR} (h:zcd L R cs cs'):∀ c ∈ cs,c.defers=[]:=by
 induction h with
 | nil=>intro c hc; simp at hc
 | cons hf _ _ ih =>
  intro c hc
  rcases List.mem_cons.1 hc with rfl | hc
  ·exact hf.1.defers
  ·exact ih c hc
theorem zkd [zaB L L] (W:Whole L) (hS:zkw L fr cs w) (hne:fr.mode=.returning->cs ≠ []) (hr:runN L (n + 1) (lone fr (cs ++ [zaM L]) w)=.next (lone fr' [zaM L] w')) (hm':fr'.mode=.returning) :
  ∃ fr1 cs1 w1 es,stepG L true (G fr (cs ++ [zaM L])) w=.go (G fr1 (cs1 ++ [zaM L])) w1 es/\(fr1.mode=.run\/fr1.mode=.returning)/\zkw L fr1 cs1 w1/\ze7 w w1 (stepG L true (G fr (cs ++ [zaM L]))) fr1 (cs1 ++ [zaM L])/\runN L n (lone fr1 (cs1 ++ [zaM L]) w1)=.next (lone fr' [zaM L] w'):=by
 obtain ⟨N,R,frp,csp,wp,hf,hcs,hw⟩:=hS
 rcases zkT (base:=[zaM L]) W.toBodies W.zero hf hcs hw hne with ⟨fr1,csx,w1,es,e,hm⟩ | ⟨fr1,w1,es,ch,e,hm,hd⟩ | ⟨o,w1,es,e⟩
 ·obtain ⟨R',fr1',cs1,cs1',w1',es',rfl,hM,hst,hloc⟩:=zhp (rest:=[]) (base:=[zaM L]) W.toBodies W.zero true hf hcs hw e hm hne
  rw [zch e] at hr
  refine ⟨fr1,cs1,w1,es,e,hm,?_,hloc,hr⟩
  rcases hst.after with ⟨h1,h2⟩ | ⟨_,_,_,hx,_⟩
  ·exact ⟨N,R',fr1',cs1',w1',h1,h2,hst.went.rel⟩
  ·exact hx.elim
 ·rw [zch e] at hr
  obtain ⟨f2,c2,w2,ch',e2,hm2⟩:=zp7 cs hcs.defers fr1 ch w1 hm hd n _ hr
  obtain ⟨rfl,_,_⟩:=zb7 (congrArg Stepped.next e2)
  rw [hm'] at hm2
  cases hm2
 ·rw [zb9 e] at hr
  cases hr
theorem zik [zaB L L] (W:Whole L):∀ (n:Nat) {fr:Frame} {cs:List Frame} {w:World},zkw L fr cs w->∀ {fr':Frame} {w':World},runN L n (lone fr (cs ++ [zaM L]) w)=.next (lone fr' [zaM L] w')->fr'.mode=.returning ->
  ∀ {τ:Nat->Question->Nat} {d:Nat},(∀ i q,τ (d + i) q=w.tape (w.drawn + i) q)->∃ d',runN L n (lone fr (cs ++ [zaM L]) (w.tp τ d))=.next (lone fr' [zaM L] (w'.tp τ d'))
 | 0,fr,cs,w,_,fr',w',hr,_,τ,d,_=>by
  simp only [runN] at hr
  obtain ⟨rfl,hc,rfl⟩:=zb7 hr
  exact ⟨d,by simp only [runN]; rw [hc]⟩
 | n + 1,fr,cs,w,hS,fr',w',hr,hm',τ,d,ht=>by
  by_cases hne:fr.mode=.returning->cs ≠ []
  ·obtain ⟨fr1,cs1,w1,es,e,hm,hS1,⟨k,l1,l2,l3⟩,hr1⟩:=zkd W hS hne hr hm'
   obtain ⟨es2,e2⟩:=l3 τ d (fun i _ q=>ht i q)
   obtain ⟨d',h'⟩:=zik W n hS1 hr1 hm' (τ:=τ) (d:=d + k) (fun i q=>by rw [l1,l2,Nat.add_assoc,Nat.add_assoc]; exact ht (k + i) q)
   refine ⟨d',?_⟩
   rw [zch e2]
   exact h'
  ·have h1:fr.mode=.returning:=Classical.byContradiction fun q=>hne (fun h=>absurd h q)
   have h2:cs=[]:=Classical.byContradiction fun q=>hne (fun _=>q)
   subst h2
   obtain ⟨N,R,frp,csp,wp,hf,_,_⟩:=hS
   obtain ⟨fn,hfn,_⟩:=hf.1.fnok
   exact (zjV h1 hf.1.defers hf.1.kind hfn n hr).elim
def Good (L:Program) (FinP:Frame->World->Prop) (fr:Frame) (cs:List Frame) (w:World):Prop :=
 ∀ τ d,∃ n fr' w',runN L n (lone fr (cs ++ [zaM L]) (w.tp τ d))=.next (lone fr' [zaM L] w')/\fr'.mode=.returning/\FinP fr' w'
inductive zbW (L:Program) (FinP:Frame->World->Prop):Frame->List Frame->World->Prop
 | fin {fr:Frame} {w:World}:fr.mode=.returning->(∀ τ d,FinP fr (w.tp τ d))->zkw L fr [] w->zbW L FinP fr [] w
 | step {fr:Frame} {cs:List Frame} {w:World}:(fr.mode=.returning->cs ≠ [])->zkw L fr cs w->(F:(Nat->Question->Nat)->Nat->Frame)->(C:(Nat->Question->Nat)->Nat->List Frame)->(V:(Nat->Question->Nat)->Nat->World) ->
   (∀ τ d,(∃ es,stepG L true (G fr (cs ++ [zaM L])) (w.tp τ d)=.go (G (F τ d) (C τ d ++ [zaM L])) (V τ d) es)/\((F τ d).mode=.run\/(F τ d).mode=.returning))->(∀ τ d,zbW L FinP (F τ d) (C τ d) (V τ d))->zbW L FinP fr cs w
theorem good_step [zaB L L] (W:Whole L) (hF:∀ fr w τ d,FinP fr w->FinP fr (w.tp τ d)) (hG:Good L FinP fr cs w) (hS:zkw L fr cs w) (hne:fr.mode=.returning->cs ≠ []) (τ:Nat->Question->Nat) (d:Nat) :
  ∃ fr1 cs1 w1 es,stepG L true (G fr (cs ++ [zaM L])) (w.tp τ d)=.go (G fr1 (cs1 ++ [zaM L])) w1 es/\(fr1.mode=.run\/fr1.mode=.returning)/\Good L FinP fr1 cs1 w1/\zkw L fr1 cs1 w1/\ze7 (w.tp τ d) w1 (stepG L true (G fr (cs ++ [zaM L]))) fr1 (cs1 ++ [zaM L]):=by
 have notz:∀ {τ:Nat->Question->Nat} {d:Nat} {fr':Frame} {w':World},runN L 0 (lone fr (cs ++ [zaM L]) (w.tp τ d))=.next (lone fr' [zaM L] w')->fr'.mode=.returning->False:=by
  intro τ d fr' w' hr hm'
  simp only [runN] at hr
  obtain ⟨rfl,hc,_⟩:=zb7 hr
  have:cs=[]:=by
   cases cs with
   | nil=>rfl
   | cons c cs=>simp at hc
  exact hne hm' this
 obtain ⟨n,fr',w',hr,hm',_⟩:=hG τ d
 cases n with
 | zero=>exact (notz hr hm').elim
 | succ n =>
 obtain ⟨fr1,cs1,w1,es,e,hm,hS1,⟨k,l1,l2,l3⟩,hr1⟩:=zkd W (hS.tp τ d) hne hr hm'
 refine ⟨fr1,cs1,w1,es,e,hm,?_,hS1,k,l1,l2,l3⟩
 intro τ' d'
 let σ:Nat->Question->Nat:=fun i q=>if i < k then τ (d + i) q else τ' (d' + (i - k)) q
 obtain ⟨es2,e2⟩:=l3 σ 0 (fun i hi q=>by show (if 0 + i < k then _ else _)=_; rw [Nat.zero_add,if_pos hi]; rfl)
 obtain ⟨n2,f2,w2,hr2,hm2,hf2⟩:=hG σ 0
 cases n2 with
 | zero=>exact (notz hr2 hm2).elim
 | succ n2 =>
  have e2':stepG L true (G fr (cs ++ [zaM L])) (w.tp σ 0)=.go (G fr1 (cs1 ++ [zaM L])) (w1.tp σ (0 + k)) es2:=e2
  rw [zch e2'] at hr2
  obtain ⟨d3,h3⟩:=zik W n2 (hS1.tp σ (0 + k)) hr2 hm2 (τ:=τ') (d:=d') (fun i q=>by
   show τ' (d' + i) q=(if 0 + k + i < k then τ (d + (0 + k + i)) q else τ' (d' + (0 + k + i - k)) q)
   rw [if_neg (by omega),show 0 + k + i - k=i by omega])
  exact ⟨n2,f2,_,h3,hm2,hF _ _ _ _ hf2⟩
structure Bad (L:Program) (FinP:Frame->World->Prop) (c:Frame × List Frame × World):Prop where
 good:Good L FinP c.1 c.2.1 c.2.2
 self:zkw L c.1 c.2.1 c.2.2
 not:¬ zbW L FinP c.1 c.2.1 c.2.2
theorem Bad.going {c:Frame × List Frame × World} (h:Bad L FinP c):c.1.mode=.returning->c.2.1 ≠ []:=by
 obtain ⟨fr,cs,w⟩:=c
 obtain ⟨hG,hS,hT⟩:=h
 simp only at hG hS hT ⊢
 intro hm hc
 subst hc
 refine hT (.fin hm (fun τ d=>?_) hS)
 obtain ⟨n,fr',w',hr,hm',hf⟩:=hG τ d
 cases n with
 | zero =>
  simp only [runN] at hr
  obtain ⟨rfl,_,rfl⟩:=zb7 hr
  exact hf
 | succ n =>
  obtain ⟨N,R,frp,csp,wp,hfr,_,_⟩:=hS
  obtain ⟨fn,hfn,_⟩:=hfr.1.fnok
  exact (zjV hm hfr.1.defers hfr.1.kind hfn n hr).elim
theorem Bad.next [zaB L L] (W:Whole L) (hF:∀ fr w τ d,FinP fr w->FinP fr (w.tp τ d)) {c:Frame × List Frame × World} (h:Bad L FinP c) :
  ∃ (τ:Nat->Question->Nat) (d k:Nat) (c1:Frame × List Frame × World),Bad L FinP c1/\∀ τ' d',(∀ i,i < k->∀ q,τ' (d' + i) q=τ (d + i) q)->∃ es,stepG L true (G c.1 (c.2.1 ++ [zaM L])) (c.2.2.tp τ' d')=.go (G c1.1 (c1.2.1 ++ [zaM L])) (c1.2.2.tp τ' (d' + k)) es:=by
 have hne:=h.going
 obtain ⟨fr,cs,w⟩:=c
 obtain ⟨hG,hS,hT⟩:=h
 simp only at hG hS hT hne ⊢
 have hall:=fun τ d=>good_step W hF hG hS hne τ d
 refine Classical.byContradiction fun hno=>hT ?_
 have hs:=fun τ d=>(hall τ d).choose_spec.choose_spec.choose_spec.choose_spec
 refine .step hne hS (fun τ d=>(hall τ d).choose) (fun τ d=>(hall τ d).choose_spec.choose) (fun τ d=>(hall τ d).choose_spec.choose_spec.choose) (fun τ d=>⟨⟨_,(hs τ d).1⟩,(hs τ d).2.1⟩) (fun τ d=>?_)
 refine Classical.byContradiction fun hnt=>hno ?_
 obtain ⟨_,_,h3,h4,k,l1,l2,l3⟩:=hs τ d
 exact ⟨τ,d,k,(_,_,_),⟨h3,h4,hnt⟩,fun τ' d' ha=>l3 τ' d' ha⟩
def atK (k:Nat->Nat):Nat->Nat
 | 0=>0
 | j + 1=>atK k j + k j
theorem zpq (k:Nat->Nat):∀ {i j:Nat},i<=j->atK k i<=atK k j:=by
 intro i j h
 induction j with
 | zero=>have:i=0:=by omega
         subst this; exact Nat.le_refl _
 | succ j ih =>
  rcases Nat.lt_or_ge i (j + 1) with q | q
  ·exact Nat.le_trans (ih (by omega)) (by simp only [atK]; omega)
  ·have:i=j + 1:=by omega
   subst this; exact Nat.le_refl _
theorem zpN (k:Nat->Nat) {i j p:Nat} (h1:atK k i<=p) (h2:p < atK k (i + 1)) (h3:atK k j<=p) (h4:p < atK k (j + 1)):i=j:=by
 rcases Nat.lt_trichotomy i j with q | q | q
 ·have:=zpq k (i:=i + 1) (j:=j) (by omega); omega
 ·exact q
 ·have:=zpq k (i:=j + 1) (j:=i) (by omega); omega
open Classical in
noncomputable def ziM (k:Nat->Nat) (τ:Nat->Nat->Question->Nat) (d:Nat->Nat):Nat->Question->Nat:=fun p q =>
 if h:∃ j,atK k j<=p/\p < atK k (j + 1) then τ h.choose (d h.choose + (p - atK k h.choose)) q else 0
theorem zkz (k:Nat->Nat) (τ:Nat->Nat->Question->Nat) (d:Nat->Nat) (j i:Nat) (hi:i < k j) (q:Question):ziM k τ d (atK k j + i) q=τ j (d j + i) q:=by
 have h:∃ j',atK k j'<=atK k j + i/\atK k j + i < atK k (j' + 1):=⟨j,by omega,by simp only [atK]; omega⟩
 have hj:h.choose=j:=zpN k h.choose_spec.1 h.choose_spec.2 (by omega) (by simp only [atK]; omega)
 unfold ziM
 rw [dif_pos h,hj]
 congr 1
 omega
theorem zcZ [zaB L L] (W:Whole L) (hF:∀ fr w τ d,FinP fr w->FinP fr (w.tp τ d)) (hG:Good L FinP fr cs w) (hS:zkw L fr cs w):zbW L FinP fr cs w:=by
 refine Classical.byContradiction fun hT=>?_
 have h0:Bad L FinP (fr,cs,w):=⟨hG,hS,hT⟩
 let nx:{ c // Bad L FinP c }->{ c // Bad L FinP c }:=fun c=>⟨_,(c.2.next W hF).choose_spec.choose_spec.choose_spec.choose_spec.1⟩
 let sq:Nat->{ c // Bad L FinP c }:=fun n=>Nat.rec ⟨(fr,cs,w),h0⟩ (fun _ c=>nx c) n
 let τs:Nat->Nat->Question->Nat:=fun j=>((sq j).2.next W hF).choose
 let ds:Nat->Nat:=fun j=>((sq j).2.next W hF).choose_spec.choose
 let ks:Nat->Nat:=fun j=>((sq j).2.next W hF).choose_spec.choose_spec.choose
 have hstep:∀ j τ' d',(∀ i,i < ks j->∀ q,τ' (d' + i) q=τs j (ds j + i) q)->∃ es,stepG L true (G (sq j).1.1 ((sq j).1.2.1 ++ [zaM L])) ((sq j).1.2.2.tp τ' d')=.go (G (sq (j + 1)).1.1 ((sq (j + 1)).1.2.1 ++ [zaM L])) ((sq (j + 1)).1.2.2.tp τ' (d' + ks j)) es :=
  fun j=>((sq j).2.next W hF).choose_spec.choose_spec.choose_spec.choose_spec.2
 let σ:=ziM ks τs ds
 have hone:∀ j,∃ es,stepG L true (G (sq j).1.1 ((sq j).1.2.1 ++ [zaM L])) ((sq j).1.2.2.tp σ (atK ks j))=.go (G (sq (j + 1)).1.1 ((sq (j + 1)).1.2.1 ++ [zaM L])) ((sq (j + 1)).1.2.2.tp σ (atK ks (j + 1))) es :=
  fun j=>hstep j σ (atK ks j) (fun i hi q=>zkz ks τs ds j i hi q)
 have hrun:∀ j i,runN L j (lone (sq i).1.1 ((sq i).1.2.1 ++ [zaM L]) ((sq i).1.2.2.tp σ (atK ks i)))=.next (lone (sq (i + j)).1.1 ((sq (i + j)).1.2.1 ++ [zaM L]) ((sq (i + j)).1.2.2.tp σ (atK ks (i + j)))):=by
  intro j
  induction j with
  | zero=>intro i; rfl
  | succ j ih =>
   intro i
   obtain ⟨es,e⟩:=hone i
   rw [zch e,ih (i + 1),show i + 1 + j=i + (j + 1) by omega]
 obtain ⟨n,fr',w',hr,hm',_⟩:=hG σ 0
 have hr2:=hrun n 0
 have e0:runN L n (lone fr (cs ++ [zaM L]) (w.tp σ 0))=.next (lone (sq (0 + n)).1.1 ((sq (0 + n)).1.2.1 ++ [zaM L]) ((sq (0 + n)).1.2.2.tp σ (atK ks (0 + n)))):=hr2
 rw [hr] at e0
 obtain ⟨h1,h2,_⟩:=zb7 e0
 have hc:(sq (0 + n)).1.2.1=[]:=by
  cases hq:(sq (0 + n)).1.2.1 with
  | nil=>rfl
  | cons a b=>rw [hq] at h2; simp at h2
 exact (sq (0 + n)).2.going (by rw [<- h1]; exact hm') hc
end
section
open Go Go.Conc
variable {L M:Program}
inductive Rk:Type
 | z
 | s (f:World->Rk)
structure zaQ (Live:World->Prop) (K S:Nat->Prop) (w w₁:World):Prop where
 size:w.heap.size<=w₁.heap.size
 same:∀ c,K c\/S c->w₁.heap[c]?=w.heap[c]?
 tape:w₁.tape=w.tape
 os:w₁.os=w.os
 out:w₁.output=w.output
 live:Live w->Live w₁
theorem zaQ.refl {Live:World->Prop} {K:Nat->Prop} (w:World):zaQ Live K S w w:=⟨Nat.le_refl _,fun _ _=>rfl,rfl,rfl,rfl,fun h=>h⟩
theorem zaQ.trans {Live:World->Prop} {K:Nat->Prop} {w₂:World} (h:zaQ Live K S w w₁) (h':zaQ Live K S w₁ w₂):zaQ Live K S w w₂ :=
 ⟨Nat.le_trans h.size h'.size,fun c hc=>(h'.same c hc).trans (h.same c hc),h'.tape.trans h.tape,h'.os.trans h.os,h'.out.trans h.out,fun x=>h'.live (h.live x)⟩
theorem zaQ.mono {Live:World->Prop} {K S':Nat->Prop} (h:zaQ Live K S w w₁) (hs:∀ c,K' c\/S' c->K c\/S c):zaQ Live K' S' w w₁ :=
 ⟨h.size,fun c hc=>h.same c (hs c hc),h.tape,h.os,h.out,h.live⟩
def EvS (K S:Nat->Prop) (e:Event):Prop :=
 (∃ a wr,e=⟨.cell a,wr,false⟩/\(S a.block\/(K a.block/\wr=false)))\/(∃ r wr,e=⟨.obj r,wr,false⟩/\(S r\/(K r/\wr=false)))\/e=⟨.mark .noRoom,false,true⟩
structure Does (Ex:Event->Prop) (K S S':Nat->Prop) (w w':World) (es:Array Event):Prop where
 size:w.heap.size<=w'.heap.size
 sub:∀ c,S c->S' c
 new:∀ c,S' c->S c\/(w.heap.size<=c/\c < w'.heap.size)
 kept:∀ c,c < w.heap.size->¬ S c->w'.heap[c]?=w.heap[c]?
 tape:w'.tape=w.tape
 os:w'.os=w.os
 out:w'.output=w.output
 evs:∀ e ∈ es,EvS K S' e\/Ex e
theorem Does.none {Ex:Event->Prop} {K:Nat->Prop} (w:World):Does Ex K S S w w #[]:=⟨Nat.le_refl _,fun _ h=>h,fun _ h=>Or.inl h,fun _ _ _=>rfl,rfl,rfl,rfl,by simp⟩
section
variable (M:Program) (main:Bool) (Live:World->Prop) (Ex:Event->Prop) (Stop:Nat->(Nat->Prop)->Goroutine->World->Prop) (Snd:Nat->(Nat->Prop)->Value->World->Prop) (ch:Nat) (K:Nat->Prop)
def Way:Rk->Nat->(Nat->Prop)->Goroutine->World->Prop
 | .z,σ,S,g,w=>∀ w₁,zaQ Live K S w w₁->Stop σ S g w₁
 | .s f,σ,S,g,w=>(∀ w₁,zaQ Live K S w w₁->Stop σ S g w₁)\/(g.status=.running/\∀ w₁,zaQ Live K S w w₁ ->
   (∃ g' w' es S',stepG M main g w₁=.go g' w' es/\Does Ex K S S' w₁ w' es/\Way (f w₁) σ S' g' w') \/
   (∃ g1 v z S',stepG M main g w₁=.comm g1 #[⟨.chan (some ch),some v,z⟩] true .send w₁ #[]/\(∀ c,S' c->S c)/\Snd σ (fun c=>S c/\¬ S' c) v w₁/\Way (f w₁) (σ + 1) S' (g1.finishComm M #[⟨.chan (some ch),some v,z⟩] .send 0 undef false) w₁))
def zaW (σ:Nat) (S:Nat->Prop) (g:Goroutine) (w:World):Prop:=∃ r,Way M main Live Ex Stop Snd ch K r σ S g w
end
section
variable {main:Bool} {Live:World->Prop} {Ex:Event->Prop} {Stop:Nat->(Nat->Prop)->Goroutine->World->Prop} {Snd:Nat->(Nat->Prop)->Value->World->Prop} {ch:Nat} {K:Nat->Prop}
theorem Way.rely {r:Rk} (h:Way M main Live Ex Stop Snd ch K r σ S g w) (hs:zaQ Live K S w w₁):Way M main Live Ex Stop Snd ch K r σ S g w₁:=by
 cases r with
 | z=>exact fun w₂ h₂=>h w₂ (hs.trans h₂)
 | s f =>
  rcases h with h | ⟨hr,h⟩
  ·exact Or.inl fun w₂ h₂=>h w₂ (hs.trans h₂)
  ·exact Or.inr ⟨hr,fun w₂ h₂=>h w₂ (hs.trans h₂)⟩
theorem zaW.rely (h:zaW M main Live Ex Stop Snd ch K σ S g w) (hs:zaQ Live K S w w₁):zaW M main Live Ex Stop Snd ch K σ S g w₁:=let ⟨r,h⟩:=h; ⟨r,h.rely hs⟩
theorem zaW.stop (h:∀ w₁,zaQ Live K S w w₁->Stop σ S g w₁):zaW M main Live Ex Stop Snd ch K σ S g w:=⟨.z,h⟩
open Classical in
theorem zaW.step (hr:g.status=.running) (h:∀ w₁,zaQ Live K S w w₁ ->
   (∃ g' w' es S',stepG M main g w₁=.go g' w' es/\Does Ex K S S' w₁ w' es/\zaW M main Live Ex Stop Snd ch K σ S' g' w') \/
   (∃ g1 v z S',stepG M main g w₁=.comm g1 #[⟨.chan (some ch),some v,z⟩] true .send w₁ #[]/\(∀ c,S' c->S c)/\Snd σ (fun c=>S c/\¬ S' c) v w₁/\zaW M main Live Ex Stop Snd ch K (σ + 1) S' (g1.finishComm M #[⟨.chan (some ch),some v,z⟩] .send 0 undef false) w₁)) :
  zaW M main Live Ex Stop Snd ch K σ S g w:=by
 have h2:∀ w₁,zaQ Live K S w w₁->∃ r,(∃ g' w' es S',stepG M main g w₁=.go g' w' es/\Does Ex K S S' w₁ w' es/\Way M main Live Ex Stop Snd ch K r σ S' g' w') \/
   (∃ g1 v z S',stepG M main g w₁=.comm g1 #[⟨.chan (some ch),some v,z⟩] true .send w₁ #[]/\(∀ c,S' c->S c)/\Snd σ (fun c=>S c/\¬ S' c) v w₁/\Way M main Live Ex Stop Snd ch K r (σ + 1) S' (g1.finishComm M #[⟨.chan (some ch),some v,z⟩] .send 0 undef false) w₁):=by
  intro w₁ hs
  rcases h w₁ hs with ⟨g',w',es,S',h1,h2,r,h3⟩ | ⟨g1,v,z,S',h1,h0,h2,r,h3⟩
  ·exact ⟨r,Or.inl ⟨g',w',es,S',h1,h2,h3⟩⟩
  ·exact ⟨r,Or.inr ⟨g1,v,z,S',h1,h0,h2,h3⟩⟩
 refine ⟨.s (fun w₁=>if hs:zaQ Live K S w w₁ then (h2 w₁ hs).choose else .z),Or.inr ⟨hr,fun w₁ hs=>?_⟩⟩
 have e:(fun w₁=>if hs:zaQ Live K S w w₁ then (h2 w₁ hs).choose else Rk.z) w₁=(h2 w₁ hs).choose:=dif_pos hs
 rw [e]
 exact (h2 w₁ hs).choose_spec
theorem zaW.go (hr:g.status=.running) (h:∀ w₁,zaQ Live K S w w₁->∃ g' w' es S',stepG M main g w₁=.go g' w' es/\Does Ex K S S' w₁ w' es/\zaW M main Live Ex Stop Snd ch K σ S' g' w') :
  zaW M main Live Ex Stop Snd ch K σ S g w:=zaW.step hr fun w₁ hs=>Or.inl (h w₁ hs)
theorem zaW.bind (hb:∀ σ S g w,Stop σ S g w->zaW M main Live Ex Stop2 Snd ch K σ S g w):∀ (r:Rk) {σ:Nat} {S:Nat->Prop} {g:Goroutine} {w:World},Way M main Live Ex Stop Snd ch K r σ S g w->zaW M main Live Ex Stop2 Snd ch K σ S g w:=by
 intro r
 induction r with
 | z=>intro σ S g w h; exact hb _ _ _ _ (h w (zaQ.refl w))
 | s f ih =>
  intro σ S g w h
  rcases h with h | ⟨hr,h⟩
  ·exact hb _ _ _ _ (h w (zaQ.refl w))
  ·refine zaW.step hr fun w₁ hs=>?_
   rcases h w₁ hs with ⟨g',w',es,S',h1,h2,h3⟩ | ⟨g1,v,z,S',h1,h0,h2,h3⟩
   ·exact Or.inl ⟨g',w',es,S',h1,h2,ih w₁ h3⟩
   ·exact Or.inr ⟨g1,v,z,S',h1,h0,h2,ih w₁ h3⟩
theorem zaW.sends (hs2:∀ σ S v w,Snd σ S v w->Snd2 σ S v w):∀ (r:Rk) {σ:Nat} {S:Nat->Prop} {g:Goroutine} {w:World},Way M main Live Ex Stop Snd ch K r σ S g w->zaW M main Live Ex Stop Snd2 ch K σ S g w:=by
 intro r
 induction r with
 | z=>intro σ S g w h; exact zaW.stop h
 | s f ih =>
  intro σ S g w h
  rcases h with h | ⟨hr,h⟩
  ·exact zaW.stop h
  ·refine zaW.step hr fun w₁ hs=>?_
   rcases h w₁ hs with ⟨g',w',es,S',h1,h2,h3⟩ | ⟨g1,v,z,S',h1,h0,h2,h3⟩
   ·exact Or.inl ⟨g',w',es,S',h1,h2,ih w₁ h3⟩
   ·exact Or.inr ⟨g1,v,z,S',h1,h0,hs2 _ _ _ _ h2,ih w₁ h3⟩
theorem zaW.then (h:zaW M main Live Ex Stop Snd ch K σ S g w) (hb:∀ σ S g w,Stop σ S g w->zaW M main Live Ex Stop2 Snd ch K σ S g w):zaW M main Live Ex Stop2 Snd ch K σ S g w :=
 let ⟨r,h⟩:=h; zaW.bind hb r h
end
def zcN (N:Nat) (R:BR):Nat->Prop:=fun c=>∃ b,R b c/\b < N
def zbz (N:Nat) (R:BR):Nat->Prop:=fun c=>∃ b,R b c/\N<=b
theorem zd9.keptSame {R R':BR} (h:zd9 N R R' w w' w1 w1') (hN:N<=w.heap.size):zcN N R'=zcN N R:=by
 funext c
 refine propext ⟨fun ⟨b,hb,hn⟩=>?_,fun ⟨b,hb,hn⟩=>⟨b,h.le.1 _ _ hb,hn⟩⟩
 rcases h.new b c hb with x | x
 ·exact ⟨b,x,hn⟩
 ·omega
theorem EvR.evS {R:BR} (h:EvR N R e):EvS (zcN N R) (zbz N R) e:=by
 rcases h with ⟨a,b,wr,rfl,h1,h2⟩ | ⟨r,b,wr,rfl,h1,h2⟩ | rfl
 ·refine Or.inl ⟨a,wr,rfl,?_⟩
  by_cases q:N<=b
  ·exact Or.inl ⟨b,h1,q⟩
  ·refine Or.inr ⟨⟨b,h1,by omega⟩,?_⟩
   cases wr with
   | false=>rfl
   | true=>exact absurd (h2 rfl) q
 ·refine Or.inr (Or.inl ⟨r,wr,rfl,?_⟩)
  by_cases q:N<=b
  ·exact Or.inl ⟨b,h1,q⟩
  ·refine Or.inr ⟨⟨b,h1,by omega⟩,?_⟩
   cases wr with
   | false=>rfl
   | true=>exact absurd (h2 rfl) q
 ·exact Or.inr (Or.inr rfl)
theorem zd9.does {R R':BR} (h:zd9 N R R' w w' w1 w1') (hw:za8 N R w w') {Ex:Event->Prop} (he:∀ e ∈ es,EvR N R' e):Does Ex (zcN N R) (zbz N R) (zbz N R') w' w1' es:=by
 refine ⟨h.size,fun c ⟨b,x,y⟩=>⟨b,h.le.1 _ _ x,y⟩,fun c ⟨b,x,y⟩=>?_,fun c hc hn=>h.kept c hc fun b x=>?_,h.tp,h.os,h.out,fun e hx=>?_⟩
 ·rcases h.new b c x with z | z
  ·exact Or.inl ⟨b,z,y⟩
  ·exact Or.inr ⟨z.2,(h.rel.lt x).2⟩
 ·exact Nat.lt_of_not_le fun q=>hn ⟨b,x,q⟩
 ·rw [<- h.keptSame hw.low]
  exact Or.inl (he e hx).evS
theorem za8.sees {R:BR} {Live:World->Prop} (h:za8 N R w w') (hs:zaQ Live (zcN N R) (zbz N R) w' w₁):za8 N R (w.tp w₁.tape w₁.drawn) w₁:=by
 refine ⟨h.one,fun b c hb=>?_,rfl,rfl,h.low⟩
 obtain ⟨o,o',e1,e2,ho⟩:=h.blk b c hb
 refine ⟨o,o',e1,?_,ho⟩
 rw [hs.same c (by by_cases q:N<=b; exact Or.inr ⟨b,hb,q⟩; exact Or.inl ⟨b,hb,by omega⟩)]
 exact e2
def zrk (L M:Program) (X:FuncId->Prop) (N:Nat) (K:Nat->Prop) (FinP:Frame->World->Prop) (rest:List Frame) (S:Nat->Prop) (g:Goroutine) (w:World):Prop :=
 (∃ R fr fr' wl,g=G fr' rest/\fr.mode=.returning/\zfZ L R fr fr'/\za8 N R wl w/\S=zbz N R/\K=zcN N R/\∀ τ d,FinP fr (wl.tp τ d)) \/
 (∃ R f a a' cs cs' wl,X f/\g=G (Frame.enter M f a' .normal) (cs' ++ rest)/\zaz R a a'/\zcd L R cs cs'/\za8 N R wl w/\S=zbz N R/\K=zcN N R/\zbW L FinP (Frame.enter L f a .normal) cs wl)
theorem zbW.tp (h:zbW L FinP fr cs w) (τ:Nat->Question->Nat) (d:Nat):zbW L FinP fr cs (w.tp τ d):=by
 cases h with
 | fin h1 h2 h3=>exact .fin h1 (fun τ' d'=>h2 τ' d') (h3.tp τ d)
 | step h1 h2 F C V h3 h4=>exact .step h1 (h2.tp τ d) F C V (fun τ' d'=>h3 τ' d') h4
theorem zfU [T:zaB L M] (B:Bodies L M X) (hz:zbo L) {main:Bool} {Live:World->Prop} {Ex:Event->Prop} {Snd:Nat->(Nat->Prop)->Value->World->Prop} {ch:Nat} {K:Nat->Prop} {wl:World}
  (h:zbW L FinP fr cs wl):∀ {R:BR} {fr':Frame} {cs':List Frame} {w:World},zfZ L R fr fr'->zcd L R cs cs'->za8 N R (wl.tp w.tape w.drawn) w->K=zcN N R ->
   zaW M main Live Ex (fun σ' S g w=>σ'=σ/\zrk L M X N K FinP rest S g w) Snd ch K σ (zbz N R) (G fr' (cs' ++ rest)) w:=by
 induction h with
 | @fin fr wl hm hF hS =>
  intro R fr' cs' w hf hcs hw hK
  cases hcs
  subst hK
  refine zaW.stop fun w₁ hs=>?_
  exact ⟨rfl,Or.inl ⟨R,fr,fr',_,by rw [List.nil_append],hm,hf,hw.sees hs,rfl,rfl,fun τ d=>hF τ d⟩⟩
 | @step fr cs wl hne hS F C V h1 h2 ih =>
  intro R fr' cs' w hf hcs hw hK
  subst hK
  refine zaW.go rfl fun w₁ hs=>?_
  have hw1:=hw.sees hs
  rw [zqm] at hw1
  obtain ⟨⟨es,e⟩,hm⟩:=h1 w₁.tape w₁.drawn
  obtain ⟨R',fr1',cs1,cs1',w1',es',hcx,hM,hst,hloc⟩:=zhp (rest:=rest) B hz main hf hcs hw1 e hm hne
  have hC:cs1=C w₁.tape w₁.drawn:=(List.append_cancel_right hcx).symm
  subst hC
  have hrel:za8 N R' ((V w₁.tape w₁.drawn).tp w1'.tape w1'.drawn) w1':=by
   rw [zhs hst.went.rel.tape hst.went.rel.drawn]
   exact hst.went.rel
  refine ⟨_,w1',es',zbz N R',hM,hst.went.does hw1 hst.evs,?_⟩
  rcases hst.after with ⟨hf1,hc1⟩ | ⟨f,a,a',hX,_,e1,e2,ha,hc1,_⟩
  ·exact ih _ _ hf1 hc1 hrel (hst.went.keptSame hw1.low).symm
  ·refine zaW.stop fun w₂ hs2=>⟨rfl,Or.inr ⟨R',f,a,a',C w₁.tape w₁.drawn,cs1',((V w₁.tape w₁.drawn).tp w1'.tape w1'.drawn).tp w₂.tape w₂.drawn,hX,by rw [e2],ha,hc1,?_,rfl,(hst.went.keptSame hw1.low).symm,?_⟩⟩
   ·rw [<- hst.went.keptSame hw1.low] at hs2
    exact hrel.sees hs2
   ·rw [<- e1]
    exact ((h2 w₁.tape w₁.drawn).tp _ _).tp _ _
def zkh (t:Array Value):ResultVar->Value
 | .tmp i=>t.getD i undef
 | .cell _ _=>undef
def packed (vs:Array Value):Value:=if h:vs.size=1 then vs[0] else .tuple vs
def zcD (fn:Func) (t:Array Value):Value:=packed (fn.results.map (zkh t))
def zbK (fn:Func):Bool:=fn.results.all fun | .tmp _=>true | _=>false
theorem zh3 {t:Array Value} {f:ResultVar->Sem Value} (hf:∀ i,f (.tmp i)=pure (t.getD i undef)):∀ l:List ResultVar,(∀ x ∈ l,∃ i,x=.tmp i)->l.mapM f=pure (l.map (zkh t))
 | [],_=>by rw [List.mapM_nil]; rfl
 | x :: l,hl=>by
  obtain ⟨i,e⟩:=hl x (by simp)
  subst e
  rw [List.mapM_cons,zh3 hf l (fun y hy=>hl y (by simp [hy])),hf]
  rfl
theorem zcQ {fn:Func} (h:zbK fn=true) (t:Array Value):results fn t=pure (zcD fn t):=by
 unfold results
 rw [Array.mapM_eq_mapM_toList,zh3 (t:=t) (fun i=>rfl) fn.results.toList (fun x hx=>?_)]
 ·have e:(List.map (zkh t) fn.results.toList).toArray=fn.results.map (zkh t):=by
   rw [<- Array.toList_map]
  simp only [map_pure,pure_bind,zcD,e]
  rfl
 ·unfold zbK at h
  rw [<- Array.all_toList,List.all_eq_true] at h
  have:=h x hx
  cases x with
  | tmp i=>exact ⟨i,rfl⟩
  | cell a ty=>simp at this
theorem zk3 {R:BR} (h:zaz R c c'):zao R (packed c) (packed c'):=by
 unfold packed
 by_cases q:c.size=1
 ·rw [dif_pos q,dif_pos (by rw [<- h.1]; exact q)]
  exact h.2 0 (by omega) (by rw [<- h.1]; omega)
 ·rw [dif_neg q,dif_neg (by rw [<- h.1]; exact q)]
  exact h.tup
theorem zie {R:BR} {fn:Func} (he:fn'.results=fn.results) {t:Array Value} (h:zaz R t t'):zao R (zcD fn t) (zcD fn' t'):=by
 unfold zcD
 rw [he]
 refine zk3 ⟨by simp,fun i h1 h2=>?_⟩
 simp only [Array.getElem_map]
 cases fn.results[i]'(by simpa using h1) with
 | tmp j=>exact h.getD j
 | cell a ty=>exact zao.undef
def zqr (L:Program) (f:FuncId) (Post:Value->World->Prop) (fr:Frame) (w:World):Prop:=fr.fn=f/\∃ fn,L.funcs[f]?=some fn/\∀ τ d,Post (zcD fn fr.tmps) (w.tp τ d)
theorem zdJ {fn:Func} (hf:L.funcs[f]?=some fn) (hres:zbK fn=true) {a:Array Value} (hP:∀ v w τ d,Post v w->Post v (w.tp τ d))
  (hC:∀ τ d,Calls L f a (w.tp τ d) fun e w'=>∃ v,e=.returned v/\Post v w'):Good L (zqr L f Post) (Frame.enter L f a .normal) [] w:=by
 intro τ d
 obtain ⟨e,w',fr,⟨v,rfl,hv⟩,hc,hfn,hl⟩:=hC τ d [zaM L]
 obtain ⟨n,hn⟩:=hc
 obtain ⟨h1,h2,h3,fn',hf',hr⟩:=hl
 rw [hfn] at hf'
 rw [hf] at hf'
 cases hf'
 rw [zcQ hres] at hr
 have hv2:v=zcD fn fr.tmps:=by
  simp [pure] at hr
  exact hr.symm
 exact ⟨n,fr,w',hn,h1,hfn,fn,hf,fun τ d=>by rw [<- hv2]; exact hP _ _ _ _ hv⟩
theorem zqr.tp :∀ fr w τ d,zqr L f Post fr w->zqr L f Post fr (w.tp τ d):=fun _ _ _ _ ⟨h1,fn,h2,h3⟩=>⟨h1,fn,h2,fun τ' d'=>h3 τ' d'⟩
theorem zpz (hx:zbE=false):∀ (n:Nat) (v:Value),SizeOf.sizeOf v<=n->∃ u,zao (fun _ _=>False) u v:=by
 intro n
 induction n with
 | zero=>intro v h; cases v <;> simp at h
 | succ n ih =>
  intro v h
  have row:∀ c:Array Value,SizeOf.sizeOf c<=n->∃ d:Array Value,d.size=c.size/\∀ i (h1:i < d.size) (h2:i < c.size),zao (fun _ _=>False) d[i] c[i]:=by
   intro c hc
   have hx:∀ i:Fin c.size,∃ u,zao (fun _ _=>False) u c[i]:=fun i=>ih _ (by have:=Array.sizeOf_getElem c i.val i.isLt; simp only [Fin.getElem_fin]; omega)
   obtain ⟨f,hf⟩:=Classical.axiomOfChoice hx
   exact ⟨Array.ofFn f,by simp,fun i h1 h2=>by simp only [Array.getElem_ofFn]; exact hf ⟨i,h2⟩⟩
  cases v with
  | bool b=>exact ⟨_,.bool b⟩
  | int k n=>exact ⟨_,.int k n⟩
  | string s=>exact ⟨_,.string s⟩
  | agg c =>
   obtain ⟨d,h1,h2⟩:=row c (by simp at h; omega)
   exact ⟨.agg d,.agg h1 h2⟩
  | tuple c =>
   obtain ⟨d,h1,h2⟩:=row c (by simp at h; omega)
   exact ⟨.tuple d,.tuple h1 h2⟩
  | iface t v =>
   obtain ⟨u,hu⟩:=ih v (by simp at h; omega)
   exact ⟨.iface t u,.iface t hu⟩
  | nilIface=>exact ⟨_,.nilIface⟩
  | pointer o =>
   cases o with
   | none=>exact ⟨_,.nilPtr⟩
   | some a=>exact ⟨.tuple #[],.junk hx rfl⟩
  | nilFunc=>exact ⟨_,.nilFunc⟩
  | func fn f c =>
   cases fn with
   | method n=>exact ⟨.func (.method n) #[.nilIface] #[],.junkM hx⟩
   | _=>exact ⟨.tuple #[],.junk hx rfl⟩
  | _=>exact ⟨.tuple #[],.junk hx rfl⟩
noncomputable def zqX (v:Value):Value:=match v with
 | .bool b=>.bool b
 | .int k n=>.int k n
 | .string s=>.string s
 | v=>if h:zbE=false then Classical.choose (zpz h _ v (Nat.le_refl _)) else v
theorem zoL {R:BR} (hx:zbE=false) (hR:R.One) (v:Value):zao R (zqX v) v:=by
 have hle:BR.le (fun _ _=>False) R:=⟨fun _ _ h=>h.elim,fun _=>hR⟩
 cases v with
 | bool b=>exact .bool b
 | int k n=>exact .int k n
 | string s=>exact .string s
 | _=>simp only [zqX,dif_pos hx]; exact (Classical.choose_spec (zpz hx _ _ (Nat.le_refl _))).mono hle
noncomputable def _root_.Go.World.frz (w:World):World:={ w with heap:=w.heap.map fun | .cells c e _=>.cells (c.map zqX) e (0,c.size) | o=>o }
theorem zog (w:World) (a:Addr):w.frz.cell? a=(w.cell? a).map zqX:=by
 unfold World.cell? World.frz
 simp only [Array.getElem?_map]
 cases w.heap[a.block]? with
 | none=>rfl
 | some o =>
  cases o with
  | cells c e f =>
   simp only [Option.map_some]
   split
   ·rfl
   ·simp
  | _=>rfl
theorem zeN (w:World):w.frz.heap.size=w.heap.size:=by simp [World.frz]
def zdw (K:Nat->Prop):BR:=fun b c=>b=c/\K b
def Closed (K:Nat->Prop) (w:World):Prop:=∀ b,K b->(∃ c e f,w.heap[b]?=some (.cells c e f)/\zbE=false)\/(zbE=false/\∃ a l,w.heap[b]?=some (.number a l)/\zbG (zdw K) a a)
theorem Closed.lt {K:Nat->Prop} (h:Closed K w) {b:Nat} (hb:K b):b < w.heap.size:=by
 rcases h b hb with ⟨_,_,_,hx,_⟩ | ⟨_,_,_,hx,_⟩
 ·exact (gei hx).1
 ·exact (gei hx).1
theorem zjZ (K:Nat->Prop):(zdw K).One:=⟨fun _ _ _ h h'=>h.1.symm.trans h'.1,fun _ _ _ h h'=>h.1.trans h'.1.symm⟩
theorem zi3 {K:Nat->Prop} (h:Closed K w):za8 w.heap.size (zdw K) w.frz w:=by
 refine ⟨zjZ K,?_,rfl,rfl,by rw [zeN]; exact Nat.le_refl _⟩
 rintro b c ⟨rfl,hb⟩
 rcases h b hb with ⟨x,e,f,hx,hxo⟩ | ⟨ho,a,l,hx,hr⟩
 ·exact ⟨.cells (x.map zqX) e (0,x.size),.cells x e f,by simp [World.frz,hx],hx,.cells ⟨by simp,fun i h1 h2=>by simp only [Array.getElem_map]; exact zoL hxo (zjZ K) _⟩ (fun _ i hi=>⟨Nat.zero_le _,by simpa using hi⟩) (fun q=>absurd (gei hx).1 q)⟩
 ·exact ⟨.number a l,.number a l,by simp [World.frz,hx],hx,.other (.number hr) (fun q=>by rw [ho] at q; cases q)⟩
theorem zhX {K:Nat->Prop} (h:Closed K w):zcN w.heap.size (zdw K)=K:=by
 funext c
 refine propext ⟨fun ⟨b,⟨e,hb⟩,_⟩=>e ▸ hb,fun hc=>⟨c,⟨rfl,hc⟩,?_⟩⟩
 exact h.lt hc
theorem zke {K:Nat->Prop} (h:Closed K w):zbz w.heap.size (zdw K)=fun _=>False:=by
 funext c
 refine propext ⟨fun ⟨b,⟨_,hb⟩,hn⟩=>?_,fun q=>q.elim⟩
 have:=h.lt hb
 omega
section
variable {main:Bool} {Live:World->Prop} {Ex:Event->Prop} {Snd:Nat->(Nat->Prop)->Value->World->Prop} {ch:Nat}
theorem zaW.frame {Stop:Nat->(Nat->Prop)->Goroutine->World->Prop} {K:Nat->Prop} (hK:∀ c,K' c->K c) (hNo:∀ σ S v w,¬ Snd σ S v w) (hLv:∀ w w':World,(∀ c,Lv c->w'.heap[c]?=w.heap[c]?)->Live w->Live w') (w0:World) (hlv:∀ c,Lv c->c < w0.heap.size):∀ (r:Rk) {σ:Nat} {S:Nat->Prop} {g:Goroutine} {w:World},Way M main Live Ex Stop Snd ch K' r σ S g w ->
  zaQ Live K S₀ w0 w->(∀ c,K c\/S₀ c->c < w0.heap.size)->(∀ c,S c->w0.heap.size<=c) ->
  zaW M main Live Ex (fun σ S₁ g w₁=>∃ S',S₁=(fun c=>S₀ c\/S' c)/\Stop σ S' g w₁/\zaQ Live K S₀ w0 w₁/\∀ c,S' c->w0.heap.size<=c) Snd ch K σ (fun c=>S₀ c\/S c) g w:=by
 intro r
 induction r with
 | z =>
  intro σ S g w h hs hlt hS
  refine zaW.stop fun w₁ hs1=>⟨S,rfl,h w₁ (hs1.mono fun c hc=>?_),hs.trans (hs1.mono fun c hc=>?_),hS⟩
  ·rcases hc with hc | hc
   ·exact Or.inl (hK c hc)
   ·exact Or.inr (Or.inr hc)
  ·rcases hc with hc | hc
   ·exact Or.inl hc
   ·exact Or.inr (Or.inl hc)
 | s f ih =>
  intro σ S g w h hs hlt hS
  have up1:∀ {w₁},zaQ Live K (fun c=>S₀ c\/S c) w w₁->zaQ Live K' S w w₁:=fun hs1=>hs1.mono fun c hc=>by
   rcases hc with hc | hc
   ·exact Or.inl (hK c hc)
   ·exact Or.inr (Or.inr hc)
  have up2:∀ {w₁},zaQ Live K (fun c=>S₀ c\/S c) w w₁->zaQ Live K S₀ w w₁:=fun hs1=>hs1.mono fun c hc=>by
   rcases hc with hc | hc
   ·exact Or.inl hc
   ·exact Or.inr (Or.inl hc)
  rcases h with h | ⟨hr,h⟩
  ·exact zaW.stop fun w₁ hs1=>⟨S,rfl,h w₁ (up1 hs1),hs.trans (up2 hs1),hS⟩
  ·refine zaW.go hr fun w₁ hs1=>?_
   rcases h w₁ (up1 hs1) with ⟨g',w',es,S',e,hd,hw⟩ | ⟨g1,v,z,S',_,_,hsn,_⟩
   ·have hs2:=hs.trans (up2 hs1)
    have hd2:zaQ Live K S₀ w₁ w':=by
     refine ⟨hd.size,fun c hc=>hd.kept c ?_ ?_,hd.tape,hd.os,hd.out,?_⟩
     ·exact nll (hlt c hc) hs2.size
     ·intro q
      have:=hS c q
      have:=hlt c hc
      omega
     ·refine hLv _ _ fun c hc=>hd.kept c ?_ ?_
      ·exact nll (hlv c hc) hs2.size
      ·intro q
       have:=hS c q
       have:=hlv c hc
       omega
    refine ⟨g',w',es,fun c=>S₀ c\/S' c,e,⟨hd.size,fun c hc=>hc.imp id (hd.sub c),fun c hc=>?_,fun c hc hn=>hd.kept c hc fun q=>hn (Or.inr q),hd.tape,hd.os,hd.out,fun x hx=>?_⟩,?_⟩
    ·rcases hc with hc | hc
     ·exact Or.inl (Or.inl hc)
     ·exact (hd.new c hc).imp Or.inr id
    ·rcases hd.evs x hx with (⟨a,wr,rfl,q⟩ | ⟨r,wr,rfl,q⟩ | rfl) | q
     ·refine Or.inl (Or.inl ⟨a,wr,rfl,?_⟩)
      rcases q with q | q
      ·exact Or.inl (Or.inr q)
      ·exact Or.inr ⟨hK _ q.1,q.2⟩
     ·exact Or.inl (Or.inr (Or.inl ⟨r,wr,rfl,q.elim (fun q=>Or.inl (Or.inr q)) (fun q=>Or.inr ⟨hK _ q.1,q.2⟩)⟩))
     ·exact Or.inl (Or.inr (Or.inr rfl))
     ·exact Or.inr q
    ·refine ih w₁ hw (hs2.trans hd2) hlt fun c hc=>?_
     rcases hd.new c hc with q | q
     ·exact hS c q
     ·have:=hs2.size
      omega
   ·exact (hNo _ _ _ _ hsn).elim
theorem znV [T:zaB L M] [zaB L L] (W:Whole L) (B:Bodies L M X) {Stop:Nat->(Nat->Prop)->Goroutine->World->Prop} {K Kc:Nat->Prop} (hLv:∀ w w':World,(∀ c,Lv c->w'.heap[c]?=w.heap[c]?)->Live w->Live w')
  (hX:∀ f,X f->∃ t,((L.funcs[f]?).bind (·.body)).getD (.refuse "unsupported: a function without a Go body is entered")=.refuse t)
  {fn:Func} (hf:L.funcs[f]?=some fn) (hb:fn.body.isSome=true) (hnX:¬ X f) (hres:zbK fn=true) {a:Array Value} (hP:∀ v w τ d,Post v w->Post v (w.tp τ d))
  (hKc:∀ c,Kc c->K c) (hcl:Closed Kc w) (ha:zaz (zdw Kc) a a) (hlt:∀ c,K c\/S₀ c->c < w.heap.size) (hlv:∀ c,Lv c->c < w.heap.size)
  (hC:∀ τ d,Calls L f a (w.frz.tp τ d) fun e w'=>∃ v,e=.returned v/\Post v w') {c:Frame} 
  (hgo:∀ v' w₁ S',zaQ Live K S₀ w w₁->(∀ c,S' c->w.heap.size<=c)->(∃ R wl v,zao R v v'/\za8 w.heap.size R wl w₁/\Post v wl/\S'=zbz w.heap.size R)->zaW M main Live Ex Stop Snd ch K σ (fun c=>S₀ c\/S' c) (G (c.finish v') cs) w₁) :
  zaW M main Live Ex Stop Snd ch K σ S₀ (G (Frame.enter M f a .normal) (c :: cs)) w:=by
 have hent:zfZ L (zdw Kc) (Frame.enter L f a .normal) (Frame.enter M f a .normal):=zdF B hf hb hnX ha
 have hrel:=zi3 hcl
 have hG:=zdJ hf hres hP hC
 have hT:=zcZ W (zqr.tp (L:=L) (f:=f) (Post:=Post)) hG ⟨_,_,_,[],_,hent,.nil,hrel⟩
 have hway:=zfU (M:=M) (main:=main) (Live:=Live) (Ex:=Ex) (Snd:=fun _ _ _ _=>False) (ch:=ch) (rest:=c :: cs) (σ:=σ) (K:=Kc) B W.zero hT hent .nil (w:=w) (by
  have e:w.frz.tp w.tape w.drawn=w.frz:=rfl
  rw [e]
  exact hrel) (zhX hcl).symm
 rw [zke hcl] at hway
 obtain ⟨r,hway⟩:=hway
 have hfr:=zaW.frame (K:=K) (S₀:=S₀) hKc (fun _ _ _ _ q=>q) hLv w hlv r hway (zaQ.refl w) hlt (fun c q=>q.elim)
 have e0:(fun c=>S₀ c\/(fun _=>False) c)=S₀:=by
  funext c
  simp
 rw [e0] at hfr
 obtain ⟨r2,hfr⟩:=hfr
 refine (zaW.sends (Snd2:=Snd) (fun _ _ _ _ q=>q.elim) r2 hfr).then ?_
 rintro σ₁ S₁ g w₁ ⟨S',rfl,⟨rfl,hst⟩,hsees,hnew⟩
 rcases hst with ⟨R,fr,fr',wl,rfl,hm,hfR,hwR,rfl,hkk,hF⟩ | ⟨R,f',a1,a2,cs1,cs2,wl,hXf,rfl,_,_,_,_,_,hTr⟩
 ·obtain ⟨ho,t,rfl,ht⟩:=hfR
  obtain ⟨rfl,fn1,hfn1,hpost⟩:=hF wl.tape wl.drawn
  rw [hf] at hfn1
  cases hfn1
  have hM:=B.same fr.fn fn hf hb hnX
  have hrun:∀ w₂,stepG M main (G { fr with tmps:=t } (c :: cs)) w₂=.go (G (c.finish (zcD fn t)) cs) w₂ #[]:=by
   intro w₂
   rw [zbe _ _ _ _ _ (show ({ fr with tmps:=t }:Frame).mode=.returning from hm)]
   have hev:(pure (zcD fn t):Sem Value).events M w₂ #[]=#[]:=rfl
   simp only [unwind,ho.defers,hm,hM,zcQ hres,Sem.runT_eq,doReturn,ho.kind,hev]
   have hr1:(pure (zcD fn t):Sem Value).run M w₂=.ok (zcD fn t) w₂:=rfl
   have hsn:seen M fr.fn #[]=#[]:=by rw [seen_def]; rfl
   rw [hr1,hsn]
   rfl
  refine zaW.go rfl fun w₂ hs2=>⟨_,w₂,#[],_,hrun w₂,Does.none w₂,?_⟩
  have hs3:zaQ Live K S₀ w w₂:=hsees.trans (hs2.mono fun c hc=>hc.imp id Or.inl)
  have hw2:za8 w.heap.size R (wl.tp w₂.tape w₂.drawn) w₂:=by
   refine ⟨hwR.one,fun b c hbc=>?_,rfl,rfl,hwR.low⟩
   obtain ⟨o,o',e1,e2,hor⟩:=hwR.blk b c hbc
   refine ⟨o,o',e1,?_,hor⟩
   rw [hs2.same c ?_]
   ·exact e2
   ·by_cases q:w.heap.size<=b
    ·exact Or.inr (Or.inr ⟨b,hbc,q⟩)
    ·refine Or.inl (hKc c ?_)
     rw [hkk]
     exact ⟨b,hbc,by omega⟩
  exact hgo (zcD fn t) w₂ _ hs3 hnew ⟨R,wl.tp w₂.tape w₂.drawn,zcD fn fr.tmps,zie rfl ht,hw2,hP _ _ _ _ (hpost wl.tape wl.drawn),rfl⟩
 ·exfalso
  obtain ⟨tx,htx⟩:=hX f' hXf
  cases hTr with
  | fin h1 _ _=>cases h1
  | step _ _ F C V h1 _ =>
   obtain ⟨⟨es,e⟩,_⟩:=h1 wl.tape wl.drawn
   rw [zd2 _ _ _ _ _ rfl] at e
   have htd:(Frame.enter L f' a1 .normal).todo=[.code (.refuse tx)]:=by unfold Frame.enter; dsimp only; rw [htx]
   simp only [stepG.exec,htd] at e
   cases e
end
end
section
open Go Go.Conc
variable {M:Program}
def Rlt (x y:Rk):Prop:=∃ f w,y=.s f/\x=f w
theorem zmZ:∀ r:Rk,Acc Rlt r:=by
 intro r
 induction r with
 | z=>exact ⟨_,fun y ⟨f,w,e,_⟩=>by cases e⟩
 | s f ih=>exact ⟨_,fun y ⟨f',w,e,e2⟩=>by cases e; rw [e2]; exact ih w⟩
def Fam (N:Nat) (ρ' ρ:Nat->Rk):Prop:=∃ i,i < N/\Rlt (ρ' i) (ρ i)/\∀ k,k ≠ i->ρ' k=ρ k
theorem zpW:∀ (N:Nat) (ρ:Nat->Rk),Acc (Fam N) ρ:=by
 intro N
 induction N with
 | zero=>exact fun ρ=>⟨_,fun y ⟨i,h,_⟩=>by omega⟩
 | succ N ih =>
  have key:∀ r:Rk,Acc Rlt r->∀ ρ:Nat->Rk,Acc (Fam N) ρ->ρ N=r->Acc (Fam (N + 1)) ρ:=by
   intro r hr
   induction hr with
   | intro r _ ihr =>
    intro ρ hρ
    induction hρ with
    | intro ρ _ ihρ =>
     intro e
     refine ⟨_,fun ρ' ⟨i,hi,hlt,hk⟩=>?_⟩
     by_cases q:i=N
     ·subst q
      exact ihr (ρ' i) (by rw [<- e]; exact hlt) ρ' (ih ρ') rfl
     ·exact ihρ ρ' ⟨i,by omega,hlt,hk⟩ (by rw [hk N (by omega)]; exact e)
  exact fun ρ=>key _ (zmZ _) ρ (ih ρ) rfl
theorem zqF (N:Nat):WellFounded (Fam N):=⟨zpW N⟩
theorem zqV:WellFounded Rlt:=⟨zmZ⟩
abbrev Mea:=Nat × (Nat->Rk) × Rk
def zdm (N:Nat):Mea->Mea->Prop:=Prod.Lex (· < ·) (Prod.Lex (Fam N) Rlt)
theorem zqO (N:Nat):WellFounded (zdm N):=(Prod.lex ⟨_,Nat.lt_wfRel.wf⟩ (Prod.lex ⟨_,zqF N⟩ ⟨_,zqV⟩)).wf
section
variable {main:Bool} {Live:World->Prop} {Ex:Event->Prop} {Snd:Nat->(Nat->Prop)->Value->World->Prop} {ch:Nat} {K:Nat->Prop}
theorem zaW.ctl {Stop:Nat->(Nat->Prop)->Goroutine->World->Prop} {g':Goroutine} (hr:g.status=.running) (h:∀ w,stepG M main g w=.go g' w #[]) (hn:zaW M main Live Ex Stop Snd ch K σ S g' w):zaW M main Live Ex Stop Snd ch K σ S g w :=
 zaW.go hr fun w₁ hs=>⟨g',w₁,#[],S,h w₁,Does.none w₁,hn.rely hs⟩
end
end
end Go.Proofs.YtfbbcooklhmeaaaGreat
