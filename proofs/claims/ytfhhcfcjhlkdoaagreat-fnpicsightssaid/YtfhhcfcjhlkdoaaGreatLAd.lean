/- Of the proof: Sx, Aa, Ab, Ac, Ad, Ae, Af, Ag, Ah, Ai, Aj, Ak, Al, Am, An, Ao, Ap, Aq, Ar, As, At, Au, Av, Aw, Ax, Ay -/
import Derived.Calls
import Derived.Laws.Sem
import Derived.Conc.Listed
namespace Go.Proofs.YtfhhcfcjhlkdoaaGreat
section
open Go
def xAr (f : Nat) : Option Nat := ([(12, 1), (22, 1)] : List (Nat × Nat)).lookup f
def arOk (f n : Nat) : Bool := match xAr f with
 | none => true
 | some k => n == k
def xOther : Bool := false
theorem arOk_none {f : Nat} (h : (xAr f).isNone = true) (n : Nat) : arOk f n = true := by
 unfold arOk
 cases hx : xAr f with
 | none => rfl
 | some k => rw [hx] at h; cases h
end
section
open Go
abbrev BR := Nat -> Nat -> Prop
def BR.One (R : BR) : Prop := (∀ b c c', R b c -> R b c' -> c = c') /\ (∀ b b' c, R b c -> R b' c -> b = b')
def BR.le (R R' : BR) : Prop := (∀ b c, R b c -> R' b c) /\ (R.One -> R'.One)
theorem BR.le_refl (R : BR) : R.le R := ⟨fun _ _ h => h, fun h => h⟩
theorem BR.le_trans {R R' R'' : BR} (h : R.le R') (h' : R'.le R'') : R.le R'' := ⟨fun b c x => h'.1 b c (h.1 b c x), fun x => h'.2 (h.2 x)⟩
def BR.more (R : BR) (x y : Nat) : BR := fun b c => R b c \/ (b = x /\ c = y)
def ARel (R : BR) (a c : Addr) : Prop := R a.block c.block /\ a.off = c.off /\ a.spot = c.spot
theorem ARel.mono {R R' : BR} (hR : R.le R') {a c : Addr} (h : ARel R a c) : ARel R' a c := ⟨hR.1 _ _ h.1, h.2⟩
def fnOk : Fn -> Bool
 | .func f => (xAr f).isNone
 | .via _ path f _ => path.isEmpty && (xAr f).isNone
 | _ => false
def blindV : Value -> Bool
 | .bool _ | .int _ _ | .string _ | .agg _ | .tuple _ | .iface _ _ | .nilIface | .pointer none | .nilFunc | .func (.method _) _ _ => false
 | _ => true
inductive VRel (R : BR) : Value -> Value -> Prop
 | bool (b : Bool) : VRel R (.bool b) (.bool b)
 | int (k : IntKind) (n : Int) : VRel R (.int k n) (.int k n)
 | string (s : ByteArray) : VRel R (.string s) (.string s)
 | ptr {a c : Addr} : ARel R a c -> VRel R (.pointer (some a)) (.pointer (some c))
 | nilPtr : VRel R (.pointer none) (.pointer none)
 | slice {a c : Addr} (n m : Nat) : ARel R a c -> VRel R (.slice (some a) n m) (.slice (some c) n m)
 | nilSlice (n m : Nat) : VRel R (.slice none n m) (.slice none n m)
 | map {r s : Nat} : R r s -> VRel R (.map (some r)) (.map (some s))
 | nilMap : VRel R (.map none) (.map none)
 | nilChan : VRel R (.chan none) (.chan none)
 | func (fn : Fn) {f f' c c' : Array Value} : fnOk fn = true -> f.size = f'.size -> (∀ i (h : i < f.size) (h' : i < f'.size), VRel R f[i] f'[i]) -> c.size = c'.size -> (∀ i (h : i < c.size) (h' : i < c'.size), VRel R c[i] c'[i]) -> VRel R (.func fn f c) (.func fn f' c')
 | nilFunc : VRel R .nilFunc .nilFunc
 | iface (t : TypeId) {v v' : Value} : VRel R v v' -> VRel R (.iface t v) (.iface t v')
 | nilIface : VRel R .nilIface .nilIface
 | agg {c c' : Array Value} : c.size = c'.size -> (∀ i (h : i < c.size) (h' : i < c'.size), VRel R c[i] c'[i]) -> VRel R (.agg c) (.agg c')
 | junkM {n n' : String} {f c : Array Value} : xOther = false -> VRel R (.func (.method n) #[.nilIface] #[]) (.func (.method n') f c)
 | junk {v' : Value} : xOther = false -> blindV v' = true -> VRel R (.tuple #[]) v'
 | tuple {c c' : Array Value} : c.size = c'.size -> (∀ i (h : i < c.size) (h' : i < c'.size), VRel R c[i] c'[i]) -> VRel R (.tuple c) (.tuple c')
theorem VRel.mono {R R' : BR} (hR : R.le R') {v v' : Value} (h : VRel R v v') : VRel R' v v' := by
 induction h with
 | bool b => exact .bool b
 | int k n => exact .int k n
 | string s => exact .string s
 | ptr h => exact .ptr (h.mono hR)
 | nilPtr => exact .nilPtr
 | slice n m h => exact .slice n m (h.mono hR)
 | nilSlice n m => exact .nilSlice n m
 | map h => exact .map (hR.1 _ _ h)
 | nilMap => exact .nilMap
 | nilChan => exact .nilChan
 | func fn h0 h1 _ h3 _ i1 i2 => exact .func fn h0 h1 i1 h3 i2
 | nilFunc => exact .nilFunc
 | iface t _ i => exact .iface t i
 | nilIface => exact .nilIface
 | agg h1 _ i => exact .agg h1 i
 | junkM h0 => exact .junkM h0
 | junk h0 h => exact .junk h0 h
 | tuple h1 _ i => exact .tuple h1 i
def RRel (R : BR) (c c' : Array Value) : Prop := c.size = c'.size /\ ∀ i (h : i < c.size) (h' : i < c'.size), VRel R c[i] c'[i]
theorem RRel.mono {R R' : BR} (hR : R.le R') {c c' : Array Value} (h : RRel R c c') : RRel R' c c' := ⟨h.1, fun i a b => (h.2 i a b).mono hR⟩
structure ERel (R : BR) (e e' : MapEntry) : Prop where
 key : VRel R e.key e'.key
 val : VRel R e.val e'.val
 born : e.born = e'.born
def EsRel (R : BR) (c c' : Array MapEntry) : Prop := c.size = c'.size /\ ∀ i (h : i < c.size) (h' : i < c'.size), ERel R c[i] c'[i]
theorem ERel.mono {R R' : BR} (hR : R.le R') {e e' : MapEntry} (h : ERel R e e') : ERel R' e e' := ⟨h.key.mono hR, h.val.mono hR, h.born⟩
theorem EsRel.mono {R R' : BR} (hR : R.le R') {c c' : Array MapEntry} (h : EsRel R c c') : EsRel R' c c' := ⟨h.1, fun i a b => (h.2 i a b).mono hR⟩
inductive JRel (R : BR) : Obj -> Obj -> Prop
 | map {c c' : Array MapEntry} {n : Nat} : xOther = true -> EsRel R c c' -> JRel R (.map c n) (.map c' n)
 | number {a a' : Addr} {l : Bool} : ARel R a a' -> JRel R (.number a l) (.number a' l)
theorem JRel.mono {R R' : BR} (hR : R.le R') {o o' : Obj} (h : JRel R o o') : JRel R' o o' := by
 cases h with
 | map hx h => exact .map hx (h.mono hR)
 | number h => exact .number (h.mono hR)
inductive ORel (R : BR) (ro : Prop) : Obj -> Obj -> Prop
 | cells {c c' : Array Value} {e : TypeId} {f f' : Nat × Nat} : RRel R c c' -> (ro -> ∀ i, i < c.size -> f.1 <= i /\ i < f.2) -> (¬ ro -> f = f') -> ORel R ro (.cells c e f) (.cells c' e f')
 | other {o o' : Obj} : JRel R o o' -> (xOther = true -> ¬ ro) -> ORel R ro o o'
theorem ORel.mono {R R' : BR} (hR : R.le R') {ro : Prop} {o o' : Obj} (h : ORel R ro o o') : ORel R' ro o o' := by
 cases h with
 | cells h1 h2 h3 => exact .cells (h1.mono hR) h2 h3
 | other h1 h2 => exact .other (h1.mono hR) h2
inductive Soft : Halt -> Prop
 | panic (v : Value) : Soft (.panic v)
 | unsupported (u : Unsupported) : Soft (.unsupported u)
 | stuck (s : String) : Soft (.stuck s)
class SoftH (h : Halt) : Prop where
 soft : Soft h
instance (v : Value) : SoftH (.panic v) := ⟨.panic v⟩
instance (u : Unsupported) : SoftH (.unsupported u) := ⟨.unsupported u⟩
instance (s : String) : SoftH (.stuck s) := ⟨.stuck s⟩
def Dies {α : Type} (P : Program) (s : Sem α) : Prop := ∀ w, ∃ h w', s.run P w = .halt h w' /\ Soft h
class Softly {α : Type} (P : Program) (s : Sem α) : Prop where
 soft : ∀ w h w', s.run P w = .halt h w' -> Soft h
inductive SemR {α : Type} (L M : Program) (Q : BR -> α -> α -> Prop) : BR -> Sem α -> Sem α -> Prop
 | pure {R : BR} {a a' : α} : Q R a a' -> SemR L M Q R (.pure a) (.pure a')
 | load {R : BR} {a a' : Addr} {k k' : Value -> Sem α} : ARel R a a' -> (∀ R' : BR, R.le R' -> ∀ v v', VRel R' v v' -> SemR L M Q R' (k v) (k' v')) -> SemR L M Q R (.load .plain a k) (.load .plain a' k')
 | store {R : BR} {a a' : Addr} {v v' : Value} {k k' : Sem α} : ARel R a a' -> VRel R v v' -> SemR L M Q R k k' -> SemR L M Q R (.store .plain a v k) (.store .plain a' v' k')
 | new {R : BR} {o o' : Obj} {k k' : Nat -> Sem α} : ORel R False o o' -> (∀ R' : BR, R.le R' -> ∀ r r', R' r r' -> SemR L M Q R' (k r) (k' r')) -> SemR L M Q R (.new o k) (.new o' k')
 | shape {R : BR} {r r' : Nat} {k k' : Option (TypeId × Nat) -> Sem α} : R r r' -> (∀ s, SemR L M Q R (k s) (k' s)) -> SemR L M Q R (.shape r k) (.shape r' k')
 | getObj {R : BR} {r r' : Nat} {k k' : Obj -> Sem α} : R r r' -> (∀ R' : BR, R.le R' -> ∀ o o', JRel R' o o' -> SemR L M Q R' (k o) (k' o')) -> SemR L M Q R (.getObj r k) (.getObj r' k')
 | setObj {R : BR} {r r' : Nat} {c c' : Array MapEntry} {n : Nat} {k k' : Sem α} : xOther = true -> R r r' -> EsRel R c c' -> SemR L M Q R k k' -> SemR L M Q R (.setObj r (.map c n) k) (.setObj r' (.map c' n) k')
 | choose {R : BR} {q : Question} {k k' : Nat -> Sem α} : (∀ n, SemR L M Q R (k n) (k' n)) -> SemR L M Q R (.choose q k) (.choose q k')
 | program {R : BR} {k k' : Program -> Sem α} : SemR L M Q R (k L) (k' M) -> SemR L M Q R (.program k) (.program k')
 | mark {R : BR} {k k' : Sem α} : SemR L M Q R k k' -> SemR L M Q R (.mark .noRoom k) (.mark .noRoom k')
 | never {R : BR} {s s' : Sem α} : Dies L s -> SemR L M Q R s s'
theorem SemR.halt {α : Type} {L M : Program} {Q : BR -> α -> α -> Prop} {R : BR} {h : Halt} [S : SoftH h] {s : Sem α} : SemR L M Q R (.halt h) s := .never (fun w => ⟨h, w, rfl, S.soft⟩)
theorem never_bind {α β : Type} {P : Program} {s : Sem α} {f : α -> Sem β} (h : Dies P s) : Dies P (s.bind f) := by
 intro w
 obtain ⟨hh, w', e, hs⟩ := h w
 have e2 := Sem.run_bind' P s f w
 rw [e] at e2
 exact ⟨hh, w', e2, hs⟩
theorem Dies.not {α : Type} {P : Program} {s : Sem α} (h : Dies P s) {w : World} {x : α} {w' : World} : s.run P w ≠ .ok x w' := by
 obtain ⟨hh, w2, e, _⟩ := h w
 rw [e]
 intro q
 cases q
theorem SemR.imp {α : Type} {L M : Program} {Q Q' : BR -> α -> α -> Prop} (hQ : ∀ R a a', Q R a a' -> Q' R a a') {R : BR} {s s' : Sem α} (h : SemR L M Q R s s') : SemR L M Q' R s s' := by
 induction h with
 | pure h => exact .pure (hQ _ _ _ h)
 | load h _ ih => exact .load h ih
 | store h hv _ ih => exact .store h hv ih
 | new h _ ih => exact .new h ih
 | shape h _ ih => exact .shape h ih
 | getObj h _ ih => exact .getObj h ih
 | setObj hx h hc _ ih => exact .setObj hx h hc ih
 | choose _ ih => exact .choose ih
 | program _ ih => exact .program ih
 | mark _ ih => exact .mark ih
 | never h => exact .never h
theorem SemR.bind {α β : Type} {L M : Program} {Q : BR -> α -> α -> Prop} {Q' : BR -> β -> β -> Prop} {R : BR} {s s' : Sem α} {f f' : α -> Sem β} (h : SemR L M Q R s s')
  (hf : ∀ R' : BR, R.le R' -> ∀ a a', Q R' a a' -> SemR L M Q' R' (f a) (f' a')) : SemR L M Q' R (s.bind f) (s'.bind f') := by
 induction h with
 | pure h => exact hf _ (BR.le_refl _) _ _ h
 | load h _ ih => exact .load h (fun R' hR v v' hv => ih R' hR v v' hv (fun R'' hR'' => hf R'' (BR.le_trans hR hR'')))
 | store h hv _ ih => exact .store h hv (ih hf)
 | new h _ ih => exact .new h (fun R' hR r r' hr => ih R' hR r r' hr (fun R'' hR'' => hf R'' (BR.le_trans hR hR'')))
 | shape h _ ih => exact .shape h (fun s => ih s hf)
 | getObj h _ ih => exact .getObj h (fun R' hR o o' hc => ih R' hR o o' hc (fun R'' hR'' => hf R'' (BR.le_trans hR hR'')))
 | setObj hx h hc _ ih => exact .setObj hx h hc (ih hf)
 | choose _ ih => exact .choose (fun n => ih n hf)
 | program _ ih => exact .program (ih hf)
 | mark _ ih => exact .mark (ih hf)
 | never h => exact .never (never_bind h)
end
section
open Go
structure WRel (N : Nat) (R : BR) (w w' : World) : Prop where
 one : R.One
 blk : ∀ b c, R b c -> ∃ o o', w.heap[b]? = some o /\ w'.heap[c]? = some o' /\ ORel R (b < N) o o'
 tape : w.tape = w'.tape
 drawn : w.drawn = w'.drawn
 low : N <= w.heap.size
theorem WRel.lt {N : Nat} {R : BR} {w w' : World} (h : WRel N R w w') {b c : Nat} (hb : R b c) : b < w.heap.size /\ c < w'.heap.size := by
 obtain ⟨o, o', e1, e2, _⟩ := h.blk b c hb
 exact ⟨(Array.getElem?_eq_some_iff.1 e1).1, (Array.getElem?_eq_some_iff.1 e2).1⟩
structure Went (N : Nat) (R R' : BR) (w w' w1 w1' : World) : Prop where
 le : R.le R'
 rel : WRel N R' w1 w1'
 new : ∀ b c, R' b c -> R b c \/ (w.heap.size <= b /\ w'.heap.size <= c)
 size : w'.heap.size <= w1'.heap.size
 sizeL : w.heap.size <= w1.heap.size
 kept : ∀ c, c < w'.heap.size -> (∀ b, R b c -> b < N) -> w1'.heap[c]? = w'.heap[c]?
 tp : w1'.tape = w'.tape
 os : w1'.os = w'.os
 out : w1'.output = w'.output
theorem Went.refl {N : Nat} {R : BR} {w w' : World} (h : WRel N R w w') : Went N R R w w' w w' := ⟨BR.le_refl R, h, fun _ _ x => Or.inl x, Nat.le_refl _, Nat.le_refl _, fun _ _ _ => rfl, rfl, rfl, rfl⟩
theorem Went.trans {N : Nat} {R R' R'' : BR} {w w' w1 w1' w2 w2' : World} (h : Went N R R' w w' w1 w1') (h2 : Went N R' R'' w1 w1' w2 w2') : Went N R R'' w w' w2 w2' := by
 refine ⟨BR.le_trans h.le h2.le, h2.rel, fun b c x => ?_, Nat.le_trans h.size h2.size, Nat.le_trans h.sizeL h2.sizeL, fun c hc hn => ?_, h2.tp.trans h.tp, h2.os.trans h.os, h2.out.trans h.out⟩
 ·rcases h2.new b c x with y | y
  ·exact h.new b c y
  ·exact Or.inr ⟨Nat.le_trans h.sizeL y.1, Nat.le_trans h.size y.2⟩
 ·rw [h2.kept c (Nat.lt_of_lt_of_le hc h.size) (fun b x => ?_)]
  ·exact h.kept c hc hn
  ·rcases h.new b c x with y | y
   ·exact hn b y
   ·omega
theorem WRel.cell {N : Nat} {R : BR} {w w' : World} (h : WRel N R w w') {a c : Addr} (ha : ARel R a c) {v : Value} (hv : w.cell? a = some v) : ∃ v', w'.cell? c = some v' /\ VRel R v v' := by
 obtain ⟨h1, h2, h3⟩ := ha
 obtain ⟨o, o', e1, e2, ho⟩ := h.blk _ _ h1
 cases ho with
 | @cells x y e f f' hr _ _ =>
  obtain ⟨hs, hr⟩ := hr
  unfold World.cell? at hv ⊢
  rw [e1] at hv
  rw [e2]
  simp only at hv ⊢
  rw [<- h3, <- h2]
  by_cases hsp : a.spot.isSome = true
  ·rw [if_pos hsp] at hv; cases hv
  ·rw [if_neg hsp] at hv ⊢
   obtain ⟨hi, rfl⟩ := Array.getElem?_eq_some_iff.1 hv
   have hi' : a.off < y.size := by rw [<- hs]; exact hi
   exact ⟨y[a.off], Array.getElem?_eq_getElem hi', hr _ hi hi'⟩
 | other hj _ =>
  unfold World.cell? at hv
  rw [e1] at hv
  cases hj <;> simp at hv
theorem cell_at {w : World} {a : Addr} {v : Value} (h : w.cell? a = some v) : ∃ c e f, w.heap[a.block]? = some (.cells c e f) /\ a.off < c.size /\ a.spot.isSome = false := by
 unfold World.cell? at h
 split at h
 ·rename_i c e f hc
  split at h
  ·cases h
  ·rename_i hs
   exact ⟨c, e, f, hc, (Array.getElem?_eq_some_iff.1 h).1, by simpa using hs⟩
 ·cases h
theorem WRel.mine {N : Nat} {R : BR} {w w' : World} (h : WRel N R w w') {a c : Addr} (ha : ARel R a c) {v : Value} (hv : w.cell? a = some v) (hf : w.frozen? a = false) : N <= a.block /\ w'.frozen? c = false := by
 obtain ⟨h1, h2, h3⟩ := ha
 obtain ⟨x, e, f, e1, hlt, _⟩ := cell_at hv
 obtain ⟨o, o', e1', e2, ho⟩ := h.blk _ _ h1
 rw [e1] at e1'
 cases e1'
 cases ho with
 | other hj _ => cases hj
 | cells hr h4 h5 =>
  obtain ⟨f1, f2⟩ := f
  have hN : N <= a.block := by
   apply Nat.le_of_not_lt
   intro hlt'
   have hh := h4 hlt' _ hlt
   simp only [World.frozen?, e1] at hf
   simp only [Bool.and_eq_false_iff, decide_eq_false_iff_not] at hf
   omega
  refine ⟨hN, ?_⟩
  have e5 := h5 (by omega)
  subst e5
  simp only [World.frozen?, e1] at hf
  simp only [World.frozen?, e2, <- h2]
  exact hf
theorem WRel.shp {N : Nat} {R : BR} {w w' : World} (h : WRel N R w w') {r s : Nat} (hr : R r s) : w.shape? r = w'.shape? s := by
 obtain ⟨o, o', e1, e2, ho⟩ := h.blk _ _ hr
 cases ho with
 | cells hr _ _ => simp only [World.shape?, e1, e2, hr.1]
 | other hj _ => cases hj <;> simp only [World.shape?, e1, e2]
theorem RRel.set {R : BR} {x y : Array Value} (h : RRel R x y) (i : Nat) {v v' : Value} (hv : VRel R v v') : RRel R (x.setIfInBounds i v) (y.setIfInBounds i v') := by
 refine ⟨by simpa using h.1, fun j h1 h2 => ?_⟩
 simp only [Array.size_setIfInBounds] at h1 h2
 rw [Array.getElem_setIfInBounds h1, Array.getElem_setIfInBounds h2]
 split
 ·exact hv
 ·exact h.2 j h1 h2
theorem Went.store {N : Nat} {R : BR} {w w' : World} (h : WRel N R w w') {a c : Addr} (ha : ARel R a c) (hN : N <= a.block) {v v' : Value} (hv : VRel R v v') : Went N R R w w' (w.setCell a v) (w'.setCell c v') := by
 have hrel : WRel N R (w.setCell a v) (w'.setCell c v') := by
  obtain ⟨h1, h2, h3⟩ := ha
  refine ⟨h.one, fun b d hbd => ?_, h.tape, h.drawn, by simpa [World.setCell] using h.low⟩
  by_cases e : a.block = b
  ·subst e
   have ed : c.block = d := h.one.1 _ _ _ h1 hbd
   subst ed
   obtain ⟨o, o', e1, e2, ho⟩ := h.blk _ _ h1
   cases ho with
   | @cells x y e f f' hr h4 h5 =>
    refine ⟨.cells (if a.spot.isSome then x else x.setIfInBounds a.off v) e f, .cells (if c.spot.isSome then y else y.setIfInBounds c.off v') e f', by simp [World.setCell, Array.getElem?_modify, e1], by simp [World.setCell, Array.getElem?_modify, e2], .cells ?_ ?_ h5⟩
    ·rw [<- h3, <- h2]
     split
     ·exact hr
     ·exact hr.set _ hv
    ·intro hro
     omega
   | @other o o' hj h4 => exact ⟨o, o', by cases hj <;> simp [World.setCell, Array.getElem?_modify, e1], by cases hj <;> simp [World.setCell, Array.getElem?_modify, e2], .other hj h4⟩
  ·have ed : ¬ c.block = d := fun q => e (h.one.2 _ _ _ h1 (by rw [q]; exact hbd))
   have g1 : (w.setCell a v).heap[b]? = w.heap[b]? := by simp [World.setCell, Array.getElem?_modify, e]
   have g2 : (w'.setCell c v').heap[d]? = w'.heap[d]? := by simp [World.setCell, Array.getElem?_modify, ed]
   rw [g1, g2]
   exact h.blk _ _ hbd
 refine ⟨BR.le_refl _, hrel, fun _ _ x => Or.inl x, by simp [World.setCell], by simp [World.setCell], fun d _ hn => ?_, rfl, rfl, rfl⟩
 have : ¬ c.block = d := fun q => by
  have := hn a.block (by rw [<- q]; exact ha.1)
  omega
 simp [World.setCell, Array.getElem?_modify, this]
theorem Went.push {N : Nat} {R : BR} {w w' : World} (h : WRel N R w w') {o o' : Obj} (ho : ORel R False o o') :
  Went N R (R.more w.heap.size w'.heap.size) w w' { w with heap := w.heap.push o } { w' with heap := w'.heap.push o' } := by
 have hone : (R.more w.heap.size w'.heap.size).One := by
  refine ⟨fun b c c' x y => ?_, fun b b' c x y => ?_⟩
  ·rcases x with x | ⟨rfl, rfl⟩
   ·rcases y with y | ⟨rfl, rfl⟩
    ·exact h.one.1 _ _ _ x y
    ·exact absurd (h.lt x).1 (by omega)
   ·rcases y with y | ⟨_, rfl⟩
    ·exact absurd (h.lt y).1 (by omega)
    ·rfl
  ·rcases x with x | ⟨rfl, rfl⟩
   ·rcases y with y | ⟨rfl, rfl⟩
    ·exact h.one.2 _ _ _ x y
    ·exact absurd (h.lt x).2 (by omega)
   ·rcases y with y | ⟨rfl, _⟩
    ·exact absurd (h.lt y).2 (by omega)
    ·rfl
 have hle : R.le (R.more w.heap.size w'.heap.size) := ⟨fun _ _ h => Or.inl h, fun _ => hone⟩
 refine ⟨hle, ⟨hone, fun b c x => ?_, h.tape, h.drawn, by simp; have := h.low; omega⟩, fun b c x => ?_, by simp, by simp, fun c hc _ => ?_, rfl, rfl, rfl⟩
 ·rcases x with x | ⟨rfl, rfl⟩
  ·have hl := h.lt x
   have g1 : (w.heap.push o)[b]? = w.heap[b]? := by rw [Array.getElem?_push]; rw [if_neg (by omega)]
   have g2 : (w'.heap.push o')[c]? = w'.heap[c]? := by rw [Array.getElem?_push]; rw [if_neg (by omega)]
   simp only [g1, g2]
   obtain ⟨p, p', e1, e2, hr⟩ := h.blk _ _ x
   exact ⟨p, p', e1, e2, hr.mono hle⟩
  ·have hN : ¬ w.heap.size < N := by have := h.low; omega
   refine ⟨o, o', by simp, by simp, ?_⟩
   cases ho.mono hle with
   | cells h1 h2 h3 => exact .cells h1 (fun q => absurd q hN) (fun _ => h3 (fun q => q))
   | other h1 h2 => exact .other h1 (fun _ => hN)
 ·rcases x with x | ⟨rfl, rfl⟩
  ·exact Or.inl x
  ·exact Or.inr ⟨Nat.le_refl _, Nat.le_refl _⟩
 ·simp only [Array.getElem?_push]; rw [if_neg (by omega)]
theorem Went.remap {N : Nat} {R : BR} {w w' : World} (hx : xOther = true) (h : WRel N R w w') {r s : Nat} (hr : R r s) {c c' : Array MapEntry} {n : Nat} (hN : N <= r) (hc : EsRel R c c') :
  Went N R R w w' { w with heap := w.heap.setIfInBounds r (.map c n) } { w' with heap := w'.heap.setIfInBounds s (.map c' n) } := by
 have hl := h.lt hr
 refine ⟨BR.le_refl _, ⟨h.one, fun b d hbd => ?_, h.tape, h.drawn, by simpa using h.low⟩, fun _ _ x => Or.inl x, by simp, by simp, fun d _ hn => ?_, rfl, rfl, rfl⟩
 ·by_cases e : r = b
  ·subst e
   have ed : s = d := h.one.1 _ _ _ hr hbd
   subst ed
   exact ⟨_, _, Array.getElem?_setIfInBounds_self_of_lt hl.1, Array.getElem?_setIfInBounds_self_of_lt hl.2, .other (.map hx hc) (fun _ => by omega)⟩
  ·have ed : ¬ s = d := fun q => e (h.one.2 _ _ _ hr (by rw [q]; exact hbd))
   simp only [Array.getElem?_setIfInBounds_ne e, Array.getElem?_setIfInBounds_ne ed]
   exact h.blk _ _ hbd
 ·have : s ≠ d := fun q => by
   have := hn r (by rw [<- q]; exact hr)
   omega
  simp only [Array.getElem?_setIfInBounds_ne this]
theorem VRel.flat {R : BR} {v v' : Value} (h : VRel R v v') (h1 : ∀ c, v ≠ .agg c) (h2 : ∀ c, v ≠ .tuple c) : (∀ c, v' ≠ .agg c) /\ (∀ c, v' ≠ .tuple c) := by
 cases h with
 | agg _ _ => exact absurd rfl (h1 _)
 | tuple _ _ => exact absurd rfl (h2 _)
 | junk _ _ => exact absurd rfl (h2 _)
 | _ => exact ⟨fun c q => (by cases q), fun c q => (by cases q)⟩
theorem run_store {α : Type} (P : Program) (m : Mode) (a : Addr) (v : Value) (k : Sem α) (w : World) (h1 : ∀ c, v ≠ .agg c) (h2 : ∀ c, v ≠ .tuple c) {u : Value} (hc : w.cell? a = some u) (hf : w.frozen? a = false) :
  (Sem.store m a v k).run P w = k.run P (w.setCell a v) := by
 cases v with
 | agg c => exact absurd rfl (h1 c)
 | tuple c => exact absurd rfl (h2 c)
 | _ => simp only [Sem.run, hc, hf]; rfl
theorem runT_store {α : Type} (P : Program) (a : Addr) (v : Value) (k : Sem α) (w : World) (es : Array Event) (h1 : ∀ c, v ≠ .agg c) (h2 : ∀ c, v ≠ .tuple c) {u : Value} (hc : w.cell? a = some u) (hf : w.frozen? a = false) :
  (Sem.store .plain a v k).runT P w es = k.runT P (w.setCell a v) (es.push ⟨.cell a, true, false⟩) := by
 cases v with
 | agg c => exact absurd rfl (h1 c)
 | tuple c => exact absurd rfl (h2 c)
 | _ => simp only [Sem.runT, hc, hf]; rfl
theorem far_none {P : Program} {N : Nat} {R : BR} {w w' : World} (hw : WRel N R w w') {a c : Addr} (ha : ARel R a c) (m : Bool) : ∃ hh, w.farLoad P a m = .error hh := by
 obtain ⟨o, o', e1, e2, ho⟩ := hw.blk _ _ ha.1
 cases ho with
 | cells _ _ _ => exact ⟨_, by simp [World.farLoad, e1]; rfl⟩
 | other hj _ => cases hj <;> exact ⟨_, by simp [World.farLoad, e1]; rfl⟩
theorem far_noneS {P : Program} {N : Nat} {R : BR} {w w' : World} (hw : WRel N R w w') {a c : Addr} (ha : ARel R a c) (v : Value) (m : Bool) : ∃ hh, w.farStore P a v m = .error hh := by
 obtain ⟨o, o', e1, e2, ho⟩ := hw.blk _ _ ha.1
 cases ho with
 | cells _ _ _ => exact ⟨_, by simp [World.farStore, e1]; rfl⟩
 | other hj _ => cases hj <;> exact ⟨_, by simp [World.farStore, e1]; rfl⟩
theorem run_store_inv {α : Type} {P : Program} {m : Mode} {a : Addr} {v : Value} {k : Sem α} {w w1 : World} {x : α} {N : Nat} {R : BR} {w' : World} {c : Addr} (hw : WRel N R w w') (ha : ARel R a c) (h : (Sem.store m a v k).run P w = .ok x w1) :
  (∀ c, v ≠ .agg c) /\ (∀ c, v ≠ .tuple c) /\ (∃ u, w.cell? a = some u) /\ w.frozen? a = false := by
 have far : w.cell? a = none -> False := fun hn => by
  obtain ⟨hh, e⟩ := far_noneS (P := P) hw ha v (m == .atomic)
  cases v <;> simp [Sem.run, hn, e] at h
 have go : ∃ u, w.cell? a = some u := by
  cases hc : w.cell? a with
  | none => exact (far hc).elim
  | some u => exact ⟨u, rfl⟩
 obtain ⟨u, hu⟩ := go
 have hfz : w.frozen? a = false := by
  cases hf : w.frozen? a with
  | false => rfl
  | true => cases v <;> simp [Sem.run, hu, hf] at h
 refine ⟨fun c q => ?_, fun c q => ?_, ⟨u, hu⟩, hfz⟩
 ·subst q; simp [Sem.run] at h
 ·subst q; simp [Sem.run] at h
theorem run_load_inv {α : Type} {P : Program} {m : Mode} {a : Addr} {k : Value -> Sem α} {w w1 : World} {x : α} {N : Nat} {R : BR} {w' : World} {c : Addr} (hw : WRel N R w w') (ha : ARel R a c) (h : (Sem.load m a k).run P w = .ok x w1) : ∃ u, w.cell? a = some u := by
 cases hc : w.cell? a with
 | some u => exact ⟨u, rfl⟩
 | none =>
  obtain ⟨hh, e⟩ := far_none (P := P) hw ha (m == .atomic)
  simp [Sem.run, hc, e] at h
def EvR (N : Nat) (R : BR) (e : Event) : Prop :=
 (∃ a b wr, e = ⟨.cell a, wr, false⟩ /\ R b a.block /\ (wr = true -> N <= b)) \/ (∃ r b wr, e = ⟨.obj r, wr, false⟩ /\ R b r /\ (wr = true -> N <= b)) \/ e = ⟨.mark .noRoom, false, true⟩
def _root_.Go.World.tp (w : World) (τ : Nat -> Question -> Nat) (d : Nat) : World := { w with tape := τ, drawn := d }
def Locally {α : Type} (L : Program) (s : Sem α) (w : World) (x : α) (w1 : World) : Prop :=
 ∃ k, w1.tape = w.tape /\ w1.drawn = w.drawn + k /\ ∀ τ d, (∀ i, i < k -> ∀ q, τ (d + i) q = w.tape (w.drawn + i) q) -> s.run L (w.tp τ d) = .ok x (w1.tp τ (d + k))
theorem sem_run {α : Type} {Q : BR -> α -> α -> Prop} {L M : Program} {R : BR} {s s' : Sem α} (h : SemR L M Q R s s') :
  ∀ {N : Nat} {w w' w1 : World} {x : α}, WRel N R w w' -> s.run L w = .ok x w1 ->
   ∃ R' x' w1' es, (∀ es0, s'.runT M w' es0 = (.ok x' w1', es0 ++ es)) /\ Went N R R' w w' w1 w1' /\ Q R' x x' /\ (∀ e ∈ es, EvR N R' e) /\ Locally L s w x w1 := by
 induction h with
 | pure h =>
  intro N w w' w1 x hw hr
  simp only [Sem.run, Result.ok.injEq] at hr
  obtain ⟨rfl, rfl⟩ := hr
  exact ⟨_, _, _, #[], fun es0 => by simp [Sem.runT], Went.refl hw, h, by simp, 0, rfl, rfl, fun τ d _ => rfl⟩
 | @load R a a' k k' ha _ ih =>
  intro N w w' w1 x hw hr
  obtain ⟨u, hu⟩ := run_load_inv hw ha hr
  obtain ⟨u', hu', hv⟩ := hw.cell ha hu
  simp only [Sem.run, hu] at hr
  obtain ⟨R', x', w1', es, e, hg, hq, hes, k0, l1, l2, l3⟩ := ih _ (BR.le_refl _) u u' hv hw hr
  refine ⟨R', x', w1', #[⟨.cell a', false, false⟩] ++ es, fun es0 => ?_, hg, hq, ?_, k0, l1, l2, fun τ d ht => ?_⟩
  ·simp only [Sem.runT, hu']
   rw [e]
   simp
   rfl
  ·intro x hx
   rcases Array.mem_append.1 hx with hx | hx
   ·have : x = ⟨.cell a', false, false⟩ := by simpa using hx
    subst this
    exact Or.inl ⟨a', a.block, false, rfl, hg.le.1 _ _ ha.1, by simp⟩
   ·exact hes x hx
  ·have hu2 : (w.tp τ d).cell? a = some u := hu
   simp only [Sem.run, hu2]
   exact l3 τ d ht
 | @store R a a' v v' k k' ha hv _ ih =>
  intro N w w' w1 x hw hr
  obtain ⟨n1, n2, ⟨u, hu⟩, hf⟩ := run_store_inv hw ha hr
  rw [run_store L _ _ _ _ _ n1 n2 hu hf] at hr
  obtain ⟨m1, m2⟩ := hv.flat n1 n2
  obtain ⟨u', hu', _⟩ := hw.cell ha hu
  obtain ⟨hN, hf'⟩ := hw.mine ha hu hf
  have hst := Went.store hw ha hN hv
  obtain ⟨R', x', w1', es, e, hg, hq, hes, k0, l1, l2, l3⟩ := ih hst.rel hr
  refine ⟨R', x', w1', #[⟨.cell a', true, false⟩] ++ es, fun es0 => ?_, hst.trans hg, hq, ?_, k0, l1, l2, fun τ d ht => ?_⟩
  ·rw [runT_store M _ _ _ _ _ m1 m2 hu' hf', e]
   simp
  ·intro x hx
   rcases Array.mem_append.1 hx with hx | hx
   ·have : x = ⟨.cell a', true, false⟩ := by simpa using hx
    subst this
    exact Or.inl ⟨a', a.block, true, rfl, hg.le.1 _ _ ha.1, fun _ => hN⟩
   ·exact hes x hx
  ·rw [run_store L _ _ _ _ _ n1 n2 (show (w.tp τ d).cell? a = some u from hu) (show (w.tp τ d).frozen? a = false from hf)]
   exact l3 τ d ht
 | new ho _ ih =>
  intro N w w' w1 x hw hr
  simp only [Sem.run] at hr
  have hp := Went.push hw ho
  obtain ⟨R', x', w1', es, e, hg, hq, hes, k0, l1, l2, l3⟩ := ih _ hp.le _ _ (Or.inr ⟨rfl, rfl⟩) hp.rel hr
  exact ⟨R', x', w1', es, fun es0 => by simp only [Sem.runT]; exact e es0, hp.trans hg, hq, hes, k0, l1, l2, fun τ d ht => by simp only [Sem.run]; exact l3 τ d ht⟩
 | shape hrs _ ih =>
  intro N w w' w1 x hw hr
  simp only [Sem.run, hw.shp hrs] at hr
  obtain ⟨R', x', w1', es, e, hg, hq, hes, k0, l1, l2, l3⟩ := ih _ hw hr
  exact ⟨R', x', w1', es, fun es0 => by simp only [Sem.runT]; exact e es0, hg, hq, hes, k0, l1, l2, fun τ d ht => by
   have hs2 : (w.tp τ d).shape? _ = _ := hw.shp hrs
   simp only [Sem.run, hs2]
   exact l3 τ d ht⟩
 | @getObj R r r' k k' hrs _ ih =>
  intro N w w' w1 x hw hr
  obtain ⟨o, o', e1, e2, ho⟩ := hw.blk _ _ hrs
  simp only [Sem.run, e1] at hr
  cases ho with
  | cells _ _ _ => simp at hr
  | @other o o' hj hN =>
   have hr2 : (k o).run L w = .ok x w1 := by cases hj <;> exact hr
   obtain ⟨R', x', w1', es, e, hg, hq, hes, k0, l1, l2, l3⟩ := ih _ (BR.le_refl _) _ _ hj hw hr2
   have hT : ∀ es0, (Sem.getObj r' k').runT M w' es0 = (k' o').runT M w' (es0.push ⟨.obj r', false, false⟩) := by
    intro es0
    cases hj <;> (simp only [Sem.runT, e2]; rfl)
   refine ⟨R', x', w1', #[⟨.obj r', false, false⟩] ++ es, fun es0 => ?_, hg, hq, ?_, k0, l1, l2, fun τ d ht => ?_⟩
   ·rw [hT, e]
    simp
   ·intro x hx
    rcases Array.mem_append.1 hx with hx | hx
    ·have : x = ⟨.obj r', false, false⟩ := by simpa using hx
     subst this
     exact Or.inr (Or.inl ⟨r', r, false, rfl, hg.le.1 _ _ hrs, fun q => by cases q⟩)
    ·exact hes x hx
   ·have e1' : (w.tp τ d).heap[r]? = some o := e1
    have := l3 τ d ht
    cases hj <;> (simp only [Sem.run, e1']; exact this)
 | @setObj R r r' c c' n k k' hx hrs hc _ ih =>
  intro N w w' w1 x hw hr
  obtain ⟨o, o', e1, e2, ho⟩ := hw.blk _ _ hrs
  simp only [Sem.run, e1] at hr
  cases ho with
  | cells _ _ _ => simp at hr
  | @other o o' hj hN =>
   have hr2 : k.run L { w with heap := w.heap.setIfInBounds r (.map c n) } = .ok x w1 := by cases hj <;> exact hr
   have hst := Went.remap (n := n) hx hw hrs (by have := hN hx; omega) hc
   obtain ⟨R', x', w1', es, e, hg, hq, hes, k0, l1, l2, l3⟩ := ih hst.rel hr2
   have hT : ∀ es0, (Sem.setObj r' (.map c' n) k').runT M w' es0 = k'.runT M { w' with heap := w'.heap.setIfInBounds r' (.map c' n) } (es0.push ⟨.obj r', true, false⟩) := by
    intro es0
    cases hj <;> (simp only [Sem.runT, e2]; rfl)
   refine ⟨R', x', w1', #[⟨.obj r', true, false⟩] ++ es, fun es0 => ?_, hst.trans hg, hq, ?_, k0, l1, l2, fun τ d ht => ?_⟩
   ·rw [hT, e]
    simp
   ·intro x hx'
    rcases Array.mem_append.1 hx' with hx' | hx'
    ·have : x = ⟨.obj r', true, false⟩ := by simpa using hx'
     subst this
     exact Or.inr (Or.inl ⟨r', r, true, rfl, hg.le.1 _ _ hrs, fun _ => by have := hN hx; omega⟩)
    ·exact hes x hx'
   ·have e1' : (w.tp τ d).heap[r]? = some o := e1
    have := l3 τ d ht
    cases hj <;> (simp only [Sem.run, e1']; exact this)
 | @choose R q k k' _ ih =>
  intro N w w' w1 x hw hr
  simp only [Sem.run] at hr
  by_cases hq : q.forced = true
  ·rw [if_pos hq] at hr
   obtain ⟨R', x', w1', es, e, hg, hq2, hes, k0, l1, l2, l3⟩ := ih _ hw hr
   exact ⟨R', x', w1', es, fun es0 => by simp only [Sem.runT]; rw [if_pos hq]; exact e es0, hg, hq2, hes, k0, l1, l2, fun τ d ht => by simp only [Sem.run]; rw [if_pos hq]; exact l3 τ d ht⟩
  ·rw [if_neg hq] at hr
   have ht : w.tape w.drawn q = w'.tape w'.drawn q := by rw [hw.tape, hw.drawn]
   rw [ht] at hr
   have hw2 : WRel N R { w with drawn := w.drawn + 1 } { w' with drawn := w'.drawn + 1 } := ⟨hw.one, hw.blk, hw.tape, by simp [hw.drawn], hw.low⟩
   obtain ⟨R', x', w1', es, e, hg, hq2, hes, k0, l1, l2, l3⟩ := ih _ hw2 hr
   exact ⟨R', x', w1', es, fun es0 => by simp only [Sem.runT]; rw [if_neg hq]; exact e es0, ⟨hg.le, hg.rel, hg.new, hg.size, hg.sizeL, hg.kept, hg.tp, hg.os, hg.out⟩, hq2, hes, k0 + 1, l1, by simp at l2; omega, fun τ d ht => by
    simp only [Sem.run]
    rw [if_neg hq]
    have h0 : (w.tp τ d).tape (w.tp τ d).drawn q = w'.tape w'.drawn q := by rw [<- hw.tape, <- hw.drawn]; exact ht 0 (by omega) q
    rw [h0]
    have := l3 τ (d + 1) (fun i hi q => by have := ht (i + 1) (by omega) q; simpa [Nat.add_assoc, Nat.add_comm 1 i] using this)
    simpa [World.tp, Nat.add_assoc, Nat.add_comm 1 k0] using this⟩
 | program _ ih =>
  intro N w w' w1 x hw hr
  simp only [Sem.run] at hr
  obtain ⟨R', x', w1', es, e, hg, hq, hes, k0, l1, l2, l3⟩ := ih hw hr
  exact ⟨R', x', w1', es, fun es0 => by simp only [Sem.runT]; exact e es0, hg, hq, hes, k0, l1, l2, fun τ d ht => by simp only [Sem.run]; exact l3 τ d ht⟩
 | mark _ ih =>
  intro N w w' w1 x hw hr
  simp only [Sem.run] at hr
  obtain ⟨R', x', w1', es, e, hg, hq, hes, k0, l1, l2, l3⟩ := ih hw hr
  refine ⟨R', x', w1', #[⟨.mark .noRoom, false, true⟩] ++ es, fun es0 => ?_, hg, hq, ?_, k0, l1, l2, fun τ d ht => ?_⟩
  ·simp only [Sem.runT]
   rw [e]
   simp
  ·intro x hx
   rcases Array.mem_append.1 hx with hx | hx
   ·have : x = ⟨.mark .noRoom, false, true⟩ := by simpa using hx
    subst this
    exact Or.inr (Or.inr rfl)
   ·exact hes x hx
  ·simp only [Sem.run]
   exact l3 τ d ht
 | never h =>
  intro N w w' w1 x hw hr
  exact absurd hr h.not
theorem sem_soft {α : Type} {Q : BR -> α -> α -> Prop} {L M : Program} {R : BR} {s s' : Sem α} (h : SemR L M Q R s s') :
  ∀ {N : Nat} {w w' w1 : World} {hh : Halt}, WRel N R w w' -> s.run L w = .halt hh w1 -> Soft hh := by
 have noc : ∀ (w : World) (a : Addr) (t : String), Soft (w.noCell a t) := by
  intro w a t
  unfold World.noCell
  split
  ·exact .unsupported _
  ·exact .unsupported _
  ·exact .stuck _
 induction h with
 | pure h => intro N w w' w1 hh hw hr; simp [Sem.run] at hr
 | @load R a a' k k' ha _ ih =>
  intro N w w' w1 hh hw hr
  cases hc : w.cell? a with
  | some u =>
   obtain ⟨u', hu', hv⟩ := hw.cell ha hc
   simp only [Sem.run, hc] at hr
   exact ih _ (BR.le_refl _) u u' hv hw hr
  | none =>
   obtain ⟨o, o', e1, e2, ho⟩ := hw.blk _ _ ha.1
   have e : w.farLoad L a (Mode.plain == .atomic) = .error (w.noCell a "load: no such cell") := by
    cases ho with
    | cells _ _ _ => simp [World.farLoad, e1]
    | other hj _ => cases hj <;> simp [World.farLoad, e1]
   simp only [Sem.run, hc, e, Result.halt.injEq] at hr
   rw [<- hr.1]
   exact noc _ _ _
 | @store R a a' v v' k k' ha hv _ ih =>
  intro N w w' w1 hh hw hr
  by_cases n1 : ∃ c, v = .agg c
  ·obtain ⟨c, rfl⟩ := n1
   simp only [Sem.run, Result.halt.injEq] at hr
   rw [<- hr.1]
   exact .stuck _
  by_cases n2 : ∃ c, v = .tuple c
  ·obtain ⟨c, rfl⟩ := n2
   simp only [Sem.run, Result.halt.injEq] at hr
   rw [<- hr.1]
   exact .stuck _
  have m1 : ∀ c, v ≠ .agg c := fun c q => n1 ⟨c, q⟩
  have m2 : ∀ c, v ≠ .tuple c := fun c q => n2 ⟨c, q⟩
  cases hc : w.cell? a with
  | some u =>
   cases hf : w.frozen? a with
   | false =>
    rw [run_store L _ _ _ _ _ m1 m2 hc hf] at hr
    exact ih (Went.store hw ha (hw.mine ha hc hf).1 hv).rel hr
   | true =>
    cases v with
    | agg c => exact absurd rfl (m1 c)
    | tuple c => exact absurd rfl (m2 c)
    | _ =>
     simp only [Sem.run, hc, hf, if_true, Result.halt.injEq] at hr
     rw [<- hr.1]
     exact .unsupported _
  | none =>
   obtain ⟨o, o', e1, e2, ho⟩ := hw.blk _ _ ha.1
   have e : w.farStore L a v (Mode.plain == .atomic) = .error (w.noCell a "store: no such cell") := by
    cases ho with
    | cells _ _ _ => simp [World.farStore, e1]
    | other hj _ => cases hj <;> simp [World.farStore, e1]
   cases v with
   | agg c => exact absurd rfl (m1 c)
   | tuple c => exact absurd rfl (m2 c)
   | _ =>
    simp only [Sem.run, hc, e, Result.halt.injEq] at hr
    rw [<- hr.1]
    exact noc _ _ _
 | new ho _ ih =>
  intro N w w' w1 hh hw hr
  simp only [Sem.run] at hr
  have hp := Went.push hw ho
  exact ih _ hp.le _ _ (Or.inr ⟨rfl, rfl⟩) hp.rel hr
 | shape hrs _ ih =>
  intro N w w' w1 hh hw hr
  simp only [Sem.run, hw.shp hrs] at hr
  exact ih _ hw hr
 | @getObj R r r' k k' hrs _ ih =>
  intro N w w' w1 hh hw hr
  obtain ⟨o, o', e1, e2, ho⟩ := hw.blk _ _ hrs
  simp only [Sem.run, e1] at hr
  cases ho with
  | cells _ _ _ =>
   simp only [Result.halt.injEq] at hr
   rw [<- hr.1]
   exact .stuck _
  | @other o o' hj hN =>
   have hr2 : (k o).run L w = .halt hh w1 := by cases hj <;> exact hr
   exact ih _ (BR.le_refl _) _ _ hj hw hr2
 | @setObj R r r' c c' n k k' hx hrs hc _ ih =>
  intro N w w' w1 hh hw hr
  obtain ⟨o, o', e1, e2, ho⟩ := hw.blk _ _ hrs
  simp only [Sem.run, e1] at hr
  cases ho with
  | cells _ _ _ =>
   simp only [Result.halt.injEq] at hr
   rw [<- hr.1]
   exact .stuck _
  | @other o o' hj hN =>
   have hr2 : k.run L { w with heap := w.heap.setIfInBounds r (.map c n) } = .halt hh w1 := by cases hj <;> exact hr
   exact ih (Went.remap (n := n) hx hw hrs (by have := hN hx; omega) hc).rel hr2
 | @choose R q k k' _ ih =>
  intro N w w' w1 hh hw hr
  simp only [Sem.run] at hr
  split at hr
  ·exact ih _ hw hr
  ·have hw2 : WRel N R { w with drawn := w.drawn + 1 } { w' with drawn := w'.drawn + 1 } := ⟨hw.one, hw.blk, hw.tape, by simp [hw.drawn], hw.low⟩
   exact ih _ hw2 hr
 | program _ ih => intro N w w' w1 hh hw hr; simp only [Sem.run] at hr; exact ih hw hr
 | mark _ ih => intro N w w' w1 hh hw hr; simp only [Sem.run] at hr; exact ih hw hr
 | never h =>
  intro N w w' w1 hh hw hr
  obtain ⟨h2, w2, e, hs⟩ := h w
  rw [e] at hr
  cases hr
  exact hs
end
section
open Go
class Twin (L M : Program) : Prop where
 info : ∀ t, M.info? t = L.info? t
 und : ∀ t, M.underlying t = L.underlying t
variable {L M : Program}
abbrev QEq {α : Type} : BR -> α -> α -> Prop := fun _ a b => a = b
abbrev QV : BR -> Value -> Value -> Prop := fun R v v' => VRel R v v'
abbrev QA : BR -> Addr -> Addr -> Prop := fun R a a' => ARel R a a'
abbrev QR : BR -> Array Value -> Array Value -> Prop := fun R c c' => RRel R c c'
theorem sr_pure {α : Type} {Q : BR -> α -> α -> Prop} {R : BR} {a a' : α} (h : Q R a a') : SemR L M Q R (pure a) (pure a') := .pure h
theorem sr_bind {α β : Type} {Q : BR -> α -> α -> Prop} {Q' : BR -> β -> β -> Prop} {R : BR} {s s' : Sem α} {f f' : α -> Sem β} (h : SemR L M Q R s s')
  (hf : ∀ R' : BR, R.le R' -> ∀ a a', Q R' a a' -> SemR L M Q' R' (f a) (f' a')) : SemR L M Q' R (s >>= f) (s' >>= f') := SemR.bind h hf
theorem sr_stuck {α : Type} {Q : BR -> α -> α -> Prop} {R : BR} {w : String} {s : Sem α} : SemR L M Q R (stuck w) s := .halt
abbrev QP (L M : Program) : BR -> Program -> Program -> Prop := fun _ p p' => p = L /\ p' = M
theorem sr_program {R : BR} : SemR L M (QP L M) R program program := .program (.pure ⟨rfl, rfl⟩)
theorem sr_load {R : BR} {a a' : Addr} (h : ARel R a a') : SemR L M QV R (load a) (load a') := .load h fun _ _ _ _ hv => .pure hv
theorem sr_store {R : BR} {a a' : Addr} {v v' : Value} (h : ARel R a a') (hv : VRel R v v') : SemR L M QEq R (store a v) (store a' v') := .store h hv (.pure rfl)
theorem sr_typeInfo [Twin L M] {R : BR} (t : TypeId) : SemR L M QEq R (typeInfo t) (typeInfo t) := by
 unfold typeInfo
 refine sr_bind sr_program ?_
 rintro R' _ p p' ⟨rfl, rfl⟩
 rw [Twin.info (L := p) (M := p') t]
 split
 ·exact sr_pure rfl
 ·exact sr_stuck
theorem sr_underlying [Twin L M] {R : BR} (t : TypeId) : SemR L M QEq R (underlying t) (underlying t) := by
 unfold underlying
 refine sr_bind sr_program ?_
 rintro R' _ p p' ⟨rfl, rfl⟩
 rw [Twin.und (L := p) (M := p') t]
 split
 ·exact sr_pure rfl
 ·exact sr_stuck
theorem sr_sizeOf [Twin L M] {R : BR} (t : TypeId) : SemR L M QEq R (sizeOf t) (sizeOf t) := by
 unfold Go.sizeOf
 refine sr_bind (sr_typeInfo t) ?_
 rintro R' _ p _ rfl
 exact sr_pure rfl
theorem sr_isAgg [Twin L M] {R : BR} (t : TypeId) : SemR L M QEq R (isAgg t) (isAgg t) := by
 unfold isAgg
 refine sr_bind (sr_underlying t) ?_
 rintro R' _ p _ rfl
 split <;> exact sr_pure rfl
theorem ARel.add {R : BR} {a a' : Addr} (h : ARel R a a') (n : Nat) : ARel R (a.add n) (a'.add n) := by
 unfold Addr.add
 split
 ·exact h
 ·exact ⟨h.1, by simp [h.2.1], rfl⟩
theorem RRel.push {R : BR} {c c' : Array Value} (h : RRel R c c') {v v' : Value} (hv : VRel R v v') : RRel R (c.push v) (c'.push v') := by
 refine ⟨by simp [h.1], fun i h1 h2 => ?_⟩
 rw [Array.getElem_push, Array.getElem_push]
 simp only [Array.size_push] at h1 h2
 by_cases hi : i < c.size
 ·have hi' : i < c'.size := by rw [<- h.1]; exact hi
  rw [dif_pos hi, dif_pos hi']
  exact h.2 i hi hi'
 ·rw [dif_neg hi, dif_neg (by rw [<- h.1]; exact hi)]
  exact hv
theorem sr_loadCellsFrom {R : BR} {a a' : Addr} (h : ARel R a a') : ∀ (n i : Nat) {acc acc' : Array Value}, RRel R acc acc' -> SemR L M QR R (loadCellsFrom a i n acc) (loadCellsFrom a' i n acc') := by
 intro n
 induction n generalizing R with
 | zero => exact fun i acc acc' hr => sr_pure hr
 | succ n ih =>
  intro i acc acc' hr
  refine sr_bind (sr_load (h.add i)) ?_
  intro R' hR v v' hv
  exact ih (h.mono hR) (i + 1) ((hr.mono hR).push hv)
theorem RRel.nil {R : BR} : RRel R #[] #[] := ⟨rfl, fun i h _ => absurd h (by simp)⟩
theorem sr_loadCells {R : BR} {a a' : Addr} (h : ARel R a a') (n : Nat) : SemR L M QR R (loadCells a n) (loadCells a' n) := sr_loadCellsFrom h n 0 RRel.nil
theorem sr_loadVar [Twin L M] {R : BR} {a a' : Addr} (t : TypeId) (h : ARel R a a') : SemR L M QV R (loadVar t a) (loadVar t a') := by
 unfold loadVar
 refine sr_bind (sr_isAgg t) ?_
 rintro R' hR b _ rfl
 cases b with
 | true =>
  refine sr_bind (sr_sizeOf t) ?_
  rintro R2 hR2 n _ rfl
  refine sr_bind (sr_loadCells ((h.mono hR).mono hR2) n) ?_
  intro R3 hR3 c c' hc
  exact sr_pure (.agg hc.1 hc.2)
 | false => exact sr_load (h.mono hR)
theorem RRel.one {R : BR} {v v' : Value} (h : VRel R v v') : RRel R #[v] #[v'] := RRel.nil.push h
theorem VRel.cells {R : BR} {v v' : Value} (h : VRel R v v') : RRel R v.cells v'.cells := by
 cases h with
 | agg h1 h2 => exact ⟨h1, h2⟩
 | bool b => exact RRel.one (.bool b)
 | int k n => exact RRel.one (.int k n)
 | map h => exact RRel.one (.map h)
 | nilMap => exact RRel.one .nilMap
 | nilChan => exact RRel.one .nilChan
 | string s => exact RRel.one (.string s)
 | ptr h => exact RRel.one (.ptr h)
 | nilPtr => exact RRel.one .nilPtr
 | slice n m h => exact RRel.one (.slice n m h)
 | nilSlice n m => exact RRel.one (.nilSlice n m)
 | func fn h0 h1 h2 h3 h4 => exact RRel.one (.func fn h0 h1 h2 h3 h4)
 | nilFunc => exact RRel.one .nilFunc
 | iface t h => exact RRel.one (.iface t h)
 | nilIface => exact RRel.one .nilIface
 | tuple h1 h2 => exact RRel.one (.tuple h1 h2)
 | junkM h0 => exact RRel.one (.junkM h0)
 | @junk v' hj0 hj =>
  have e : v'.cells = #[v'] := by cases v' with | agg c => cases hj | _ => rfl
  rw [e]
  exact RRel.one (.junk hj0 hj)
inductive LRel (R : BR) : List Value -> List Value -> Prop
 | nil : LRel R [] []
 | cons {v v' : Value} {r r' : List Value} : VRel R v v' -> LRel R r r' -> LRel R (v :: r) (v' :: r')
theorem LRel.mono {R R' : BR} (hR : R.le R') {l l' : List Value} (h : LRel R l l') : LRel R' l l' := by
 induction h with
 | nil => exact .nil
 | cons hv _ ih => exact .cons (hv.mono hR) ih
theorem LRel.of_get {R : BR} : ∀ (l l' : List Value), l.length = l'.length -> (∀ i (h : i < l.length) (h' : i < l'.length), VRel R l[i] l'[i]) -> LRel R l l'
 | [], [], _, _ => .nil
 | [], _ :: _, h, _ => by simp at h
 | _ :: _, [], h, _ => by simp at h
 | v :: r, v' :: r', h, hg => .cons (hg 0 (by simp) (by simp)) (LRel.of_get r r' (by simpa using h) (fun i h1 h2 => hg (i + 1) (Nat.succ_lt_succ h1) (Nat.succ_lt_succ h2)))
theorem RRel.all {R : BR} {c c' : Array Value} (h : RRel R c c') : LRel R c.toList c'.toList :=
 LRel.of_get _ _ (by simpa using h.1) (fun i h1 h2 => by simpa using h.2 i (by simpa using h1) (by simpa using h2))
theorem sr_storeCells {R : BR} {a a' : Addr} (h : ARel R a a') {vs vs' : List Value} (hf : LRel R vs vs') : ∀ (i : Nat), SemR L M QEq R (storeCells a vs i) (storeCells a' vs' i) := by
 induction vs generalizing R vs' with
 | nil => intro i; cases hf; exact sr_pure rfl
 | cons v r ih =>
  intro i
  cases hf with
  | cons hv hr =>
   refine sr_bind (sr_store (h.add i) hv) ?_
   intro R' hR _ _ _
   exact ih (h.mono hR) (hr.mono hR) (i + 1)
theorem sr_storeVar [Twin L M] {R : BR} {a a' : Addr} (t : TypeId) (h : ARel R a a') {v v' : Value} (hv : VRel R v v') : SemR L M QEq R (storeVar t a v) (storeVar t a' v') := by
 unfold storeVar
 refine sr_bind (sr_sizeOf t) ?_
 rintro R' hR n _ rfl
 have hc := (hv.mono hR).cells
 rw [<- hc.1]
 split
 ·exact SemR.halt
 ·exact sr_storeCells (h.mono hR) (RRel.all hc) 0
theorem sr_sureAddr {R : BR} {v v' : Value} (h : VRel R v v') : SemR L M QA R (Instr.sureAddr v) (Instr.sureAddr v') := by
 cases h with
 | ptr h => exact sr_pure h
 | _ => exact SemR.halt
theorem sr_loadAt [Twin L M] {R : BR} {v v' : Value} (t : TypeId) (h : VRel R v v') : SemR L M QV R (Instr.loadAt t v) (Instr.loadAt t v') :=
 sr_bind (sr_sureAddr h) fun _ _ _ _ ha => sr_loadVar t ha
theorem sr_storeAt [Twin L M] {R : BR} {v v' x x' : Value} (t : TypeId) (h : VRel R v v') (hx : VRel R x x') : SemR L M QEq R (Instr.storeAt t v x) (Instr.storeAt t v' x') :=
 sr_bind (sr_sureAddr h) fun _ hR _ _ ha => sr_storeVar t ha (hx.mono hR)
theorem sr_newObj {R : BR} {o o' : Obj} (h : ORel R False o o') : SemR L M (fun R r r' => R r r') R (newObj o) (newObj o') := .new h fun _ _ _ _ hr => .pure hr
theorem sr_newRow {R : BR} (e : TypeId) {c c' : Array Value} (h : RRel R c c') : SemR L M QA R (newRow e c) (newRow e c') :=
 sr_bind (sr_newObj (.cells h (fun q => q.elim) (fun _ => rfl))) fun _ _ _ _ hr => sr_pure ⟨hr, rfl, rfl⟩
theorem sr_newVar {R : BR} (e : TypeId) {v v' : Value} (h : VRel R v v') : SemR L M QA R (newVar e v) (newVar e v') := sr_newRow e h.cells
theorem sr_box {R : BR} (e : TypeId) {v v' : Value} (h : VRel R v v') : SemR L M QV R (Instr.box e v) (Instr.box e v') :=
 sr_bind (sr_newVar e h) fun _ _ _ _ ha => sr_pure (.ptr ha)
theorem sr_extract {R : BR} {v v' : Value} (h : VRel R v v') (i : Nat) : SemR L M QV R (Instr.extract v i) (Instr.extract v' i) := by
 cases h with
 | tuple h1 h2 =>
  unfold Instr.extract
  rename_i c c'
  by_cases hi : i < c.size
  ·have hi' : i < c'.size := by rw [<- h1]; exact hi
   simp only [Array.getElem?_eq_getElem hi, Array.getElem?_eq_getElem hi']
   exact sr_pure (h2 i hi hi')
  ·simp only [Array.getElem?_eq_none (Nat.le_of_not_lt hi)]
   exact sr_stuck
 | _ => exact SemR.halt
instance softly_pure {P : Program} {α : Type} (a : α) : Softly P (pure a : Sem α) := ⟨fun w h w' q => by simp [pure] at q⟩
instance softly_bind {P : Program} {α β : Type} (s : Sem α) (f : α -> Sem β) [S : Softly P s] [F : ∀ a, Softly P (f a)] : Softly P (s >>= f) := ⟨fun w h w' q => by
 rw [Sem.run_bind] at q
 cases hs : s.run P w with
 | ok y v => rw [hs] at q; exact (F y).soft v h w' q
 | halt hh v =>
  rw [hs] at q
  have : hh = h := by simp [Result.andThen] at q; exact q.1
  subst this
  exact S.soft w hh v hs⟩
instance softly_halt {P : Program} {α : Type} (h : Halt) [S : SoftH h] : Softly P (Sem.halt h : Sem α) := ⟨fun w hh w' q => by simp [Sem.run] at q; rw [<- q.1]; exact S.soft⟩
instance softly_stuck {P : Program} {α : Type} (t : String) : Softly P (stuck t : Sem α) := softly_halt (.stuck t)
instance softly_unsup {P : Program} {α : Type} (u : Unsupported) : Softly P (unsupported u : Sem α) := softly_halt (.unsupported u)
instance softly_choose {P : Program} (q : Question) : Softly P (choose q) := ⟨fun w h w' e => by simp only [choose, Sem.run] at e; split at e <;> simp at e⟩
instance softly_program {P : Program} : Softly P program := ⟨fun w h w' e => by simp [program, Sem.run] at e⟩
instance softly_shape {P : Program} (r : Nat) : Softly P (shape r) := ⟨fun w h w' e => by simp [shape, Sem.run] at e⟩
instance softly_frozen {P : Program} (a : Addr) : Softly P (frozen a) := ⟨fun w h w' e => by simp [frozen, Sem.run] at e⟩
instance softly_mark {P : Program} (m : Mark) : Softly P (mark m) := ⟨fun w h w' e => by simp [mark, Sem.run] at e⟩
instance softly_newObj {P : Program} (o : Obj) : Softly P (newObj o) := ⟨fun w h w' e => by simp [newObj, Sem.run] at e⟩
instance softly_getObj {P : Program} (r : Nat) : Softly P (getObj r) := ⟨fun w h w' e => by
 simp only [getObj, Sem.run] at e
 split at e
 ·simp at e; rw [<- e.1]; exact .stuck _
 ·simp at e
 ·simp at e; rw [<- e.1]; exact .stuck _⟩
instance softly_ite {P : Program} {α : Type} (c : Prop) [Decidable c] (a b : Sem α) [A : Softly P a] [B : Softly P b] : Softly P (if c then a else b) := by split <;> assumption
instance softly_typeInfo {P : Program} (t : TypeId) : Softly P (typeInfo t) := by
 unfold typeInfo
 have : ∀ p : Program, Softly P (match p.info? t with | some i => (pure i : Sem TypeInfo) | none => stuck "no such type") := fun p => by split <;> infer_instance
 infer_instance
instance softly_underlying {P : Program} (t : TypeId) : Softly P (underlying t) := by
 unfold underlying
 have : ∀ p : Program, Softly P (match p.underlying t with | some i => (pure i : Sem TypeDesc) | none => stuck "no such type") := fun p => by split <;> infer_instance
 infer_instance
instance softly_newVar {P : Program} (t : TypeId) (v : Value) : Softly P (newVar t v) := by
 unfold newVar newRow
 infer_instance
instance softly_elemOf {P : Program} (t : TypeId) : Softly P (elemOf t) := by
 unfold elemOf
 have : ∀ d : TypeDesc, Softly P (match d with | .pointer e => (pure e : Sem TypeId) | _ => stuck "pointer type expected") := fun d => by split <;> infer_instance
 infer_instance
theorem never_last {P : Program} {α β : Type} {s : Sem α} [S : Softly P s] {f : α -> Sem β} (h : ∀ a, Dies P (f a)) : Dies P (s >>= f) := fun w => by
 rw [Sem.run_bind]
 cases hs : s.run P w with
 | ok y v => exact h y v
 | halt hh v => exact ⟨hh, v, rfl, S.soft w hh v hs⟩
theorem never_halt {P : Program} {α : Type} {hh : Halt} [S : SoftH hh] : Dies P (Sem.halt hh : Sem α) := fun w => ⟨hh, w, rfl, S.soft⟩
theorem never_panic {P : Program} {α : Type} (e : RuntimeError) : Dies P (runtimePanic e : Sem α) := by
 unfold runtimePanic
 refine never_last fun p => ?_
 cases e with
 | bounds => exact never_halt
 | error => exact never_halt
 | plain => exact never_halt
 | nilDeref => exact never_halt
 | typeAssertion => exact never_last fun _ => never_last fun _ => never_halt
 | panicNil => exact never_last fun _ => never_last fun _ => never_halt
 | unhashable => exact never_halt
theorem never_bounds {P : Program} {α : Type} (k : IntKind) (x y : Int) (c : BoundsCode) : Dies P (boundsPanic k x y c : Sem α) := by
 unfold boundsPanic
 split
 ·rw [<- bind_pure_comp]
  exact never_last fun _ => never_panic _
 ·exact never_last fun _ => never_panic _
def Plain (v : Value) : Prop := ∀ R : BR, VRel R v v
def ZeroOk (P : Program) : Prop := ∀ t i v, P.info? t = some i -> i.zero = some v -> Plain v
theorem sr_typeInfo2 [Twin L M] {R : BR} (t : TypeId) : SemR L M (fun _ i i' => i = i' /\ L.info? t = some i) R (typeInfo t) (typeInfo t) := by
 unfold typeInfo
 refine sr_bind sr_program ?_
 rintro R' _ p p' ⟨rfl, rfl⟩
 rw [Twin.info (L := p) (M := p') t]
 split
 ·next i hi => exact sr_pure ⟨rfl, hi⟩
 ·exact sr_stuck
theorem sr_zeroValue [Twin L M] (hz : ZeroOk L) {R : BR} (t : TypeId) : SemR L M QV R (zeroValue t) (zeroValue t) := by
 unfold zeroValue
 refine sr_bind (sr_typeInfo2 t) ?_
 rintro R' _ i _ ⟨rfl, hi⟩
 split
 ·next v hv => exact sr_pure (hz t i v hi hv R')
 ·exact SemR.halt
theorem sr_alloc [Twin L M] (hz : ZeroOk L) {R : BR} (e : TypeId) : SemR L M QV R (Instr.alloc e true (.tuple #[])) (Instr.alloc e true (.tuple #[])) := by
 unfold Instr.alloc
 refine sr_bind (sr_zeroValue hz e) ?_
 intro R' _ v v' hv
 exact sr_bind (sr_newVar e hv) fun _ _ _ _ ha => sr_pure (.ptr ha)
theorem sr_makeInterface [Twin L M] {R : BR} (t : TypeId) {v v' : Value} (h : VRel R v v') : SemR L M QV R (Instr.makeInterface t v) (Instr.makeInterface t v') := by
 unfold Instr.makeInterface
 refine sr_bind (sr_underlying t) ?_
 rintro R' hR d _ rfl
 split
 ·exact sr_stuck
 ·exact sr_pure (.iface t (h.mono hR))
theorem sr_asAgg {R : BR} {v v' : Value} (h : VRel R v v') : SemR L M QR R (asAgg v) (asAgg v') := by
 cases h with
 | agg h1 h2 => exact sr_pure ⟨h1, h2⟩
 | _ => exact SemR.halt
theorem RRel.ext {R : BR} {c c' : Array Value} (h : RRel R c c') (i j : Nat) : RRel R (c.extract i j) (c'.extract i j) := by
 refine ⟨by simp [h.1], fun k h1 h2 => ?_⟩
 simp only [Array.getElem_extract]
 exact h.2 _ _ _
theorem sr_part [Twin L M] {R : BR} (t : TypeId) {c c' : Array Value} (h : RRel R c c') (off : Nat) : SemR L M QV R (part t c off) (part t c' off) := by
 unfold part
 refine sr_bind (sr_isAgg t) ?_
 rintro R' hR b _ rfl
 cases b with
 | true =>
  refine sr_bind (sr_sizeOf t) ?_
  rintro R2 hR2 n _ rfl
  have := ((h.mono hR).mono hR2).ext off (off + n)
  exact sr_pure (.agg this.1 this.2)
 | false =>
  by_cases hi : off < c.size
  ·have hi' : off < c'.size := by rw [<- h.1]; exact hi
   simp only [Bool.false_eq_true, if_false, Array.getElem?_eq_getElem hi, Array.getElem?_eq_getElem hi']
   exact sr_pure ((h.2 off hi hi').mono hR)
  ·simp only [Bool.false_eq_true, if_false, Array.getElem?_eq_none (Nat.le_of_not_lt hi)]
   exact sr_stuck
theorem sr_field [Twin L M] {R : BR} (t : TypeId) {v v' : Value} (h : VRel R v v') (f : Nat) : SemR L M QV R (Instr.field t v f) (Instr.field t v' f) := by
 unfold Instr.field
 refine sr_bind (sr_underlying t) ?_
 rintro R' hR d _ rfl
 split
 ·split
  ·exact sr_bind (sr_asAgg (h.mono hR)) fun _ _ _ _ hc => sr_part _ hc _
  ·exact sr_stuck
 ·exact sr_stuck
theorem sr_asIntOf {R : BR} {v v' : Value} (h : VRel R v v') : SemR L M QEq R (asIntOf v) (asIntOf v') := by
 cases h with
 | int k n => exact sr_pure rfl
 | _ => exact SemR.halt
theorem sr_asInt {R : BR} {v v' : Value} (h : VRel R v v') : SemR L M QEq R (asInt v) (asInt v') := by
 unfold asInt
 refine sr_bind (sr_asIntOf h) ?_
 rintro R' _ p _ rfl
 exact sr_pure rfl
theorem sr_asBool {R : BR} {v v' : Value} (h : VRel R v v') : SemR L M QEq R (asBool v) (asBool v') := by
 cases h with
 | bool b => exact sr_pure rfl
 | _ => exact SemR.halt
theorem sr_index [Twin L M] {R : BR} (t : TypeId) {v v' i i' : Value} (h : VRel R v v') (hi : VRel R i i') : SemR L M QV R (Instr.index t v i) (Instr.index t v' i') := by
 unfold Instr.index
 refine sr_bind (sr_asIntOf hi) ?_
 rintro R' hR ⟨k, n⟩ _ rfl
 refine sr_bind (sr_underlying t) ?_
 rintro R2 hR2 d _ rfl
 replace h := (h.mono hR).mono hR2
 cases h with
 | agg h1 h2 =>
  split
  ·split
   ·refine sr_bind (sr_sizeOf _) ?_
    rintro R3 hR3 m _ rfl
    rename_i e1 e2 _
    cases e2
    exact sr_part _ (RRel.mono hR3 ⟨h1, h2⟩) _
   ·exact SemR.never (never_bounds _ _ _ _)
  ·next e2 => cases e2
  ·exact sr_stuck
 | string s =>
  split
  ·next e2 => cases e2
  ·next e2 => cases e2; split
              · exact sr_pure (.int _ _)
              · exact SemR.never (never_bounds _ _ _ _)
  ·exact sr_stuck
 | _ => split <;> first | (next e2 => cases e2) | exact sr_stuck
end
section
open Go
variable {L M : Program}
theorem sr_shape {R : BR} {r r' : Nat} (h : R r r') : SemR L M QEq R (shape r) (shape r') := .shape h fun _ => .pure rfl
theorem never_ite {P : Program} {α : Type} {c : Prop} [Decidable c] {a b : Sem α} (ha : Dies P a) (hb : Dies P b) : Dies P (if c then a else b) := by
 split
 ·exact ha
 ·exact hb
theorem sr_underlying2 [Twin L M] {R : BR} (t : TypeId) : SemR L M (fun _ d d' => d = d' /\ L.underlying t = some d) R (underlying t) (underlying t) := by
 unfold underlying
 refine sr_bind sr_program ?_
 rintro R' _ p p' ⟨rfl, rfl⟩
 rw [Twin.und (L := p) (M := p') t]
 split
 ·next d hd => exact sr_pure ⟨rfl, hd⟩
 ·exact sr_stuck
theorem sr_fieldAt [Twin L M] {R : BR} (s : TypeId) {v v' : Value} (h : VRel R v v') (f : Nat) (hp : ∀ fs fd, L.underlying s = some (.struct fs) -> fs[f]? = some fd -> ∀ i, L.info? fd.type = some i -> i.size ≠ 0) : SemR L M QV R (Instr.fieldAt s v f) (Instr.fieldAt s v' f) := by
 unfold Instr.fieldAt
 refine sr_bind (sr_underlying2 s) ?_
 rintro R' hR d _ ⟨rfl, hd⟩
 split
 ·next fs =>
  split
  ·next fd hfd =>
   refine sr_bind (sr_sureAddr (h.mono hR)) ?_
   intro R2 hR2 a a' ha
   refine sr_bind (Q := QA) ?_ (fun _ _ _ _ hx => sr_pure (.ptr hx))
   unfold fieldPlace
   have hsz : SemR L M (fun _ n n' => n = n' /\ n ≠ 0) R2 (Go.sizeOf fd.type) (Go.sizeOf fd.type) := by
    unfold Go.sizeOf
    refine sr_bind (sr_typeInfo2 fd.type) ?_
    rintro R3 _ i _ ⟨rfl, hi⟩
    exact sr_pure ⟨rfl, hp fs fd hd hfd i hi⟩
   refine sr_bind hsz ?_
   rintro R3 hR3 n _ ⟨rfl, hn⟩
   rw [if_neg hn, if_neg hn]
   exact sr_pure ((ha.mono hR3).add _)
  ·exact sr_stuck
 ·exact sr_stuck
theorem sr_indexAt [Twin L M] {R : BR} (t : TypeId) {x x' i i' : Value} (h : VRel R x x') (hi : VRel R i i') : SemR L M QV R (Instr.indexAt t x i) (Instr.indexAt t x' i') := by
 unfold Instr.indexAt
 refine sr_bind (sr_asIntOf hi) ?_
 rintro R' hR ⟨k, n⟩ _ rfl
 refine sr_bind (sr_underlying t) ?_
 rintro R2 hR2 d _ rfl
 replace h := (h.mono hR).mono hR2
 cases d with
 | array len elem =>
  refine sr_bind (sr_sureAddr h) ?_
  intro R3 hR3 a a' ha
  show SemR L M QV R3 (underlying t >>= _) (underlying t >>= _)
  refine sr_bind (sr_underlying t) ?_
  rintro R4 hR4 d2 _ rfl
  by_cases hin : 0 <= n /\ n < ((len : Nat) : Int)
  ·simp only [if_pos hin]
   refine sr_bind (sr_sizeOf _) ?_
   rintro R5 hR5 m _ rfl
   exact sr_pure (.ptr ((((ha)).mono hR4).mono hR5 |>.add _))
  ·simp only [if_neg hin]
   exact SemR.never (never_ite never_halt (never_bounds _ _ _ _))
 | slice elem =>
  cases h with
  | slice n2 m ha =>
   show SemR L M QV R2 (underlying t >>= _) (underlying t >>= _)
   refine sr_bind (sr_underlying t) ?_
   rintro R4 hR4 d2 _ rfl
   by_cases hin : 0 <= n /\ n < ((n2 : Nat) : Int)
   ·simp only [if_pos hin]
    refine sr_bind (sr_sizeOf _) ?_
    rintro R5 hR5 m _ rfl
    exact sr_pure (.ptr ((((ha)).mono hR4).mono hR5 |>.add _))
   ·simp only [if_neg hin]
    exact SemR.never (never_ite never_halt (never_bounds _ _ _ _))
  | nilSlice n2 m =>
   show SemR L M QV R2 (underlying t >>= _) (underlying t >>= _)
   refine sr_bind (sr_underlying t) ?_
   rintro R4 hR4 d2 _ rfl
   exact SemR.never (never_bounds _ _ _ _)
  | _ => exact SemR.halt
 | _ => cases h <;> exact SemR.halt
theorem sr_sliceBound {R : BR} {x x' : Value} (h : VRel R x x') (y : Nat) (c : BoundsCode) : SemR L M QEq R (Instr.sliceBound x y c) (Instr.sliceBound x' y c) := by
 unfold Instr.sliceBound
 refine sr_bind (sr_asIntOf h) ?_
 rintro R' _ ⟨k, n⟩ _ rfl
 simp only
 split
 ·exact sr_pure rfl
 ·exact SemR.never (never_bounds _ _ _ _)
theorem sr_askRoom {R : BR} (n : Nat) : SemR L M QEq R (askRoom n) (askRoom n) := by
 unfold askRoom
 split
 ·exact .mark (.pure rfl)
 ·exact sr_pure rfl
theorem RRel.plainMap {R : BR} {c c' : Array Value} (h : RRel R c c') (hd : Plain default) (n : Nat) : RRel R ((Array.range n).map (c[· % c.size]!)) ((Array.range n).map (c'[· % c'.size]!)) := by
 refine ⟨by simp, fun i h1 h2 => ?_⟩
 simp only [Array.getElem_map, Array.getElem_range]
 rw [<- h.1]
 by_cases hs : i % c.size < c.size
 ·have hs' : i % c.size < c'.size := by rw [<- h.1]; exact hs
  rw [getElem!_pos c _ hs, getElem!_pos c' _ hs']
  exact h.2 _ hs hs'
 ·rw [getElem!_neg c _ hs, getElem!_neg c' _ (by rw [<- h.1]; exact hs)]
  exact hd R
theorem plain_default : Plain (default : Value) := fun _ => VRel.bool _
theorem VRel.slice' {R : BR} {a a' : Option Addr} (n m : Nat) (h : (a = none /\ a' = none) \/ ∃ x x', a = some x /\ a' = some x' /\ ARel R x x') : VRel R (.slice a n m) (.slice a' n m) := by
 rcases h with ⟨rfl, rfl⟩ | ⟨x, x', rfl, rfl, h⟩
 ·exact .nilSlice n m
 ·exact .slice n m h
def ORelV (R : BR) (o o' : Option Value) : Prop := (o = none /\ o' = none) \/ ∃ v v', o = some v /\ o' = some v' /\ VRel R v v'
theorem ORelV.mono {R R' : BR} (hR : R.le R') {o o' : Option Value} (h : ORelV R o o') : ORelV R' o o' := by
 rcases h with h | ⟨v, v', a, b, c⟩
 ·exact Or.inl h
 ·exact Or.inr ⟨v, v', a, b, c.mono hR⟩
theorem sr_sliceBounds2 {R : BR} (s : Bool) (len cap : Nat) {lo lo' hi hi' : Option Value} (h1 : ORelV R lo lo') (h2 : ORelV R hi hi') : SemR L M QEq R (Instr.sliceBounds s len cap lo hi none) (Instr.sliceBounds s len cap lo' hi' none) := by
 unfold Instr.sliceBounds
 rcases h2 with ⟨rfl, rfl⟩ | ⟨v, v', rfl, rfl, hv⟩
 ·rcases h1 with ⟨rfl, rfl⟩ | ⟨u, u', rfl, rfl, hu⟩
  ·exact sr_pure rfl
  ·show SemR L M QEq R (Instr.sliceBound _ _ _ >>= _) (Instr.sliceBound _ _ _ >>= _)
   refine sr_bind (sr_sliceBound hu _ _) ?_
   rintro R' _ l _ rfl
   exact sr_pure rfl
 ·show SemR L M QEq R (Instr.sliceBound _ _ _ >>= _) (Instr.sliceBound _ _ _ >>= _)
  refine sr_bind (sr_sliceBound hv _ _) ?_
  rintro R' hR b _ rfl
  rcases h1 with ⟨rfl, rfl⟩ | ⟨u, u', rfl, rfl, hu⟩
  ·exact sr_pure rfl
  ·refine sr_bind (sr_sliceBound (hu.mono hR) _ _) ?_
   rintro R2 _ l _ rfl
   exact sr_pure rfl
theorem sr_ifz [Twin L M] (hz : ZeroOk L) {α : Type} {Q : BR -> α -> α -> Prop} {R : BR} (e : TypeId) (n : Nat) {k k' : Array Value -> Sem α} (hk : ∀ R' : BR, R.le R' -> ∀ z z', RRel R' z z' -> SemR L M Q R' (k z) (k' z')) :
  SemR L M Q R (if n = 0 then (pure #[] >>= k) else (zeroValue e >>= fun v => pure v.cells >>= k)) (if n = 0 then (pure #[] >>= k') else (zeroValue e >>= fun v => pure v.cells >>= k')) := by
 split
 ·exact hk R (BR.le_refl _) _ _ RRel.nil
 ·exact sr_bind (sr_zeroValue hz e) fun R' hR v v' hv => hk R' hR _ _ hv.cells
theorem sr_makeSlice [Twin L M] (hz : ZeroOk L) {R : BR} (t : TypeId) {l l' c c' : Value} (hl : VRel R l l') (hc : VRel R c c') : SemR L M QV R (Instr.makeSlice t l c) (Instr.makeSlice t l' c') := by
 unfold Instr.makeSlice
 refine sr_bind (sr_underlying t) ?_
 rintro R1 hR1 d _ rfl
 split
 ·next elem =>
  refine sr_bind (sr_asInt (hl.mono hR1)) ?_
  rintro R2 hR2 len _ rfl
  refine sr_bind (sr_asInt ((hc.mono hR1).mono hR2)) ?_
  rintro R3 hR3 cap _ rfl
  refine sr_bind (sr_typeInfo elem) ?_
  rintro R4 hR4 i _ rfl
  dsimp only
  split
  ·refine SemR.never ?_
   split
   ·exact never_bind (never_panic _)
   ·split
    ·exact never_bind (never_panic _)
    ·first
     | exact never_bind (never_last fun _ => never_panic _)
     | exact never_last fun _ => never_bind (never_panic _)
     | exact never_last fun _ => never_panic _
  ·refine sr_bind (sr_askRoom _) ?_
   rintro R5 hR5 _ _ _
   refine sr_bind (sr_sizeOf elem) ?_
   rintro R6 hR6 n _ rfl
   refine sr_ifz hz elem _ ?_
   intro R7 hR7 z z' hzz
   refine sr_bind (sr_newRow elem (hzz.plainMap plain_default _)) ?_
   intro R8 hR8 a a' ha
   exact sr_pure (.slice _ _ ha)
 ·exact sr_stuck
inductive PRel (R : BR) : List (Nat × Value) -> List (Nat × Value) -> Prop
 | nil : PRel R [] []
 | cons (i : Nat) {v v' : Value} {r r' : List (Nat × Value)} : VRel R v v' -> PRel R r r' -> PRel R ((i, v) :: r) ((i, v') :: r')
theorem PRel.mono {R R' : BR} (hR : R.le R') {l l' : List (Nat × Value)} (h : PRel R l l') : PRel R' l l' := by
 induction h with
 | nil => exact .nil
 | cons i hv _ ih => exact .cons i (hv.mono hR) ih
theorem rrel_fold {R : BR} (off : Nat) : ∀ (l l' : List Value), LRel R l l' -> ∀ (j : Nat) {cs cs' : Array Value}, RRel R cs cs' ->
  RRel R ((l.zipIdx j).foldl (fun cs (p : Value × Nat) => cs.setIfInBounds (off + p.2) p.1) cs) ((l'.zipIdx j).foldl (fun cs (p : Value × Nat) => cs.setIfInBounds (off + p.2) p.1) cs') := by
 intro l l' h
 induction h with
 | nil => exact fun j cs cs' hr => hr
 | cons hv _ ih =>
  intro j cs cs' hr
  simp only [List.zipIdx_cons, List.foldl_cons]
  exact ih (j + 1) (hr.set _ hv)
theorem rrel_fold' {R : BR} (off : Nat) {c c' : Array Value} (h : RRel R c c') {cs cs' : Array Value} (hr : RRel R cs cs') :
  RRel R (c.zipIdx.foldl (fun cs (p : Value × Nat) => cs.setIfInBounds (off + p.2) p.1) cs) (c'.zipIdx.foldl (fun cs (p : Value × Nat) => cs.setIfInBounds (off + p.2) p.1) cs') := by
 have := rrel_fold off _ _ h.all 0 hr
 rw [<- Array.foldl_toList, <- Array.foldl_toList, Array.toList_zipIdx, Array.toList_zipIdx]
 exact this
theorem fill_rel {R : BR} (pl : Nat -> Option (Nat × Nat)) : ∀ {ps ps' : List (Nat × Value)}, PRel R ps ps' -> ∀ {cs cs' : Array Value}, RRel R cs cs' ->
  (Instr.fill pl cs ps = none) \/ ∃ d d', Instr.fill pl cs ps = some d /\ Instr.fill pl cs' ps' = some d' /\ RRel R d d' := by
 intro ps ps' h
 induction h with
 | nil => exact fun hr => Or.inr ⟨_, _, rfl, rfl, hr⟩
 | cons i hv _ ih =>
  intro cs cs' hr
  have hvc := hv.cells
  unfold Instr.fill
  cases hp : pl i with
  | none => exact Or.inl rfl
  | some q =>
   obtain ⟨off, size⟩ := q
   simp only
   rw [<- hvc.1, <- hr.1]
   split
   ·exact Or.inl rfl
   ·exact ih (rrel_fold' off hvc hr)
theorem sr_buildSlice [Twin L M] (hz : ZeroOk L) {R : BR} (t : TypeId) (len : Nat) {ps ps' : Array (Nat × Value)} (h : PRel R ps.toList ps'.toList) : SemR L M QV R (Instr.buildSlice t len ps) (Instr.buildSlice t len ps') := by
 unfold Instr.buildSlice
 refine sr_bind (sr_underlying t) ?_
 rintro R1 hR1 d _ rfl
 split
 ·next elem =>
  refine sr_bind (sr_sizeOf elem) ?_
  rintro R2 hR2 size _ rfl
  dsimp only
  split
  ·exact SemR.never (never_bind never_halt)
  ·refine sr_ifz hz elem _ ?_
   intro R3 hR3 z z' hzz
   have hf := fill_rel (fun i => some (i * size, size)) (((h.mono hR1).mono hR2).mono hR3) (hzz.plainMap plain_default (len * size))
   rcases hf with hf | ⟨d, d', e1, e2, hd⟩
   ·rw [hf]; exact sr_stuck
   ·rw [e1, e2]
    exact sr_bind (sr_newRow elem hd) fun _ _ _ _ ha => sr_pure (.slice _ _ ha)
 ·exact sr_stuck
theorem sr_intArith {R : BR} (op : BinOp) (k : IntKind) (x y : Int) : SemR L M QV R (Op.intArith op k x y) (Op.intArith op k x y) := by
 unfold Op.intArith
 split <;> first | exact sr_pure (.int _ _) | exact sr_stuck
theorem sr_intDiv {R : BR} (op : BinOp) (k : IntKind) (x y : Int) : SemR L M QV R (Op.intDiv op k x y) (Op.intDiv op k x y) := by
 unfold Op.intDiv
 split
 ·exact SemR.never (never_panic _)
 ·split <;> first | exact sr_pure (.int _ _) | exact sr_stuck
theorem sr_intBits {R : BR} (op : BinOp) (k : IntKind) (x y : Int) : SemR L M QV R (Op.intBits op k x y) (Op.intBits op k x y) := by
 unfold Op.intBits
 dsimp only
 split <;> first | exact sr_pure (.int _ _) | exact sr_stuck
theorem sr_intCmp {R : BR} (op : BinOp) (x y : Int) : SemR L M QV R (Op.intCmp op x y) (Op.intCmp op x y) := by
 unfold Op.intCmp
 split <;> first | exact sr_pure (.bool _) | exact sr_stuck
theorem sr_unary {R : BR} (op : UnOp) {v v' : Value} (h : VRel R v v') : SemR L M QV R (Op.unary op v) (Op.unary op v') := by
 cases h with
 | int k n => cases op <;> (simp only [Op.unary]; first | exact sr_intArith _ _ _ _ | exact sr_intBits _ _ _ _ | exact sr_stuck)
 | bool b => cases op <;> first | exact sr_pure (.bool _) | exact SemR.halt
 | _ => cases op <;> exact SemR.halt
theorem sr_binInt {R : BR} (op : BinOp) (t : TypeId) (k : IntKind) (x y : Int) (hs : op ≠ .shl /\ op ≠ .shr) : SemR L M QV R (binOp op t (.int k x) (.int k y)) (binOp op t (.int k x) (.int k y)) := by
 obtain ⟨h1, h2⟩ := hs
 cases op <;> first
  | exact absurd rfl h1
  | exact absurd rfl h2
  | (simp only [binOp, ne_eq, not_true, if_false]; first | exact sr_intArith _ _ _ _ | exact sr_intDiv _ _ _ _ | exact sr_intBits _ _ _ _ | exact sr_intCmp _ _ _)
end
section
open Go
variable {L M : Program}
theorem sr_when {α : Type} {Q : BR -> α -> α -> Prop} {R : BR} {c : Prop} [Decidable c] {a a' b b' : Sem α} (h1 : c -> SemR L M Q R a a') (h2 : ¬ c -> SemR L M Q R b b') : SemR L M Q R (if c then a else b) (if c then a' else b') := by
 split
 ·exact h1 (by assumption)
 ·exact h2 (by assumption)
theorem sr_sliceBounds {R : BR} (s : Bool) (len cap : Nat) {lo lo' hi hi' mx mx' : Option Value} (h1 : ORelV R lo lo') (h2 : ORelV R hi hi') (h3 : ORelV R mx mx') : SemR L M QEq R (Instr.sliceBounds s len cap lo hi mx) (Instr.sliceBounds s len cap lo' hi' mx') := by
 rcases h3 with ⟨rfl, rfl⟩ | ⟨v, v', rfl, rfl, hv⟩
 ·exact sr_sliceBounds2 s len cap h1 h2
 ·unfold Instr.sliceBounds
  show SemR L M QEq R (Instr.sliceBound _ _ _ >>= _) (Instr.sliceBound _ _ _ >>= _)
  refine sr_bind (sr_sliceBound hv _ _) ?_
  rintro R1 hR1 m _ rfl
  replace h2 := h2.mono hR1
  rcases h2 with ⟨rfl, rfl⟩ | ⟨u, u', rfl, rfl, hu⟩
  ·exact SemR.halt
  ·show SemR L M QEq R1 (Instr.sliceBound _ _ _ >>= _) (Instr.sliceBound _ _ _ >>= _)
   refine sr_bind (sr_sliceBound hu _ _) ?_
   rintro R2 hR2 h _ rfl
   replace h1 := (h1.mono hR1).mono hR2
   rcases h1 with ⟨rfl, rfl⟩ | ⟨x, x', rfl, rfl, hx⟩
   ·exact sr_pure rfl
   ·refine sr_bind (sr_sliceBound hx _ _) ?_
    rintro R3 _ l _ rfl
    exact sr_pure rfl
theorem sr_asAddr {R : BR} {v v' : Value} (h : VRel R v v') : SemR L M QA R (asAddr v) (asAddr v') := by
 cases h with
 | ptr h => exact sr_pure h
 | nilPtr => exact SemR.never (never_panic (α := Addr) .nilDeref)
 | _ => exact SemR.halt
theorem ARel.cut {R : BR} {a a' : Addr} (h : ARel R a a') (c : Prop) [Decidable c] (n : Nat) : ARel R (if c then a else a.add n) (if c then a' else a'.add n) := by
 split
 ·exact h
 ·exact h.add n
theorem sr_slice [Twin L M] {R : BR} (t : TypeId) {x x' : Value} (h : VRel R x x') {lo lo' hi hi' mx mx' : Option Value} (h1 : ORelV R lo lo') (h2 : ORelV R hi hi') (h3 : ORelV R mx mx') : SemR L M QV R (Instr.slice t x lo hi mx) (Instr.slice t x' lo' hi' mx') := by
 unfold Instr.slice
 refine sr_bind (sr_underlying t) ?_
 rintro R1 hR1 d _ rfl
 replace h := h.mono hR1
 replace h1 := h1.mono hR1
 replace h2 := h2.mono hR1
 replace h3 := h3.mono hR1
 cases d with
 | string =>
  cases h with
  | string s =>
   have e3 : mx.isSome = mx'.isSome := by rcases h3 with ⟨rfl, rfl⟩ | ⟨_, _, rfl, rfl, _⟩ <;> rfl
   dsimp only
   rw [e3]
   refine sr_when (fun _ => SemR.halt) (fun _ => ?_)
   refine sr_bind (sr_sliceBounds2 false _ _ h1 h2) ?_
   rintro R2 _ ⟨l, hh, m⟩ _ rfl
   exact sr_pure (.string _)
  | _ => exact SemR.halt
 | slice e =>
  cases h with
  | slice n m ha =>
   refine sr_bind (sr_sliceBounds true n m h1 h2 h3) ?_
   rintro R2 hR2 ⟨l, hh, mm⟩ _ rfl
   refine sr_bind (sr_sizeOf e) ?_
   rintro R3 hR3 k _ rfl
   refine sr_pure (VRel.slice' _ _ ?_)
   by_cases q : mm = l
   ·simp only [if_pos q]
    exact Or.inr ⟨_, _, rfl, rfl, (ha.mono hR2).mono hR3⟩
   ·simp only [if_neg q]
    exact Or.inr ⟨_, _, rfl, rfl, ((ha.mono hR2).mono hR3).add _⟩
  | nilSlice n m =>
   refine sr_bind (sr_sliceBounds true n m h1 h2 h3) ?_
   rintro R2 hR2 ⟨l, hh, mm⟩ _ rfl
   refine sr_bind (sr_sizeOf e) ?_
   rintro R3 hR3 k _ rfl
   refine sr_pure (VRel.slice' _ _ ?_)
   by_cases q : mm = l
   ·exact Or.inl ⟨by simp, by simp⟩
   ·exact Or.inl ⟨by simp, by simp⟩
  | _ => exact SemR.halt
 | pointer arr =>
  have hh : SemR L M QV R1 (asAddr x >>= fun a => underlying arr >>= fun d => match d with
    | .array n elem => Instr.sliceBounds false n n lo hi mx >>= fun p => sizeOf elem >>= fun size => pure (.slice (some (if p.2.2 = p.1 then a else a.add (p.1 * size))) (p.2.1 - p.1) (p.2.2 - p.1))
    | _ => stuck "Slice: array type expected") (asAddr x' >>= fun a => underlying arr >>= fun d => match d with
    | .array n elem => Instr.sliceBounds false n n lo' hi' mx' >>= fun p => sizeOf elem >>= fun size => pure (.slice (some (if p.2.2 = p.1 then a else a.add (p.1 * size))) (p.2.1 - p.1) (p.2.2 - p.1))
    | _ => stuck "Slice: array type expected") := by
   refine sr_bind (sr_asAddr h) ?_
   intro R2 hR2 a a' ha
   refine sr_bind (sr_underlying arr) ?_
   rintro R3 hR3 d _ rfl
   split
   ·refine sr_bind (sr_sliceBounds false _ _ ((h1.mono hR2).mono hR3) ((h2.mono hR2).mono hR3) ((h3.mono hR2).mono hR3)) ?_
    rintro R4 hR4 ⟨l, hh, m⟩ _ rfl
    refine sr_bind (sr_sizeOf _) ?_
    rintro R5 hR5 k _ rfl
    exact sr_pure (.slice _ _ ((((ha.mono hR3).mono hR4).mono hR5).cut _ _))
   ·exact SemR.halt
  cases h <;> exact hh
 | _ => cases h <;> exact SemR.halt
theorem sr_sliceAt [Twin L M] {R : BR} (t : TypeId) {x x' : Value} (h : VRel R x x') {lo lo' hi hi' mx mx' : Option Value} (h1 : ORelV R lo lo') (h2 : ORelV R hi hi') (h3 : ORelV R mx mx') : SemR L M QV R (Instr.sliceAt t x lo hi mx) (Instr.sliceAt t x' lo' hi' mx') := by
 unfold Instr.sliceAt
 refine sr_bind (sr_underlying t) ?_
 rintro R1 hR1 d _ rfl
 cases d with
 | array n elem =>
  refine sr_bind (sr_sureAddr (h.mono hR1)) ?_
  intro R2 hR2 a a' ha
  refine sr_bind (sr_sliceBounds false n n ((h1.mono hR1).mono hR2) ((h2.mono hR1).mono hR2) ((h3.mono hR1).mono hR2)) ?_
  rintro R3 hR3 ⟨l, hh, m⟩ _ rfl
  refine sr_bind (sr_sizeOf elem) ?_
  rintro R4 hR4 k _ rfl
  exact sr_pure (.slice _ _ (((ha.mono hR3).mono hR4).cut _ _))
 | _ => exact sr_slice t (h.mono hR1) (h1.mono hR1) (h2.mono hR1) (h3.mono hR1)
theorem sr_lenOf {R : BR} {v v' : Value} (h : VRel R v v') : SemR L M QEq R (Builtin.lenOf v) (Builtin.lenOf v') := by
 cases h with
 | slice n m _ => exact sr_pure rfl
 | nilSlice n m => exact sr_pure rfl
 | string s => exact sr_pure rfl
 | _ => exact SemR.halt
theorem RRel.plain {R : BR} {c : Array Value} (h : ∀ i (h : i < c.size), VRel R c[i] c[i]) : RRel R c c := ⟨rfl, fun i h1 _ => h i h1⟩
theorem sr_firstCells {R : BR} (size n : Nat) {v v' : Value} (h : VRel R v v') : SemR L M QR R (Builtin.firstCells size n v) (Builtin.firstCells size n v') := by
 cases h with
 | slice _ _ ha => exact sr_loadCells ha _
 | nilSlice _ _ => exact sr_pure RRel.nil
 | string s => exact sr_pure (RRel.plain fun i hi => by simp only [Array.getElem_map]; exact .int _ _)
 | _ => exact SemR.halt
theorem RRel.app {R : BR} {c c' d d' : Array Value} (h : RRel R c c') (h2 : RRel R d d') : RRel R (c ++ d) (c' ++ d') := by
 refine ⟨by simp [h.1, h2.1], fun i h3 h4 => ?_⟩
 by_cases q : i < c.size
 ·rw [Array.getElem_append_left q, Array.getElem_append_left (by rw [<- h.1]; exact q)]
  exact h.2 i q _
 ·have q' : c'.size <= i := by have := h.1; omega
  rw [Array.getElem_append_right (by omega), Array.getElem_append_right q']
  have e : i - c'.size = i - c.size := by rw [h.1]
  have h5 : i - c.size < d.size := by simp at h3; omega
  have := h2.2 (i - c.size) h5 (by rw [<- h2.1]; exact h5)
  simpa only [e] using this
theorem RRel.zeros {R : BR} {z z' : Array Value} (h : RRel R z z') (n : Nat) : RRel R (Builtin.zeroCells z n) (Builtin.zeroCells z' n) := by
 unfold Builtin.zeroCells
 rw [<- h.1]
 have := h.plainMap plain_default (n * z.size)
 rw [<- h.1] at this
 exact this
end
section
open Go
variable {L M : Program}
theorem RRel.get? {R : BR} {c c' : Array Value} (h : RRel R c c') (i : Nat) : ORelV R c[i]? c'[i]? := by
 by_cases q : i < c.size
 ·have q' : i < c'.size := by rw [<- h.1]; exact q
  exact Or.inr ⟨_, _, Array.getElem?_eq_getElem q, Array.getElem?_eq_getElem q', h.2 i q q'⟩
 ·exact Or.inl ⟨Array.getElem?_eq_none (by omega), Array.getElem?_eq_none (by have := h.1; omega)⟩
def NoMake (L : Program) (ts : Array TypeId) : Prop := ∃ t d, ts[1]? = some t /\ L.underlying t = some d /\ ∀ k, d ≠ .int k
theorem sr_und {R : BR} [Twin L M] {t : TypeId} {d : TypeDesc} (h : L.underlying t = some d) : SemR L M (fun _ a b => a = d /\ b = d) R (underlying t) (underlying t) := by
 unfold underlying
 refine sr_bind sr_program ?_
 rintro R' _ p p' ⟨rfl, rfl⟩
 rw [Twin.und (L := p) (M := p') t, h]
 exact sr_pure ⟨rfl, rfl⟩
instance softly_holds {P : Program} (a : Addr) (n : Nat) : Softly P (Builtin.holdsCells a n) := by
 unfold Builtin.holdsCells
 have : ∀ o : Option (TypeId × Nat), Softly P (match o with | some (_, k) => (pure (a.spot.isNone && a.off + n <= k) : Sem Bool) | none => pure false) := fun o => by split <;> infer_instance
 infer_instance
instance softly_mayShare {P : Program} (size sLen n : Nat) (base : Option Addr) (x : Value) : Softly P (Builtin.mayShare size sLen n base x) := by
 have tail : ∀ (base : Option Addr) (t : Bool), Softly P (if (!t) = true then (pure true : Sem Bool) else (match x with | .slice (some b) _ _ => (do pure (!(<- Builtin.holdsCells b (n * size)) || base.any (·.block == b.block)) : Sem Bool) | _ => pure false)) := by
  intro base t
  split
  ·infer_instance
  ·split <;> infer_instance
 unfold Builtin.mayShare
 cases base with
 | none => exact tail none true
 | some a => exact softly_bind _ _ (F := fun c => softly_bind _ _ (F := fun d => tail (some a) _))
theorem sr_append [Twin L M] (hz : ZeroOk L) {R : BR} (ts : Array TypeId) (ty : TypeId) {as as' : Array Value} (h : RRel R as as') (hm : NoMake L ts) : SemR L M QV R (Builtin.append_ ts ty as) (Builtin.append_ ts ty as') := by
 obtain ⟨t1, d1, hm1, hm2, hm3⟩ := hm
 unfold Builtin.append_
 rw [hm1]
 cases ts[0]? with
 | none => exact SemR.halt
 | some t0 =>
 rcases h.get? 0 with ⟨e1, e2⟩ | ⟨s, s', e1, e2, hs⟩
 ·rw [e1, e2]; exact SemR.halt
 rcases h.get? 1 with ⟨e3, e4⟩ | ⟨x, x', e3, e4, hx⟩
 ·rw [e1, e2, e3, e4]; exact SemR.halt
 rw [e1, e2, e3, e4]
 dsimp only
 refine sr_bind (sr_underlying t0) ?_
 rintro R1 hR1 d _ rfl
 replace hs := hs.mono hR1
 replace hx := hx.mono hR1
 cases d with
 | slice elem =>
  have hbase : ∃ base base' n m, s = .slice base n m /\ s' = .slice base' n m /\ ((base = none /\ base' = none) \/ ∃ x x', base = some x /\ base' = some x' /\ ARel R1 x x') \/ ∀ b n m, s ≠ .slice b n m := by
   cases hs with
   | slice n m ha => exact ⟨_, _, n, m, Or.inl ⟨rfl, rfl, Or.inr ⟨_, _, rfl, rfl, ha⟩⟩⟩
   | nilSlice n m => exact ⟨none, none, n, m, Or.inl ⟨rfl, rfl, Or.inl ⟨rfl, rfl⟩⟩⟩
   | _ => exact ⟨none, none, 0, 0, Or.inr (fun _ _ _ q => by cases q)⟩
  obtain ⟨base, base', sLen, sCap, hb | hb⟩ := hbase
  ·obtain ⟨rfl, rfl, hb⟩ := hb
   dsimp only
   refine sr_bind (sr_sizeOf elem) ?_
   rintro R2 hR2 size _ rfl
   refine sr_bind (sr_und hm2) ?_
   rintro R3 hR3 _ _ ⟨rfl, rfl⟩
   rename_i dd
   refine sr_bind (Q := fun _ a b => a = false /\ b = false) (sr_pure ⟨?_, ?_⟩) ?_
   ·revert hm3
    clear hm2
    intro hm3
    cases dd <;> first | rfl | exact absurd rfl (hm3 _)
   ·revert hm3
    clear hm2
    intro hm3
    cases dd <;> first | rfl | exact absurd rfl (hm3 _)
   rintro R3' hR3' _ _ ⟨rfl, rfl⟩
   replace hR3 := BR.le_trans hR3 hR3'
   show SemR L M QV R3' (Builtin.lenOf x >>= _) (Builtin.lenOf x' >>= _)
   refine sr_bind (sr_lenOf ((hx.mono hR2).mono hR3)) ?_
   rintro R4 hR4 n _ rfl
   have hx4 := ((hx.mono hR2).mono hR3).mono hR4
   have hs4 := ((hs.mono hR2).mono hR3).mono hR4
   have hb4 : (base = none /\ base' = none) \/ ∃ x x', base = some x /\ base' = some x' /\ ARel R4 x x' := by
    rcases hb with hb | ⟨a, a', q1, q2, q3⟩
    ·exact Or.inl hb
    ·exact Or.inr ⟨a, a', q1, q2, ((q3.mono hR2).mono hR3).mono hR4⟩
   refine sr_when (fun _ => ?_) (fun _ => ?_)
   ·refine sr_bind (sr_firstCells size n hx4) ?_
    intro R5 hR5 c c' hc
    rcases hb4 with ⟨rfl, rfl⟩ | ⟨a, a', rfl, rfl, ha⟩
    ·exact sr_pure (.nilSlice _ _)
    ·refine sr_bind (sr_storeCells ((ha.mono hR5).add _) (RRel.all hc) 0) ?_
     intro R6 hR6 _ _ _
     exact sr_pure (.slice _ _ ((ha.mono hR5).mono hR6))
   ·have tail : ∀ R5 : BR, R4.le R5 -> SemR L M QV R5
      (choose (Question.appendCap (sLen + n) sCap elem) >>= fun newCap => typeInfo elem >>= fun i => askRoom (newCap * i.bytes) >>= fun _ => Builtin.firstCells size sLen (Value.slice base sLen sCap) >>= fun old =>
       Builtin.firstCells size n x >>= fun new => zeroValue elem >>= fun z => newRow elem (old ++ new ++ Builtin.zeroCells z.cells (newCap - (sLen + n))) >>= fun a => pure (Value.slice (some a) (sLen + n) newCap))
      (choose (Question.appendCap (sLen + n) sCap elem) >>= fun newCap => typeInfo elem >>= fun i => askRoom (newCap * i.bytes) >>= fun _ => Builtin.firstCells size sLen (Value.slice base' sLen sCap) >>= fun old =>
       Builtin.firstCells size n x' >>= fun new => zeroValue elem >>= fun z => newRow elem (old ++ new ++ Builtin.zeroCells z.cells (newCap - (sLen + n))) >>= fun a => pure (Value.slice (some a) (sLen + n) newCap)) := by
     intro R5 hR5
     refine sr_bind (Q := QEq) (.choose fun n => .pure rfl) ?_
     rintro R6 hR6 newCap _ rfl
     refine sr_bind (sr_typeInfo elem) ?_
     rintro R7 hR7 i _ rfl
     refine sr_bind (sr_askRoom _) ?_
     rintro R8 hR8 _ _ _
     have up : R4.le R8 := BR.le_trans hR5 (BR.le_trans hR6 (BR.le_trans hR7 hR8))
     refine sr_bind (sr_firstCells size sLen (hs4.mono up)) ?_
     intro R9 hR9 c c' hc
     refine sr_bind (sr_firstCells size n ((hx4.mono up).mono hR9)) ?_
     intro R10 hR10 e e' he
     refine sr_bind (sr_zeroValue hz elem) ?_
     intro R11 hR11 z z' hzz
     refine sr_bind (sr_newRow elem ((((hc.mono hR10).mono hR11).app (he.mono hR11)).app (hzz.cells.zeros _))) ?_
     intro R12 hR12 a a' ha
     exact sr_pure (.slice _ _ ha)
    refine sr_bind (sr_typeInfo elem) ?_
    rintro R5 hR5 i _ rfl
    refine sr_when (fun _ => SemR.never (never_bind (never_panic _))) (fun _ => ?_)
    refine sr_bind (sr_typeInfo elem) ?_
    rintro R6 hR6 i _ rfl
    refine sr_when (fun _ => SemR.never (never_bind (never_last fun b => ?_))) (fun _ => tail R6 (BR.le_trans hR5 hR6))
    split
    ·exact never_last fun _ => never_halt
    ·exact never_halt
  ·cases s <;> first | exact absurd rfl (hb _ _ _) | exact SemR.halt
 | _ => exact SemR.halt
theorem sr_copy [Twin L M] {R : BR} (ts : Array TypeId) (ty : TypeId) {as as' : Array Value} (h : RRel R as as') : SemR L M QV R (Builtin.copy_ ts ty as) (Builtin.copy_ ts ty as') := by
 unfold Builtin.copy_
 cases ts[0]? with
 | none => exact SemR.halt
 | some t0 =>
 rcases h.get? 0 with ⟨e1, e2⟩ | ⟨s, s', e1, e2, hs⟩
 ·rw [e1, e2]; exact SemR.halt
 rcases h.get? 1 with ⟨e3, e4⟩ | ⟨x, x', e3, e4, hx⟩
 ·rw [e1, e2, e3, e4]; exact SemR.halt
 rw [e1, e2, e3, e4]
 dsimp only
 refine sr_bind (sr_underlying t0) ?_
 rintro R1 hR1 d _ rfl
 replace hs := hs.mono hR1
 replace hx := hx.mono hR1
 cases d with
 | slice elem =>
  cases hs with
  | slice n m ha =>
   refine sr_bind (sr_lenOf hx) ?_
   rintro R2 hR2 k _ rfl
   refine sr_bind (sr_sizeOf elem) ?_
   rintro R3 hR3 size _ rfl
   refine sr_bind (sr_firstCells size _ ((hx.mono hR2).mono hR3)) ?_
   intro R4 hR4 c c' hc
   refine sr_bind (sr_storeCells (((ha.mono hR2).mono hR3).mono hR4) (RRel.all hc) 0) ?_
   intro R5 hR5 _ _ _
   exact sr_pure (.int _ _)
  | nilSlice n m =>
   refine sr_bind (sr_lenOf hx) ?_
   rintro R2 hR2 k _ rfl
   refine sr_bind (sr_sizeOf elem) ?_
   rintro R3 hR3 size _ rfl
   refine sr_bind (sr_firstCells size _ ((hx.mono hR2).mono hR3)) ?_
   intro R4 hR4 c c' hc
   exact sr_pure (.int _ _)
  | _ => exact SemR.halt
 | _ => exact SemR.halt
theorem sr_getObj {R : BR} {r r' : Nat} (h : R r r') : SemR L M (fun R o o' => JRel R o o') R (getObj r) (getObj r') :=
 .getObj h fun _ _ _ _ hc => .pure hc
theorem sr_setObj {R : BR} (hx : xOther = true) {r r' : Nat} (h : R r r') {c c' : Array MapEntry} (n : Nat) (hc : EsRel R c c') : SemR L M QEq R (setObj r (.map c n)) (setObj r' (.map c' n)) := .setObj hx h hc (.pure rfl)
theorem sr_len [Twin L M] {R : BR} (ts : Array TypeId) (ty : TypeId) {as as' : Array Value} (h : RRel R as as') : SemR L M QV R (Builtin.len_ ts ty as) (Builtin.len_ ts ty as') := by
 unfold Builtin.len_
 cases ts[0]? with
 | none => exact SemR.halt
 | some t0 =>
 rcases h.get? 0 with ⟨e1, e2⟩ | ⟨s, s', e1, e2, hs⟩
 ·rw [e1, e2]; exact SemR.halt
 rw [e1, e2]
 dsimp only
 refine sr_bind (sr_underlying t0) ?_
 rintro R1 hR1 d _ rfl
 replace hs := hs.mono hR1
 cases d with
 | string => cases hs <;> first | exact sr_pure (.int _ _) | exact SemR.halt
 | slice e => cases hs <;> first | exact sr_pure (.int _ _) | exact SemR.halt
 | array n e => cases hs <;> exact sr_pure (.int _ _)
 | map k e =>
  cases hs with
  | map hr =>
   refine sr_bind (sr_getObj hr) ?_
   rintro R2 hR2 _ _ (@⟨c, c', n, _, hc⟩ | _)
   rotate_left
   ·exact SemR.halt
   dsimp only
   rw [hc.1]
   exact sr_pure (.int _ _)
  | nilMap => exact sr_pure (.int _ _)
  | _ => exact SemR.halt
 | pointer arr =>
  have hh : SemR L M QV R1 (underlying arr >>= fun d => match d with | .array n _ => pure (goInt n) | _ => stuck "len: pointer to array expected") (underlying arr >>= fun d => match d with | .array n _ => pure (goInt n) | _ => stuck "len: pointer to array expected") := by
   refine sr_bind (sr_underlying arr) ?_
   rintro R2 hR2 d _ rfl
   split
   ·exact sr_pure (.int _ _)
   ·exact SemR.halt
  cases hs <;> exact hh
 | chan _ _ => cases hs <;> first | exact sr_pure (.int _ _) | exact SemR.halt
 | _ => cases hs <;> exact SemR.halt
theorem sr_cap [Twin L M] {R : BR} (ts : Array TypeId) (ty : TypeId) {as as' : Array Value} (h : RRel R as as') : SemR L M QV R (Builtin.cap_ ts ty as) (Builtin.cap_ ts ty as') := by
 unfold Builtin.cap_
 cases ts[0]? with
 | none => exact SemR.halt
 | some t0 =>
 rcases h.get? 0 with ⟨e1, e2⟩ | ⟨s, s', e1, e2, hs⟩
 ·rw [e1, e2]; exact SemR.halt
 rw [e1, e2]
 dsimp only
 refine sr_bind (sr_underlying t0) ?_
 rintro R1 hR1 d _ rfl
 replace hs := hs.mono hR1
 cases d with
 | slice e => cases hs <;> first | exact sr_pure (.int _ _) | exact SemR.halt
 | array n e => cases hs <;> exact sr_pure (.int _ _)
 | pointer arr =>
  have hh : SemR L M QV R1 (underlying arr >>= fun d => match d with | .array n _ => pure (goInt n) | _ => stuck "cap: pointer to array expected") (underlying arr >>= fun d => match d with | .array n _ => pure (goInt n) | _ => stuck "cap: pointer to array expected") := by
   refine sr_bind (sr_underlying arr) ?_
   rintro R2 hR2 d _ rfl
   split
   ·exact sr_pure (.int _ _)
   ·exact SemR.halt
  cases hs <;> exact hh
 | chan _ _ => cases hs <;> first | exact sr_pure (.int _ _) | exact SemR.halt
 | _ => cases hs <;> exact SemR.halt
end
section
open Go
variable {L M : Program}
theorem sr_mapL {α β : Type} {f : α -> Sem β} (hf : ∀ a R', SemR L M QEq R' (f a) (f a)) : ∀ (as : List α) (R : BR), SemR L M QEq R (as.mapM f) (as.mapM f)
 | [], R => by rw [List.mapM_nil]; exact sr_pure rfl
 | a :: as, R => by
  rw [List.mapM_cons]
  refine sr_bind (hf a R) ?_
  rintro R1 hR1 b _ rfl
  refine sr_bind (sr_mapL hf as R1) ?_
  rintro R2 hR2 bs _ rfl
  exact sr_pure rfl
theorem sr_mapM {α β : Type} {R : BR} {f : α -> Sem β} (hf : ∀ a R', SemR L M QEq R' (f a) (f a)) (as : Array α) : SemR L M QEq R (as.mapM f) (as.mapM f) := by
 rw [Array.mapM_eq_mapM_toList, <- bind_pure_comp]
 exact sr_bind (sr_mapL hf as.toList R) fun _ _ _ _ e => sr_pure (by rw [e])
theorem sr_build [Twin L M] (hz : ZeroOk L) {R : BR} (t : TypeId) {ps ps' : Array (Nat × Value)} (h : PRel R ps.toList ps'.toList) : SemR L M QV R (Instr.build t ps) (Instr.build t ps') := by
 unfold Instr.build
 refine sr_bind (sr_zeroValue hz t) ?_
 intro R1 hR1 z z' hzz
 refine sr_bind (sr_underlying t) ?_
 rintro R2 hR2 d _ rfl
 have hzc := (hzz.mono hR2).cells
 replace h := (h.mono hR1).mono hR2
 cases d with
 | struct fields =>
  refine sr_bind (sr_mapM (fun f R' => sr_bind (sr_sizeOf f.type) fun _ _ _ _ e => sr_pure (by rw [e])) fields) ?_
  rintro R3 hR3 places _ rfl
  rcases fill_rel (places[·]?) (h.mono hR3) (hzc.mono hR3) with hf | ⟨d, d', e1, e2, hd⟩
  ·rw [hf]; exact SemR.halt
  ·rw [e1, e2]
   exact sr_pure (.agg hd.1 hd.2)
 | array n elem =>
  refine sr_bind (sr_sizeOf elem) ?_
  rintro R3 hR3 size _ rfl
  rcases fill_rel (fun i => some (i * size, size)) (h.mono hR3) (hzc.mono hR3) with hf | ⟨d, d', e1, e2, hd⟩
  ·rw [hf]; exact SemR.halt
  ·rw [e1, e2]
   exact sr_pure (.agg hd.1 hd.2)
 | _ => exact SemR.halt
theorem RRel.two {R : BR} {v v' u u' : Value} (h : VRel R v v') (h2 : VRel R u u') : RRel R #[v, u] #[v', u'] := (RRel.one h).push h2
theorem RRel.tup {R : BR} {c c' : Array Value} (h : RRel R c c') : VRel R (.tuple c) (.tuple c') := .tuple h.1 h.2
theorem sr_typeAssert [Twin L M] (hz : ZeroOk L) {R : BR} {x x' : Value} (h : VRel R x x') (t a : TypeId) (ok : Bool) : SemR L M QV R (Instr.typeAssert x t a ok) (Instr.typeAssert x' t a ok) := by
 have holds : ∀ {R : BR} {v v' : Value}, VRel R v v' -> SemR L M QV R (pure (if ok = true then .tuple #[v, .bool true] else v)) (pure (if ok = true then .tuple #[v', .bool true] else v')) := by
  intro R v v' hv
  cases ok
  ·exact sr_pure hv
  ·exact sr_pure (RRel.two hv (.bool true)).tup
 have fails : ∀ {R : BR} (e : RuntimeError), SemR L M QV R (if ok = true then (zeroValue a >>= fun z => pure (.tuple #[z, .bool false])) else runtimePanic e) (if ok = true then (zeroValue a >>= fun z => pure (.tuple #[z, .bool false])) else runtimePanic e) := by
  intro R e
  cases ok
  ·exact SemR.never (never_panic e)
  ·exact sr_bind (sr_zeroValue hz a) fun _ _ _ _ hv => sr_pure (RRel.two hv (.bool false)).tup
 unfold Instr.typeAssert
 refine sr_bind (sr_underlying a) ?_
 rintro R1 hR1 d _ rfl
 replace h := h.mono hR1
 cases h with
 | nilIface => cases d <;> exact fails _
 | @iface t' v v' hv =>
  cases d with
  | interface want =>
   refine sr_bind (sr_typeInfo t') ?_
   rintro R2 hR2 i _ rfl
   split
   ·exact holds (.iface t' (hv.mono hR2))
   ·exact fails _
  | _ => exact sr_when (fun _ => holds hv) (fun _ => fails _)
 | _ => cases d <;> exact SemR.halt
theorem sr_makeFunc {R : BR} {fn : Fn} (hf : fnOk fn = true) {a a' c c' : Array Value} (h : RRel R a a') (h2 : RRel R c c') : SemR L M QV R (Instr.makeFunc fn a c) (Instr.makeFunc fn a' c') := sr_pure (.func fn hf h.1 h.2 h2.1 h2.2)
theorem sr_makeMap [Twin L M] {R : BR} (hx : xOther = true) (t : TypeId) {o o' : Option Value} (h : ORelV R o o') : SemR L M QV R (Instr.makeMap t o) (Instr.makeMap t o') := by
 have tail : ∀ R : BR, SemR L M QV R (newObj (.map #[] 0) >>= fun r => pure (.map (some r))) (newObj (.map #[] 0) >>= fun r => pure (.map (some r))) := fun R =>
  sr_bind (sr_newObj (.other (.map hx ⟨rfl, fun i h => absurd h (by simp)⟩) (fun _ q => q))) fun _ _ _ _ hr => sr_pure (.map hr)
 unfold Instr.makeMap
 rcases h with ⟨rfl, rfl⟩ | ⟨v, v', rfl, rfl, hv⟩
 ·exact tail R
 ·refine sr_bind (sr_underlying t) ?_
  rintro R1 hR1 d _ rfl
  cases d with
  | map _ _ =>
   refine sr_bind (sr_asInt (hv.mono hR1)) ?_
   rintro R2 hR2 n _ rfl
   exact tail R2
  | _ => exact SemR.halt
end
section
open Go
variable {L M : Program}
theorem never_of {P : Program} {α β : Type} {s : Sem α} [S : Softly P s] {f : α -> Sem β} (Q : α -> Prop) (hs : ∀ w x w', s.run P w = .ok x w' -> Q x) (hf : ∀ a, Q a -> Dies P (f a)) : Dies P (s >>= f) := fun w => by
 rw [Sem.run_bind]
 cases hr : s.run P w with
 | ok y v => exact hf y (hs w y v hr) v
 | halt hh v => exact ⟨hh, v, rfl, S.soft w hh v hr⟩
instance softly_numberAt {P : Program} (r : Nat) : Softly P (numberAt r) := by
 unfold numberAt
 have : ∀ o : Obj, Softly P (match o with | .number a lost => (pure (some (a, lost)) : Sem (Option (Addr × Bool))) | _ => pure none) := fun o => by split <;> infer_instance
 infer_instance
instance softly_behind {P : Program} (a : Addr) : Softly P (behindNumber a) := by
 unfold behindNumber
 infer_instance
theorem run_program {P : Program} {w w' : World} {x : Program} (h : (program).run P w = .ok x w') : x = P := by
 simp [program, Sem.run] at h
 exact h.1.symm
theorem run_typeInfo {P : Program} {t : TypeId} {w w' : World} {x : TypeInfo} (h : (typeInfo t).run P w = .ok x w') : P.info? t = some x := by
 unfold typeInfo at h
 rw [Sem.run_bind] at h
 simp only [program, Sem.run, Result.andThen] at h
 cases hi : P.info? t with
 | none => rw [hi] at h; simp [stuck] at h
 | some i => rw [hi] at h; simp [pure] at h; rw [h.1]
def notCopy (L : Program) (t : TypeId) : Bool := match L.info? t with
 | some i => (match i.desc with | .named n _ => n != "sync.copyChecker" | _ => true)
 | none => true
def eqTy (L : Program) : Nat -> TypeId -> Bool
 | 0, _ => false
 | d + 1, t => match L.underlying t with
  | some .bool | some .string | some (.slice _) | some (.map ..) | some (.func ..) => true
  | some (.int _) => notCopy L t
  | some (.struct fs) => !L.stoodInHeld t && fs.all fun f => eqTy L d f.type
  | _ => false
class Twin2 (L M : Program) : Prop extends Twin L M where
 stood : ∀ t, M.stoodInHeld t = L.stoodInHeld t
 eqg : ∀ d t, M.eqGuardType d t = L.eqGuardType d t
 depth : M.depth = L.depth
 globals : L.globals.size = 0
 boc : ∀ d e n, byteOfCell M d e n = byteOfCell L d e n
 cab : ∀ d e c o n, cellAtBytes M d e c o n = cellAtBytes L d e c o n
theorem sr_forL {α β : Type} {Q : BR -> β -> β -> Prop} (hQ : ∀ R R' : BR, R.le R' -> ∀ a b, Q R a b -> Q R' a b) {f f' : α -> β -> Sem (ForInStep β)} : ∀ (as : List α) (R : BR) (b b' : β), Q R b b' ->
  (∀ a ∈ as, ∀ R' : BR, R.le R' -> ∀ c c', Q R' c c' -> SemR L M (fun R x x' => (∃ d d', x = .done d /\ x' = .done d' /\ Q R d d') \/ (∃ d d', x = .yield d /\ x' = .yield d' /\ Q R d d')) R' (f a c) (f' a c')) ->
  SemR L M Q R (forIn as b f) (forIn as b' f')
 | [], R, b, b', h, _ => by rw [List.forIn_nil, List.forIn_nil]; exact sr_pure h
 | a :: as, R, b, b', h, hf => by
  rw [List.forIn_cons, List.forIn_cons]
  refine sr_bind (hf a (by simp) R (BR.le_refl R) b b' h) ?_
  rintro R1 hR1 x x' (⟨d, d', rfl, rfl, hd⟩ | ⟨d, d', rfl, rfl, hd⟩)
  ·exact sr_pure hd
  ·exact sr_forL hQ as R1 d d' hd (fun a ha R' hR' => hf a (by simp [ha]) R' (BR.le_trans hR1 hR'))
theorem never_intPtr {P : Program} (hg : P.globals.size = 0) {t : TypeId} (ht : notCopy P t = true) (a b : Addr) : Dies P (do
   let (a, b) := ((<- behindNumber a).1, (<- behindNumber b).1)
   if a.block == b.block && a.block < (<- program).globals.size then return (<- byteOf a) == (<- byteOf b)
   let .named "sync.copyChecker" _ := (<- typeInfo t).desc | unsupported .addressObserved
   if a == b then pure true else unsupported .addressObserved : Sem Bool) := by
 refine never_last fun p => never_last fun q => never_of (fun x => x = P) (fun w x w' h => run_program h) ?_
 intro y hy
 rw [hy]
 have e : ¬ ((p.fst.block == q.fst.block && decide (p.fst.block < P.globals.size)) = true) := by rw [hg]; simp
 simp only [e]
 refine never_of (fun i => P.info? t = some i) (fun w x w' h => run_typeInfo h) ?_
 intro i hi
 have hd : ∀ u, i.desc ≠ .named "sync.copyChecker" u := by
  intro u q
  simp [notCopy, hi, q] at ht
 split
 ·rename_i u hu
  exact absurd hu (hd _)
 ·exact never_halt
theorem sr_equalIn [T : Twin2 L M] : ∀ (D d : Nat) (t : TypeId), eqTy L d t = true -> ∀ (R : BR) {x x' y y' : Value}, VRel R x x' -> VRel R y y' -> SemR L M QEq R (Op.equalIn D t x y) (Op.equalIn D t x' y') := by
 intro D
 induction D with
 | zero => exact fun d t _ R x x' y y' _ _ => SemR.halt
 | succ D ih =>
  intro d t ht R x x' y y' hx hy
  cases d with
  | zero => simp [eqTy] at ht
  | succ d =>
  unfold Op.equalIn
  refine sr_bind (sr_underlying2 t) ?_
  rintro R1 hR1 ds _ ⟨rfl, hds⟩
  replace hx := hx.mono hR1
  replace hy := hy.mono hR1
  simp only [eqTy, hds] at ht
  cases ds with
  | bool => cases hx <;> cases hy <;> first | exact sr_pure rfl | exact SemR.halt
  | string => cases hx <;> cases hy <;> first | exact sr_pure rfl | exact SemR.halt
  | int k =>
   have hn : ∀ a b : Addr, Dies L (do
     let (a, b) := ((<- behindNumber a).1, (<- behindNumber b).1)
     if a.block == b.block && a.block < (<- program).globals.size then return (<- byteOf a) == (<- byteOf b)
     let .named "sync.copyChecker" _ := (<- typeInfo t).desc | unsupported .addressObserved
     if a == b then pure true else unsupported .addressObserved : Sem Bool) := fun a b => never_intPtr T.globals ht a b
   cases hx with
   | int k1 n1 =>
    cases hy with
    | int k2 n2 => exact sr_when (fun _ => sr_pure rfl) (fun _ => SemR.halt)
    | ptr h =>
     cases n1 with
     | ofNat m => cases m <;> first | exact sr_pure rfl | exact SemR.halt
     | negSucc m => exact SemR.halt
    | nilPtr =>
     cases n1 with
     | ofNat m => cases m <;> exact SemR.halt
     | negSucc m => exact SemR.halt
    | _ => exact SemR.halt
   | ptr h =>
    cases hy with
    | int k2 n2 =>
     cases n2 with
     | ofNat m => cases m <;> first | exact sr_pure rfl | exact SemR.halt
     | negSucc m => exact SemR.halt
    | ptr h2 => exact SemR.never (hn _ _)
    | _ => exact SemR.halt
   | nilPtr =>
    cases hy with
    | int k2 n2 =>
     cases n2 with
     | ofNat m => cases m <;> exact SemR.halt
     | negSucc m => exact SemR.halt
    | _ => exact SemR.halt
   | _ => cases hy <;> exact SemR.halt
  | slice e => cases hx <;> cases hy <;> first | exact sr_pure rfl | exact SemR.halt
  | map k e => cases hx <;> cases hy <;> first | exact sr_pure rfl | exact SemR.halt
  | func a b c => cases hx <;> cases hy <;> first | exact sr_pure rfl | exact SemR.halt
  | struct fields =>
   cases hx with
   | agg h1 h2 =>
    cases hy with
    | agg h3 h4 =>
     refine sr_bind sr_program ?_
     rintro R2 hR2 p p' ⟨rfl, rfl⟩
     simp only [Bool.and_eq_true, Bool.not_eq_true', Array.all_eq_true_iff_forall_mem] at ht
     rw [T.stood, ht.1]
     simp only [Bool.false_eq_true, if_false]
     rw [<- Array.forIn_toList, <- Array.forIn_toList]
     refine sr_bind (sr_forL (Q := QEq) (fun _ _ _ _ _ e => e) fields.toList R2 _ _ rfl ?_) ?_
     ·rintro f hf R3 hR3 c _ rfl
      refine sr_when (fun _ => ?_) (fun _ => sr_pure (Or.inr ⟨_, _, rfl, rfl, rfl⟩))
      refine sr_bind (sr_part f.type (RRel.mono hR3 (RRel.mono hR2 ⟨h1, h2⟩)) _) ?_
      intro R4 hR4 u u' hu
      refine sr_bind (sr_part f.type (RRel.mono hR4 (RRel.mono hR3 (RRel.mono hR2 ⟨h3, h4⟩))) _) ?_
      intro R5 hR5 v v' hv
      refine sr_bind (ih d f.type (ht.2 f (by simpa using hf)) R5 (hu.mono hR5) hv) ?_
      rintro R6 hR6 b _ rfl
      refine sr_when (fun _ => sr_pure (Or.inl ⟨_, _, rfl, rfl, rfl⟩)) (fun _ => sr_pure (Or.inr ⟨_, _, rfl, rfl, rfl⟩))
     ·rintro R3 hR3 c _ rfl
      split <;> exact sr_pure rfl
    | _ => exact SemR.halt
   | _ => cases hy <;> exact SemR.halt
  | _ => simp at ht
end
section
open Go
variable {L M : Program}
def keyTy (L : Program) (t : TypeId) : Bool := match L.underlying t with
 | some .bool | some .string => true
 | some (.int _) => notCopy L t
 | _ => false
theorem keyTy.eqTy {t : TypeId} (h : keyTy L t = true) : eqTy L 1 t = true := by
 unfold keyTy at h
 unfold Proofs.YtfhhcfcjhlkdoaaGreat.eqTy
 split at h <;> simp_all
theorem sr_checkKey [Twin L M] {R : BR} {t : TypeId} (h : keyTy L t = true) (b : Bool) (n : Nat) {v v' : Value} (hv : VRel R v v') : SemR L M QEq R (Instr.checkKey b (n + 1) t v) (Instr.checkKey b (n + 1) t v') := by
 unfold Instr.checkKey
 refine sr_bind (sr_underlying2 t) ?_
 rintro R1 hR1 d _ ⟨rfl, hd⟩
 simp only [keyTy, hd] at h
 cases d <;> first | (simp at h; done) | (cases hv <;> exact sr_pure rfl)
abbrev QF : BR -> Option (Nat × Value) -> Option (Nat × Value) -> Prop := fun R a b => (a = none /\ b = none) \/ ∃ i v v', a = some (i, v) /\ b = some (i, v') /\ VRel R v v'
inductive ELRel (R : BR) : List MapEntry -> List MapEntry -> Prop
 | nil : ELRel R [] []
 | cons {v v' : MapEntry} {r r' : List MapEntry} : ERel R v v' -> ELRel R r r' -> ELRel R (v :: r) (v' :: r')
theorem ELRel.mono {R R' : BR} (hR : R.le R') {l l' : List MapEntry} (h : ELRel R l l') : ELRel R' l l' := by
 induction h with
 | nil => exact .nil
 | cons hv _ ih => exact .cons (hv.mono hR) ih
theorem ELRel.of_get {R : BR} : ∀ (l l' : List MapEntry), l.length = l'.length -> (∀ i (h : i < l.length) (h' : i < l'.length), ERel R l[i] l'[i]) -> ELRel R l l'
 | [], [], _, _ => .nil
 | [], _ :: _, h, _ => by simp at h
 | _ :: _, [], h, _ => by simp at h
 | v :: r, v' :: r', h, hg => .cons (hg 0 (by simp) (by simp)) (ELRel.of_get r r' (by simpa using h) (fun i h1 h2 => hg (i + 1) (Nat.succ_lt_succ h1) (Nat.succ_lt_succ h2)))
theorem EsRel.all {R : BR} {c c' : Array MapEntry} (h : EsRel R c c') : ELRel R c.toList c'.toList :=
 ELRel.of_get _ _ (by simpa using h.1) (fun i h1 h2 => by simpa using h.2 i (by simpa using h1) (by simpa using h2))
theorem sr_findAsking [Twin2 L M] {t : TypeId} (ht : keyTy L t = true) {R0 : BR} {es es' : List MapEntry} (h : ELRel R0 es es') : ∀ {R : BR}, R0.le R -> ∀ {k k' : Value}, VRel R k k' -> ∀ i, SemR L M QF R (Instr.findAsking t k es i) (Instr.findAsking t k' es' i) := by
 induction h with
 | nil => exact fun _ _ _ _ _ => sr_pure (Or.inl ⟨rfl, rfl⟩)
 | cons he _ ih =>
  intro R hR k k' hk i
  unfold Instr.findAsking
  refine sr_bind (sr_equalIn _ 1 t (keyTy.eqTy ht) R hk (he.key.mono hR)) ?_
  rintro R1 hR1 b _ rfl
  cases b
  ·exact ih (BR.le_trans hR hR1) (hk.mono hR1) (i + 1)
  ·exact sr_pure (Or.inr ⟨_, _, _, rfl, rfl, (he.val.mono hR).mono hR1⟩)
def keyV : Value -> Bool
 | .bool _ | .int _ _ | .string _ => true
 | _ => false
theorem sameNow_l (d : TypeDesc) {k : Value} (h : keyV k = false) (e : Value) : Instr.sameNow d k e = none := by
 cases k <;> first | (cases h; done) | (cases d <;> rfl)
theorem sameNow_r (d : TypeDesc) (k : Value) {e : Value} (h : keyV e = false) : Instr.sameNow d k e = none := by
 cases e <;> first | (cases h; done) | (cases d <;> first | rfl | (cases k <;> rfl))
theorem keyV_blind {v : Value} (h : blindV v = true) : keyV v = false := by cases v with | bool b => cases h | int k n => cases h | string s => cases h | _ => rfl
theorem sameNow_rel {R : BR} (d : TypeDesc) {k k' e e' : Value} (hk : VRel R k k') (he : VRel R e e') : Instr.sameNow d k e = Instr.sameNow d k' e' := by
 by_cases q1 : ∃ h : blindV k' = true, k = .tuple #[]
 ·obtain ⟨h, rfl⟩ := q1
  rw [sameNow_l d rfl, sameNow_l d (keyV_blind h)]
 by_cases q2 : ∃ h : blindV e' = true, e = .tuple #[]
 ·obtain ⟨h, rfl⟩ := q2
  rw [sameNow_r d k rfl, sameNow_r d k' (keyV_blind h)]
 cases hk with
 | junk _ h => exact absurd ⟨h, rfl⟩ q1
 | _ =>
  cases he with
  | junk _ h => exact absurd ⟨h, rfl⟩ q2
  | _ => cases d <;> rfl
theorem findNow_rel {R : BR} (d : TypeDesc) {k k' : Value} (hk : VRel R k k') {es es' : List MapEntry} (h : ELRel R es es') : ∀ i, (Instr.findNow d k es i = none /\ Instr.findNow d k' es' i = none) \/ ∃ r r', Instr.findNow d k es i = some r /\ Instr.findNow d k' es' i = some r' /\ QF R r r' := by
 induction h with
 | nil => exact fun i => Or.inr ⟨_, _, rfl, rfl, Or.inl ⟨rfl, rfl⟩⟩
 | cons he _ ih =>
  intro i
  unfold Instr.findNow
  rw [<- sameNow_rel d hk he.key]
  cases Instr.sameNow d k _ with
  | none => exact Or.inl ⟨rfl, rfl⟩
  | some b =>
   cases b
   ·exact ih (i + 1)
   ·exact Or.inr ⟨_, _, rfl, rfl, Or.inr ⟨_, _, _, rfl, rfl, he.val⟩⟩
theorem sr_findKey [Twin2 L M] {R : BR} {t : TypeId} (ht : keyTy L t = true) {k k' : Value} (hk : VRel R k k') {es es' : List MapEntry} (h : ELRel R es es') : SemR L M QF R (Instr.findKey t k es) (Instr.findKey t k' es') := by
 unfold Instr.findKey
 refine sr_bind (sr_underlying t) ?_
 rintro R1 hR1 d _ rfl
 rcases findNow_rel d (hk.mono hR1) (h.mono hR1) 0 with ⟨e1, e2⟩ | ⟨r, r', e1, e2, hr⟩
 ·rw [e1, e2]
  exact sr_findAsking ht h hR1 (hk.mono hR1) 0
 ·rw [e1, e2]
  exact sr_pure hr
def mapTy (L : Program) (t : TypeId) : Bool := match L.underlying t with
 | some (.map k _) => keyTy L k
 | _ => true
theorem sr_lookup [Twin2 L M] (hz : ZeroOk L) {R : BR} {t : TypeId} (ht : mapTy L t = true) {x x' k k' : Value} (hx : VRel R x x') (hk : VRel R k k') (ok : Bool) : SemR L M QV R (Instr.lookup t x k ok) (Instr.lookup t x' k' ok) := by
 unfold Instr.lookup
 refine sr_bind (sr_underlying2 t) ?_
 rintro R1 hR1 d _ ⟨rfl, hd⟩
 simp only [mapTy, hd] at ht
 replace hx := hx.mono hR1
 replace hk := hk.mono hR1
 cases d with
 | map key elem =>
  simp only at ht
  have tail : ∀ (R : BR) {es es' : Array MapEntry}, EsRel R es es' -> VRel R k k' -> SemR L M QV R
    (Instr.checkKey es.isEmpty 10000 key k >>= fun _ => Instr.findKey key k es.toList >>= fun r => match r with | some (_, v) => pure (if ok then .tuple #[v, .bool true] else v) | none => zeroValue elem >>= fun z => pure (if ok then .tuple #[z, .bool false] else z))
    (Instr.checkKey es'.isEmpty 10000 key k' >>= fun _ => Instr.findKey key k' es'.toList >>= fun r => match r with | some (_, v) => pure (if ok then .tuple #[v, .bool true] else v) | none => zeroValue elem >>= fun z => pure (if ok then .tuple #[z, .bool false] else z)) := by
   intro R es es' hes hk
   have ee : es'.isEmpty = es.isEmpty := by rw [Bool.eq_iff_iff]; simp [Array.isEmpty_iff, <- Array.size_eq_zero_iff, hes.1]
   rw [ee]
   refine sr_bind (sr_checkKey ht _ 9999 hk) ?_
   rintro R2 hR2 _ _ _
   refine sr_bind (sr_findKey ht (hk.mono hR2) (hes.mono hR2).all) ?_
   rintro R3 hR3 r r' (⟨rfl, rfl⟩ | ⟨i, v, v', rfl, rfl, hv⟩)
   ·refine sr_bind (sr_zeroValue hz elem) ?_
    intro R4 hR4 z z' hzz
    cases ok
    ·exact sr_pure hzz
    ·exact sr_pure (RRel.two hzz (.bool false)).tup
   ·cases ok
    ·exact sr_pure hv
    ·exact sr_pure (RRel.two hv (.bool true)).tup
  cases hx with
  | map hr =>
   refine sr_bind (sr_getObj hr) ?_
   rintro R2 hR2 _ _ (@⟨c, c', n, _, hc⟩ | _)
   rotate_left
   ·exact SemR.halt
   exact tail R2 hc (hk.mono hR2)
  | nilMap => exact tail R1 (es := #[]) (es' := #[]) ⟨rfl, fun i h => absurd h (by simp)⟩ hk
  | _ => exact SemR.halt
 | _ => exact SemR.halt
end
section
open Go
variable {L M : Program}
theorem ARel.eq_iff {R : BR} (h1 : R.One) {a a' b b' : Addr} (ha : ARel R a a') (hb : ARel R b b') : a = b ↔ a' = b' := by
 obtain ⟨a1, a2, a3⟩ := a
 obtain ⟨b1, b2, b3⟩ := b
 obtain ⟨c1, c2, c3⟩ := a'
 obtain ⟨d1, d2, d3⟩ := b'
 obtain ⟨p1, p2, p3⟩ := ha
 obtain ⟨q1, q2, q3⟩ := hb
 simp only at p1 p2 p3 q1 q2 q3
 subst p2 p3 q2 q3
 constructor
 ·intro e
  cases e
  rw [h1.1 _ _ _ p1 q1]
 ·intro e
  cases e
  rw [h1.2 _ _ _ p1 q1]
theorem sameBits_rel {R : BR} (hx : xOther = true) (h1 : R.One) : ∀ (n : Nat) {a a' b b' : Value}, VRel R a a' -> VRel R b b' -> Instr.sameBits n a b = Instr.sameBits n a' b' := by
 intro n
 induction n with
 | zero =>
  intro a a' b b' ha hb
  cases ha with
  | ptr h =>
   cases hb with
   | ptr h' => simp only [Instr.sameBits]; rw [Bool.eq_iff_iff]; simp [ARel.eq_iff h1 h h']
   | junk h0 _ => rw [hx] at h0; cases h0
   | junkM h0 => rw [hx] at h0; cases h0
   | _ => rfl
  | junk h0 _ => rw [hx] at h0; cases h0
  | junkM h0 => rw [hx] at h0; cases h0
  | _ =>
   cases hb with
   | junk h0 _ => rw [hx] at h0; cases h0
   | junkM h0 => rw [hx] at h0; cases h0
   | _ => rfl
 | succ n ih =>
  intro a a' b b' ha hb
  have key : ∀ {c c' d d' : List Value}, LRel R c c' -> LRel R d d' -> ((c.zip d).all fun (x, y) => Instr.sameBits n x y) = ((c'.zip d').all fun (x, y) => Instr.sameBits n x y) := by
   intro c c' d d' hc
   induction hc generalizing d d' with
   | nil => intro hd; cases hd <;> rfl
   | cons hv _ ihl =>
    intro hd
    cases hd with
    | nil => rfl
    | cons hu hr =>
     simp only [List.zip_cons_cons, List.all_cons]
     rw [ih hv hu, ihl hr]
  cases ha with
  | iface t hv =>
   cases hb with
   | iface u hu => simp only [Instr.sameBits]; rw [ih hv hu]
   | junk h0 _ => rw [hx] at h0; cases h0
   | junkM h0 => rw [hx] at h0; cases h0
   | _ => rfl
  | agg e1 e2 =>
   cases hb with
   | agg e3 e4 =>
    simp only [Instr.sameBits]
    rw [e1, e3, key (RRel.all ⟨e1, e2⟩) (RRel.all ⟨e3, e4⟩)]
   | junk h0 _ => rw [hx] at h0; cases h0
   | junkM h0 => rw [hx] at h0; cases h0
   | _ => rfl
  | ptr h =>
   cases hb with
   | ptr h' => simp only [Instr.sameBits]; rw [Bool.eq_iff_iff]; simp [ARel.eq_iff h1 h h']
   | junk h0 _ => rw [hx] at h0; cases h0
   | junkM h0 => rw [hx] at h0; cases h0
   | _ => rfl
  | junk h0 _ => rw [hx] at h0; cases h0
  | junkM h0 => rw [hx] at h0; cases h0
  | _ =>
   cases hb with
   | junk h0 _ => rw [hx] at h0; cases h0
   | junkM h0 => rw [hx] at h0; cases h0
   | _ => rfl
theorem sr_keyThatStays {R : BR} (hx : xOther = true) (h1 : R.One) {a a' b b' : Value} (ha : VRel R a a') (hb : VRel R b b') : SemR L M QV R (Instr.keyThatStays a b) (Instr.keyThatStays a' b') := by
 unfold Instr.keyThatStays
 rw [sameBits_rel hx h1 _ ha hb]
 refine sr_when (fun _ => sr_pure hb) (fun _ => ?_)
 refine sr_bind (Q := QEq) (.choose fun n => .pure rfl) ?_
 rintro R1 hR1 n _ rfl
 refine sr_pure ?_
 split
 ·exact hb.mono hR1
 ·exact ha.mono hR1
theorem EsRel.modify {R : BR} {c c' : Array MapEntry} (h : EsRel R c c') (i : Nat) {f f' : MapEntry -> MapEntry} (hf : ∀ e e', ERel R e e' -> ERel R (f e) (f' e')) : EsRel R (c.modify i f) (c'.modify i f') := by
 refine ⟨by simp [h.1], fun j h1 h2 => ?_⟩
 simp only [Array.size_modify] at h1 h2
 rw [Array.getElem_modify, Array.getElem_modify]
 split
 ·exact hf _ _ (h.2 j h1 h2)
 ·exact h.2 j h1 h2
theorem EsRel.push {R : BR} {c c' : Array MapEntry} (h : EsRel R c c') {e e' : MapEntry} (he : ERel R e e') : EsRel R (c.push e) (c'.push e') := by
 refine ⟨by simp [h.1], fun i h1 h2 => ?_⟩
 rw [Array.getElem_push, Array.getElem_push]
 simp only [Array.size_push] at h1 h2
 by_cases hi : i < c.size
 ·have hi' : i < c'.size := by rw [<- h.1]; exact hi
  rw [dif_pos hi, dif_pos hi']
  exact h.2 i hi hi'
 ·rw [dif_neg hi, dif_neg (by rw [<- h.1]; exact hi)]
  exact he
theorem EsRel.keyAt {R : BR} {c c' : Array MapEntry} (h : EsRel R c c') (i : Nat) {k k' : Value} (hk : VRel R k k') : VRel R (((c[i]?).map (·.key)).getD k) (((c'[i]?).map (·.key)).getD k') := by
 by_cases q : i < c.size
 ·have q' : i < c'.size := by rw [<- h.1]; exact q
  rw [Array.getElem?_eq_getElem q, Array.getElem?_eq_getElem q']
  exact (h.2 i q q').key
 ·rw [Array.getElem?_eq_none (by omega), Array.getElem?_eq_none (by have := h.1; omega)]
  exact hk
theorem sr_mapUpdate [Twin2 L M] {R : BR} (h1 : R.One) {t : TypeId} (ht : mapTy L t = true) {m m' k k' v v' : Value} (hm : VRel R m m') (hk : VRel R k k') (hv : VRel R v v') : SemR L M QEq R (Instr.mapUpdate t m k v) (Instr.mapUpdate t m' k' v') := by
 unfold Instr.mapUpdate
 refine sr_bind (sr_underlying2 t) ?_
 rintro R1 hR1 d _ ⟨rfl, hd⟩
 simp only [mapTy, hd] at ht
 replace hm := hm.mono hR1
 replace hk := hk.mono hR1
 replace hv := hv.mono hR1
 cases d with
 | map key elem =>
  simp only at ht
  cases hm with
  | map hr =>
   refine sr_bind (sr_getObj hr) ?_
   rintro R2 hR2 _ _ (@⟨c, c', n, hxo, hc⟩ | _)
   rotate_left
   ·exact SemR.halt
   dsimp only
   refine sr_bind (sr_checkKey ht false 9999 (hk.mono hR2)) ?_
   rintro R3 hR3 _ _ _
   refine sr_bind (sr_findKey ht ((hk.mono hR2).mono hR3) (hc.mono hR3).all) ?_
   rintro R4 hR4 r r' (⟨rfl, rfl⟩ | ⟨i, u, u', rfl, rfl, hu⟩)
   ·have up : R1.le R4 := BR.le_trans hR2 (BR.le_trans hR3 hR4)
    exact sr_setObj hxo (up.1 _ _ hr) _ (((hc.mono hR3).mono hR4).push ⟨hk.mono up, hv.mono up, rfl⟩)
   ·have up : R1.le R4 := BR.le_trans hR2 (BR.le_trans hR3 hR4)
    have hc4 := (hc.mono hR3).mono hR4
    refine sr_bind (sr_keyThatStays hxo ((BR.le_trans hR1 up).2 h1) (hc4.keyAt i (hk.mono up)) (hk.mono up)) ?_
    intro R5 hR5 kk kk' hkk
    exact sr_setObj hxo ((BR.le_trans up hR5).1 _ _ hr) _ ((hc4.mono hR5).modify i fun e e' he => ⟨hkk, (hv.mono up).mono hR5, he.born⟩)
  | nilMap => exact SemR.never (never_panic _)
  | _ => exact SemR.halt
 | _ => exact SemR.halt
theorem sr_shift {R : BR} (op : BinOp) (k : IntKind) (x : Int) (yk : IntKind) (y : Int) : SemR L M QV R (Op.shift op k x yk y) (Op.shift op k x yk y) := by
 unfold Op.shift
 split
 ·exact SemR.never (never_panic _)
 ·dsimp only
  split <;> first | exact sr_pure (.int _ _) | exact sr_stuck
theorem sr_stringOp {R : BR} (op : BinOp) (x y : ByteArray) : SemR L M QV R (Op.stringOp op x y) (Op.stringOp op x y) := by
 unfold Op.stringOp
 dsimp only
 split
 ·split
  ·exact SemR.halt
  ·exact sr_pure (.string _)
 all_goals first | exact sr_pure (.bool _) | exact sr_stuck
theorem sr_equal [Twin2 L M] {R : BR} {t : TypeId} (ht : eqTy L 40 t = true) {x x' y y' : Value} (hx : VRel R x x') (hy : VRel R y y') : SemR L M QEq R (Op.equal t x y) (Op.equal t x' y') := sr_equalIn _ 40 t ht R hx hy
end
section
open Go
variable {L M : Program}
theorem cellsOf_eq [Twin L M] (t : TypeId) : M.cellsOf t = L.cellsOf t := by unfold Program.cellsOf; rw [Twin.info (L := L) (M := M)]
theorem bytesOf_eq [Twin L M] (t : TypeId) : M.bytesOf t = L.bytesOf t := by unfold Program.bytesOf; rw [Twin.info (L := L) (M := M)]
theorem sr_viewAt {R : BR} {r r' : Nat} (h : R r r') : SemR L M (fun _ a b => a = none /\ b = none) R (viewAt r) (viewAt r') := by
 unfold viewAt
 refine sr_bind (sr_shape h) ?_
 rintro R1 hR1 s _ rfl
 refine sr_when (fun _ => sr_pure ⟨rfl, rfl⟩) (fun _ => ?_)
 refine sr_bind (sr_getObj (hR1.1 _ _ h)) ?_
 intro R2 hR2 o o' ho
 cases ho <;> exact sr_pure ⟨rfl, rfl⟩
theorem sr_noView {R : BR} {a a' : Addr} (h : ARel R a a') : SemR L M QEq R (noView a) (noView a') := by
 unfold noView
 refine sr_bind (sr_viewAt h.1) ?_
 rintro R1 hR1 _ _ ⟨rfl, rfl⟩
 exact sr_pure rfl
abbrev QN : BR -> Addr × Bool -> Addr × Bool -> Prop := fun R a b => ARel R a.1 b.1 /\ a.2 = b.2
theorem sr_numberAt {R : BR} {r r' : Nat} (h : R r r') : SemR L M (fun R a b => (a = none /\ b = none) \/ ∃ x x', a = some x /\ b = some x' /\ QN R x x') R (numberAt r) (numberAt r') := by
 unfold numberAt
 refine sr_bind (sr_shape h) ?_
 rintro R1 hR1 s _ rfl
 refine sr_when (fun _ => sr_pure (Or.inl ⟨rfl, rfl⟩)) (fun _ => ?_)
 refine sr_bind (sr_getObj (hR1.1 _ _ h)) ?_
 intro R2 hR2 o o' ho
 cases ho with
 | map _ _ => exact sr_pure (Or.inl ⟨rfl, rfl⟩)
 | number ha => exact sr_pure (Or.inr ⟨_, _, rfl, rfl, ha, rfl⟩)
theorem sr_behindNumber {R : BR} {a a' : Addr} (h : ARel R a a') : SemR L M QN R (behindNumber a) (behindNumber a') := by
 unfold behindNumber
 refine sr_bind (sr_numberAt h.1) ?_
 rintro R1 hR1 _ _ (⟨rfl, rfl⟩ | ⟨x, x', rfl, rfl, hx⟩)
 ·exact sr_pure ⟨h.mono hR1, rfl⟩
 ·exact sr_pure hx
theorem sr_byteOf [Twin2 L M] {R : BR} {a a' : Addr} (h : ARel R a a') : SemR L M QEq R (byteOf a) (byteOf a') := by
 unfold byteOf
 rw [<- h.2.2]
 cases a.spot with
 | some s => exact sr_pure rfl
 | none =>
  refine sr_bind sr_program ?_
  rintro R1 hR1 p p' ⟨rfl, rfl⟩
  refine sr_bind (sr_noView (h.mono hR1)) ?_
  rintro R2 hR2 _ _ _
  refine sr_bind (sr_shape ((h.mono hR1).mono hR2).1) ?_
  rintro R3 hR3 s _ rfl
  cases s with
  | none => exact SemR.halt
  | some e =>
   obtain ⟨e, n⟩ := e
   dsimp only
   rw [cellsOf_eq (L := p) (M := p'), bytesOf_eq (L := p) (M := p'), Twin2.boc (L := p) (M := p'), Twin2.depth (L := p) (M := p'), h.2.1]
   refine sr_when (fun _ => sr_pure rfl) (fun _ => ?_)
   split
   ·exact sr_pure rfl
   ·exact SemR.halt
theorem sr_asNumber {R : BR} {a a' : Addr} (h : ARel R a a') (l : Bool) : SemR L M QV R (asNumber a l) (asNumber a' l) := by
 unfold asNumber
 exact sr_bind (sr_newObj (.other (.number h) (fun _ q => q))) fun _ _ _ _ hr => sr_pure (.ptr ⟨hr, rfl, rfl⟩)
abbrev QPt : BR -> Value -> Value -> Prop := fun R v v' => ∃ a a', v = .pointer (some a) /\ v' = .pointer (some a') /\ ARel R a a'
theorem ptP {R : BR} {a a' : Addr} (h : ARel R a a') : QPt R (.pointer (some a)) (.pointer (some a')) := ⟨a, a', rfl, rfl, h⟩
theorem sr_unsafeAddP [Twin2 L M] {R : BR} (ts : Array TypeId) (t : TypeId) {x x' y y' : Value} (hx : VRel R x x') (hy : VRel R y y') : SemR L M QPt R (Builtin.unsafeAdd_ ts t #[x, y]) (Builtin.unsafeAdd_ ts t #[x', y']) := by
 unfold Builtin.unsafeAdd_
 cases hx with
 | ptr ha =>
  refine sr_bind (sr_asInt hy) ?_
  rintro R1 hR1 n _ rfl
  refine sr_when (fun _ => ?_) (fun _ => ?_)
  ·refine sr_bind (sr_viewAt (ha.mono hR1).1) ?_
   rintro R2 hR2 _ _ ⟨rfl, rfl⟩
   exact sr_pure (ptP ((ha.mono hR1).mono hR2))
  ·refine sr_when (fun _ => SemR.never (never_bind never_halt)) (fun _ => ?_)
   refine sr_bind (sr_shape (ha.mono hR1).1) ?_
   rintro R2 hR2 s _ rfl
   cases s with
   | none => exact SemR.halt
   | some e =>
    obtain ⟨e, c⟩ := e
    refine sr_bind sr_program ?_
    rintro R3 hR3 p p' ⟨rfl, rfl⟩
    rw [cellsOf_eq (L := p) (M := p'), Twin2.cab (L := p) (M := p'), Twin2.depth (L := p) (M := p'), ha.2.1]
    split
    ·exact sr_pure (ptP ⟨(((ha.mono hR1).mono hR2).mono hR3).1, rfl, ha.2.2⟩)
    ·exact SemR.halt
 | nilPtr =>
  refine sr_bind (sr_asInt hy) ?_
  rintro R1 hR1 n _ rfl
  exact sr_when (fun _ => SemR.halt) (fun _ => sr_when (fun _ => SemR.never (never_bind never_halt)) (fun _ => SemR.halt))
 | _ => exact SemR.halt
theorem sr_unsafeAdd [Twin2 L M] {R : BR} (ts : Array TypeId) (t : TypeId) {x x' y y' : Value} (hx : VRel R x x') (hy : VRel R y y') : SemR L M QV R (Builtin.unsafeAdd_ ts t #[x, y]) (Builtin.unsafeAdd_ ts t #[x', y']) :=
 (sr_unsafeAddP ts t hx hy).imp fun R v v' h => by
  obtain ⟨a, a', rfl, rfl, h⟩ := h
  exact .ptr h
theorem sr_movedNumber [Twin2 L M] {R : BR} (t : TypeId) {x x' y y' : Value} (hx : VRel R x x') (hy : VRel R y y') : SemR L M QV R (movedNumber t x y) (movedNumber t x' y') := by
 unfold movedNumber
 refine sr_bind (sr_underlying t) ?_
 rintro R1 hR1 d _ rfl
 replace hx := hx.mono hR1
 replace hy := hy.mono hR1
 have hx0 := hx
 cases hx with
 | ptr ha =>
  rename_i n n'
  have tail : SemR L M QV R1 (behindNumber n >>= fun p => match p with
     | (a, lost) => Builtin.unsafeAdd_ #[] t #[.pointer (some a), y] >>= fun v => match v with | .pointer (some b) => asNumber b lost | v => pure v)
    (behindNumber n' >>= fun p => match p with
     | (a, lost) => Builtin.unsafeAdd_ #[] t #[.pointer (some a), y'] >>= fun v => match v with | .pointer (some b) => asNumber b lost | v => pure v) := by
   refine sr_bind (sr_behindNumber ha) ?_
   rintro R2 hR2 ⟨a, l⟩ ⟨a', l'⟩ ⟨h1, h2⟩
   simp only at h1 h2
   subst h2
   refine sr_bind (sr_unsafeAddP #[] t (.ptr h1) (hy.mono hR2)) ?_
   rintro R3 hR3 _ _ ⟨b, b', rfl, rfl, hb⟩
   exact sr_asNumber hb _
  cases d <;> first | exact tail | exact SemR.halt
 | _ => cases d <;> first | exact sr_unsafeAdd #[] t hx0 hy | exact SemR.halt
theorem sr_movedPointer [Twin2 L M] {R : BR} (t : TypeId) {x x' y y' : Value} (hx : VRel R x x') (hy : VRel R y y') : SemR L M QV R (movedPointer t x y) (movedPointer t x' y') := by
 unfold movedPointer
 have hx0 := hx
 cases hx with
 | ptr ha =>
  refine sr_bind (sr_numberAt ha.1) ?_
  rintro R1 hR1 _ _ (⟨rfl, rfl⟩ | ⟨u, u', rfl, rfl, _⟩)
  ·exact sr_unsafeAdd #[] t (hx0.mono hR1) (hy.mono hR1)
  ·exact SemR.halt
 | junk _ _ => exact SemR.halt
 | _ => exact sr_unsafeAdd #[] t hx0 hy
theorem never_twoPlaces {P : Program} (hg : P.globals.size = 0) (a b : Addr) : Dies P (Op.twoPlaces a b) := by
 unfold Op.twoPlaces
 refine never_of (fun x => x = P) (fun w x w' h => run_program h) ?_
 intro y hy
 rw [hy, hg]
 have e : (a.block != b.block || decide (a.block ≥ 0)) = true := by simp
 rw [if_pos e]
 exact never_bind never_halt
theorem sr_addrMod [Twin2 L M] {R : BR} (k : IntKind) {a a' : Addr} (h : ARel R a a') (n : Int) : SemR L M QV R (Op.addrMod k a n) (Op.addrMod k a' n) := by
 unfold Op.addrMod
 refine sr_bind (sr_shape h.1) ?_
 rintro R1 hR1 s _ rfl
 cases s with
 | none => exact SemR.halt
 | some e =>
  obtain ⟨e, c⟩ := e
  refine sr_bind (sr_typeInfo e) ?_
  rintro R2 hR2 i _ rfl
  refine sr_when (fun _ => SemR.never (never_bind never_halt)) (fun _ => ?_)
  refine sr_bind (sr_byteOf ((h.mono hR1).mono hR2)) ?_
  rintro R3 hR3 b _ rfl
  exact sr_pure (.int _ _)
def binTy (L : Program) (op : BinOp) (t : TypeId) : Bool := match op with
 | .eql | .neq => eqTy L 40 t && !L.eqGuardType L.depth t
 | _ => true
def guardV : Value -> Bool
 | .nilIface | .agg _ => true
 | _ => false
theorem guard_l (op : BinOp) (t : TypeId) (x y : Operand) {a : Value} (h : guardV a = false) (b : Value) : eqGuard op t x y a b = pure () := by
 unfold eqGuard
 cases a <;> first | (cases h; done) | (cases op <;> rfl)
theorem guard_r (op : BinOp) (t : TypeId) (x y : Operand) (a : Value) {b : Value} (h : guardV b = false) : eqGuard op t x y a b = pure () := by
 unfold eqGuard
 cases b <;> first | (cases h; done) | (cases op <;> first | rfl | (cases a <;> rfl))
theorem guardV_blind {v : Value} (h : blindV v = true) : guardV v = false := by cases v with | nilIface => cases h | agg c => cases h | _ => rfl
theorem sr_eqGuard [Twin2 L M] {R : BR} (op : BinOp) {t : TypeId} (ht : binTy L op t = true) (x y : Operand) {a a' b b' : Value} (ha : VRel R a a') (hb : VRel R b b') : SemR L M QEq R (eqGuard op t x y a b) (eqGuard op t x y a' b') := by
 by_cases q1 : blindV a' = true /\ a = .tuple #[]
 ·obtain ⟨h, rfl⟩ := q1
  rw [guard_l op t x y rfl, guard_l op t x y (guardV_blind h)]
  exact sr_pure rfl
 by_cases q2 : blindV b' = true /\ b = .tuple #[]
 ·obtain ⟨h, rfl⟩ := q2
  rw [guard_r op t x y a rfl, guard_r op t x y a' (guardV_blind h)]
  exact sr_pure rfl
 by_cases h : op = .eql \/ op = .neq
 ·have hg : L.eqGuardType L.depth t = false := by rcases h with rfl | rfl <;> (simp [binTy] at ht; exact ht.2)
  have e2 : SemR L M QEq R (if ((match x with | .const _ => true | _ => false) || (match y with | .const _ => true | _ => false)) = true then pure () else Op.eqGuardIn Op.maxDepth t .nilIface .nilIface >>= fun g => if g = true then unsupported (.noEntry "binop/eql: two nil values of an interface type with methods, neither of them the literal nil") else pure ()) (if ((match x with | .const _ => true | _ => false) || (match y with | .const _ => true | _ => false)) = true then pure () else Op.eqGuardIn Op.maxDepth t .nilIface .nilIface >>= fun g => if g = true then unsupported (.noEntry "binop/eql: two nil values of an interface type with methods, neither of them the literal nil") else pure ()) := by
   refine sr_when (fun _ => sr_pure rfl) (fun _ => ?_)
   refine sr_bind (Q := QEq) ?_ ?_
   ·show SemR L M QEq R (Op.eqGuardIn (9999 + 1) t .nilIface .nilIface) (Op.eqGuardIn (9999 + 1) t .nilIface .nilIface)
    unfold Op.eqGuardIn
    refine sr_bind (sr_underlying t) ?_
    rintro R1 hR1 d _ rfl
    cases d <;> exact sr_pure rfl
   ·rintro R1 hR1 g _ rfl
    exact sr_when (fun _ => SemR.halt) (fun _ => sr_pure rfl)
  have e3 : ∀ u u' v v' : Value, SemR L M QEq R (program >>= fun p => program >>= fun q => if (!p.eqGuardType q.depth t) = true then pure () else Op.eqGuardIn Op.maxDepth t u v >>= fun g => if g = true then unsupported (.noEntry "binop/eql: two nil values of an interface type with methods, in a part of a struct or an array") else pure ()) (program >>= fun p => program >>= fun q => if (!p.eqGuardType q.depth t) = true then pure () else Op.eqGuardIn Op.maxDepth t u' v' >>= fun g => if g = true then unsupported (.noEntry "binop/eql: two nil values of an interface type with methods, in a part of a struct or an array") else pure ()) := by
   intro u u' v v'
   refine sr_bind sr_program ?_
   rintro R1 hR1 p p' ⟨rfl, rfl⟩
   refine sr_bind sr_program ?_
   rintro R2 hR2 q q' ⟨rfl, rfl⟩
   rw [Twin2.eqg (L := q) (M := q'), Twin2.depth (L := q) (M := q'), hg]
   exact sr_pure rfl
  rcases h with rfl | rfl
  ·cases ha with
   | nilIface =>
    cases hb with
    | nilIface => exact e2
    | junk _ h => exact absurd ⟨h, rfl⟩ q2
    | _ => exact sr_pure rfl
   | agg _ _ =>
    cases hb with
    | agg _ _ => exact e3 _ _ _ _
    | junk _ h => exact absurd ⟨h, rfl⟩ q2
    | _ => exact sr_pure rfl
   | junk _ h => exact absurd ⟨h, rfl⟩ q1
   | _ =>
    cases hb with
    | junk _ h => exact absurd ⟨h, rfl⟩ q2
    | _ => exact sr_pure rfl
  ·cases ha with
   | nilIface =>
    cases hb with
    | nilIface => exact e2
    | junk _ h => exact absurd ⟨h, rfl⟩ q2
    | _ => exact sr_pure rfl
   | agg _ _ =>
    cases hb with
    | agg _ _ => exact e3 _ _ _ _
    | junk _ h => exact absurd ⟨h, rfl⟩ q2
    | _ => exact sr_pure rfl
   | junk _ h => exact absurd ⟨h, rfl⟩ q1
   | _ =>
    cases hb with
    | junk _ h => exact absurd ⟨h, rfl⟩ q2
    | _ => exact sr_pure rfl
 ·have e1 : ∀ a b, eqGuard op t x y a b = pure () := by
   intro a b
   unfold eqGuard
   cases op <;> first | rfl | exact absurd (Or.inl rfl) h | exact absurd (Or.inr rfl) h
  rw [e1, e1]
  exact sr_pure rfl
end
section
open Go
variable {L M : Program}
theorem sr_intInt {R : BR} (op : BinOp) (t : TypeId) (k k' : IntKind) (x y : Int) : SemR L M QV R (binOp op t (.int k x) (.int k' y)) (binOp op t (.int k x) (.int k' y)) := by
 by_cases hk : k = k'
 ·subst hk
  by_cases h : op = .shl \/ op = .shr
  ·rcases h with rfl | rfl
   ·exact sr_shift .shl k x k y
   ·exact sr_shift .shr k x k y
  ·exact sr_binInt op t k x y ⟨fun q => h (Or.inl q), fun q => h (Or.inr q)⟩
 ·cases op <;> first
   | exact sr_shift .shl k x k' y
   | exact sr_shift .shr k x k' y
   | (simp only [binOp, ne_eq, hk, not_false_eq_true, if_true]; exact sr_stuck)
theorem never_eq_l {P : Program} (t : TypeId) (y : Value) : Dies P (Op.equal t (.tuple #[]) y) := by
 show Dies P (Op.equalIn (9999 + 1) t (.tuple #[]) y)
 unfold Op.equalIn
 refine never_last fun d => ?_
 cases d <;> (cases y <;> exact never_halt)
theorem never_eq_r {P : Program} (t : TypeId) (x : Value) : Dies P (Op.equal t x (.tuple #[])) := by
 show Dies P (Op.equalIn (9999 + 1) t x (.tuple #[]))
 unfold Op.equalIn
 refine never_last fun d => ?_
 cases x with
 | pointer o => cases o <;> (cases d <;> exact never_halt)
 | slice o _ _ => cases o <;> (cases d <;> exact never_halt)
 | map o => cases o <;> (cases d <;> exact never_halt)
 | _ => cases d <;> exact never_halt
theorem sr_eql [Twin2 L M] {R : BR} {t : TypeId} (ht : eqTy L 40 t = true) {x x' y y' : Value} (hx : VRel R x x') (hy : VRel R y y') : SemR L M QV R (binOp .eql t x y) (binOp .eql t x' y') := by
 have tail : SemR L M QV R (Op.equal t x y >>= fun b => pure (.bool b)) (Op.equal t x' y' >>= fun b => pure (.bool b)) :=
  sr_bind (sr_equal ht hx hy) fun _ _ _ _ e => by rw [e]; exact sr_pure (.bool _)
 cases hx with
 | int k n =>
  cases hy with
  | int k' n' => exact sr_intInt _ _ _ _ _ _
  | junk _ _ => exact SemR.never (show Dies L (Op.equal t _ (.tuple #[]) >>= (fun b => pure (Value.bool b) : Bool -> Sem Value)) from never_bind (never_eq_r t _))
  | _ => exact tail
 | string s =>
  cases hy with
  | string s' => exact sr_stringOp .eql s s'
  | junk _ _ => exact SemR.never (show Dies L (Op.equal t _ (.tuple #[]) >>= (fun b => pure (Value.bool b) : Bool -> Sem Value)) from never_bind (never_eq_r t _))
  | _ => exact tail
 | junk _ _ => exact SemR.never (show Dies L (Op.equal t (.tuple #[]) _ >>= (fun b => pure (Value.bool b) : Bool -> Sem Value)) from never_bind (never_eq_l t _))
 | _ =>
  cases hy with
  | junk _ _ => exact SemR.never (show Dies L (Op.equal t _ (.tuple #[]) >>= (fun b => pure (Value.bool b) : Bool -> Sem Value)) from never_bind (never_eq_r t _))
  | _ => exact tail
theorem sr_neq [Twin2 L M] {R : BR} {t : TypeId} (ht : eqTy L 40 t = true) {x x' y y' : Value} (hx : VRel R x x') (hy : VRel R y y') : SemR L M QV R (binOp .neq t x y) (binOp .neq t x' y') := by
 have tail : SemR L M QV R (Op.equal t x y >>= fun b => pure (.bool (!b))) (Op.equal t x' y' >>= fun b => pure (.bool (!b))) :=
  sr_bind (sr_equal ht hx hy) fun _ _ _ _ e => by rw [e]; exact sr_pure (.bool _)
 cases hx with
 | int k n =>
  cases hy with
  | int k' n' => exact sr_intInt _ _ _ _ _ _
  | junk _ _ => exact SemR.never (show Dies L (Op.equal t _ (.tuple #[]) >>= (fun b => pure (Value.bool (!b)) : Bool -> Sem Value)) from never_bind (never_eq_r t _))
  | _ => exact tail
 | string s =>
  cases hy with
  | string s' => exact sr_stringOp .neq s s'
  | junk _ _ => exact SemR.never (show Dies L (Op.equal t _ (.tuple #[]) >>= (fun b => pure (Value.bool (!b)) : Bool -> Sem Value)) from never_bind (never_eq_r t _))
  | _ => exact tail
 | junk _ _ => exact SemR.never (show Dies L (Op.equal t (.tuple #[]) _ >>= (fun b => pure (Value.bool (!b)) : Bool -> Sem Value)) from never_bind (never_eq_l t _))
 | _ =>
  cases hy with
  | junk _ _ => exact SemR.never (show Dies L (Op.equal t _ (.tuple #[]) >>= (fun b => pure (Value.bool (!b)) : Bool -> Sem Value)) from never_bind (never_eq_r t _))
  | _ => exact tail
theorem never_cmp {P : Program} (hg : P.globals.size = 0) (op : BinOp) (a b : Addr) : Dies P (behindNumber a >>= fun p => behindNumber b >>= fun q => Op.addrCmp op p.1 q.1 : Sem Value) :=
 never_last fun _ => never_last fun _ => never_bind (never_twoPlaces hg _ _)
theorem never_sub {P : Program} (hg : P.globals.size = 0) (k : IntKind) (a b : Addr) : Dies P (behindNumber a >>= fun p => behindNumber b >>= fun q => Op.addrSub k p.1 q.1 : Sem Value) :=
 never_last fun _ => never_last fun _ => never_bind (never_twoPlaces hg _ _)
theorem sr_mod [Twin2 L M] {R : BR} (k : IntKind) {a a' : Addr} (h : ARel R a a') (n : Int) : SemR L M QV R (behindNumber a >>= fun p => Op.addrMod k p.1 n) (behindNumber a' >>= fun p => Op.addrMod k p.1 n) :=
 sr_bind (sr_behindNumber h) fun _ _ _ _ hp => sr_addrMod k hp.1 n
theorem sr_moved [Twin2 L M] {R : BR} (t : TypeId) {x x' y y' : Value} (hx : VRel R x x') (hy : VRel R y y') : SemR L M QV R (underlying t >>= fun d => if (match d with | .unsafePointer => true | _ => false) = true then movedPointer t x y else movedNumber t x y) (underlying t >>= fun d => if (match d with | .unsafePointer => true | _ => false) = true then movedPointer t x' y' else movedNumber t x' y') := by
 refine sr_bind (sr_underlying t) ?_
 rintro R1 hR1 d _ rfl
 exact sr_when (fun _ => sr_movedPointer t (hx.mono hR1) (hy.mono hR1)) (fun _ => sr_movedNumber t (hx.mono hR1) (hy.mono hR1))
theorem sr_binOp [T : Twin2 L M] {R : BR} (op : BinOp) {t : TypeId} (ht : binTy L op t = true) {x x' y y' : Value} (hx : VRel R x x') (hy : VRel R y y') : SemR L M QV R (binOp op t x y) (binOp op t x' y') := by
 by_cases h : op = .eql \/ op = .neq
 ·rcases h with rfl | rfl
  ·exact sr_eql (by simp [binTy] at ht; exact ht.1) hx hy
  ·exact sr_neq (by simp [binTy] at ht; exact ht.1) hx hy
 have n1 : op ≠ .eql := fun q => h (Or.inl q)
 have n2 : op ≠ .neq := fun q => h (Or.inr q)
 have hx0 := hx
 have hy0 := hy
 cases hx with
 | int k n =>
  cases hy with
  | int k' n' => exact sr_intInt _ _ _ _ _ _
  | ptr ha =>
   cases op <;> first
    | exact SemR.halt
    | exact sr_movedNumber t hy0 hx0
    | exact sr_mod _ ha _
    | exact absurd rfl n1
    | exact absurd rfl n2
  | nilPtr =>
   cases op <;> first
    | exact SemR.halt
    | exact sr_movedNumber t hy0 hx0
    | exact absurd rfl n1
    | exact absurd rfl n2
  | _ => cases op <;> first | exact SemR.halt | exact absurd rfl n1 | exact absurd rfl n2
 | ptr ha =>
  cases hy with
  | int k n =>
   cases op <;> first
    | exact SemR.halt
    | exact sr_moved t hx0 hy0
    | exact sr_movedNumber t hx0 (.int _ _)
    | exact sr_mod _ ha _
    | exact absurd rfl n1
    | exact absurd rfl n2
  | ptr hb =>
   cases op <;> first
    | exact SemR.halt
    | exact SemR.never (never_cmp T.globals _ _ _)
    | exact SemR.never (never_sub T.globals _ _ _)
    | exact absurd rfl n1
    | exact absurd rfl n2
  | _ => cases op <;> first | exact SemR.halt | exact absurd rfl n1 | exact absurd rfl n2
 | nilPtr =>
  cases hy with
  | int k n =>
   cases op <;> first
    | exact SemR.halt
    | exact sr_moved t hx0 hy0
    | exact sr_movedNumber t hx0 (.int _ _)
    | exact absurd rfl n1
    | exact absurd rfl n2
  | _ => cases op <;> first | exact SemR.halt | exact absurd rfl n1 | exact absurd rfl n2
 | string s =>
  cases hy with
  | string s' => cases op <;> first | (simp only [binOp]; exact sr_stringOp _ _ _) | exact absurd rfl n1 | exact absurd rfl n2
  | _ => cases op <;> first | exact SemR.halt | exact absurd rfl n1 | exact absurd rfl n2
 | _ => cases hy <;> (cases op <;> first | exact SemR.halt | exact absurd rfl n1 | exact absurd rfl n2)
def convTy (L : Program) (s d : TypeId) : Bool := match L.underlying s, L.underlying d with
 | some (.int _), some (.int _) => true
 | some .string, some .string => true
 | _, _ => false
theorem sr_convert [Twin L M] {R : BR} {s d : TypeId} (h : convTy L s d = true) {x x' : Value} (hx : VRel R x x') : SemR L M QV R (convert s d x) (convert s d x') := by
 unfold convert
 refine sr_bind (sr_underlying2 s) ?_
 rintro R1 hR1 ds _ ⟨rfl, h1⟩
 refine sr_bind (sr_underlying2 d) ?_
 rintro R2 hR2 dd _ ⟨rfl, h2⟩
 simp only [convTy, h1, h2] at h
 replace hx := (hx.mono hR1).mono hR2
 cases ds <;> cases dd <;> first
  | (simp at h; done)
  | (cases hx <;> first | exact sr_pure (.int _ _) | exact sr_pure (.string _) | exact SemR.halt)
end
section
open Go
variable {L M : Program}
class Twin3 (L M : Program) : Prop extends Twin2 L M where
 fn : ∀ (f : Nat) (fn : Func), L.funcs[f]? = some fn -> fn.body.isSome = true -> (fn.name == "runtime.NumGoroutine") = false /\ ∃ fn' : Func, M.funcs[f]? = some fn' /\ fn'.body.isSome = true /\ (fn'.name == "runtime.NumGoroutine") = false
 dead : ∀ (f : Nat) (fn : Func), L.funcs[f]? = some fn -> fn.body.isSome = false -> ∀ args, Dies L (callFunc f args)
 types : M.types.size = L.types.size
inductive NRel (L : Program) (R : BR) : Next -> Next -> Prop
 | value {v v' : Value} : VRel R v v' -> NRel L R (.value v) (.value v')
 | skip : NRel L R .skip .skip
 | enter (f : FuncId) {a a' : Array Value} : (∃ fn : Func, L.funcs[f]? = some fn /\ fn.body.isSome = true) -> arOk f a.size = true -> RRel R a a' -> NRel L R (.enter f a) (.enter f a')
abbrev QX (L : Program) : BR -> Next -> Next -> Prop := fun R a b => NRel L R a b
theorem sr_callFunc [T : Twin3 L M] {R : BR} (f : FuncId) {a a' : Array Value} (har : arOk f a.size = true) (h : RRel R a a') : SemR L M (QX L) R (callFunc f a) (callFunc f a') := by
 by_cases hd : ∃ fn, L.funcs[f]? = some fn /\ fn.body.isSome = false
 ·obtain ⟨fn, h1, h2⟩ := hd
  exact SemR.never (T.dead f fn h1 h2 a)
 ·unfold callFunc
  refine sr_bind sr_program ?_
  rintro R1 hR1 p p' ⟨rfl, rfl⟩
  cases hf : p.funcs[f]? with
  | none => exact SemR.halt
  | some fn =>
   have hb : fn.body.isSome = true := by
    cases hb : fn.body.isSome with
    | true => rfl
    | false => exact absurd ⟨fn, hf, hb⟩ hd
   obtain ⟨n1, fn', hf', hb', n2⟩ := T.fn f fn hf hb
   rw [hf']
   have e1 : fn.body.isNone = false := by cases q : fn.body <;> simp_all
   have e2 : fn'.body.isNone = false := by cases q : fn'.body <;> simp_all
   simp only [n1, n2, e1, e2]
   exact sr_pure (.enter f ⟨fn, hf, hb⟩ har (h.mono hR1))
theorem sr_wrapNil {R : BR} (ts : Array TypeId) (t : TypeId) {v v' : Value} (h : VRel R v v') (m : String) : SemR L M QV R (Builtin.ssaWrapNilChk_ ts t #[v, strVal "", strVal m]) (Builtin.ssaWrapNilChk_ ts t #[v', strVal "", strVal m]) := by
 cases h with
 | ptr h => exact sr_pure (.ptr h)
 | nilPtr =>
  refine SemR.never (never_last (s := choose (.extern "ssa:wrapnilchk.dereferenced" 2)) fun n => ?_)
  refine never_ite (never_bind (never_panic _)) ?_
  split
  ·refine never_last fun d => ?_
   split
   ·refine never_last fun i => ?_
    split
    ·split
     ·dsimp only
      split
      ·exact never_panic _
      ·exact never_halt
     ·exact never_halt
    ·exact never_halt
   ·exact never_halt
  ·exact never_halt
 | _ => exact SemR.halt
theorem sr_receiverAt [Twin L M] {R : BR} (t : TypeId) {v v' : Value} (h : VRel R v v') (p : Bool) (wr : Option String) : SemR L M QV R (receiverAt t (.val v) p wr) (receiverAt t (.val v') p wr) := by
 unfold receiverAt
 refine sr_bind (sr_underlying t) ?_
 rintro R1 hR1 d _ rfl
 replace h := h.mono hR1
 cases p with
 | true => cases d <;> first | exact sr_pure h | exact SemR.halt
 | false =>
  cases d with
  | pointer elem =>
   have tail : ∀ (R2 : BR), R1.le R2 -> ∀ {u u' : Value}, VRel R2 u u' -> SemR L M QV R2 (asAddr u >>= fun a => loadVar elem a) (asAddr u' >>= fun a => loadVar elem a) :=
    fun R2 _ u u' hu => sr_bind (sr_asAddr hu) fun _ _ _ _ ha => sr_loadVar elem ha
   cases wr with
   | none => exact tail R1 (BR.le_refl _) h
   | some m =>
    show SemR L M QV R1 (Builtin.ssaWrapNilChk_ #[t] t #[v, strVal "", strVal m] >>= fun u => asAddr u >>= fun a => loadVar elem a) (Builtin.ssaWrapNilChk_ #[t] t #[v', strVal "", strVal m] >>= fun u => asAddr u >>= fun a => loadVar elem a)
    exact sr_bind (sr_wrapNil _ _ h m) fun R2 hR2 u u' hu => tail R2 hR2 hu
  | _ => exact sr_pure h
def nameOk (L : Program) (name : String) : Bool := L.types.toList.all fun i => match i.methods.find? (·.name == name) with | some m => m.path.toList.all (fun s => !s.deref) && (match m.func with | some q => (xAr q.1).isNone | none => true) | none => true
theorem made_methods {info : TypeId -> Option TypeInfo} {d : TypeDesc} {i : TypeInfo} (h : Made.reckon info d = some i) : i.methods = #[] := by
 unfold Made.reckon at h
 cases d with
 | pointer e =>
  obtain ⟨j, hj, h⟩ := Option.bind_eq_some_iff.1 h
  simp only at h
  split at h
  ·cases h
  ·split at h
   ·cases h
   ·obtain ⟨s, hs, h⟩ := Option.bind_eq_some_iff.1 h
    cases h
    rfl
  ·obtain ⟨s, hs, h⟩ := Option.bind_eq_some_iff.1 h
   cases h
   rfl
 | slice e =>
  obtain ⟨j, hj, h⟩ := Option.bind_eq_some_iff.1 h
  obtain ⟨s, hs, h⟩ := Option.bind_eq_some_iff.1 h
  cases h
  rfl
 | map k e =>
  obtain ⟨j, hj, h⟩ := Option.bind_eq_some_iff.1 h
  obtain ⟨s, hs, h⟩ := Option.bind_eq_some_iff.1 h
  obtain ⟨j2, hj2, h⟩ := Option.bind_eq_some_iff.1 h
  obtain ⟨s2, hs2, h⟩ := Option.bind_eq_some_iff.1 h
  cases h
  rfl
 | chan dir e =>
  obtain ⟨j, hj, h⟩ := Option.bind_eq_some_iff.1 h
  obtain ⟨s, hs, h⟩ := Option.bind_eq_some_iff.1 h
  cases h
  rfl
 | func ps rs v =>
  obtain ⟨s, hs, h⟩ := Option.bind_eq_some_iff.1 h
  cases h
  rfl
 | array n e =>
  obtain ⟨j, hj, h⟩ := Option.bind_eq_some_iff.1 h
  obtain ⟨s, hs, h⟩ := Option.bind_eq_some_iff.1 h
  have e := Option.some.inj h
  subst e
  rfl
 | struct fs =>
  have h' : Made.reckonStruct info fs = some i := h
  unfold Made.reckonStruct at h'
  simp only [<- Array.forIn_toList] at h'
  obtain ⟨s, hs, h'⟩ := Option.bind_eq_some_iff.1 h'
  split at h'
  all_goals
   have e := Option.some.inj h'
   subst e
   rfl
 | _ => cases h
theorem name_path {name : String} (hn : nameOk L name = true) {t : TypeId} {i : TypeInfo} {m : Method} (hi : L.info? t = some i) (hm : i.methods.find? (·.name == name) = some m) : (∀ s ∈ m.path.toList, s.deref = false) /\ ∀ q, m.func = some q -> (xAr q.1).isNone = true := by
 have tab : ∀ (t : Nat) (i : TypeInfo), L.types[t]? = some i -> i.methods.find? (·.name == name) = some m -> (∀ s ∈ m.path.toList, s.deref = false) /\ ∀ q, m.func = some q -> (xAr q.1).isNone = true := by
  intro t i h2 hm
  have hin : i ∈ L.types.toList := by
   rw [Array.mem_toList_iff]
   exact Array.mem_of_getElem? h2
  have := List.all_eq_true.1 hn i hin
  simp only [hm, Bool.and_eq_true] at this
  refine ⟨fun s hs => ?_, fun q hq => ?_⟩
  ·have h3 := List.all_eq_true.1 this.1 s hs
   simpa using h3
  ·have h4 := this.2
   rw [hq] at h4
   exact h4
 have made : ∀ (n : Nat) (t : TypeId) (i : TypeInfo), Made.infoAt L.toTables n t = some i -> i.methods.find? (·.name == name) = some m -> (∀ s ∈ m.path.toList, s.deref = false) /\ ∀ q, m.func = some q -> (xAr q.1).isNone = true := by
  intro n t i h hm
  cases n with
  | zero => cases h
  | succ n =>
   unfold Made.infoAt at h
   split at h
   ·exact tab t i h hm
   ·obtain ⟨d, hd, h⟩ := Option.bind_eq_some_iff.1 h
    rw [made_methods h] at hm
    simp at hm
 have hi' : (if t < L.types.size then L.types[t]? else Made.infoAt L.toTables Made.depth t) = some i := hi
 split at hi'
 ·exact tab t i hi' hm
 ·exact made _ t i hi' hm
abbrev QPl : BR -> TypeId × Place -> TypeId × Place -> Prop := fun R x x' => ∃ t u u', x = (t, .val u) /\ x' = (t, .val u') /\ VRel R u u'
theorem sr_follow [T : Twin3 L M] : ∀ (l : List FieldStep), (∀ s ∈ l, s.deref = false) -> ∀ {R : BR} (t : TypeId) {v v' : Value}, VRel R v v' -> SemR L M QPl R (follow l t (.val v)) (follow l t (.val v'))
 | [], _, _, t, v, v', h => sr_pure ⟨t, v, v', rfl, rfl, h⟩
 | s :: l, hl, R, t, v, v', h => by
  unfold follow
  refine sr_bind (sr_underlying s.struct) ?_
  rintro R1 hR1 d _ rfl
  replace h := h.mono hR1
  cases d with
  | struct fields =>
   dsimp only
   cases hf : fields[s.index]? with
   | none => exact SemR.halt
   | some f =>
    simp only [hl s (List.mem_cons_self ..), Bool.false_eq_true, ↓reduceIte]
    cases h with
    | agg h1 h2 =>
     refine sr_bind (sr_part f.type ⟨h1, h2⟩ f.offset) ?_
     intro R2 hR2 u u' hu
     exact sr_follow l (fun s hs => hl s (List.mem_cons_of_mem _ hs)) f.type hu
    | _ => exact SemR.halt
  | _ => exact SemR.halt
abbrev QM : BR -> FuncId × Value -> FuncId × Value -> Prop := fun R a b => a.1 = b.1 /\ VRel R a.2 b.2 /\ (xAr a.1).isNone = true
theorem sr_method [T : Twin3 L M] {name : String} (hn : nameOk L name = true) : ∀ (n : Nat) {R : BR} (t : TypeId) {v v' : Value}, VRel R v v' -> SemR L M QM R (Go.method n t v name) (Go.method n t v' name)
 | 0, _, _, _, _, _ => SemR.halt
 | n + 1, R, t, v, v', h => by
  unfold Go.method
  refine sr_bind (sr_typeInfo2 t) ?_
  rintro R1 hR1 i _ ⟨rfl, hi⟩
  cases hm : i.methods.find? (·.name == name) with
  | none => exact SemR.halt
  | some m =>
   obtain ⟨hp, hq⟩ := name_path hn hi hm
   dsimp only
   refine sr_bind (sr_follow m.path.toList hp t (h.mono hR1)) ?_
   rintro R2 hR2 _ _ ⟨xt, u, u', rfl, rfl, hu⟩
   dsimp only
   cases hmf : m.func with
   | none =>
    show SemR L M QM R2 ((pure u : Sem Value) >>= fun u => match u with | .iface t' v' => Go.method n t' v' name | .nilIface => runtimePanic .nilDeref | _ => stuck "method row: interface value expected") ((pure u' : Sem Value) >>= fun u => match u with | .iface t' v' => Go.method n t' v' name | .nilIface => runtimePanic .nilDeref | _ => stuck "method row: interface value expected")
    cases hu with
    | iface t' hv => exact sr_method hn n t' hv
    | nilIface => exact SemR.never (never_panic (α := FuncId × Value) .nilDeref)
    | _ => exact SemR.halt
   | some q =>
    obtain ⟨f, pr⟩ := q
    exact sr_bind (sr_receiverAt xt hu pr _) fun _ _ _ _ hr => sr_pure ⟨rfl, hr, hq _ hmf⟩
theorem sr_callMethod [T : Twin3 L M] {R : BR} {v v' : Value} (h : VRel R v v') {name : String} (hn : nameOk L name = true) {a a' : Array Value} (ha : RRel R a a') : SemR L M (QX L) R (callMethod v name a) (callMethod v' name a') := by
 unfold callMethod
 cases h with
 | iface t hv =>
  refine sr_bind sr_program ?_
  rintro R1 hR1 p p' ⟨rfl, rfl⟩
  rw [T.types]
  refine sr_bind (sr_method hn _ t (hv.mono hR1)) ?_
  rintro R2 hR2 ⟨f, r⟩ ⟨f', r'⟩ ⟨e, hr, hx⟩
  simp only at e hr hx
  subst e
  exact sr_callFunc f (arOk_none hx _) ((RRel.one hr).app ((ha.mono hR1).mono hR2))
 | nilIface => exact SemR.never (never_panic (α := Next) .nilDeref)
 | _ => exact SemR.halt
end
section
open Go
variable {L M : Program}
inductive TRel (R : BR) : Target -> Target -> Prop
 | fn (fn : Fn) {c c' : Array Value} : fnOk fn = true -> RRel R c c' -> TRel R (.fn fn c) (.fn fn c')
 | dir (f : FuncId) : TRel R (.fn (.func f) #[]) (.fn (.func f) #[])
 | nil : TRel R .nil .nil
 | meth (name : String) : TRel R (.fn (.method name) #[]) (.fn (.method name) #[])
 | builtin (b : Builtin) (ts : Array TypeId) (t : TypeId) (cs : Array Bool) : TRel R (.builtin b ts t cs) (.builtin b ts t cs)
structure DRel (R : BR) (d d' : Deferred) : Prop where
 target : TRel R d.target d'.target
 args : RRel R d.args d'.args
def plainB : Nat -> Value -> Bool
 | 0, _ => false
 | _, .bool _ | _, .int _ _ | _, .string _ | _, .pointer none | _, .slice none _ _ | _, .map none | _, .chan none | _, .nilFunc | _, .nilIface => true
 | n + 1, .iface _ v => plainB n v
 | n + 1, .agg c | n + 1, .tuple c => c.all (plainB n)
 | n + 1, .func f a b => fnOk f && a.all (plainB n) && b.all (plainB n)
 | _, _ => false
theorem plainB_ok : ∀ (n : Nat) (v : Value), plainB n v = true -> Plain v
 | 0, v, h => by simp [plainB] at h
 | n + 1, v, h => by
  intro R
  have row : ∀ c : Array Value, c.all (plainB n) = true -> ∀ i (h : i < c.size), VRel R c[i] c[i] := by
   intro c hc i hi
   rw [Array.all_eq_true] at hc
   exact plainB_ok n _ (hc i hi) R
  cases v with
  | bool b => exact .bool b
  | int k n => exact .int k n
  | string s => exact .string s
  | pointer a => cases a with | none => exact .nilPtr | some a => simp [plainB] at h
  | slice a n m => cases a with | none => exact .nilSlice n m | some a => simp [plainB] at h
  | map r => cases r with | none => exact .nilMap | some a => simp [plainB] at h
  | chan r => cases r with | none => exact .nilChan | some a => simp [plainB] at h
  | nilFunc => exact .nilFunc
  | nilIface => exact .nilIface
  | iface t v => exact .iface t (plainB_ok n v (by simpa [plainB] using h) R)
  | agg c => exact .agg rfl (fun i h1 _ => row c (by simpa [plainB] using h) i h1)
  | tuple c => exact .tuple rfl (fun i h1 _ => row c (by simpa [plainB] using h) i h1)
  | func f a b =>
   simp only [plainB, Bool.and_eq_true] at h
   exact .func f h.1.1 rfl (fun i h1 _ => row a h.1.2 i h1) rfl (fun i h1 _ => row b h.2 i h1)
  | float k n => simp [plainB] at h
  | complex k n m => simp [plainB] at h
def opdOk : Operand -> Bool
 | .tmp _ => true
 | .func f => (xAr f).isNone
 | .const v => plainB 9 v
 | .global _ => false
def EvRel (R : BR) (ρ ρ' : Operand -> Value) : Prop := ∀ x, opdOk x = true -> VRel R (ρ x) (ρ' x)
theorem EvRel.row {R : BR} {ρ ρ' : Operand -> Value} (h : EvRel R ρ ρ') {as : Array Operand} (ha : as.all opdOk = true) : RRel R (as.map ρ) (as.map ρ') := by
 refine ⟨by simp, fun i h1 h2 => ?_⟩
 simp only [Array.getElem_map]
 rw [Array.all_eq_true] at ha
 exact h _ (ha i (by simpa using h1))
theorem EvRel.opt {R : BR} {ρ ρ' : Operand -> Value} (h : EvRel R ρ ρ') {o : Option Operand} (ho : o.all opdOk = true) : ORelV R (o.map ρ) (o.map ρ') := by
 cases o with
 | none => exact Or.inl ⟨rfl, rfl⟩
 | some x => exact Or.inr ⟨_, _, rfl, rfl, h x (by simpa using ho)⟩
theorem EvRel.parts {R : BR} {ρ ρ' : Operand -> Value} (h : EvRel R ρ ρ') {ps : Array (Nat × Operand)} (hp : ps.all (fun p => opdOk p.2) = true) : PRel R (ps.map fun (i, x) => (i, ρ x)).toList (ps.map fun (i, x) => (i, ρ' x)).toList := by
 rw [Array.toList_map, Array.toList_map]
 rw [<- Array.all_toList] at hp
 revert hp
 generalize ps.toList = l
 intro hp
 induction l with
 | nil => exact .nil
 | cons p l ih =>
  simp only [List.all_cons, Bool.and_eq_true] at hp
  simp only [List.map_cons]
  exact .cons _ (h _ hp.1) (ih hp.2)
def builtinOk (L : Program) (b : Builtin) (ts : Array TypeId) : Bool := match b with
 | .len | .cap | .copy => true
 | .append => match ts[1]? with
  | some t => (match L.underlying t with | some (.int _) => false | some _ => true | none => false)
  | none => false
 | _ => false
def calleeOk (L : Program) (c : Call) : Bool := match c.callee with
 | .value (.func f) => arOk f c.args.size
 | .value f => opdOk f
 | .invoke r name => opdOk r && nameOk L name
 | .builtin b => builtinOk L b c.argTypes
theorem sr_builtin [Twin3 L M] (hz : ZeroOk L) {R : BR} {b : Builtin} {ts : Array TypeId} (h : builtinOk L b ts = true) (t : TypeId) (cs : Array Bool) {a a' : Array Value} (ha : RRel R a a') : SemR L M (QX L) R (builtin b ts t cs a) (builtin b ts t cs a') := by
 cases b with
 | len => exact sr_bind (sr_len ts t ha) fun _ _ _ _ hv => sr_pure (.value hv)
 | cap => exact sr_bind (sr_cap ts t ha) fun _ _ _ _ hv => sr_pure (.value hv)
 | copy => exact sr_bind (sr_copy ts t ha) fun _ _ _ _ hv => sr_pure (.value hv)
 | append =>
  have hm : NoMake L ts := by
   simp only [builtinOk] at h
   split at h
   ·rename_i x hx
    split at h
    ·cases h
    ·rename_i d hk hd
     exact ⟨x, d, hx, hd, fun k q => hk k (by rw [<- q])⟩
    ·cases h
   ·cases h
  exact sr_bind (sr_append hz ts t ha hm) fun _ _ _ _ hv => sr_pure (.value hv)
 | _ => simp [builtinOk] at h
def TgtOk (L : Program) (t : Target) : Prop := (∀ b ts ty cs, t = .builtin b ts ty cs -> builtinOk L b ts = true) /\ ∀ name c, t = .fn (.method name) c -> nameOk L name = true
def ArgOk (d : Deferred) : Prop := ∀ f, d.target = .fn (.func f) #[] -> arOk f d.args.size = true
theorem sr_resolve {R : BR} {ρ ρ' : Operand -> Value} (hfn : ∀ f, ρ (.func f) = .func (.func f) #[] #[] /\ ρ' (.func f) = .func (.func f) #[] #[]) (h : EvRel R ρ ρ') {c : Call} (hc : calleeOk L c = true) (ha : c.args.all opdOk = true) (t : TypeId) (hM : ∀ x, c.callee = .value x -> ∀ n, ρ x ≠ .func (.method n) #[.nilIface] #[]) : SemR L M (fun R d d' => DRel R d d' /\ TgtOk L d.target /\ ArgOk d) R (resolve ρ c t) (resolve ρ' c t) := by
 unfold resolve
 have hr := h.row ha
 cases hcc : c.callee with
 | builtin b =>
  simp only [calleeOk, hcc] at hc
  refine sr_pure ⟨⟨.builtin _ _ _ _, hr⟩, ⟨?_, ?_⟩, fun f e => by cases e⟩
  ·intro b' ts ty cs e
   cases e
   exact hc
  ·intro n c e
   cases e
 | invoke r name =>
  simp only [calleeOk, hcc, Bool.and_eq_true] at hc
  refine sr_pure ⟨⟨.meth _, (RRel.one (h r hc.1)).app hr⟩, ⟨?_, ?_⟩, fun f e => by cases e⟩
  ·intro b' ts ty cs e
   cases e
  ·intro n c e
   cases e
   exact hc.2
 | value f =>
  by_cases hdir : ∃ g, f = .func g
  ·obtain ⟨g, rfl⟩ := hdir
   simp only [calleeOk, hcc] at hc
   dsimp only
   rw [(hfn g).1, (hfn g).2]
   refine sr_pure ⟨⟨.dir g, by simpa using hr⟩, ⟨fun _ _ _ _ e => (by cases e), fun _ _ e => (by cases e)⟩, fun f e => ?_⟩
   cases e
   simpa using hc
  have hc : opdOk f = true := by
   cases f with
   | func g => exact absurd ⟨g, rfl⟩ hdir
   | _ => simpa only [calleeOk, hcc] using hc
  have hv := h f hc
  have hM1 := hM f hcc
  dsimp only
  revert hv hM1
  generalize ρ f = u
  generalize ρ' f = u'
  intro hv hM1
  cases hv with
  | junkM _ => exact absurd rfl (hM1 _)
  | func fn h0 h1 h2 h3 h4 =>
   refine sr_pure ⟨⟨.fn fn h0 ⟨h3, h4⟩, RRel.app ⟨h1, h2⟩ hr⟩, ⟨?_, ?_⟩, fun f e => ?_⟩
   ·intro b' ts ty cs e
    cases e
   ·intro n c e
    cases e
    simp [fnOk] at h0
   ·have e' : fn = .func f := by
     injection e
    subst e'
    exact arOk_none h0 _
  | nilFunc =>
   refine sr_pure ⟨⟨.nil, hr⟩, ⟨?_, ?_⟩, fun f e => by cases e⟩
   ·intro b' ts ty cs e
    cases e
   ·intro n c e
    cases e
  | _ => exact SemR.halt
theorem sr_invoke [Twin3 L M] (hz : ZeroOk L) {R : BR} {d d' : Deferred} (h : DRel R d d') (hb : TgtOk L d.target) (hA : ArgOk d) : SemR L M (QX L) R (invoke d.target d.args) (invoke d'.target d'.args) := by
 obtain ⟨t, a⟩ := d
 obtain ⟨t', a'⟩ := d'
 obtain ⟨ht, ha⟩ := h
 simp only at ht ha hb
 unfold invoke
 cases ht with
 | dir f => exact sr_callFunc f (by have := hA f rfl; simpa using this) (by simpa using ha)
 | nil => exact SemR.never (never_panic (α := Next) .nilDeref)
 | builtin b ts ty cs => exact sr_builtin hz (hb.1 _ _ _ _ rfl) ty cs ha
 | meth name =>
  rcases ha.get? 0 with ⟨e1, e2⟩ | ⟨v, v', e1, e2, hv⟩
  ·simp only [e1, e2]; exact SemR.halt
  ·simp only [e1, e2]
   rw [<- ha.1]
   exact sr_callMethod hv (hb.2 _ _ rfl) (ha.ext 1 _)
 | fn fn h0 hc =>
  cases fn with
  | func f => exact sr_callFunc f (arOk_none h0 _) (ha.app hc)
  | method name => simp [fnOk] at h0
  | methodOf t name => simp [fnOk] at h0
  | via t path f p =>
   simp only [fnOk, Bool.and_eq_true, Array.isEmpty_iff] at h0
   obtain ⟨h0, hx⟩ := h0
   subst h0
   rcases ha.get? 0 with ⟨e1, e2⟩ | ⟨v, v', e1, e2, hv⟩
   ·simp only [e1, e2]; exact SemR.halt
   ·simp only [e1, e2]
    rw [<- ha.1]
    refine sr_bind (Q := QV) (sr_receiverAt t hv p none) ?_
    intro R1 hR1 u u' hu
    exact sr_callFunc f (arOk_none hx _) ((RRel.one hu).app ((ha.mono hR1).ext 1 _))
  | yield l => simp [fnOk] at h0
end
section
open Go
variable {L M : Program}
def fieldNZ (L : Program) (s : TypeId) (f : Nat) : Bool := match L.underlying s with
 | some (.struct fs) => (match fs[f]? with
  | some fd => (match L.info? fd.type with | some i => i.size != 0 | none => true)
  | none => true)
 | _ => true
def opOk (L : Program) (o : Op) : Bool := match o with
 | .move x | .assign x | .box _ x | .load _ x | .unOp _ _ x | .makeInterface _ x | .field _ x _ | .extract x _ | .typeAssert x _ _ _ => opdOk x
 | .nilCheck x => opdOk x
 | .pick c a b => opdOk c && opdOk a && opdOk b
 | .alloc _ => true
 | .build _ ps | .buildSlice _ _ ps => ps.all fun p => opdOk p.2
 | .store _ a x | .makeSlice _ a x | .indexAddr _ a x | .index _ a x => opdOk a && opdOk x
 | .binOp op t x y _ => binTy L op t && opdOk x && opdOk y
 | .convert s d x => convTy L s d && opdOk x
 | .makeFunc fn a c => fnOk fn && a.all opdOk && c.all opdOk
 | .makeMap _ r => xOther && r.all opdOk
 | .slice _ x lo hi mx => opdOk x && lo.all opdOk && hi.all opdOk && mx.all opdOk
 | .fieldAddr s x f => fieldNZ L s f && opdOk x
 | .lookup t x k _ => mapTy L t && opdOk x && opdOk k
 | .mapUpdate t m k x | .insert t m k x => mapTy L t && opdOk m && opdOk k && opdOk x
 | .call c => calleeOk L c && c.args.all opdOk
 | _ => false
theorem sv {R : BR} {s s' : Sem Value} (h : SemR L M QV R s s') : SemR L M (QX L) R (s >>= fun v => pure (.value v)) (s' >>= fun v => pure (.value v)) := sr_bind h fun _ _ _ _ hv => sr_pure (.value hv)
theorem su {R : BR} {s s' : Sem Unit} (h : SemR L M QEq R s s') : SemR L M (QX L) R (s >>= fun _ => pure .skip) (s' >>= fun _ => pure .skip) := sr_bind h fun _ _ _ _ _ => sr_pure .skip
theorem fieldNZ_ok {s : TypeId} {f : Nat} (h : fieldNZ L s f = true) : ∀ fs fd, L.underlying s = some (.struct fs) -> fs[f]? = some fd -> ∀ i, L.info? fd.type = some i -> i.size ≠ 0 := by
 intro fs fd h1 h2 i h3
 simp only [fieldNZ, h1, h2, h3] at h
 simpa using h
theorem sr_exec [T : Twin3 L M] (hz : ZeroOk L) {R : BR} (h1 : R.One) {ρ ρ' : Operand -> Value} (hfn : ∀ f, ρ (.func f) = .func (.func f) #[] #[] /\ ρ' (.func f) = .func (.func f) #[] #[]) (h : EvRel R ρ ρ') {o : Oper} (ho : opOk L o.op = true) : SemR L M (QX L) R (execOp ρ o) (execOp ρ' o) := by
 obtain ⟨dst, op, ty, pos, after, guard⟩ := o
 simp only at ho
 cases op with
 | move x => exact sr_pure (.value (h x ho))
 | assign x => exact sr_pure (.value (h x ho))
 | pick c a b =>
  simp only [opOk, Bool.and_eq_true] at ho
  refine sr_bind (sr_asBool (h c ho.1.1)) ?_
  rintro R1 hR1 t _ rfl
  cases t
  ·exact sr_pure (.value ((h b ho.2).mono hR1))
  ·exact sr_pure (.value ((h a ho.1.2).mono hR1))
 | alloc e => exact sv (sr_alloc hz e)
 | box e x => exact sv (sr_box e (h x ho))
 | build t ps => exact sv (sr_build hz t (h.parts ho))
 | buildSlice t n ps => exact sv (sr_buildSlice hz t n (h.parts ho))
 | load t a => exact sv (sr_loadAt t (h a ho))
 | store t a x =>
  simp only [opOk, Bool.and_eq_true] at ho
  exact su (sr_storeAt t (h a ho.1) (h x ho.2))
 | nilCheck x =>
  have hx := h x ho
  show SemR L M (QX L) R (match ρ x with
   | .pointer none | .nilIface | .nilFunc => runtimePanic .nilDeref
   | .func (.method name) first captured =>
    match (first[0]? : Option Value) with
    | some .nilIface => runtimePanic .nilDeref
    | some (.iface t w) => do
     if (<- nilAhead ((<- program).types.size + Made.depth) t w name) != some false then
      unsupported (.noEntry "op/nilCheck.the method's receiver behind this interface value is a nil pointer, or cannot be seen to be none, and the arguments act or may panic (ledger 612)")
     pure (.value (.func (.method name) first captured))
    | _ => pure (.value (.func (.method name) first captured))
   | x => pure (.value x)) (match ρ' x with
   | .pointer none | .nilIface | .nilFunc => runtimePanic .nilDeref
   | .func (.method name) first captured =>
    match (first[0]? : Option Value) with
    | some .nilIface => runtimePanic .nilDeref
    | some (.iface t w) => do
     if (<- nilAhead ((<- program).types.size + Made.depth) t w name) != some false then
      unsupported (.noEntry "op/nilCheck.the method's receiver behind this interface value is a nil pointer, or cannot be seen to be none, and the arguments act or may panic (ledger 612)")
     pure (.value (.func (.method name) first captured))
    | _ => pure (.value (.func (.method name) first captured))
   | x => pure (.value x))
  revert hx
  generalize ρ x = u
  generalize ρ' x = u'
  intro hx
  cases hx with
  | nilPtr => exact SemR.never (never_panic _)
  | nilIface => exact SemR.never (never_panic _)
  | nilFunc => exact SemR.never (never_panic _)
  | func fn h0 q1 q2 q3 q4 =>
   cases fn with
   | method name => simp [fnOk] at h0
   | _ => exact sr_pure (.value (.func _ h0 q1 q2 q3 q4))
  | ptr a => exact sr_pure (.value (.ptr a))
  | bool b => exact sr_pure (.value (.bool b))
  | int k n => exact sr_pure (.value (.int k n))
  | string s => exact sr_pure (.value (.string s))
  | slice n m a => exact sr_pure (.value (.slice n m a))
  | nilSlice n m => exact sr_pure (.value (.nilSlice n m))
  | map r => exact sr_pure (.value (.map r))
  | nilMap => exact sr_pure (.value .nilMap)
  | nilChan => exact sr_pure (.value .nilChan)
  | iface t v => exact sr_pure (.value (.iface t v))
  | agg q1 q2 => exact sr_pure (.value (.agg q1 q2))
  | tuple q1 q2 => exact sr_pure (.value (.tuple q1 q2))
  | junkM h0 => exact SemR.never (never_panic _)
  | junk h0 hj =>
   have e : (match u' with
    | .pointer none | .nilIface | .nilFunc => (runtimePanic .nilDeref : Sem Next)
    | .func (.method name) first captured =>
     match (first[0]? : Option Value) with
     | some .nilIface => runtimePanic .nilDeref
     | some (.iface t w) => do
      if (<- nilAhead ((<- program).types.size + Made.depth) t w name) != some false then
       unsupported (.noEntry "op/nilCheck.the method's receiver behind this interface value is a nil pointer, or cannot be seen to be none, and the arguments act or may panic (ledger 612)")
      pure (.value (.func (.method name) first captured))
     | _ => pure (.value (.func (.method name) first captured))
    | x => pure (.value x)) = pure (.value u') := by
    cases u' with
    | pointer o => cases o <;> first | rfl | cases hj
    | func fn _ _ => cases fn <;> first | rfl | cases hj
    | nilIface => cases hj
    | nilFunc => cases hj
    | _ => rfl
   exact e ▸ sr_pure (.value (.junk h0 hj))
 | binOp op t x y yt =>
  simp only [opOk, Bool.and_eq_true] at ho
  refine sv (sr_bind (sr_eqGuard op ho.1.1 x y (h x ho.1.2) (h y ho.2)) ?_)
  rintro R1 hR1 _ _ _
  exact sr_binOp op ho.1.1 ((h x ho.1.2).mono hR1) ((h y ho.2).mono hR1)
 | unOp op t x => exact sv (sr_unary op (h x ho))
 | convert s d x =>
  simp only [opOk, Bool.and_eq_true] at ho
  exact sv (sr_convert ho.1 (h x ho.2))
 | makeInterface t x => exact sv (sr_makeInterface t (h x ho))
 | makeFunc fn a c =>
  simp only [opOk, Bool.and_eq_true] at ho
  exact sv (sr_makeFunc ho.1.1 (h.row ho.1.2) (h.row ho.2))
 | makeMap t r =>
  simp only [opOk, Bool.and_eq_true] at ho
  exact sv (sr_makeMap ho.1 t (h.opt ho.2))
 | makeSlice t l c =>
  simp only [opOk, Bool.and_eq_true] at ho
  exact sv (sr_makeSlice hz t (h l ho.1) (h c ho.2))
 | slice t x lo hi mx =>
  simp only [opOk, Bool.and_eq_true] at ho
  exact sv (sr_sliceAt t (h x ho.1.1.1) (h.opt ho.1.1.2) (h.opt ho.1.2) (h.opt ho.2))
 | fieldAddr s x f =>
  simp only [opOk, Bool.and_eq_true] at ho
  exact sv (sr_fieldAt s (h x ho.2) f (fieldNZ_ok ho.1))
 | field t x f => exact sv (sr_field t (h x ho) f)
 | indexAddr t x i =>
  simp only [opOk, Bool.and_eq_true] at ho
  exact sv (sr_indexAt t (h x ho.1) (h i ho.2))
 | index t x i =>
  simp only [opOk, Bool.and_eq_true] at ho
  exact sv (sr_index t (h x ho.1) (h i ho.2))
 | lookup t x k ok =>
  simp only [opOk, Bool.and_eq_true] at ho
  exact sv (sr_lookup hz ho.1.1 (h x ho.1.2) (h k ho.2) ok)
 | mapUpdate t m k x =>
  simp only [opOk, Bool.and_eq_true] at ho
  exact su (sr_mapUpdate h1 ho.1.1.1 (h m ho.1.1.2) (h k ho.1.2) (h x ho.2))
 | insert t m k x =>
  simp only [opOk, Bool.and_eq_true] at ho
  exact su (sr_mapUpdate h1 ho.1.1.1 (h m ho.1.1.2) (h k ho.1.2) (h x ho.2))
 | typeAssert x t a ok => exact sv (sr_typeAssert hz (h x ho) t a ok)
 | extract x i => exact sv (sr_extract (h x ho) i)
 | call c =>
  simp only [opOk, Bool.and_eq_true] at ho
  by_cases hj : ∃ x n, c.callee = .value x /\ ρ x = .func (.method n) #[.nilIface] #[]
  ·obtain ⟨x, n, e1, e2⟩ := hj
   refine SemR.never ?_
   have e3 : resolve ρ c ty = pure { target := .fn (.method n) #[], args := #[.nilIface] ++ c.args.map ρ } := by
    unfold resolve
    simp only [e1, e2]
    rfl
   show Dies L (resolve ρ c ty >>= fun d => invoke d.target d.args)
   rw [e3]
   show Dies L (invoke (.fn (.method n) #[]) (#[.nilIface] ++ c.args.map ρ))
   unfold invoke
   have e4 : (#[Value.nilIface] ++ c.args.map ρ)[0]? = some .nilIface := by rw [Array.getElem?_append_left (by simp)]; rfl
   simp only [e4]
   exact never_panic (α := Next) .nilDeref
  exact sr_bind (sr_resolve hfn h ho.1 ho.2 ty (fun x e n q => hj ⟨x, n, e, q⟩)) fun _ _ _ _ hd => sr_invoke hz hd.1 hd.2.1 hd.2.2
 | _ => simp [opOk] at ho
end
section
open Go Go.Conc
variable {L M : Program}
def codeOk (L : Program) : Code -> Bool
 | .region _ ops _ => ops.all fun o => opOk L o.op
 | .seq a b => codeOk L a && codeOk L b
 | .cond c a b => opdOk c && codeOk L a && codeOk L b
 | .block _ c | .loop c | .scope c => codeOk L c
 | .rangeFunc .. => false
 | _ => true
def itemOk (L : Program) : Item -> Bool
 | .code c | .inLoop c | .inScope c => codeOk L c
 | .inBlock _ => true
 | .inRegion ops _ => ops.all fun o => opOk L o.op
 | _ => false
structure FrOk (L : Program) (fr : Frame) : Prop where
 ok : fr.todo.all (itemOk L) = true
 defers : fr.defers = []
 mode : fr.mode = .run \/ fr.mode = .returning
 kind : fr.kind = .normal
 round : fr.roundOf = none
 fnok : ∃ fn : Func, L.funcs[fr.fn]? = some fn /\ fn.body.isSome = true
def FRel (L : Program) (R : BR) (fr fr' : Frame) : Prop := FrOk L fr /\ ∃ t, fr' = { fr with tmps := t } /\ RRel R fr.tmps t
theorem FRel.mono {R R' : BR} (hR : R.le R') {fr fr' : Frame} (h : FRel L R fr fr') : FRel L R' fr fr' := let ⟨a, t, b, c⟩ := h; ⟨a, t, b, c.mono hR⟩
inductive CsRel (L : Program) (R : BR) : List Frame -> List Frame -> Prop
 | nil : CsRel L R [] []
 | cons {f f' : Frame} {r r' : List Frame} : FRel L R f f' -> f.mode = .run -> CsRel L R r r' -> CsRel L R (f :: r) (f' :: r')
theorem CsRel.mono {R R' : BR} (hR : R.le R') {l l' : List Frame} (h : CsRel L R l l') : CsRel L R' l l' := by
 induction h with
 | nil => exact .nil
 | cons hv hm _ ih => exact .cons (hv.mono hR) hm ih
theorem RRel.getD {R : BR} {c c' : Array Value} (h : RRel R c c') (i : Nat) : VRel R (c.getD i undef) (c'.getD i undef) := by
 rw [Array.getD_eq_getD_getElem?, Array.getD_eq_getD_getElem?]
 rcases h.get? i with ⟨e1, e2⟩ | ⟨v, v', e1, e2, hv⟩
 ·rw [e1, e2]; exact .tuple rfl (fun i h => absurd h (by simp))
 ·rw [e1, e2]; exact hv
theorem eval_rel {R : BR} {fr : Frame} {t : Array Value} (h : RRel R fr.tmps t) : EvRel R fr.eval ({ fr with tmps := t } : Frame).eval := by
 intro x hx
 cases x with
 | tmp i => exact h.getD i
 | const v => exact plainB_ok 9 v hx R
 | func f => exact .func (.func f) hx rfl (fun i h => absurd h (by simp)) rfl (fun i h => absurd h (by simp))
 | global g => simp [opdOk] at hx
theorem VRel.undef {R : BR} : VRel R undef undef := .tuple rfl (fun i h => absurd h (by simp))
theorem yielded_rel {R : BR} {t t' : Array Value} (h : RRel R t t') (ops : Array Oper) (j : Nat) : yielded ops t j = yielded ops t' j := by
 unfold yielded
 cases (ops[j]?).bind (·.dst) with
 | none => rfl
 | some d =>
  simp only [Option.bind_some]
  rcases h.get? d with ⟨e1, e2⟩ | ⟨v, v', e1, e2, hv⟩
  ·rw [e1, e2]
  ·rw [e1, e2]
   cases hv with
   | junk _ hj => cases v' with | bool b => cases hj | _ => rfl
   | _ => rfl
theorem finish_rel {R : BR} {fr : Frame} {t : Array Value} (ho : FrOk L fr) (h : RRel R fr.tmps t) {v v' : Value} (hv : VRel R v v') : FRel L R (fr.finish v) (({ fr with tmps := t } : Frame).finish v') := by
 have hok := ho.ok
 unfold Frame.finish
 dsimp only
 split
 ·rename_i ops i rest k htd
  rw [htd] at hok
  have hok2 : (Item.inRegion ops rest :: k).all (itemOk L) = true := by simpa [itemOk] using hok
  cases hd : (ops[i]?).bind (·.dst) with
  | none => exact ⟨⟨hok2, ho.defers, ho.mode, ho.kind, ho.round, ho.fnok⟩, t, rfl, h⟩
  | some d => exact ⟨⟨hok2, ho.defers, ho.mode, ho.kind, ho.round, ho.fnok⟩, t.setIfInBounds d v', rfl, h.set d hv⟩
 ·rename_i htd; rw [htd] at hok; simp [itemOk] at hok
 ·rename_i htd; rw [htd] at hok; simp [itemOk] at hok
 ·rename_i htd; rw [htd] at hok; simp [itemOk] at hok
 ·rename_i htd; rw [htd] at hok; simp [itemOk] at hok
 ·exact ⟨ho, t, rfl, h⟩
structure Bodies (L M : Program) (X : FuncId -> Prop) : Prop where
 same : ∀ (f : Nat) (fn : Func), L.funcs[f]? = some fn -> fn.body.isSome = true -> ¬ X f -> M.funcs[f]? = some fn
 code : ∀ (f : Nat) (fn : Func) (c : Code), L.funcs[f]? = some fn -> fn.body = some c -> ¬ X f -> codeOk L c = true
 res : ∀ (f : Nat) (fn fn' : Func), L.funcs[f]? = some fn -> M.funcs[f]? = some fn' -> fn'.results = fn.results
 early : ∀ g, L.stepOf g = none
 ahead : L.follows .staticDataAhead = true
 mixed : M.follows .mixedOrders = L.follows .mixedOrders
theorem enter_rel {R : BR} {X : FuncId -> Prop} (B : Bodies L M X) {f : Nat} {fn : Func} (hf : L.funcs[f]? = some fn) (hb : fn.body.isSome = true) (hx : ¬ X f) {a a' : Array Value} (h : RRel R a a') : FRel L R (Frame.enter L f a .normal) (Frame.enter M f a' .normal) := by
 have hM := B.same f fn hf hb hx
 cases hc : fn.body with
 | none => rw [hc] at hb; cases hb
 | some c =>
  have hok := B.code f fn c hf hc hx
  unfold Frame.enter
  simp only [hf, hM, hc, Option.map_some, Option.getD_some, Option.bind_some]
  refine ⟨⟨by simpa [itemOk] using hok, rfl, Or.inl rfl, rfl, rfl, fn, hf, by rw [hc]; rfl⟩, a' ++ Array.replicate (fn.ntmps - a'.size) undef, rfl, ?_⟩
  rw [<- h.1]
  refine h.app ⟨by simp, fun i h1 h2 => ?_⟩
  simp only [Array.getElem_replicate]
  exact VRel.undef
theorem not_G {fr fr1 : Frame} {cs cs1 : List Frame} {w w1 : World} {es es1 : Array Event} {st : GoStatus} {dy : Option Dying} (h : GStep.go { frame := fr, callers := cs, status := st, dying := dy } w es = .go (G fr1 cs1) w1 es1) : st = .running /\ dy = none /\ fr = fr1 /\ cs = cs1 /\ w = w1 := by
 simp only [G, GStep.go.injEq, Goroutine.mk.injEq] at h
 exact ⟨h.1.2.2.1, h.1.2.2.2.1, h.1.1, h.1.2.1, h.2.1⟩
theorem raise_mode (fr : Frame) (vs : List PanicEntry) : ∃ c, (fr.raise vs).mode = .panicking c := by
 unfold Frame.raise
 split <;> exact ⟨_, rfl⟩
end
section
open Go Go.Conc
variable {L M : Program}
def After2 (L M : Program) (X : FuncId -> Prop) (R : BR) (fr fr' : Frame) (cs cs' : List Frame) : Prop :=
 (FRel L R fr fr' /\ CsRel L R cs cs') \/ ∃ f a a', X f /\ arOk f a.size = true /\ fr = Frame.enter L f a .normal /\ fr' = Frame.enter M f a' .normal /\ RRel R a a' /\ CsRel L R cs cs' /\ (∃ fn fn' : Func, L.funcs[f]? = some fn /\ M.funcs[f]? = some fn' /\ fn.body.isSome = true) /\ cs ≠ []
def LocStep (w w1 : World) (f : World -> GStep) (fr1 : Frame) (cs1 : List Frame) : Prop :=
 ∃ k, w1.tape = w.tape /\ w1.drawn = w.drawn + k /\ ∀ τ d, (∀ i, i < k -> ∀ q, τ (d + i) q = w.tape (w.drawn + i) q) -> ∃ es, f (w.tp τ d) = .go (G fr1 cs1) (w1.tp τ (d + k)) es
structure Stepped2 (L M : Program) (X : FuncId -> Prop) (N : Nat) (R R' : BR) (w w' w1 w1' : World) (fr1 fr1' : Frame) (cs1 cs1' : List Frame) (es : Array Event) : Prop where
 went : Went N R R' w w' w1 w1'
 after : After2 L M X R' fr1 fr1' cs1 cs1'
 evs : ∀ e ∈ es, EvR N R' e
theorem early_ended {X : FuncId -> Prop} (B : Bodies L M X) (fr : Frame) (cs : List Frame) (g : Nat) (w : World) : ∃ o w' es, early L fr cs none g w = .ended o w' es := by
 unfold early
 simp only [B.ahead, B.early, Bool.not_true, Bool.false_eq_true, if_false]
 exact ⟨_, _, _, rfl⟩
theorem fatal_not {fr fr1 : Frame} {cs cs1 : List Frame} {m : String} {w w1 : World} {es1 : Array Event} (h : endFatal L fr cs none m w = .go (G fr1 cs1) w1 es1) : False := by
 unfold endFatal at h
 dsimp only at h
 split at h
 ·unfold dieOf at h
  have := (not_G h).2.1
  cases this
 ·cases h
 ·cases h
theorem throw_not {fr fr1 : Frame} {cs1 : List Frame} {m : String} {w w1 : World} {es1 : Array Event} (h : endThrow fr m w = .go (G fr1 cs1) w1 es1) : False := by
 unfold endThrow dieOf at h
 have := (not_G h).2.1
 cases this
theorem after_go {es : Array Event} {s : GStep} {g : Goroutine} {w : World} {es1 : Array Event} (h : GStep.after es s = .go g w es1) : ∃ es2, s = .go g w es2 /\ es1 = es ++ es2 := by
 cases s <;> simp only [GStep.after] at h <;> first | (cases h; exact ⟨_, rfl, rfl⟩) | cases h
theorem apply_inv {X : FuncId -> Prop} (B : Bodies L M X) {fr fr1 : Frame} {cs cs1 : List Frame} {s : Sem Next} {w w1 : World} {es1 : Array Event} (h : stepG.apply L true fr cs none s w = .go (G fr1 cs1) w1 es1) (hm : fr1.mode = .run \/ fr1.mode = .returning) : ∃ x w2, s.run L w = .ok x w2 := by
 cases hr : s.run L w with
 | ok x w2 => exact ⟨x, w2, rfl⟩
 | halt hh w2 =>
  exfalso
  unfold stepG.apply at h
  simp only [Sem.runT_eq, if_true, hr] at h
  obtain ⟨es2, h, _⟩ := after_go h
  cases hh with
  | panic v =>
   obtain ⟨_, _, e, _, _⟩ := not_G h
   obtain ⟨c, hc⟩ := raise_mode fr [{ v, recovered := false }]
   rw [e] at hc
   rcases hm with hm | hm <;> (rw [hm] at hc; cases hc)
  | goexit =>
   obtain ⟨_, _, e, _, _⟩ := not_G h
   obtain ⟨c, hc⟩ := raise_mode fr [goexitEntry]
   rw [e] at hc
   rcases hm with hm | hm <;> (rw [hm] at hc; cases hc)
  | blocked => have := (not_G h).1; cases this
  | waiting => have := (not_G h).1; cases this
  | exit c => cases h
  | fatal m => exact fatal_not h
  | throw m => exact throw_not h
  | unsupported u =>
   cases u with
   | initOrder g =>
    obtain ⟨o, w', es, e⟩ := early_ended B fr cs g w2
    have h' : early L fr cs none g w2 = .go (G fr1 cs1) w1 es2 := h
    rw [e] at h'
    cases h'
   | _ => cases h
  | stuck s => cases h
theorem apply_value {P : Program} {fr : Frame} {cs : List Frame} {s : Sem Next} {w w2 : World} {v : Value} (hk : (fr.kind == CallKind.early) = false) (h : s.run P w = .ok (.value v) w2) : ∃ es, stepG.apply P true fr cs none s w = .go (G (fr.finish v) cs) w2 es := by
 unfold stepG.apply
 simp only [Sem.runT_eq, if_true, h, hk]
 exact ⟨_, rfl⟩
theorem apply_skip {P : Program} {fr : Frame} {cs : List Frame} {s : Sem Next} {w w2 : World} (hk : (fr.kind == CallKind.early) = false) (h : s.run P w = .ok .skip w2) : ∃ es, stepG.apply P true fr cs none s w = .go (G (fr.finish undef) cs) w2 es := by
 unfold stepG.apply
 simp only [Sem.runT_eq, if_true, h, hk]
 exact ⟨_, rfl⟩
theorem apply_enter {P : Program} {fr : Frame} {cs : List Frame} {s : Sem Next} {w w2 : World} {f : FuncId} {a : Array Value} (hk : (fr.kind == CallKind.early) = false) (hreg : ∃ ops i r k, fr.todo = .inRegion ops (i :: r) :: k) (h : s.run P w = .ok (.enter f a) w2) :
  ∃ es, stepG.apply P true fr cs none s w = .go (G (Frame.enter P f a .normal) (fr :: cs)) w2 es := by
 obtain ⟨ops, i, r, k, hreg⟩ := hreg
 unfold stepG.apply
 simp only [Sem.runT_eq, if_true, h, hk]
 simp only [hreg]
 exact ⟨_, rfl⟩
theorem apply_sim [Twin3 L M] {X : FuncId -> Prop} (B : Bodies L M X) {N : Nat} {R : BR} {fr fr1 : Frame} {t : Array Value} {cs csx cs' rest base : List Frame} {s s' : Sem Next} {w w1 w' : World} {es1 : Array Event}
  (ho : FrOk L fr) (hrun : fr.mode = .run) (ht : RRel R fr.tmps t) (hcs : CsRel L R cs cs') (hw : WRel N R w w') (hs : SemR L M (QX L) R s s') (hreg : ∃ ops i r k, fr.todo = .inRegion ops (i :: r) :: k)
  (h : stepG.apply L true fr (cs ++ base) none s w = .go (G fr1 csx) w1 es1) (hm : fr1.mode = .run \/ fr1.mode = .returning) :
  ∃ R' fr1' cs1 cs1' w1' es', csx = cs1 ++ base /\ stepG.apply M true { fr with tmps := t } (cs' ++ rest) none s' w' = .go (G fr1' (cs1' ++ rest)) w1' es' /\ Stepped2 L M X N R R' w w' w1 w1' fr1 fr1' cs1 cs1' es' /\ LocStep w w1 (stepG.apply L true fr (cs ++ base) none s) fr1 csx := by
 obtain ⟨x, w2, hx⟩ := apply_inv B h hm
 obtain ⟨R', x', w2', es', hrT, hwent, hnr, hev, k0, l1, l2, l3⟩ := sem_run hs hw hx
 have hregE := hreg
 obtain ⟨ops, i, r, k, hreg⟩ := hreg
 have hk1 : (fr.kind == CallKind.early) = false := by rw [ho.kind]; rfl
 have hk2 : (({ fr with tmps := t } : Frame).kind == CallKind.early) = false := hk1
 have hr2 := hrT #[]
 unfold stepG.apply at h
 simp only [Sem.runT_eq, if_true, hx, hk1] at h
 have hgo : ∀ (g : Goroutine), (∀ es, GStep.after (seen M fr.fn (#[] ++ es')) (.go g w2' es) = .go g w2' (seen M fr.fn (#[] ++ es') ++ es)) := fun g es => rfl
 have hevs : ∀ e ∈ seen M fr.fn (#[] ++ es') ++ #[], EvR N R' e := by
  intro e he
  have := mem_seen (by simpa using he)
  exact hev e this
 cases hnr with
 | value hv =>
  obtain ⟨es2, h, _⟩ := after_go h
  obtain ⟨_, _, rfl, rfl, rfl⟩ := not_G h
  refine ⟨R', _, cs, cs', w2', _, rfl, ?_, ⟨hwent, Or.inl ⟨finish_rel ho (ht.mono hwent.le) hv, hcs.mono hwent.le⟩, hevs⟩, k0, l1, l2, fun τ d hh => apply_value hk1 (l3 τ d hh)⟩
  unfold stepG.apply
  simp only [if_true, hr2, hk1]
  rfl
 | skip =>
  obtain ⟨es2, h, _⟩ := after_go h
  obtain ⟨_, _, rfl, rfl, rfl⟩ := not_G h
  refine ⟨R', _, cs, cs', w2', _, rfl, ?_, ⟨hwent, Or.inl ⟨finish_rel ho (ht.mono hwent.le) VRel.undef, hcs.mono hwent.le⟩, hevs⟩, k0, l1, l2, fun τ d hh => apply_skip hk1 (l3 τ d hh)⟩
  unfold stepG.apply
  simp only [if_true, hr2, hk1]
  rfl
 | @enter f a a' hfn har ha =>
  obtain ⟨es2, h, _⟩ := after_go h
  obtain ⟨fn, hf, hb⟩ := hfn
  have hkind : (match fr.todo with | .call _ true _ _ :: _ => CallKind.wrapped | _ => CallKind.normal) = CallKind.normal := by rw [hreg]
  have h' : GStep.go { frame := Frame.enter L f a (match fr.todo with | .call _ true _ _ :: _ => CallKind.wrapped | _ => CallKind.normal), callers := fr :: (cs ++ base), status := .running, dying := none } w2 = GStep.go (G fr1 csx) w1 es2 := h
  rw [hkind] at h'
  obtain ⟨_, _, rfl, rfl, rfl⟩ := not_G h'
  have hcs2 : CsRel L R' (fr :: cs) ({ fr with tmps := t } :: cs') := .cons ⟨ho, t, rfl, ht.mono hwent.le⟩ hrun (hcs.mono hwent.le)
  refine ⟨R', Frame.enter M f a' .normal, fr :: cs, { fr with tmps := t } :: cs', w2', seen M fr.fn (#[] ++ es') ++ #[], rfl, ?_, ⟨hwent, ?_, hevs⟩, k0, l1, l2, fun τ d hh => apply_enter hk1 hregE (l3 τ d hh)⟩
  ·unfold stepG.apply
   simp only [if_true, hr2, hk1]
   show GStep.after _ (GStep.go { frame := Frame.enter M f a' (match fr.todo with | .call _ true _ _ :: _ => CallKind.wrapped | _ => CallKind.normal), callers := _, status := .running, dying := none } w2') = _
   rw [hkind]
   rfl
  ·by_cases hX : X f
   ·obtain ⟨_, fn', hf', _, _⟩ := Twin3.fn (L := L) (M := M) f fn hf hb
    exact Or.inr ⟨f, a, a', hX, har, rfl, rfl, ha, hcs2, ⟨fn, fn', hf, hf', hb⟩, by simp⟩
   ·exact Or.inl ⟨enter_rel B hf hb hX ha, hcs2⟩
end
section
open Go Go.Conc
variable {L M : Program}
theorem stepG_run (P : Program) (main : Bool) (fr : Frame) (cs : List Frame) (w : World) (h : fr.mode = .run) : stepG P main (G fr cs) w = stepG.exec P main true fr cs none w := by
 unfold stepG G
 simp only [h]
theorem stepG_ret (P : Program) (main : Bool) (fr : Frame) (cs : List Frame) (w : World) (h : fr.mode = .returning) : stepG P main (G fr cs) w = unwind P main fr cs none w := by
 unfold stepG G
 simp only [h]
theorem sr_results [Twin L M] {R : BR} {fn fn' : Func} (hr : fn'.results = fn.results) {t t' : Array Value} (h : RRel R t t') : SemR L M QV R (results fn t) (results fn' t') := by
 unfold results
 rw [hr, Array.mapM_eq_mapM_toList, Array.mapM_eq_mapM_toList, <- bind_pure_comp, <- bind_pure_comp]
 have key : ∀ (l : List ResultVar) (R1 : BR), R.le R1 -> SemR L M (fun R a b => LRel R a b) R1
   (l.mapM fun | .tmp t' => pure (t.getD t' undef) | .cell a ty => do loadVar ty (<- asAddr (t.getD a undef)))
   (l.mapM fun | .tmp t => pure (t'.getD t undef) | .cell a ty => do loadVar ty (<- asAddr (t'.getD a undef))) := by
  intro l
  induction l with
  | nil => intro R1 _; rw [List.mapM_nil, List.mapM_nil]; exact sr_pure .nil
  | cons x l ih =>
   intro R1 hR1
   rw [List.mapM_cons, List.mapM_cons]
   have hx : SemR L M QV R1 ((fun | .tmp t' => pure (t.getD t' undef) | .cell a ty => do loadVar ty (<- asAddr (t.getD a undef)) : ResultVar -> Sem Value) x) ((fun | .tmp t => pure (t'.getD t undef) | .cell a ty => do loadVar ty (<- asAddr (t'.getD a undef)) : ResultVar -> Sem Value) x) := by
    cases x with
    | tmp i => exact sr_pure ((h.mono hR1).getD i)
    | cell a ty => exact sr_bind (sr_asAddr ((h.mono hR1).getD a)) fun _ _ _ _ ha => sr_loadVar ty ha
   refine sr_bind hx ?_
   intro R2 hR2 v v' hv
   refine sr_bind (ih R2 (BR.le_trans hR1 hR2)) ?_
   intro R3 hR3 vs vs' hvs
   exact sr_pure (.cons (hv.mono hR3) hvs)
 refine sr_bind (sr_bind (key fn.results.toList R (BR.le_refl R)) fun R1 hR1 vs vs' hvs => sr_pure (Q := fun R (a b : Array Value) => LRel R a.toList b.toList) (by simpa using hvs)) ?_
 intro R1 hR1 vs vs' hvs
 refine sr_pure ?_
 obtain ⟨vs⟩ := vs
 obtain ⟨vs'⟩ := vs'
 replace hvs : LRel R1 vs vs' := hvs
 cases hvs with
 | nil => exact .tuple rfl (fun i h => absurd h (by simp))
 | cons hv hr =>
  cases hr with
  | nil => exact hv
  | cons hv2 hr2 =>
   have hl : LRel R1 (_ :: _ :: _) (_ :: _ :: _) := .cons hv (.cons hv2 hr2)
   rw [dif_neg (by simp), dif_neg (by simp)]
   have len : ∀ {a b : List Value}, LRel R1 a b -> a.length = b.length := by
    intro a b hab
    induction hab with
    | nil => rfl
    | cons _ _ ih => simp [ih]
   have get : ∀ {a b : List Value}, LRel R1 a b -> ∀ i (h : i < a.length) (h' : i < b.length), VRel R1 a[i] b[i] := by
    intro a b hab
    induction hab with
    | nil => intro i h; simp at h
    | cons hv _ ih =>
     intro i h h'
     cases i with
     | zero => exact hv
     | succ i => exact ih i (by simpa using h) (by simpa using h')
   exact .tuple (by simpa using len hl) (fun i h1 h2 => by simpa using get hl i (by simpa using h1) (by simpa using h2))
theorem exitTo_ok {id : Nat} : ∀ {k k' : List Item}, exitTo id k = some k' -> k.all (itemOk L) = true -> k'.all (itemOk L) = true
 | [], k', h, _ => by simp [exitTo] at h
 | i :: k, k', h, hk => by
  simp only [List.all_cons, Bool.and_eq_true] at hk
  cases i with
  | inBlock id' =>
   simp only [exitTo] at h
   split at h
   ·cases h; exact hk.2
   ·exact exitTo_ok h hk.2
  | _ => simp only [exitTo] at h; exact exitTo_ok h hk.2
theorem findLabel_ok {l : Nat} : ∀ {c c' : Code}, findLabel c l = some c' -> codeOk L c = true -> codeOk L c' = true
 | .seq a b, c', h, hc => by
  simp only [codeOk, Bool.and_eq_true] at hc
  unfold findLabel at h
  split at h
  ·rename_i r hr
   cases h
   simp only [codeOk, Bool.and_eq_true]
   exact ⟨findLabel_ok hr hc.1, hc.2⟩
  ·exact findLabel_ok h hc.2
 | .label l', c', h, _ => by
  unfold findLabel at h
  split at h
  ·cases h; rfl
  ·cases h
 | .skip, _, h, _ | .region _ _ _, _, h, _ | .cond _ _ _, _, h, _ | .block _ _, _, h, _ | .loop _, _, h, _ | .rangeFunc _ _ _ _, _, h, _ | .exit _, _, h, _ | .scope _, _, h, _ | .goto _, _, h, _ | .ret, _, h, _ | .refuse _, _, h, _ => by simp [findLabel] at h
theorem gotoIn_ok {l : Nat} : ∀ {k k' : List Item}, gotoIn l k = some k' -> k.all (itemOk L) = true -> k'.all (itemOk L) = true
 | [], k', h, _ => by simp [gotoIn] at h
 | i :: k, k', h, hk => by
  simp only [List.all_cons, Bool.and_eq_true] at hk
  cases i with
  | inScope body =>
   simp only [gotoIn] at h
   split at h
   ·rename_i r hr
    cases h
    have hb : codeOk L body = true := by simpa [itemOk] using hk.1
    simp only [List.all_cons, itemOk, Bool.and_eq_true]
    exact ⟨findLabel_ok hr hb, hb, hk.2⟩
   ·exact gotoIn_ok h hk.2
  | _ => simp only [gotoIn] at h; exact gotoIn_ok h hk.2
end
section
open Go Go.Conc
variable {L M : Program}
theorem VRel.bool_of {R : BR} {v v' : Value} (h : VRel R v v') {b : Bool} (e : v = .bool b) : v' = .bool b := by
 subst e
 cases h
 rfl
theorem ctl_sim {X : FuncId -> Prop} {N : Nat} {R : BR} {fr : Frame} {t : Array Value} {cs cs' rest base : List Frame} {w w' : World} (main : Bool) (ht : RRel R fr.tmps t) (hcs : CsRel L R cs cs') (hw : WRel N R w w')
  {fr1 fr2 : Frame} {csx : List Frame} {w1 : World} {es1 : Array Event} (hok : FrOk L fr2) (ht2 : fr2.tmps = fr.tmps)
  (h : GStep.go { frame := fr2, callers := cs ++ base, status := .running, dying := none } w = .go (G fr1 csx) w1 es1)
  (hL : ∀ ww, stepG L true (G fr (cs ++ base)) ww = .go { frame := fr2, callers := cs ++ base, status := .running, dying := none } ww)
  (hM : stepG M main (G { fr with tmps := t } (cs' ++ rest)) w' = .go { frame := { fr2 with tmps := t }, callers := cs' ++ rest, status := .running, dying := none } w') :
  ∃ R' fr1' cs1 cs1' w1' es', csx = cs1 ++ base /\ stepG M main (G { fr with tmps := t } (cs' ++ rest)) w' = .go (G fr1' (cs1' ++ rest)) w1' es' /\ Stepped2 L M X N R R' w w' w1 w1' fr1 fr1' cs1 cs1' es' /\ LocStep w w1 (stepG L true (G fr (cs ++ base))) fr1 csx := by
 obtain ⟨_, _, rfl, rfl, rfl⟩ := not_G h
 exact ⟨R, { fr2 with tmps := t }, cs, cs', w', #[], rfl, hM, ⟨Went.refl hw, Or.inl ⟨⟨hok, t, rfl, by rw [ht2]; exact ht⟩, hcs⟩, by simp⟩, 0, rfl, rfl, fun τ d _ => ⟨#[], hL (w.tp τ d)⟩⟩
theorem step_sim [T : Twin3 L M] {X : FuncId -> Prop} (B : Bodies L M X) (hz : ZeroOk L) {N : Nat} {R : BR} {fr fr' fr1 : Frame} {cs csx cs' rest base : List Frame} {w w1 w' : World} {es1 : Array Event} (main : Bool)
  (hf : FRel L R fr fr') (hcs : CsRel L R cs cs') (hw : WRel N R w w') (h : stepG L true (G fr (cs ++ base)) w = .go (G fr1 csx) w1 es1) (hm : fr1.mode = .run \/ fr1.mode = .returning) (hne : fr.mode = .returning -> cs ≠ []) :
  ∃ R' fr1' cs1 cs1' w1' es', csx = cs1 ++ base /\ stepG M main (G fr' (cs' ++ rest)) w' = .go (G fr1' (cs1' ++ rest)) w1' es' /\ Stepped2 L M X N R R' w w' w1 w1' fr1 fr1' cs1 cs1' es' /\ LocStep w w1 (stepG L true (G fr (cs ++ base))) fr1 csx := by
 obtain ⟨ho, t, rfl, ht⟩ := hf
 obtain ⟨hok, hdef, hmode, hkind, hround, hfn⟩ := ho
 obtain ⟨fn, tmps, todo, defers, mode, kind, roundOf⟩ := fr
 simp only at hok hdef hmode hkind hround hfn ht hne
 subst hdef hkind hround
 have ho : ∀ {td : List Item} {md : FrameMode}, td.all (itemOk L) = true -> (md = .run \/ md = .returning) -> FrOk L { fn := fn, tmps := tmps, todo := td, defers := [], mode := md, kind := .normal, roundOf := none } := fun a b => ⟨a, rfl, b, rfl, rfl, hfn⟩
 rcases hmode with rfl | rfl
 ·skip
  cases todo with
  | nil => exact ctl_sim main ht hcs hw (ho hok (Or.inr rfl)) rfl h (fun _ => rfl) rfl
  | cons it k =>
   simp only [List.all_cons, Bool.and_eq_true] at hok
   obtain ⟨hit, hk⟩ := hok
   have hall : (it :: k).all (itemOk L) = true := by simp only [List.all_cons, Bool.and_eq_true]; exact ⟨hit, hk⟩
   cases it with
   | code c =>
    cases c with
    | ret => exact ctl_sim main ht hcs hw (ho hall (Or.inr rfl)) rfl h (fun _ => rfl) rfl
    | skip => exact ctl_sim main ht hcs hw (ho hk (Or.inl rfl)) rfl h (fun _ => rfl) rfl
    | label l => exact ctl_sim main ht hcs hw (ho hk (Or.inl rfl)) rfl h (fun _ => rfl) rfl
    | seq a b =>
     simp only [itemOk, codeOk, Bool.and_eq_true] at hit
     exact ctl_sim main ht hcs hw (ho (td := .code a :: .code b :: k) (by simp only [List.all_cons, itemOk, Bool.and_eq_true]; exact ⟨hit.1, hit.2, hk⟩) (Or.inl rfl)) rfl h (fun _ => rfl) rfl
    | cond c a b =>
     simp only [itemOk, codeOk, Bool.and_eq_true] at hit
     have hev := eval_rel (fr := { fn := fn, tmps := tmps, todo := .code (.cond c a b) :: k, defers := [], mode := .run, kind := .normal, roundOf := none }) ht c hit.1.1
     have hstep : ∀ (P : Program) (main : Bool) (tm : Array Value) (cc : List Frame) (ww : World), stepG P main (G { fn := fn, tmps := tm, todo := .code (.cond c a b) :: k, defers := [], mode := .run, kind := .normal, roundOf := none } cc) ww =
       match ({ fn := fn, tmps := tm, todo := .code (.cond c a b) :: k, defers := [], mode := .run, kind := .normal, roundOf := none } : Frame).eval c with
       | .bool bb => .go { frame := { fn := fn, tmps := tm, todo := .code (if bb then a else b) :: k, defers := [], mode := .run, kind := .normal, roundOf := none }, callers := cc, status := .running, dying := none } ww
       | _ => .ended (.stuck "cond: bool expected" (({ fn := fn, tmps := tm, todo := .code (.cond c a b) :: k, defers := [], mode := .run, kind := .normal, roundOf := none } : Frame).pos P)) ww := fun _ _ _ _ _ => rfl
     have hM0 := hstep M main t (cs' ++ rest) w'
     rw [hstep] at h
     split at h
     ·rename_i bb hbb
      have hbb' := hev.bool_of hbb
      refine ctl_sim main ht hcs hw (ho (td := .code (if bb then a else b) :: k) (by simp only [List.all_cons, itemOk, Bool.and_eq_true]; exact ⟨by cases bb <;> simp [hit.2, hit.1.2], hk⟩) (Or.inl rfl)) rfl h (fun ww => by rw [hstep]; simp only [hbb]) ?_
      refine hM0.trans ?_
      simp only [hbb']
     ·cases h
    | block id c => exact ctl_sim main ht hcs hw (ho (td := .code c :: .inBlock id :: k) (by simp only [List.all_cons, itemOk, Bool.and_eq_true, true_and]; exact ⟨hit, hk⟩) (Or.inl rfl)) rfl h (fun _ => rfl) rfl
    | loop c => exact ctl_sim main ht hcs hw (ho (td := .code c :: .inLoop c :: k) (by simp only [List.all_cons, itemOk, Bool.and_eq_true]; exact ⟨hit, hit, hk⟩) (Or.inl rfl)) rfl h (fun _ => rfl) rfl
    | scope c => exact ctl_sim main ht hcs hw (ho (td := .code c :: .inScope c :: k) (by simp only [List.all_cons, itemOk, Bool.and_eq_true]; exact ⟨hit, hit, hk⟩) (Or.inl rfl)) rfl h (fun _ => rfl) rfl
    | exit id =>
     have hstep : ∀ (P : Program) (main : Bool) (tm : Array Value) (cc : List Frame) (ww : World), stepG P main (G { fn := fn, tmps := tm, todo := .code (.exit id) :: k, defers := [], mode := .run, kind := .normal, roundOf := none } cc) ww =
       (exitTo id k).elim (.ended (.stuck "exit, goto: no such block or label" (({ fn := fn, tmps := tm, todo := .code (.exit id) :: k, defers := [], mode := .run, kind := .normal, roundOf := none } : Frame).pos P)) ww)
        fun k' => .go { frame := { fn := fn, tmps := tm, todo := k', defers := [], mode := .run, kind := .normal, roundOf := none }, callers := cc, status := .running, dying := none } ww := fun _ _ _ _ _ => rfl
     have hM0 := hstep M main t (cs' ++ rest) w'
     rw [hstep] at h
     cases hx : exitTo id k with
     | none => rw [hx] at h; cases h
     | some k' =>
      rw [hx] at h hM0
      exact ctl_sim main ht hcs hw (ho (exitTo_ok hx hk) (Or.inl rfl)) rfl h (fun ww => by rw [hstep, hx]; rfl) hM0
    | goto l =>
     have hstep : ∀ (P : Program) (main : Bool) (tm : Array Value) (cc : List Frame) (ww : World), stepG P main (G { fn := fn, tmps := tm, todo := .code (.goto l) :: k, defers := [], mode := .run, kind := .normal, roundOf := none } cc) ww =
       (gotoIn l k).elim (.ended (.stuck "exit, goto: no such block or label" (({ fn := fn, tmps := tm, todo := .code (.goto l) :: k, defers := [], mode := .run, kind := .normal, roundOf := none } : Frame).pos P)) ww)
        fun k' => .go { frame := { fn := fn, tmps := tm, todo := k', defers := [], mode := .run, kind := .normal, roundOf := none }, callers := cc, status := .running, dying := none } ww := fun _ _ _ _ _ => rfl
     have hM0 := hstep M main t (cs' ++ rest) w'
     rw [hstep] at h
     cases hx : gotoIn l k with
     | none => rw [hx] at h; cases h
     | some k' =>
      rw [hx] at h hM0
      exact ctl_sim main ht hcs hw (ho (gotoIn_ok hx hk) (Or.inl rfl)) rfl h (fun ww => by rw [hstep, hx]; rfl) hM0
    | rangeFunc f ps a b => simp [itemOk, codeOk] at hit
    | refuse why => cases h
    | region id ops draw =>
     have hops : ∀ l, (Item.inRegion ops l :: k).all (itemOk L) = true := fun l => by simp only [List.all_cons, itemOk, Bool.and_eq_true]; exact ⟨hit, hk⟩
     cases draw with
     | false => exact ctl_sim main ht hcs hw (ho (hops _) (Or.inl rfl)) rfl h (fun _ => rfl) rfl
     | true =>
      have hstep : ∀ (P : Program) (main : Bool) (tm : Array Value) (cc : List Frame) (ww : World), stepG P main (G { fn := fn, tmps := tm, todo := .code (.region id ops true) :: k, defers := [], mode := .run, kind := .normal, roundOf := none } cc) ww =
        .go { frame := { fn := fn, tmps := tm, todo := .inRegion ops (Region.schedule (P.follows .mixedOrders) ops (ww.tape ww.drawn (.order fn id))) :: k, defers := [], mode := .run, kind := .normal, roundOf := none }, callers := cc, status := .running, dying := none } { ww with drawn := ww.drawn + 1 } := fun _ _ _ _ _ => rfl
      rw [hstep] at h
      obtain ⟨_, _, rfl, rfl, rfl⟩ := not_G h
      refine ⟨R, _, cs, cs', _, #[], rfl, hstep M main t (cs' ++ rest) w', ⟨?_, Or.inl ⟨⟨ho (hops _) (Or.inl rfl), t, ?_, ht⟩, hcs⟩, by simp⟩, 1, rfl, rfl, fun τ d hh => ⟨#[], ?_⟩⟩
      ·exact ⟨BR.le_refl R, ⟨hw.one, hw.blk, hw.tape, by simp [hw.drawn], hw.low⟩, fun _ _ x => Or.inl x, Nat.le_refl _, Nat.le_refl _, fun _ _ _ => rfl, rfl, rfl, rfl⟩
      ·rw [B.mixed, <- hw.tape, <- hw.drawn]
      ·refine (hstep L true tmps (cs ++ base) (w.tp τ d)).trans ?_
       have h0 : (w.tp τ d).tape (w.tp τ d).drawn (.order fn id) = w.tape w.drawn (.order fn id) := hh 0 (by omega) _
       rw [h0]
       rfl
   | inBlock id => exact ctl_sim main ht hcs hw (ho hk (Or.inl rfl)) rfl h (fun _ => rfl) rfl
   | inScope c => exact ctl_sim main ht hcs hw (ho hk (Or.inl rfl)) rfl h (fun _ => rfl) rfl
   | inLoop c => exact ctl_sim main ht hcs hw (ho (td := .code c :: .inLoop c :: k) (by simp only [List.all_cons, itemOk, Bool.and_eq_true]; exact ⟨hit, hit, hk⟩) (Or.inl rfl)) rfl h (fun _ => rfl) rfl
   | inRegion ops td =>
    cases td with
    | nil => exact ctl_sim main ht hcs hw (ho hk (Or.inl rfl)) rfl h (fun _ => rfl) rfl
    | cons i r =>
     have hy : yielded ops tmps = yielded ops t := funext (yielded_rel ht ops)
     have hstep : ∀ (P : Program) (main : Bool) (tm : Array Value) (cc : List Frame) (ww : World), stepG P main (G { fn := fn, tmps := tm, todo := .inRegion ops (i :: r) :: k, defers := [], mode := .run, kind := .normal, roundOf := none } cc) ww =
       if ((ops[i]?).map (Region.wanted · (yielded ops tm))).getD false = true then stepG.oper P true { fn := fn, tmps := tm, todo := .inRegion ops (i :: r) :: k, defers := [], mode := .run, kind := .normal, roundOf := none } cc none ww
       else .go { frame := ({ fn := fn, tmps := tm, todo := .inRegion ops (i :: r) :: k, defers := [], mode := .run, kind := .normal, roundOf := none } : Frame).finish undef, callers := cc, status := .running, dying := none } ww := fun _ _ _ _ _ => rfl
     have hM0 := hstep M main t (cs' ++ rest) w'
     rw [<- hy] at hM0
     rw [hstep] at h
     split at h
     ·rename_i hwant
      rw [if_pos hwant] at hM0
      simp only [stepG.oper, Frame.oper?] at h
      cases hoi : ops[i]? with
      | none => rw [hoi] at hwant; cases hwant
      | some o =>
       rw [hoi] at h
       simp only at h
       have hopk : opOk L o.op = true := by
        simp only [itemOk] at hit
        rw [Array.all_eq_true_iff_forall_mem] at hit
        exact hit o (Array.mem_of_getElem? hoi)
       have hsr := sr_exec (M := M) hz hw.one (fun _ => ⟨rfl, rfl⟩) (eval_rel (fr := { fn := fn, tmps := tmps, todo := .inRegion ops (i :: r) :: k, defers := [], mode := .run, kind := .normal, roundOf := none }) ht) (o := o) hopk
       obtain ⟨R', fr1', cs1, cs1', w1', es', hcx, h1, h2, k0, l1, l2, l3⟩ := apply_sim (rest := rest) B (ho hall (Or.inl rfl)) rfl ht hcs hw hsr ⟨ops, i, r, k, rfl⟩ h hm
       refine ⟨R', fr1', cs1, cs1', w1', es', hcx, hM0.trans ?_, h2, k0, l1, l2, fun τ d hh => ?_⟩
       rotate_left
       ·obtain ⟨es, he⟩ := l3 τ d hh
        refine ⟨es, ?_⟩
        refine (hstep L true tmps (cs ++ base) (w.tp τ d)).trans ?_
        rw [if_pos hwant]
        simp only [stepG.oper, Frame.oper?, hoi]
        exact he
       simp only [stepG.oper, Frame.oper?, hoi]
       exact h1
     ·rename_i hwant
      rw [if_neg hwant] at hM0
      obtain ⟨_, _, rfl, rfl, rfl⟩ := not_G h
      exact ⟨R, _, cs, cs', w', #[], rfl, hM0, ⟨Went.refl hw, Or.inl ⟨finish_rel (ho hall (Or.inl rfl)) ht VRel.undef, hcs⟩, by simp⟩, 0, rfl, rfl, fun τ d _ => ⟨#[], (hstep L true tmps (cs ++ base) (w.tp τ d)).trans (by rw [if_neg hwant]; rfl)⟩⟩
   | _ => simp [itemOk] at hit
 ·skip
  cases hcs with
  | nil => exact absurd rfl (hne rfl)
  | @cons c c' r r' hc hcm hcr =>
   obtain ⟨fun1, hfn1, hb⟩ := hfn
   obtain ⟨_, fun2, hfn2, _, _⟩ := Twin3.fn (L := L) (M := M) fn fun1 hfn1 hb
   have hsr := sr_results (L := L) (M := M) (B.res _ _ _ hfn1 hfn2) ht
   rw [stepG_ret _ _ _ _ _ rfl] at h
   simp only [unwind, hfn1, Sem.runT_eq, List.cons_append] at h
   obtain ⟨es2, h, _⟩ := after_go h
   cases hr : (results fun1 tmps).run L w with
   | halt hh w2 =>
    rw [hr] at h
    exfalso
    cases hh <;> cases h
   | ok v w2 =>
    rw [hr] at h
    obtain ⟨R', v', w2', es', hrT, hwent, hv, hev, k0, l1, l2, l3⟩ := sem_run hsr hw hr
    simp only [doReturn] at h
    obtain ⟨_, _, rfl, rfl, rfl⟩ := not_G h
    obtain ⟨hco, tc, rfl, htc⟩ := hc
    refine ⟨R', ({ c with tmps := tc } : Frame).finish v', r, r', w2', seen M fn (#[] ++ es') ++ #[], rfl, ?_, ⟨hwent, Or.inl ⟨finish_rel hco (htc.mono hwent.le) hv, hcr.mono hwent.le⟩, ?_⟩, k0, l1, l2, fun τ d hh => ?_⟩
    ·rw [stepG_ret _ _ _ _ _ rfl]
     simp only [unwind, hfn2, hrT, List.cons_append, doReturn]
     rfl
    ·intro e he
     exact hev e (by simpa using mem_seen (by simpa using he))
    ·dsimp only
     rw [stepG_ret _ _ _ _ _ rfl]
     simp only [unwind, hfn1, Sem.runT_eq, l3 τ d hh, doReturn, List.cons_append]
     exact ⟨_, rfl⟩
end
section
open Go Go.Conc
variable {L M : Program}
theorem apply_kinds [Twin3 L M] {X : FuncId -> Prop} (B : Bodies L M X) {N : Nat} {R : BR} {fr : Frame} {cs : List Frame} {s s' : Sem Next} {w w' : World}
  (ho : FrOk L fr) (hrun : fr.mode = .run) (hw : WRel N R w w') (hs : SemR L M (QX L) R s s') (hreg : ∃ ops i r k, fr.todo = .inRegion ops (i :: r) :: k) :
  (∃ fr1 csx w1 es, stepG.apply L true fr cs none s w = .go (G fr1 csx) w1 es /\ (fr1.mode = .run \/ fr1.mode = .returning)) \/
  (∃ fr1 w1 es ch, stepG.apply L true fr cs none s w = .go (G fr1 cs) w1 es /\ fr1.mode = .panicking ch /\ fr1.defers = []) \/
  (∃ o w1 es, stepG.apply L true fr cs none s w = .ended o w1 es) := by
 have hk1 : (fr.kind == CallKind.early) = false := by rw [ho.kind]; rfl
 have hfin : ∀ v, (fr.finish v).mode = .run := by
  intro v
  obtain ⟨ops, i, r, k, e⟩ := hreg
  unfold Frame.finish
  rw [e]
  exact hrun
 cases hr : s.run L w with
 | ok x w2 =>
  obtain ⟨R', x', w2', es', hrT, hwent, hnr, hev, _⟩ := sem_run hs hw hr
  refine Or.inl ?_
  cases hnr with
  | value hv =>
   obtain ⟨es, e⟩ := apply_value (cs := cs) hk1 hr
   exact ⟨_, _, _, es, e, Or.inl (hfin _)⟩
  | skip =>
   obtain ⟨es, e⟩ := apply_skip (cs := cs) hk1 hr
   exact ⟨_, _, _, es, e, Or.inl (hfin _)⟩
  | enter f hfn _ ha =>
   obtain ⟨es, e⟩ := apply_enter (cs := cs) hk1 hreg hr
   exact ⟨_, _, _, es, e, Or.inl rfl⟩
 | halt hh w2 =>
  have hsoft := sem_soft hs hw hr
  refine Or.inr ?_
  unfold stepG.apply
  simp only [Sem.runT_eq, if_true, hr, hk1]
  cases hsoft with
  | panic v =>
   refine Or.inl ⟨fr.raise [{ v, recovered := false }], w2, _, [{ v, recovered := false }], rfl, ?_, ?_⟩
   ·unfold Frame.raise; rw [hrun]
   ·unfold Frame.raise; rw [hrun]; exact ho.defers
  | unsupported u =>
   refine Or.inr ?_
   cases u with
   | initOrder g =>
    obtain ⟨o, w', es, e⟩ := early_ended B fr cs g w2
    simp only [e]
    exact ⟨_, _, _, rfl⟩
   | _ => exact ⟨_, _, _, rfl⟩
  | stuck t => exact Or.inr ⟨_, _, _, rfl⟩
theorem lone_kinds [T : Twin3 L M] {X : FuncId -> Prop} (B : Bodies L M X) (hz : ZeroOk L) {N : Nat} {R : BR} {fr fr' : Frame} {cs cs' base : List Frame} {w w' : World}
  (hf : FRel L R fr fr') (hcs : CsRel L R cs cs') (hw : WRel N R w w') (hne : fr.mode = .returning -> cs ≠ []) :
  (∃ fr1 csx w1 es, stepG L true (G fr (cs ++ base)) w = .go (G fr1 csx) w1 es /\ (fr1.mode = .run \/ fr1.mode = .returning)) \/
  (∃ fr1 w1 es ch, stepG L true (G fr (cs ++ base)) w = .go (G fr1 (cs ++ base)) w1 es /\ fr1.mode = .panicking ch /\ fr1.defers = []) \/
  (∃ o w1 es, stepG L true (G fr (cs ++ base)) w = .ended o w1 es) := by
 obtain ⟨ho, t, rfl, ht⟩ := hf
 obtain ⟨hok, hdef, hmode, hkind, hround, hfn⟩ := ho
 obtain ⟨fn, tmps, todo, defers, mode, kind, roundOf⟩ := fr
 simp only at hok hdef hmode hkind hround hfn ht hne
 subst hdef hkind hround
 rcases hmode with rfl | rfl
 ·cases todo with
  | nil => exact Or.inl ⟨_, _, _, _, rfl, Or.inr rfl⟩
  | cons it k =>
   have hall := hok
   simp only [List.all_cons, Bool.and_eq_true] at hok
   obtain ⟨hit, hk⟩ := hok
   cases it with
   | code c =>
    cases c with
    | ret => exact Or.inl ⟨_, _, _, _, rfl, Or.inr rfl⟩
    | cond c a b =>
     have hstep : stepG L true (G { fn := fn, tmps := tmps, todo := .code (.cond c a b) :: k, defers := [], mode := .run, kind := .normal, roundOf := none } (cs ++ base)) w =
       match ({ fn := fn, tmps := tmps, todo := .code (.cond c a b) :: k, defers := [], mode := .run, kind := .normal, roundOf := none } : Frame).eval c with
       | .bool bb => .go { frame := { fn := fn, tmps := tmps, todo := .code (if bb then a else b) :: k, defers := [], mode := .run, kind := .normal, roundOf := none }, callers := cs ++ base, status := .running, dying := none } w
       | _ => .ended (.stuck "cond: bool expected" (({ fn := fn, tmps := tmps, todo := .code (.cond c a b) :: k, defers := [], mode := .run, kind := .normal, roundOf := none } : Frame).pos L)) w := rfl
     rw [hstep]
     split
     ·exact Or.inl ⟨_, _, _, _, rfl, Or.inl rfl⟩
     ·exact Or.inr (Or.inr ⟨_, _, _, rfl⟩)
    | exit id =>
     have hstep : stepG L true (G { fn := fn, tmps := tmps, todo := .code (.exit id) :: k, defers := [], mode := .run, kind := .normal, roundOf := none } (cs ++ base)) w =
       (exitTo id k).elim (.ended (.stuck "exit, goto: no such block or label" (({ fn := fn, tmps := tmps, todo := .code (.exit id) :: k, defers := [], mode := .run, kind := .normal, roundOf := none } : Frame).pos L)) w)
        fun k' => .go { frame := { fn := fn, tmps := tmps, todo := k', defers := [], mode := .run, kind := .normal, roundOf := none }, callers := cs ++ base, status := .running, dying := none } w := rfl
     rw [hstep]
     cases exitTo id k with
     | none => exact Or.inr (Or.inr ⟨_, _, _, rfl⟩)
     | some k' => exact Or.inl ⟨_, _, _, _, rfl, Or.inl rfl⟩
    | goto l =>
     have hstep : stepG L true (G { fn := fn, tmps := tmps, todo := .code (.goto l) :: k, defers := [], mode := .run, kind := .normal, roundOf := none } (cs ++ base)) w =
       (gotoIn l k).elim (.ended (.stuck "exit, goto: no such block or label" (({ fn := fn, tmps := tmps, todo := .code (.goto l) :: k, defers := [], mode := .run, kind := .normal, roundOf := none } : Frame).pos L)) w)
        fun k' => .go { frame := { fn := fn, tmps := tmps, todo := k', defers := [], mode := .run, kind := .normal, roundOf := none }, callers := cs ++ base, status := .running, dying := none } w := rfl
     rw [hstep]
     cases gotoIn l k with
     | none => exact Or.inr (Or.inr ⟨_, _, _, rfl⟩)
     | some k' => exact Or.inl ⟨_, _, _, _, rfl, Or.inl rfl⟩
    | rangeFunc f ps a b => simp [itemOk, codeOk] at hit
    | refuse why => exact Or.inr (Or.inr ⟨_, _, _, rfl⟩)
    | region id ops draw => cases draw <;> exact Or.inl ⟨_, _, _, _, rfl, Or.inl rfl⟩
    | _ => exact Or.inl ⟨_, _, _, _, rfl, Or.inl rfl⟩
   | inBlock id => exact Or.inl ⟨_, _, _, _, rfl, Or.inl rfl⟩
   | inScope c => exact Or.inl ⟨_, _, _, _, rfl, Or.inl rfl⟩
   | inLoop c => exact Or.inl ⟨_, _, _, _, rfl, Or.inl rfl⟩
   | inRegion ops td =>
    cases td with
    | nil => exact Or.inl ⟨_, _, _, _, rfl, Or.inl rfl⟩
    | cons i r =>
     have hstep : stepG L true (G { fn := fn, tmps := tmps, todo := .inRegion ops (i :: r) :: k, defers := [], mode := .run, kind := .normal, roundOf := none } (cs ++ base)) w =
       if ((ops[i]?).map (Region.wanted · (yielded ops tmps))).getD false = true then stepG.oper L true { fn := fn, tmps := tmps, todo := .inRegion ops (i :: r) :: k, defers := [], mode := .run, kind := .normal, roundOf := none } (cs ++ base) none w
       else .go { frame := ({ fn := fn, tmps := tmps, todo := .inRegion ops (i :: r) :: k, defers := [], mode := .run, kind := .normal, roundOf := none } : Frame).finish undef, callers := cs ++ base, status := .running, dying := none } w := rfl
     rw [hstep]
     split
     ·cases hoi : ops[i]? with
      | none => rename_i hwant; rw [hoi] at hwant; cases hwant
      | some o =>
       have hopk : opOk L o.op = true := by
        simp only [itemOk] at hit
        rw [Array.all_eq_true_iff_forall_mem] at hit
        exact hit o (Array.mem_of_getElem? hoi)
       have hsr := sr_exec (M := M) hz hw.one (fun _ => ⟨rfl, rfl⟩) (eval_rel (fr := { fn := fn, tmps := tmps, todo := .inRegion ops (i :: r) :: k, defers := [], mode := .run, kind := .normal, roundOf := none }) ht) (o := o) hopk
       simp only [stepG.oper, Frame.oper?, hoi]
       exact apply_kinds B (fr := { fn := fn, tmps := tmps, todo := .inRegion ops (i :: r) :: k, defers := [], mode := .run, kind := .normal, roundOf := none }) ⟨hall, rfl, Or.inl rfl, rfl, rfl, hfn⟩ rfl hw hsr ⟨ops, i, r, k, rfl⟩
     ·exact Or.inl ⟨_, _, _, _, rfl, Or.inl rfl⟩
   | _ => simp [itemOk] at hit
 ·cases hcs with
  | nil => exact absurd rfl (hne rfl)
  | @cons c c' r r' hc hcm hcr =>
   obtain ⟨fun1, hfn1, hb⟩ := hfn
   have hsr := sr_results (L := L) (M := M) (fn' := fun1) rfl ht
   rw [stepG_ret _ _ _ _ _ rfl]
   simp only [unwind, hfn1, Sem.runT_eq, List.cons_append]
   cases hr : (results fun1 tmps).run L w with
   | halt hh w2 =>
    refine Or.inr (Or.inr ?_)
    cases sem_soft hsr hw hr with
    | panic v => exact ⟨_, _, _, rfl⟩
    | unsupported u => exact ⟨_, _, _, rfl⟩
    | stuck t => exact ⟨_, _, _, rfl⟩
   | ok v w2 =>
    refine Or.inl ⟨c.finish v, _, w2, _, rfl, ?_⟩
    obtain ⟨hco, tc, rfl, htc⟩ := hc
    exact (finish_rel hco htc (VRel.undef)).1.mode.imp (fun h => by unfold Frame.finish at h ⊢; split at h <;> simp_all) (fun h => by unfold Frame.finish at h ⊢; split at h <;> simp_all)
end
section
open Go Go.Conc
variable {L M : Program}
def door (L : Program) : Frame := { fn := L.funcs.size, tmps := #[], todo := [.call default false "fmt's door" #[]], defers := [], mode := .run, kind := .normal }
theorem step_go {fr fr1 : Frame} {cs cs1 : List Frame} {w w1 : World} {es : Array Event} (h : stepG L true (G fr cs) w = .go (G fr1 cs1) w1 es) : step L (lone fr cs w) = .next (lone fr1 cs1 w1) := by
 refine step_lone_go ?_
 have : stepG L true { frame := fr, callers := cs, status := .running, dying := none } w = .go (G fr1 cs1) w1 es := h
 rw [this]
 rfl
theorem step_end {fr : Frame} {cs : List Frame} {w w1 : World} {o : Outcome} {es : Array Event} (h : stepG L true (G fr cs) w = .ended o w1 es) : step L (lone fr cs w) = .ended o w1 := by
 refine step_lone_ended ?_
 have : stepG L true { frame := fr, callers := cs, status := .running, dying := none } w = .ended o w1 es := h
 rw [this]
 rfl
theorem runN_go {fr fr1 : Frame} {cs cs1 : List Frame} {w w1 : World} {es : Array Event} (h : stepG L true (G fr cs) w = .go (G fr1 cs1) w1 es) (n : Nat) : runN L (n + 1) (lone fr cs w) = runN L n (lone fr1 cs1 w1) := by
 simp only [runN, step_go h]
theorem runN_end {fr : Frame} {cs : List Frame} {w w1 : World} {o : Outcome} {es : Array Event} (h : stepG L true (G fr cs) w = .ended o w1 es) (n : Nat) : runN L (n + 1) (lone fr cs w) = .ended o w1 := by
 simp only [runN, step_end h]
theorem lone_inj {fr fr1 : Frame} {cs cs1 : List Frame} {w w1 : World} (h : Stepped.next (lone fr cs w) = .next (lone fr1 cs1 w1)) : fr = fr1 /\ cs = cs1 /\ w = w1 := by
 simp only [lone, Stepped.next.injEq, Machine.mk.injEq] at h
 obtain ⟨h1, h2, _⟩ := h
 have h3 := congrArg (fun a => a[0]?) h2
 simp at h3
 exact ⟨h3.1, h3.2, h1⟩
theorem catches_door {fr : Frame} (h1 : fr.fn = L.funcs.size) (h2 : fr.todo = [.call default false "fmt's door" #[]]) : fr.catches L = true := by
 have e : L.funcs[fr.fn]? = none := by rw [h1]; exact Array.getElem?_eq_none (Nat.le_refl _)
 unfold Frame.catches
 rw [e, h2]
 simp
theorem pan_run : ∀ (cs : List Frame), (∀ c ∈ cs, c.defers = []) -> ∀ (fr : Frame) (ch : List PanicEntry) (w : World), fr.mode = .panicking ch -> fr.defers = [] -> ∀ (n : Nat) (m : Machine), runN L n (lone fr (cs ++ [door L]) w) = .next m -> ∃ fr' cs' w' ch', m = lone fr' cs' w' /\ fr'.mode = .panicking ch' := by
 have hstep : ∀ (fr c : Frame) (r : List Frame) (ch : List PanicEntry) (w : World), fr.mode = .panicking ch -> fr.defers = [] -> (∃ o w1 es, stepG L true (G fr (c :: r)) w = .ended o w1 es) \/ ∃ es, stepG L true (G fr (c :: r)) w = .go (G (c.raise ch) r) w es := by
  intro fr c r ch w h1 h2
  have e : stepG L true (G fr (c :: r)) w = unwind L true fr (c :: r) none w := by unfold stepG G; simp only [h1]
  rw [e]
  simp only [unwind, h2, h1]
  split
  ·exact Or.inl ⟨_, _, _, rfl⟩
  ·exact Or.inr ⟨_, rfl⟩
 intro cs
 induction cs with
 | nil =>
  intro _ fr ch w h1 h2 n m hr
  cases n with
  | zero => simp only [runN, Stepped.next.injEq] at hr; exact ⟨_, _, _, ch, hr.symm, h1⟩
  | succ n =>
   rcases hstep fr (door L) [] ch w h1 h2 with ⟨o, w1, es, e⟩ | ⟨es, e⟩
   ·rw [List.nil_append, runN_end e] at hr; cases hr
   ·rw [List.nil_append, runN_go e] at hr
    have hm : ((door L).raise ch).mode = .panicking ch := rfl
    cases n with
    | zero => simp only [runN, Stepped.next.injEq] at hr; exact ⟨_, _, _, ch, hr.symm, hm⟩
    | succ n =>
     have e2 : stepG L true (G ((door L).raise ch) []) w = .ended (.unsupported (.noEntry "a panic or Goexit out of a method that fmt calls behind a cut's door") (((door L).raise ch).pos L)) w := by
      have e3 : stepG L true (G ((door L).raise ch) []) w = unwind L true ((door L).raise ch) [] none w := by unfold stepG G; simp only [hm]
      rw [e3]
      have hc : ((door L).raise ch).catches L = true := catches_door rfl rfl
      have hd : ((door L).raise ch).defers = [] := rfl
      simp only [unwind, hd, hm, hc, if_true]
     rw [runN_end e2] at hr
     cases hr
 | cons c cs ih =>
  intro hall fr ch w h1 h2 n m hr
  cases n with
  | zero => simp only [runN, Stepped.next.injEq] at hr; exact ⟨_, _, _, ch, hr.symm, h1⟩
  | succ n =>
   rcases hstep fr c (cs ++ [door L]) ch w h1 h2 with ⟨o, w1, es, e⟩ | ⟨es, e⟩
   ·rw [List.cons_append, runN_end e] at hr; cases hr
   ·rw [List.cons_append, runN_go e] at hr
    obtain ⟨ch', hm⟩ := raise_mode c ch
    have hd : (c.raise ch).defers = [] := by
     have := hall c (by simp)
     unfold Frame.raise
     split <;> exact this
    exact ih (fun x hx => hall x (by simp [hx])) (c.raise ch) ch' w hm hd n m hr
theorem no_row : Extern.next "fmt's door" = none := by decide
theorem door_run {fr fr' : Frame} {w w' : World} {fn : Func} (h1 : fr.mode = .returning) (h2 : fr.defers = []) (h3 : fr.kind = .normal) (h4 : L.funcs[fr.fn]? = some fn) (n : Nat) (h : runN L (n + 1) (lone fr [door L] w) = .next (lone fr' [door L] w')) : False := by
 have e : stepG L true (G fr [door L]) w = unwind L true fr [door L] none w := stepG_ret _ _ _ _ _ h1
 simp only [unwind, h2, h1, h4, Sem.runT_eq] at e
 cases hr : (results fn fr.tmps).run L w with
 | halt hh w2 =>
  rw [hr] at e
  cases hh <;> (rw [runN_end e] at h; cases h)
 | ok v w2 =>
  rw [hr] at e
  simp only [doReturn, h3] at e
  have e' : stepG L true (G fr [door L]) w = .go (G ((door L).finish v) []) w2 (seen L fr.fn ((results fn fr.tmps).events L w #[]) ++ #[]) := e
  rw [runN_go e'] at h
  cases n with
  | zero => obtain ⟨_, hc, _⟩ := lone_inj h; cases hc
  | succ n =>
   have e2 : stepG L true (G ((door L).finish v) []) w2 = .ended (.stuck ("no extern row " ++ "fmt's door") (((door L).finish v).pos L)) w2 := by
    have hm : ((door L).finish v).mode = .run := rfl
    rw [stepG_run _ _ _ _ _ hm]
    have ht : ((door L).finish v).todo = [.extern "fmt's door" (#[].push v)] := rfl
    simp only [stepG.exec, ht, no_row, Option.elim_none]
   rw [runN_end e2] at h
   cases h
end
section
open Go Go.Conc
variable {L : Program}
def Self (L : Program) (fr : Frame) (cs : List Frame) (w : World) : Prop := ∃ N R fr' cs' w', FRel L R fr fr' /\ CsRel L R cs cs' /\ WRel N R w w'
theorem WRel.tp {N : Nat} {R : BR} {w w' : World} (h : WRel N R w w') (τ : Nat -> Question -> Nat) (d : Nat) : WRel N R (w.tp τ d) (w'.tp τ d) := ⟨h.one, h.blk, rfl, rfl, h.low⟩
theorem Self.tp {fr : Frame} {cs : List Frame} {w : World} (h : Self L fr cs w) (τ : Nat -> Question -> Nat) (d : Nat) : Self L fr cs (w.tp τ d) := let ⟨N, R, fr', cs', w', a, b, c⟩ := h; ⟨N, R, fr', cs', w'.tp τ d, a, b, c.tp τ d⟩
theorem tp_tp (w : World) (τ τ' : Nat -> Question -> Nat) (d d' : Nat) : (w.tp τ d).tp τ' d' = w.tp τ' d' := rfl
theorem tp_self {w : World} {τ : Nat -> Question -> Nat} {d : Nat} (h1 : w.tape = τ) (h2 : w.drawn = d) : w.tp τ d = w := by subst h1 h2; rfl
structure Whole (L : Program) : Prop extends Bodies L L (fun _ => False) where
 zero : ZeroOk L
theorem CsRel.defers {R : BR} {cs cs' : List Frame} (h : CsRel L R cs cs') : ∀ c ∈ cs, c.defers = [] := by
 induction h with
 | nil => intro c hc; simp at hc
 | cons hf _ _ ih =>
  intro c hc
  rcases List.mem_cons.1 hc with rfl | hc
  ·exact hf.1.defers
  ·exact ih c hc
theorem one_step [Twin3 L L] (W : Whole L) {fr : Frame} {cs : List Frame} {w : World} (hS : Self L fr cs w) (hne : fr.mode = .returning -> cs ≠ []) {n : Nat} {fr' : Frame} {w' : World} (hr : runN L (n + 1) (lone fr (cs ++ [door L]) w) = .next (lone fr' [door L] w')) (hm' : fr'.mode = .returning) :
  ∃ fr1 cs1 w1 es, stepG L true (G fr (cs ++ [door L])) w = .go (G fr1 (cs1 ++ [door L])) w1 es /\ (fr1.mode = .run \/ fr1.mode = .returning) /\ Self L fr1 cs1 w1 /\ LocStep w w1 (stepG L true (G fr (cs ++ [door L]))) fr1 (cs1 ++ [door L]) /\ runN L n (lone fr1 (cs1 ++ [door L]) w1) = .next (lone fr' [door L] w') := by
 obtain ⟨N, R, frp, csp, wp, hf, hcs, hw⟩ := hS
 rcases lone_kinds (base := [door L]) W.toBodies W.zero hf hcs hw hne with ⟨fr1, csx, w1, es, e, hm⟩ | ⟨fr1, w1, es, ch, e, hm, hd⟩ | ⟨o, w1, es, e⟩
 ·obtain ⟨R', fr1', cs1, cs1', w1', es', rfl, hM, hst, hloc⟩ := step_sim (rest := []) (base := [door L]) W.toBodies W.zero true hf hcs hw e hm hne
  rw [runN_go e] at hr
  refine ⟨fr1, cs1, w1, es, e, hm, ?_, hloc, hr⟩
  rcases hst.after with ⟨h1, h2⟩ | ⟨_, _, _, hx, _⟩
  ·exact ⟨N, R', fr1', cs1', w1', h1, h2, hst.went.rel⟩
  ·exact hx.elim
 ·rw [runN_go e] at hr
  obtain ⟨f2, c2, w2, ch', e2, hm2⟩ := pan_run cs hcs.defers fr1 ch w1 hm hd n _ hr
  obtain ⟨rfl, _, _⟩ := lone_inj (congrArg Stepped.next e2)
  rw [hm'] at hm2
  cases hm2
 ·rw [runN_end e] at hr
  cases hr
theorem run_shift [Twin3 L L] (W : Whole L) : ∀ (n : Nat) {fr : Frame} {cs : List Frame} {w : World}, Self L fr cs w -> ∀ {fr' : Frame} {w' : World}, runN L n (lone fr (cs ++ [door L]) w) = .next (lone fr' [door L] w') -> fr'.mode = .returning ->
  ∀ {τ : Nat -> Question -> Nat} {d : Nat}, (∀ i q, τ (d + i) q = w.tape (w.drawn + i) q) -> ∃ d', runN L n (lone fr (cs ++ [door L]) (w.tp τ d)) = .next (lone fr' [door L] (w'.tp τ d'))
 | 0, fr, cs, w, _, fr', w', hr, _, τ, d, _ => by
  simp only [runN] at hr
  obtain ⟨rfl, hc, rfl⟩ := lone_inj hr
  exact ⟨d, by simp only [runN]; rw [hc]⟩
 | n + 1, fr, cs, w, hS, fr', w', hr, hm', τ, d, ht => by
  by_cases hne : fr.mode = .returning -> cs ≠ []
  ·obtain ⟨fr1, cs1, w1, es, e, hm, hS1, ⟨k, l1, l2, l3⟩, hr1⟩ := one_step W hS hne hr hm'
   obtain ⟨es2, e2⟩ := l3 τ d (fun i _ q => ht i q)
   obtain ⟨d', h'⟩ := run_shift W n hS1 hr1 hm' (τ := τ) (d := d + k) (fun i q => by rw [l1, l2, Nat.add_assoc, Nat.add_assoc]; exact ht (k + i) q)
   refine ⟨d', ?_⟩
   rw [runN_go e2]
   exact h'
  ·have h1 : fr.mode = .returning := Classical.byContradiction fun q => hne (fun h => absurd h q)
   have h2 : cs = [] := Classical.byContradiction fun q => hne (fun _ => q)
   subst h2
   obtain ⟨N, R, frp, csp, wp, hf, _, _⟩ := hS
   obtain ⟨fn, hfn, _⟩ := hf.1.fnok
   exact (door_run h1 hf.1.defers hf.1.kind hfn n hr).elim
def Good (L : Program) (FinP : Frame -> World -> Prop) (fr : Frame) (cs : List Frame) (w : World) : Prop :=
 ∀ τ d, ∃ n fr' w', runN L n (lone fr (cs ++ [door L]) (w.tp τ d)) = .next (lone fr' [door L] w') /\ fr'.mode = .returning /\ FinP fr' w'
inductive Tree (L : Program) (FinP : Frame -> World -> Prop) : Frame -> List Frame -> World -> Prop
 | fin {fr : Frame} {w : World} : fr.mode = .returning -> (∀ τ d, FinP fr (w.tp τ d)) -> Self L fr [] w -> Tree L FinP fr [] w
 | step {fr : Frame} {cs : List Frame} {w : World} : (fr.mode = .returning -> cs ≠ []) -> Self L fr cs w -> (F : (Nat -> Question -> Nat) -> Nat -> Frame) -> (C : (Nat -> Question -> Nat) -> Nat -> List Frame) -> (V : (Nat -> Question -> Nat) -> Nat -> World) ->
   (∀ τ d, (∃ es, stepG L true (G fr (cs ++ [door L])) (w.tp τ d) = .go (G (F τ d) (C τ d ++ [door L])) (V τ d) es) /\ ((F τ d).mode = .run \/ (F τ d).mode = .returning)) -> (∀ τ d, Tree L FinP (F τ d) (C τ d) (V τ d)) -> Tree L FinP fr cs w
theorem good_step [Twin3 L L] (W : Whole L) {FinP : Frame -> World -> Prop} (hF : ∀ fr w τ d, FinP fr w -> FinP fr (w.tp τ d)) {fr : Frame} {cs : List Frame} {w : World} (hG : Good L FinP fr cs w) (hS : Self L fr cs w) (hne : fr.mode = .returning -> cs ≠ []) (τ : Nat -> Question -> Nat) (d : Nat) :
  ∃ fr1 cs1 w1 es, stepG L true (G fr (cs ++ [door L])) (w.tp τ d) = .go (G fr1 (cs1 ++ [door L])) w1 es /\ (fr1.mode = .run \/ fr1.mode = .returning) /\ Good L FinP fr1 cs1 w1 /\ Self L fr1 cs1 w1 /\ LocStep (w.tp τ d) w1 (stepG L true (G fr (cs ++ [door L]))) fr1 (cs1 ++ [door L]) := by
 have notz : ∀ {τ : Nat -> Question -> Nat} {d : Nat} {fr' : Frame} {w' : World}, runN L 0 (lone fr (cs ++ [door L]) (w.tp τ d)) = .next (lone fr' [door L] w') -> fr'.mode = .returning -> False := by
  intro τ d fr' w' hr hm'
  simp only [runN] at hr
  obtain ⟨rfl, hc, _⟩ := lone_inj hr
  have : cs = [] := by
   cases cs with
   | nil => rfl
   | cons c cs => simp at hc
  exact hne hm' this
 obtain ⟨n, fr', w', hr, hm', _⟩ := hG τ d
 cases n with
 | zero => exact (notz hr hm').elim
 | succ n =>
 obtain ⟨fr1, cs1, w1, es, e, hm, hS1, ⟨k, l1, l2, l3⟩, hr1⟩ := one_step W (hS.tp τ d) hne hr hm'
 refine ⟨fr1, cs1, w1, es, e, hm, ?_, hS1, k, l1, l2, l3⟩
 intro τ' d'
 let σ : Nat -> Question -> Nat := fun i q => if i < k then τ (d + i) q else τ' (d' + (i - k)) q
 obtain ⟨es2, e2⟩ := l3 σ 0 (fun i hi q => by show (if 0 + i < k then _ else _) = _; rw [Nat.zero_add, if_pos hi]; rfl)
 obtain ⟨n2, f2, w2, hr2, hm2, hf2⟩ := hG σ 0
 cases n2 with
 | zero => exact (notz hr2 hm2).elim
 | succ n2 =>
  have e2' : stepG L true (G fr (cs ++ [door L])) (w.tp σ 0) = .go (G fr1 (cs1 ++ [door L])) (w1.tp σ (0 + k)) es2 := e2
  rw [runN_go e2'] at hr2
  obtain ⟨d3, h3⟩ := run_shift W n2 (hS1.tp σ (0 + k)) hr2 hm2 (τ := τ') (d := d') (fun i q => by
   show τ' (d' + i) q = (if 0 + k + i < k then τ (d + (0 + k + i)) q else τ' (d' + (0 + k + i - k)) q)
   rw [if_neg (by omega), show 0 + k + i - k = i by omega])
  exact ⟨n2, f2, _, h3, hm2, hF _ _ _ _ hf2⟩
structure Bad (L : Program) (FinP : Frame -> World -> Prop) (c : Frame × List Frame × World) : Prop where
 good : Good L FinP c.1 c.2.1 c.2.2
 self : Self L c.1 c.2.1 c.2.2
 not : ¬ Tree L FinP c.1 c.2.1 c.2.2
theorem Bad.going {FinP : Frame -> World -> Prop} {c : Frame × List Frame × World} (h : Bad L FinP c) : c.1.mode = .returning -> c.2.1 ≠ [] := by
 obtain ⟨fr, cs, w⟩ := c
 obtain ⟨hG, hS, hT⟩ := h
 simp only at hG hS hT ⊢
 intro hm hc
 subst hc
 refine hT (.fin hm (fun τ d => ?_) hS)
 obtain ⟨n, fr', w', hr, hm', hf⟩ := hG τ d
 cases n with
 | zero =>
  simp only [runN] at hr
  obtain ⟨rfl, _, rfl⟩ := lone_inj hr
  exact hf
 | succ n =>
  obtain ⟨N, R, frp, csp, wp, hfr, _, _⟩ := hS
  obtain ⟨fn, hfn, _⟩ := hfr.1.fnok
  exact (door_run hm hfr.1.defers hfr.1.kind hfn n hr).elim
theorem Bad.next [Twin3 L L] (W : Whole L) {FinP : Frame -> World -> Prop} (hF : ∀ fr w τ d, FinP fr w -> FinP fr (w.tp τ d)) {c : Frame × List Frame × World} (h : Bad L FinP c) :
  ∃ (τ : Nat -> Question -> Nat) (d k : Nat) (c1 : Frame × List Frame × World), Bad L FinP c1 /\ ∀ τ' d', (∀ i, i < k -> ∀ q, τ' (d' + i) q = τ (d + i) q) -> ∃ es, stepG L true (G c.1 (c.2.1 ++ [door L])) (c.2.2.tp τ' d') = .go (G c1.1 (c1.2.1 ++ [door L])) (c1.2.2.tp τ' (d' + k)) es := by
 have hne := h.going
 obtain ⟨fr, cs, w⟩ := c
 obtain ⟨hG, hS, hT⟩ := h
 simp only at hG hS hT hne ⊢
 have hall := fun τ d => good_step W hF hG hS hne τ d
 refine Classical.byContradiction fun hno => hT ?_
 have hs := fun τ d => (hall τ d).choose_spec.choose_spec.choose_spec.choose_spec
 refine .step hne hS (fun τ d => (hall τ d).choose) (fun τ d => (hall τ d).choose_spec.choose) (fun τ d => (hall τ d).choose_spec.choose_spec.choose) (fun τ d => ⟨⟨_, (hs τ d).1⟩, (hs τ d).2.1⟩) (fun τ d => ?_)
 refine Classical.byContradiction fun hnt => hno ?_
 obtain ⟨_, _, h3, h4, k, l1, l2, l3⟩ := hs τ d
 exact ⟨τ, d, k, (_, _, _), ⟨h3, h4, hnt⟩, fun τ' d' ha => l3 τ' d' ha⟩
def atK (k : Nat -> Nat) : Nat -> Nat
 | 0 => 0
 | j + 1 => atK k j + k j
theorem atK_le (k : Nat -> Nat) : ∀ {i j : Nat}, i <= j -> atK k i <= atK k j := by
 intro i j h
 induction j with
 | zero => have : i = 0 := by omega
           subst this; exact Nat.le_refl _
 | succ j ih =>
  rcases Nat.lt_or_ge i (j + 1) with q | q
  ·exact Nat.le_trans (ih (by omega)) (by simp only [atK]; omega)
  ·have : i = j + 1 := by omega
   subst this; exact Nat.le_refl _
theorem atK_one (k : Nat -> Nat) {i j p : Nat} (h1 : atK k i <= p) (h2 : p < atK k (i + 1)) (h3 : atK k j <= p) (h4 : p < atK k (j + 1)) : i = j := by
 rcases Nat.lt_trichotomy i j with q | q | q
 ·have := atK_le k (i := i + 1) (j := j) (by omega); omega
 ·exact q
 ·have := atK_le k (i := j + 1) (j := i) (by omega); omega
open Classical in
noncomputable def allTape (k : Nat -> Nat) (τ : Nat -> Nat -> Question -> Nat) (d : Nat -> Nat) : Nat -> Question -> Nat := fun p q =>
 if h : ∃ j, atK k j <= p /\ p < atK k (j + 1) then τ h.choose (d h.choose + (p - atK k h.choose)) q else 0
theorem allTape_at (k : Nat -> Nat) (τ : Nat -> Nat -> Question -> Nat) (d : Nat -> Nat) (j i : Nat) (hi : i < k j) (q : Question) : allTape k τ d (atK k j + i) q = τ j (d j + i) q := by
 have h : ∃ j', atK k j' <= atK k j + i /\ atK k j + i < atK k (j' + 1) := ⟨j, by omega, by simp only [atK]; omega⟩
 have hj : h.choose = j := atK_one k h.choose_spec.1 h.choose_spec.2 (by omega) (by simp only [atK]; omega)
 unfold allTape
 rw [dif_pos h, hj]
 congr 1
 omega
theorem tree_of_good [Twin3 L L] (W : Whole L) {FinP : Frame -> World -> Prop} (hF : ∀ fr w τ d, FinP fr w -> FinP fr (w.tp τ d)) {fr : Frame} {cs : List Frame} {w : World} (hG : Good L FinP fr cs w) (hS : Self L fr cs w) : Tree L FinP fr cs w := by
 refine Classical.byContradiction fun hT => ?_
 have h0 : Bad L FinP (fr, cs, w) := ⟨hG, hS, hT⟩
 let nx : { c // Bad L FinP c } -> { c // Bad L FinP c } := fun c => ⟨_, (c.2.next W hF).choose_spec.choose_spec.choose_spec.choose_spec.1⟩
 let sq : Nat -> { c // Bad L FinP c } := fun n => Nat.rec ⟨(fr, cs, w), h0⟩ (fun _ c => nx c) n
 let τs : Nat -> Nat -> Question -> Nat := fun j => ((sq j).2.next W hF).choose
 let ds : Nat -> Nat := fun j => ((sq j).2.next W hF).choose_spec.choose
 let ks : Nat -> Nat := fun j => ((sq j).2.next W hF).choose_spec.choose_spec.choose
 have hstep : ∀ j τ' d', (∀ i, i < ks j -> ∀ q, τ' (d' + i) q = τs j (ds j + i) q) -> ∃ es, stepG L true (G (sq j).1.1 ((sq j).1.2.1 ++ [door L])) ((sq j).1.2.2.tp τ' d') = .go (G (sq (j + 1)).1.1 ((sq (j + 1)).1.2.1 ++ [door L])) ((sq (j + 1)).1.2.2.tp τ' (d' + ks j)) es :=
  fun j => ((sq j).2.next W hF).choose_spec.choose_spec.choose_spec.choose_spec.2
 let σ := allTape ks τs ds
 have hone : ∀ j, ∃ es, stepG L true (G (sq j).1.1 ((sq j).1.2.1 ++ [door L])) ((sq j).1.2.2.tp σ (atK ks j)) = .go (G (sq (j + 1)).1.1 ((sq (j + 1)).1.2.1 ++ [door L])) ((sq (j + 1)).1.2.2.tp σ (atK ks (j + 1))) es :=
  fun j => hstep j σ (atK ks j) (fun i hi q => allTape_at ks τs ds j i hi q)
 have hrun : ∀ j i, runN L j (lone (sq i).1.1 ((sq i).1.2.1 ++ [door L]) ((sq i).1.2.2.tp σ (atK ks i))) = .next (lone (sq (i + j)).1.1 ((sq (i + j)).1.2.1 ++ [door L]) ((sq (i + j)).1.2.2.tp σ (atK ks (i + j)))) := by
  intro j
  induction j with
  | zero => intro i; rfl
  | succ j ih =>
   intro i
   obtain ⟨es, e⟩ := hone i
   rw [runN_go e, ih (i + 1), show i + 1 + j = i + (j + 1) by omega]
 obtain ⟨n, fr', w', hr, hm', _⟩ := hG σ 0
 have hr2 := hrun n 0
 have e0 : runN L n (lone fr (cs ++ [door L]) (w.tp σ 0)) = .next (lone (sq (0 + n)).1.1 ((sq (0 + n)).1.2.1 ++ [door L]) ((sq (0 + n)).1.2.2.tp σ (atK ks (0 + n)))) := hr2
 rw [hr] at e0
 obtain ⟨h1, h2, _⟩ := lone_inj e0
 have hc : (sq (0 + n)).1.2.1 = [] := by
  cases hq : (sq (0 + n)).1.2.1 with
  | nil => rfl
  | cons a b => rw [hq] at h2; simp at h2
 exact (sq (0 + n)).2.going (by rw [<- h1]; exact hm') hc
end
section
open Go Go.Conc
variable {L M : Program}
inductive Rk : Type
 | z
 | s (f : World -> Rk)
structure Sees (Live : World -> Prop) (K S : Nat -> Prop) (w w₁ : World) : Prop where
 size : w.heap.size <= w₁.heap.size
 same : ∀ c, K c \/ S c -> w₁.heap[c]? = w.heap[c]?
 tape : w₁.tape = w.tape
 os : w₁.os = w.os
 out : w₁.output = w.output
 live : Live w -> Live w₁
theorem Sees.refl {Live : World -> Prop} {K S : Nat -> Prop} (w : World) : Sees Live K S w w := ⟨Nat.le_refl _, fun _ _ => rfl, rfl, rfl, rfl, fun h => h⟩
theorem Sees.trans {Live : World -> Prop} {K S : Nat -> Prop} {w w₁ w₂ : World} (h : Sees Live K S w w₁) (h' : Sees Live K S w₁ w₂) : Sees Live K S w w₂ :=
 ⟨Nat.le_trans h.size h'.size, fun c hc => (h'.same c hc).trans (h.same c hc), h'.tape.trans h.tape, h'.os.trans h.os, h'.out.trans h.out, fun x => h'.live (h.live x)⟩
theorem Sees.mono {Live : World -> Prop} {K S K' S' : Nat -> Prop} {w w₁ : World} (h : Sees Live K S w w₁) (hs : ∀ c, K' c \/ S' c -> K c \/ S c) : Sees Live K' S' w w₁ :=
 ⟨h.size, fun c hc => h.same c (hs c hc), h.tape, h.os, h.out, h.live⟩
def EvS (K S : Nat -> Prop) (e : Event) : Prop :=
 (∃ a wr, e = ⟨.cell a, wr, false⟩ /\ (S a.block \/ (K a.block /\ wr = false))) \/ (∃ r wr, e = ⟨.obj r, wr, false⟩ /\ (S r \/ (K r /\ wr = false))) \/ e = ⟨.mark .noRoom, false, true⟩
structure Does (Ex : Event -> Prop) (K S S' : Nat -> Prop) (w w' : World) (es : Array Event) : Prop where
 size : w.heap.size <= w'.heap.size
 sub : ∀ c, S c -> S' c
 new : ∀ c, S' c -> S c \/ (w.heap.size <= c /\ c < w'.heap.size)
 kept : ∀ c, c < w.heap.size -> ¬ S c -> w'.heap[c]? = w.heap[c]?
 tape : w'.tape = w.tape
 os : w'.os = w.os
 out : w'.output = w.output
 evs : ∀ e ∈ es, EvS K S' e \/ Ex e
theorem Does.none {Ex : Event -> Prop} {K S : Nat -> Prop} (w : World) : Does Ex K S S w w #[] := ⟨Nat.le_refl _, fun _ h => h, fun _ h => Or.inl h, fun _ _ _ => rfl, rfl, rfl, rfl, by simp⟩
section
variable (M : Program) (main : Bool) (Live : World -> Prop) (Ex : Event -> Prop) (Stop : Nat -> (Nat -> Prop) -> Goroutine -> World -> Prop) (Snd : Nat -> (Nat -> Prop) -> Value -> World -> Prop) (ch : Nat) (K : Nat -> Prop)
def Way : Rk -> Nat -> (Nat -> Prop) -> Goroutine -> World -> Prop
 | .z, σ, S, g, w => ∀ w₁, Sees Live K S w w₁ -> Stop σ S g w₁
 | .s f, σ, S, g, w => (∀ w₁, Sees Live K S w w₁ -> Stop σ S g w₁) \/ (g.status = .running /\ ∀ w₁, Sees Live K S w w₁ ->
   (∃ g' w' es S', stepG M main g w₁ = .go g' w' es /\ Does Ex K S S' w₁ w' es /\ Way (f w₁) σ S' g' w') \/
   (∃ g1 v z S', stepG M main g w₁ = .comm g1 #[⟨.chan (some ch), some v, z⟩] true .send w₁ #[] /\ (∀ c, S' c -> S c) /\ Snd σ (fun c => S c /\ ¬ S' c) v w₁ /\ Way (f w₁) (σ + 1) S' (g1.finishComm M #[⟨.chan (some ch), some v, z⟩] .send 0 undef false) w₁))
def WayE (σ : Nat) (S : Nat -> Prop) (g : Goroutine) (w : World) : Prop := ∃ r, Way M main Live Ex Stop Snd ch K r σ S g w
end
section
variable {main : Bool} {Live : World -> Prop} {Ex : Event -> Prop} {Stop : Nat -> (Nat -> Prop) -> Goroutine -> World -> Prop} {Snd : Nat -> (Nat -> Prop) -> Value -> World -> Prop} {ch : Nat} {K : Nat -> Prop}
theorem Way.rely {r : Rk} {σ : Nat} {S : Nat -> Prop} {g : Goroutine} {w w₁ : World} (h : Way M main Live Ex Stop Snd ch K r σ S g w) (hs : Sees Live K S w w₁) : Way M main Live Ex Stop Snd ch K r σ S g w₁ := by
 cases r with
 | z => exact fun w₂ h₂ => h w₂ (hs.trans h₂)
 | s f =>
  rcases h with h | ⟨hr, h⟩
  ·exact Or.inl fun w₂ h₂ => h w₂ (hs.trans h₂)
  ·exact Or.inr ⟨hr, fun w₂ h₂ => h w₂ (hs.trans h₂)⟩
theorem WayE.rely {σ : Nat} {S : Nat -> Prop} {g : Goroutine} {w w₁ : World} (h : WayE M main Live Ex Stop Snd ch K σ S g w) (hs : Sees Live K S w w₁) : WayE M main Live Ex Stop Snd ch K σ S g w₁ := let ⟨r, h⟩ := h; ⟨r, h.rely hs⟩
theorem WayE.stop {σ : Nat} {S : Nat -> Prop} {g : Goroutine} {w : World} (h : ∀ w₁, Sees Live K S w w₁ -> Stop σ S g w₁) : WayE M main Live Ex Stop Snd ch K σ S g w := ⟨.z, h⟩
open Classical in
theorem WayE.step {σ : Nat} {S : Nat -> Prop} {g : Goroutine} {w : World} (hr : g.status = .running) (h : ∀ w₁, Sees Live K S w w₁ ->
   (∃ g' w' es S', stepG M main g w₁ = .go g' w' es /\ Does Ex K S S' w₁ w' es /\ WayE M main Live Ex Stop Snd ch K σ S' g' w') \/
   (∃ g1 v z S', stepG M main g w₁ = .comm g1 #[⟨.chan (some ch), some v, z⟩] true .send w₁ #[] /\ (∀ c, S' c -> S c) /\ Snd σ (fun c => S c /\ ¬ S' c) v w₁ /\ WayE M main Live Ex Stop Snd ch K (σ + 1) S' (g1.finishComm M #[⟨.chan (some ch), some v, z⟩] .send 0 undef false) w₁)) :
  WayE M main Live Ex Stop Snd ch K σ S g w := by
 have h2 : ∀ w₁, Sees Live K S w w₁ -> ∃ r, (∃ g' w' es S', stepG M main g w₁ = .go g' w' es /\ Does Ex K S S' w₁ w' es /\ Way M main Live Ex Stop Snd ch K r σ S' g' w') \/
   (∃ g1 v z S', stepG M main g w₁ = .comm g1 #[⟨.chan (some ch), some v, z⟩] true .send w₁ #[] /\ (∀ c, S' c -> S c) /\ Snd σ (fun c => S c /\ ¬ S' c) v w₁ /\ Way M main Live Ex Stop Snd ch K r (σ + 1) S' (g1.finishComm M #[⟨.chan (some ch), some v, z⟩] .send 0 undef false) w₁) := by
  intro w₁ hs
  rcases h w₁ hs with ⟨g', w', es, S', h1, h2, r, h3⟩ | ⟨g1, v, z, S', h1, h0, h2, r, h3⟩
  ·exact ⟨r, Or.inl ⟨g', w', es, S', h1, h2, h3⟩⟩
  ·exact ⟨r, Or.inr ⟨g1, v, z, S', h1, h0, h2, h3⟩⟩
 refine ⟨.s (fun w₁ => if hs : Sees Live K S w w₁ then (h2 w₁ hs).choose else .z), Or.inr ⟨hr, fun w₁ hs => ?_⟩⟩
 have e : (fun w₁ => if hs : Sees Live K S w w₁ then (h2 w₁ hs).choose else Rk.z) w₁ = (h2 w₁ hs).choose := dif_pos hs
 rw [e]
 exact (h2 w₁ hs).choose_spec
theorem WayE.go {σ : Nat} {S : Nat -> Prop} {g : Goroutine} {w : World} (hr : g.status = .running) (h : ∀ w₁, Sees Live K S w w₁ -> ∃ g' w' es S', stepG M main g w₁ = .go g' w' es /\ Does Ex K S S' w₁ w' es /\ WayE M main Live Ex Stop Snd ch K σ S' g' w') :
  WayE M main Live Ex Stop Snd ch K σ S g w := WayE.step hr fun w₁ hs => Or.inl (h w₁ hs)
theorem WayE.bind {Stop2 : Nat -> (Nat -> Prop) -> Goroutine -> World -> Prop} (hb : ∀ σ S g w, Stop σ S g w -> WayE M main Live Ex Stop2 Snd ch K σ S g w) : ∀ (r : Rk) {σ : Nat} {S : Nat -> Prop} {g : Goroutine} {w : World}, Way M main Live Ex Stop Snd ch K r σ S g w -> WayE M main Live Ex Stop2 Snd ch K σ S g w := by
 intro r
 induction r with
 | z => intro σ S g w h; exact hb _ _ _ _ (h w (Sees.refl w))
 | s f ih =>
  intro σ S g w h
  rcases h with h | ⟨hr, h⟩
  ·exact hb _ _ _ _ (h w (Sees.refl w))
  ·refine WayE.step hr fun w₁ hs => ?_
   rcases h w₁ hs with ⟨g', w', es, S', h1, h2, h3⟩ | ⟨g1, v, z, S', h1, h0, h2, h3⟩
   ·exact Or.inl ⟨g', w', es, S', h1, h2, ih w₁ h3⟩
   ·exact Or.inr ⟨g1, v, z, S', h1, h0, h2, ih w₁ h3⟩
theorem WayE.sends {Snd2 : Nat -> (Nat -> Prop) -> Value -> World -> Prop} (hs2 : ∀ σ S v w, Snd σ S v w -> Snd2 σ S v w) : ∀ (r : Rk) {σ : Nat} {S : Nat -> Prop} {g : Goroutine} {w : World}, Way M main Live Ex Stop Snd ch K r σ S g w -> WayE M main Live Ex Stop Snd2 ch K σ S g w := by
 intro r
 induction r with
 | z => intro σ S g w h; exact WayE.stop h
 | s f ih =>
  intro σ S g w h
  rcases h with h | ⟨hr, h⟩
  ·exact WayE.stop h
  ·refine WayE.step hr fun w₁ hs => ?_
   rcases h w₁ hs with ⟨g', w', es, S', h1, h2, h3⟩ | ⟨g1, v, z, S', h1, h0, h2, h3⟩
   ·exact Or.inl ⟨g', w', es, S', h1, h2, ih w₁ h3⟩
   ·exact Or.inr ⟨g1, v, z, S', h1, h0, hs2 _ _ _ _ h2, ih w₁ h3⟩
theorem WayE.then {Stop2 : Nat -> (Nat -> Prop) -> Goroutine -> World -> Prop} {σ : Nat} {S : Nat -> Prop} {g : Goroutine} {w : World} (h : WayE M main Live Ex Stop Snd ch K σ S g w) (hb : ∀ σ S g w, Stop σ S g w -> WayE M main Live Ex Stop2 Snd ch K σ S g w) : WayE M main Live Ex Stop2 Snd ch K σ S g w :=
 let ⟨r, h⟩ := h; WayE.bind hb r h
end
def keptOf (N : Nat) (R : BR) : Nat -> Prop := fun c => ∃ b, R b c /\ b < N
def ownOf (N : Nat) (R : BR) : Nat -> Prop := fun c => ∃ b, R b c /\ N <= b
theorem Went.keptSame {N : Nat} {R R' : BR} {w w' w1 w1' : World} (h : Went N R R' w w' w1 w1') (hN : N <= w.heap.size) : keptOf N R' = keptOf N R := by
 funext c
 refine propext ⟨fun ⟨b, hb, hn⟩ => ?_, fun ⟨b, hb, hn⟩ => ⟨b, h.le.1 _ _ hb, hn⟩⟩
 rcases h.new b c hb with x | x
 ·exact ⟨b, x, hn⟩
 ·omega
theorem EvR.evS {N : Nat} {R : BR} {e : Event} (h : EvR N R e) : EvS (keptOf N R) (ownOf N R) e := by
 rcases h with ⟨a, b, wr, rfl, h1, h2⟩ | ⟨r, b, wr, rfl, h1, h2⟩ | rfl
 ·refine Or.inl ⟨a, wr, rfl, ?_⟩
  by_cases q : N <= b
  ·exact Or.inl ⟨b, h1, q⟩
  ·refine Or.inr ⟨⟨b, h1, by omega⟩, ?_⟩
   cases wr with
   | false => rfl
   | true => exact absurd (h2 rfl) q
 ·refine Or.inr (Or.inl ⟨r, wr, rfl, ?_⟩)
  by_cases q : N <= b
  ·exact Or.inl ⟨b, h1, q⟩
  ·refine Or.inr ⟨⟨b, h1, by omega⟩, ?_⟩
   cases wr with
   | false => rfl
   | true => exact absurd (h2 rfl) q
 ·exact Or.inr (Or.inr rfl)
theorem Went.does {N : Nat} {R R' : BR} {w w' w1 w1' : World} (h : Went N R R' w w' w1 w1') (hw : WRel N R w w') {Ex : Event -> Prop} {es : Array Event} (he : ∀ e ∈ es, EvR N R' e) : Does Ex (keptOf N R) (ownOf N R) (ownOf N R') w' w1' es := by
 refine ⟨h.size, fun c ⟨b, x, y⟩ => ⟨b, h.le.1 _ _ x, y⟩, fun c ⟨b, x, y⟩ => ?_, fun c hc hn => h.kept c hc fun b x => ?_, h.tp, h.os, h.out, fun e hx => ?_⟩
 ·rcases h.new b c x with z | z
  ·exact Or.inl ⟨b, z, y⟩
  ·exact Or.inr ⟨z.2, (h.rel.lt x).2⟩
 ·exact Nat.lt_of_not_le fun q => hn ⟨b, x, q⟩
 ·rw [<- h.keptSame hw.low]
  exact Or.inl (he e hx).evS
theorem WRel.sees {N : Nat} {R : BR} {Live : World -> Prop} {w w' w₁ : World} (h : WRel N R w w') (hs : Sees Live (keptOf N R) (ownOf N R) w' w₁) : WRel N R (w.tp w₁.tape w₁.drawn) w₁ := by
 refine ⟨h.one, fun b c hb => ?_, rfl, rfl, h.low⟩
 obtain ⟨o, o', e1, e2, ho⟩ := h.blk b c hb
 refine ⟨o, o', e1, ?_, ho⟩
 rw [hs.same c (by by_cases q : N <= b; exact Or.inr ⟨b, hb, q⟩; exact Or.inl ⟨b, hb, by omega⟩)]
 exact e2
def TStop (L M : Program) (X : FuncId -> Prop) (N : Nat) (K : Nat -> Prop) (FinP : Frame -> World -> Prop) (rest : List Frame) (S : Nat -> Prop) (g : Goroutine) (w : World) : Prop :=
 (∃ R fr fr' wl, g = G fr' rest /\ fr.mode = .returning /\ FRel L R fr fr' /\ WRel N R wl w /\ S = ownOf N R /\ K = keptOf N R /\ ∀ τ d, FinP fr (wl.tp τ d)) \/
 (∃ R f a a' cs cs' wl, X f /\ g = G (Frame.enter M f a' .normal) (cs' ++ rest) /\ RRel R a a' /\ CsRel L R cs cs' /\ WRel N R wl w /\ S = ownOf N R /\ K = keptOf N R /\ Tree L FinP (Frame.enter L f a .normal) cs wl)
theorem Tree.tp {FinP : Frame -> World -> Prop} {fr : Frame} {cs : List Frame} {w : World} (h : Tree L FinP fr cs w) (τ : Nat -> Question -> Nat) (d : Nat) : Tree L FinP fr cs (w.tp τ d) := by
 cases h with
 | fin h1 h2 h3 => exact .fin h1 (fun τ' d' => h2 τ' d') (h3.tp τ d)
 | step h1 h2 F C V h3 h4 => exact .step h1 (h2.tp τ d) F C V (fun τ' d' => h3 τ' d') h4
theorem way_of_tree [T : Twin3 L M] {X : FuncId -> Prop} (B : Bodies L M X) (hz : ZeroOk L) {FinP : Frame -> World -> Prop} {main : Bool} {Live : World -> Prop} {Ex : Event -> Prop} {Snd : Nat -> (Nat -> Prop) -> Value -> World -> Prop} {ch : Nat} {rest : List Frame} {N : Nat} {K : Nat -> Prop} {σ : Nat} {fr : Frame} {cs : List Frame} {wl : World}
  (h : Tree L FinP fr cs wl) : ∀ {R : BR} {fr' : Frame} {cs' : List Frame} {w : World}, FRel L R fr fr' -> CsRel L R cs cs' -> WRel N R (wl.tp w.tape w.drawn) w -> K = keptOf N R ->
   WayE M main Live Ex (fun σ' S g w => σ' = σ /\ TStop L M X N K FinP rest S g w) Snd ch K σ (ownOf N R) (G fr' (cs' ++ rest)) w := by
 induction h with
 | @fin fr wl hm hF hS =>
  intro R fr' cs' w hf hcs hw hK
  cases hcs
  subst hK
  refine WayE.stop fun w₁ hs => ?_
  exact ⟨rfl, Or.inl ⟨R, fr, fr', _, by rw [List.nil_append], hm, hf, hw.sees hs, rfl, rfl, fun τ d => hF τ d⟩⟩
 | @step fr cs wl hne hS F C V h1 h2 ih =>
  intro R fr' cs' w hf hcs hw hK
  subst hK
  refine WayE.go rfl fun w₁ hs => ?_
  have hw1 := hw.sees hs
  rw [tp_tp] at hw1
  obtain ⟨⟨es, e⟩, hm⟩ := h1 w₁.tape w₁.drawn
  obtain ⟨R', fr1', cs1, cs1', w1', es', hcx, hM, hst, hloc⟩ := step_sim (rest := rest) B hz main hf hcs hw1 e hm hne
  have hC : cs1 = C w₁.tape w₁.drawn := (List.append_cancel_right hcx).symm
  subst hC
  have hrel : WRel N R' ((V w₁.tape w₁.drawn).tp w1'.tape w1'.drawn) w1' := by
   rw [tp_self hst.went.rel.tape hst.went.rel.drawn]
   exact hst.went.rel
  refine ⟨_, w1', es', ownOf N R', hM, hst.went.does hw1 hst.evs, ?_⟩
  rcases hst.after with ⟨hf1, hc1⟩ | ⟨f, a, a', hX, _, e1, e2, ha, hc1, _⟩
  ·exact ih _ _ hf1 hc1 hrel (hst.went.keptSame hw1.low).symm
  ·refine WayE.stop fun w₂ hs2 => ⟨rfl, Or.inr ⟨R', f, a, a', C w₁.tape w₁.drawn, cs1', ((V w₁.tape w₁.drawn).tp w1'.tape w1'.drawn).tp w₂.tape w₂.drawn, hX, by rw [e2], ha, hc1, ?_, rfl, (hst.went.keptSame hw1.low).symm, ?_⟩⟩
   ·rw [<- hst.went.keptSame hw1.low] at hs2
    exact hrel.sees hs2
   ·rw [<- e1]
    exact ((h2 w₁.tape w₁.drawn).tp _ _).tp _ _
end
section
open Go Go.Conc
variable {L M : Program}
def resVar (t : Array Value) : ResultVar -> Value
 | .tmp i => t.getD i undef
 | .cell _ _ => undef
def packed (vs : Array Value) : Value := if h : vs.size = 1 then vs[0] else .tuple vs
def resOf (fn : Func) (t : Array Value) : Value := packed (fn.results.map (resVar t))
def tmpRes (fn : Func) : Bool := fn.results.all fun | .tmp _ => true | _ => false
theorem mapM_tmps {t : Array Value} {f : ResultVar -> Sem Value} (hf : ∀ i, f (.tmp i) = pure (t.getD i undef)) : ∀ l : List ResultVar, (∀ x ∈ l, ∃ i, x = .tmp i) -> l.mapM f = pure (l.map (resVar t))
 | [], _ => by rw [List.mapM_nil]; rfl
 | x :: l, hl => by
  obtain ⟨i, e⟩ := hl x (by simp)
  subst e
  rw [List.mapM_cons, mapM_tmps hf l (fun y hy => hl y (by simp [hy])), hf]
  rfl
theorem results_pure {fn : Func} (h : tmpRes fn = true) (t : Array Value) : results fn t = pure (resOf fn t) := by
 unfold results
 rw [Array.mapM_eq_mapM_toList, mapM_tmps (t := t) (fun i => rfl) fn.results.toList (fun x hx => ?_)]
 ·have e : (List.map (resVar t) fn.results.toList).toArray = fn.results.map (resVar t) := by
   rw [<- Array.toList_map]
  simp only [map_pure, pure_bind, resOf, e]
  rfl
 ·unfold tmpRes at h
  rw [<- Array.all_toList, List.all_eq_true] at h
  have := h x hx
  cases x with
  | tmp i => exact ⟨i, rfl⟩
  | cell a ty => simp at this
theorem packed_rel {R : BR} {c c' : Array Value} (h : RRel R c c') : VRel R (packed c) (packed c') := by
 unfold packed
 by_cases q : c.size = 1
 ·rw [dif_pos q, dif_pos (by rw [<- h.1]; exact q)]
  exact h.2 0 (by omega) (by rw [<- h.1]; omega)
 ·rw [dif_neg q, dif_neg (by rw [<- h.1]; exact q)]
  exact h.tup
theorem resOf_rel {R : BR} {fn fn' : Func} (he : fn'.results = fn.results) {t t' : Array Value} (h : RRel R t t') : VRel R (resOf fn t) (resOf fn' t') := by
 unfold resOf
 rw [he]
 refine packed_rel ⟨by simp, fun i h1 h2 => ?_⟩
 simp only [Array.getElem_map]
 cases fn.results[i]'(by simpa using h1) with
 | tmp j => exact h.getD j
 | cell a ty => exact VRel.undef
def FinF (L : Program) (f : FuncId) (Post : Value -> World -> Prop) (fr : Frame) (w : World) : Prop := fr.fn = f /\ ∃ fn, L.funcs[f]? = some fn /\ ∀ τ d, Post (resOf fn fr.tmps) (w.tp τ d)
theorem good_of_calls {f : FuncId} {fn : Func} (hf : L.funcs[f]? = some fn) (hres : tmpRes fn = true) {a : Array Value} {w : World} {Post : Value -> World -> Prop} (hP : ∀ v w τ d, Post v w -> Post v (w.tp τ d))
  (hC : ∀ τ d, Calls L f a (w.tp τ d) fun e w' => ∃ v, e = .returned v /\ Post v w') : Good L (FinF L f Post) (Frame.enter L f a .normal) [] w := by
 intro τ d
 obtain ⟨e, w', fr, ⟨v, rfl, hv⟩, hc, hfn, hl⟩ := hC τ d [door L]
 obtain ⟨n, hn⟩ := hc
 obtain ⟨h1, h2, h3, fn', hf', hr⟩ := hl
 rw [hfn] at hf'
 rw [hf] at hf'
 cases hf'
 rw [results_pure hres] at hr
 have hv2 : v = resOf fn fr.tmps := by
  simp [pure] at hr
  exact hr.symm
 exact ⟨n, fr, w', hn, h1, hfn, fn, hf, fun τ d => by rw [<- hv2]; exact hP _ _ _ _ hv⟩
theorem FinF.tp {f : FuncId} {Post : Value -> World -> Prop} : ∀ fr w τ d, FinF L f Post fr w -> FinF L f Post fr (w.tp τ d) := fun _ _ _ _ ⟨h1, fn, h2, h3⟩ => ⟨h1, fn, h2, fun τ' d' => h3 τ' d'⟩
theorem san_ex (hx : xOther = false) : ∀ (n : Nat) (v : Value), SizeOf.sizeOf v <= n -> ∃ u, VRel (fun _ _ => False) u v := by
 intro n
 induction n with
 | zero => intro v h; cases v <;> simp at h
 | succ n ih =>
  intro v h
  have row : ∀ c : Array Value, SizeOf.sizeOf c <= n -> ∃ d : Array Value, d.size = c.size /\ ∀ i (h1 : i < d.size) (h2 : i < c.size), VRel (fun _ _ => False) d[i] c[i] := by
   intro c hc
   have hx : ∀ i : Fin c.size, ∃ u, VRel (fun _ _ => False) u c[i] := fun i => ih _ (by have := Array.sizeOf_getElem c i.val i.isLt; simp only [Fin.getElem_fin]; omega)
   obtain ⟨f, hf⟩ := Classical.axiomOfChoice hx
   exact ⟨Array.ofFn f, by simp, fun i h1 h2 => by simp only [Array.getElem_ofFn]; exact hf ⟨i, h2⟩⟩
  cases v with
  | bool b => exact ⟨_, .bool b⟩
  | int k n => exact ⟨_, .int k n⟩
  | string s => exact ⟨_, .string s⟩
  | agg c =>
   obtain ⟨d, h1, h2⟩ := row c (by simp at h; omega)
   exact ⟨.agg d, .agg h1 h2⟩
  | tuple c =>
   obtain ⟨d, h1, h2⟩ := row c (by simp at h; omega)
   exact ⟨.tuple d, .tuple h1 h2⟩
  | iface t v =>
   obtain ⟨u, hu⟩ := ih v (by simp at h; omega)
   exact ⟨.iface t u, .iface t hu⟩
  | nilIface => exact ⟨_, .nilIface⟩
  | pointer o =>
   cases o with
   | none => exact ⟨_, .nilPtr⟩
   | some a => exact ⟨.tuple #[], .junk hx rfl⟩
  | nilFunc => exact ⟨_, .nilFunc⟩
  | func fn f c =>
   cases fn with
   | method n => exact ⟨.func (.method n) #[.nilIface] #[], .junkM hx⟩
   | _ => exact ⟨.tuple #[], .junk hx rfl⟩
  | _ => exact ⟨.tuple #[], .junk hx rfl⟩
noncomputable def sanV (v : Value) : Value := match v with
 | .bool b => .bool b
 | .int k n => .int k n
 | .string s => .string s
 | v => if h : xOther = false then Classical.choose (san_ex h _ v (Nat.le_refl _)) else v
theorem sanV_rel {R : BR} (hx : xOther = false) (hR : R.One) (v : Value) : VRel R (sanV v) v := by
 have hle : BR.le (fun _ _ => False) R := ⟨fun _ _ h => h.elim, fun _ => hR⟩
 cases v with
 | bool b => exact .bool b
 | int k n => exact .int k n
 | string s => exact .string s
 | _ => simp only [sanV, dif_pos hx]; exact (Classical.choose_spec (san_ex hx _ _ (Nat.le_refl _))).mono hle
noncomputable def _root_.Go.World.frz (w : World) : World := { w with heap := w.heap.map fun | .cells c e _ => .cells (c.map sanV) e (0, c.size) | o => o }
theorem frz_cell (w : World) (a : Addr) : w.frz.cell? a = (w.cell? a).map sanV := by
 unfold World.cell? World.frz
 simp only [Array.getElem?_map]
 cases w.heap[a.block]? with
 | none => rfl
 | some o =>
  cases o with
  | cells c e f =>
   simp only [Option.map_some]
   split
   ·rfl
   ·simp
  | _ => rfl
theorem frz_size (w : World) : w.frz.heap.size = w.heap.size := by simp [World.frz]
def idOn (K : Nat -> Prop) : BR := fun b c => b = c /\ K b
def Closed (K : Nat -> Prop) (w : World) : Prop := ∀ b, K b -> (∃ c e f, w.heap[b]? = some (.cells c e f) /\ xOther = false) \/ (xOther = false /\ ∃ a l, w.heap[b]? = some (.number a l) /\ ARel (idOn K) a a)
theorem Closed.lt {K : Nat -> Prop} {w : World} (h : Closed K w) {b : Nat} (hb : K b) : b < w.heap.size := by
 rcases h b hb with ⟨_, _, _, hx, _⟩ | ⟨_, _, _, hx, _⟩
 ·exact (Array.getElem?_eq_some_iff.1 hx).1
 ·exact (Array.getElem?_eq_some_iff.1 hx).1
theorem idOn_one (K : Nat -> Prop) : (idOn K).One := ⟨fun _ _ _ h h' => h.1.symm.trans h'.1, fun _ _ _ h h' => h.1.trans h'.1.symm⟩
theorem frz_rel {K : Nat -> Prop} {w : World} (h : Closed K w) : WRel w.heap.size (idOn K) w.frz w := by
 refine ⟨idOn_one K, ?_, rfl, rfl, by rw [frz_size]; exact Nat.le_refl _⟩
 rintro b c ⟨rfl, hb⟩
 rcases h b hb with ⟨x, e, f, hx, hxo⟩ | ⟨ho, a, l, hx, hr⟩
 ·exact ⟨.cells (x.map sanV) e (0, x.size), .cells x e f, by simp [World.frz, hx], hx, .cells ⟨by simp, fun i h1 h2 => by simp only [Array.getElem_map]; exact sanV_rel hxo (idOn_one K) _⟩ (fun _ i hi => ⟨Nat.zero_le _, by simpa using hi⟩) (fun q => absurd (Array.getElem?_eq_some_iff.1 hx).1 q)⟩
 ·exact ⟨.number a l, .number a l, by simp [World.frz, hx], hx, .other (.number hr) (fun q => by rw [ho] at q; cases q)⟩
theorem keptOf_id {K : Nat -> Prop} {w : World} (h : Closed K w) : keptOf w.heap.size (idOn K) = K := by
 funext c
 refine propext ⟨fun ⟨b, ⟨e, hb⟩, _⟩ => e ▸ hb, fun hc => ⟨c, ⟨rfl, hc⟩, ?_⟩⟩
 exact h.lt hc
theorem ownOf_id {K : Nat -> Prop} {w : World} (h : Closed K w) : ownOf w.heap.size (idOn K) = fun _ => False := by
 funext c
 refine propext ⟨fun ⟨b, ⟨_, hb⟩, hn⟩ => ?_, fun q => q.elim⟩
 have := h.lt hb
 omega
section
variable {main : Bool} {Live : World -> Prop} {Ex : Event -> Prop} {Snd : Nat -> (Nat -> Prop) -> Value -> World -> Prop} {ch : Nat}
theorem WayE.frame {Stop : Nat -> (Nat -> Prop) -> Goroutine -> World -> Prop} {K K' S₀ : Nat -> Prop} (hK : ∀ c, K' c -> K c) (hNo : ∀ σ S v w, ¬ Snd σ S v w) {Lv : Nat -> Prop} (hLv : ∀ w w' : World, (∀ c, Lv c -> w'.heap[c]? = w.heap[c]?) -> Live w -> Live w') (w0 : World) (hlv : ∀ c, Lv c -> c < w0.heap.size) : ∀ (r : Rk) {σ : Nat} {S : Nat -> Prop} {g : Goroutine} {w : World}, Way M main Live Ex Stop Snd ch K' r σ S g w ->
  Sees Live K S₀ w0 w -> (∀ c, K c \/ S₀ c -> c < w0.heap.size) -> (∀ c, S c -> w0.heap.size <= c) ->
  WayE M main Live Ex (fun σ S₁ g w₁ => ∃ S', S₁ = (fun c => S₀ c \/ S' c) /\ Stop σ S' g w₁ /\ Sees Live K S₀ w0 w₁ /\ ∀ c, S' c -> w0.heap.size <= c) Snd ch K σ (fun c => S₀ c \/ S c) g w := by
 intro r
 induction r with
 | z =>
  intro σ S g w h hs hlt hS
  refine WayE.stop fun w₁ hs1 => ⟨S, rfl, h w₁ (hs1.mono fun c hc => ?_), hs.trans (hs1.mono fun c hc => ?_), hS⟩
  ·rcases hc with hc | hc
   ·exact Or.inl (hK c hc)
   ·exact Or.inr (Or.inr hc)
  ·rcases hc with hc | hc
   ·exact Or.inl hc
   ·exact Or.inr (Or.inl hc)
 | s f ih =>
  intro σ S g w h hs hlt hS
  have up1 : ∀ {w₁}, Sees Live K (fun c => S₀ c \/ S c) w w₁ -> Sees Live K' S w w₁ := fun hs1 => hs1.mono fun c hc => by
   rcases hc with hc | hc
   ·exact Or.inl (hK c hc)
   ·exact Or.inr (Or.inr hc)
  have up2 : ∀ {w₁}, Sees Live K (fun c => S₀ c \/ S c) w w₁ -> Sees Live K S₀ w w₁ := fun hs1 => hs1.mono fun c hc => by
   rcases hc with hc | hc
   ·exact Or.inl hc
   ·exact Or.inr (Or.inl hc)
  rcases h with h | ⟨hr, h⟩
  ·exact WayE.stop fun w₁ hs1 => ⟨S, rfl, h w₁ (up1 hs1), hs.trans (up2 hs1), hS⟩
  ·refine WayE.go hr fun w₁ hs1 => ?_
   rcases h w₁ (up1 hs1) with ⟨g', w', es, S', e, hd, hw⟩ | ⟨g1, v, z, S', _, _, hsn, _⟩
   ·have hs2 := hs.trans (up2 hs1)
    have hd2 : Sees Live K S₀ w₁ w' := by
     refine ⟨hd.size, fun c hc => hd.kept c ?_ ?_, hd.tape, hd.os, hd.out, ?_⟩
     ·exact Nat.lt_of_lt_of_le (hlt c hc) hs2.size
     ·intro q
      have := hS c q
      have := hlt c hc
      omega
     ·refine hLv _ _ fun c hc => hd.kept c ?_ ?_
      ·exact Nat.lt_of_lt_of_le (hlv c hc) hs2.size
      ·intro q
       have := hS c q
       have := hlv c hc
       omega
    refine ⟨g', w', es, fun c => S₀ c \/ S' c, e, ⟨hd.size, fun c hc => hc.imp id (hd.sub c), fun c hc => ?_, fun c hc hn => hd.kept c hc fun q => hn (Or.inr q), hd.tape, hd.os, hd.out, fun x hx => ?_⟩, ?_⟩
    ·rcases hc with hc | hc
     ·exact Or.inl (Or.inl hc)
     ·exact (hd.new c hc).imp Or.inr id
    ·rcases hd.evs x hx with (⟨a, wr, rfl, q⟩ | ⟨r, wr, rfl, q⟩ | rfl) | q
     ·refine Or.inl (Or.inl ⟨a, wr, rfl, ?_⟩)
      rcases q with q | q
      ·exact Or.inl (Or.inr q)
      ·exact Or.inr ⟨hK _ q.1, q.2⟩
     ·exact Or.inl (Or.inr (Or.inl ⟨r, wr, rfl, q.elim (fun q => Or.inl (Or.inr q)) (fun q => Or.inr ⟨hK _ q.1, q.2⟩)⟩))
     ·exact Or.inl (Or.inr (Or.inr rfl))
     ·exact Or.inr q
    ·refine ih w₁ hw (hs2.trans hd2) hlt fun c hc => ?_
     rcases hd.new c hc with q | q
     ·exact hS c q
     ·have := hs2.size
      omega
   ·exact (hNo _ _ _ _ hsn).elim
theorem call_way [T : Twin3 L M] [Twin3 L L] (W : Whole L) {X : FuncId -> Prop} (B : Bodies L M X) {Stop : Nat -> (Nat -> Prop) -> Goroutine -> World -> Prop} {K S₀ Kc Lv : Nat -> Prop} (hLv : ∀ w w' : World, (∀ c, Lv c -> w'.heap[c]? = w.heap[c]?) -> Live w -> Live w')
  (hX : ∀ f, X f -> ∃ t, ((L.funcs[f]?).bind (·.body)).getD (.refuse "unsupported: a function without a Go body is entered") = .refuse t)
  {f : FuncId} {fn : Func} (hf : L.funcs[f]? = some fn) (hb : fn.body.isSome = true) (hnX : ¬ X f) (hres : tmpRes fn = true) {a : Array Value} {w : World} {Post : Value -> World -> Prop} (hP : ∀ v w τ d, Post v w -> Post v (w.tp τ d))
  (hKc : ∀ c, Kc c -> K c) (hcl : Closed Kc w) (ha : RRel (idOn Kc) a a) (hlt : ∀ c, K c \/ S₀ c -> c < w.heap.size) (hlv : ∀ c, Lv c -> c < w.heap.size)
  (hC : ∀ τ d, Calls L f a (w.frz.tp τ d) fun e w' => ∃ v, e = .returned v /\ Post v w') {c : Frame} {cs : List Frame} {σ : Nat}
  (hgo : ∀ v' w₁ S', Sees Live K S₀ w w₁ -> (∀ c, S' c -> w.heap.size <= c) -> (∃ R wl v, VRel R v v' /\ WRel w.heap.size R wl w₁ /\ Post v wl /\ S' = ownOf w.heap.size R) -> WayE M main Live Ex Stop Snd ch K σ (fun c => S₀ c \/ S' c) (G (c.finish v') cs) w₁) :
  WayE M main Live Ex Stop Snd ch K σ S₀ (G (Frame.enter M f a .normal) (c :: cs)) w := by
 have hent : FRel L (idOn Kc) (Frame.enter L f a .normal) (Frame.enter M f a .normal) := enter_rel B hf hb hnX ha
 have hrel := frz_rel hcl
 have hG := good_of_calls hf hres hP hC
 have hT := tree_of_good W (FinF.tp (L := L) (f := f) (Post := Post)) hG ⟨_, _, _, [], _, hent, .nil, hrel⟩
 have hway := way_of_tree (M := M) (main := main) (Live := Live) (Ex := Ex) (Snd := fun _ _ _ _ => False) (ch := ch) (rest := c :: cs) (σ := σ) (K := Kc) B W.zero hT hent .nil (w := w) (by
  have e : w.frz.tp w.tape w.drawn = w.frz := rfl
  rw [e]
  exact hrel) (keptOf_id hcl).symm
 rw [ownOf_id hcl] at hway
 obtain ⟨r, hway⟩ := hway
 have hfr := WayE.frame (K := K) (S₀ := S₀) hKc (fun _ _ _ _ q => q) hLv w hlv r hway (Sees.refl w) hlt (fun c q => q.elim)
 have e0 : (fun c => S₀ c \/ (fun _ => False) c) = S₀ := by
  funext c
  simp
 rw [e0] at hfr
 obtain ⟨r2, hfr⟩ := hfr
 refine (WayE.sends (Snd2 := Snd) (fun _ _ _ _ q => q.elim) r2 hfr).then ?_
 rintro σ₁ S₁ g w₁ ⟨S', rfl, ⟨rfl, hst⟩, hsees, hnew⟩
 rcases hst with ⟨R, fr, fr', wl, rfl, hm, hfR, hwR, rfl, hkk, hF⟩ | ⟨R, f', a1, a2, cs1, cs2, wl, hXf, rfl, _, _, _, _, _, hTr⟩
 ·obtain ⟨ho, t, rfl, ht⟩ := hfR
  obtain ⟨rfl, fn1, hfn1, hpost⟩ := hF wl.tape wl.drawn
  rw [hf] at hfn1
  cases hfn1
  have hM := B.same fr.fn fn hf hb hnX
  have hrun : ∀ w₂, stepG M main (G { fr with tmps := t } (c :: cs)) w₂ = .go (G (c.finish (resOf fn t)) cs) w₂ #[] := by
   intro w₂
   rw [stepG_ret _ _ _ _ _ (show ({ fr with tmps := t } : Frame).mode = .returning from hm)]
   have hev : (pure (resOf fn t) : Sem Value).events M w₂ #[] = #[] := rfl
   simp only [unwind, ho.defers, hm, hM, results_pure hres, Sem.runT_eq, doReturn, ho.kind, hev]
   have hr1 : (pure (resOf fn t) : Sem Value).run M w₂ = .ok (resOf fn t) w₂ := rfl
   have hsn : seen M fr.fn #[] = #[] := by rw [seen_def]; rfl
   rw [hr1, hsn]
   rfl
  refine WayE.go rfl fun w₂ hs2 => ⟨_, w₂, #[], _, hrun w₂, Does.none w₂, ?_⟩
  have hs3 : Sees Live K S₀ w w₂ := hsees.trans (hs2.mono fun c hc => hc.imp id Or.inl)
  have hw2 : WRel w.heap.size R (wl.tp w₂.tape w₂.drawn) w₂ := by
   refine ⟨hwR.one, fun b c hbc => ?_, rfl, rfl, hwR.low⟩
   obtain ⟨o, o', e1, e2, hor⟩ := hwR.blk b c hbc
   refine ⟨o, o', e1, ?_, hor⟩
   rw [hs2.same c ?_]
   ·exact e2
   ·by_cases q : w.heap.size <= b
    ·exact Or.inr (Or.inr ⟨b, hbc, q⟩)
    ·refine Or.inl (hKc c ?_)
     rw [hkk]
     exact ⟨b, hbc, by omega⟩
  exact hgo (resOf fn t) w₂ _ hs3 hnew ⟨R, wl.tp w₂.tape w₂.drawn, resOf fn fr.tmps, resOf_rel rfl ht, hw2, hP _ _ _ _ (hpost wl.tape wl.drawn), rfl⟩
 ·exfalso
  obtain ⟨tx, htx⟩ := hX f' hXf
  cases hTr with
  | fin h1 _ _ => cases h1
  | step _ _ F C V h1 _ =>
   obtain ⟨⟨es, e⟩, _⟩ := h1 wl.tape wl.drawn
   rw [stepG_run _ _ _ _ _ rfl] at e
   have htd : (Frame.enter L f' a1 .normal).todo = [.code (.refuse tx)] := by unfold Frame.enter; dsimp only; rw [htx]
   simp only [stepG.exec, htd] at e
   cases e
end
end
section
open Go Go.Conc
variable {M : Program}
def Rlt (x y : Rk) : Prop := ∃ f w, y = .s f /\ x = f w
theorem rlt_acc : ∀ r : Rk, Acc Rlt r := by
 intro r
 induction r with
 | z => exact ⟨_, fun y ⟨f, w, e, _⟩ => by cases e⟩
 | s f ih => exact ⟨_, fun y ⟨f', w, e, e2⟩ => by cases e; rw [e2]; exact ih w⟩
def Fam (N : Nat) (ρ' ρ : Nat -> Rk) : Prop := ∃ i, i < N /\ Rlt (ρ' i) (ρ i) /\ ∀ k, k ≠ i -> ρ' k = ρ k
theorem fam_acc : ∀ (N : Nat) (ρ : Nat -> Rk), Acc (Fam N) ρ := by
 intro N
 induction N with
 | zero => exact fun ρ => ⟨_, fun y ⟨i, h, _⟩ => by omega⟩
 | succ N ih =>
  have key : ∀ r : Rk, Acc Rlt r -> ∀ ρ : Nat -> Rk, Acc (Fam N) ρ -> ρ N = r -> Acc (Fam (N + 1)) ρ := by
   intro r hr
   induction hr with
   | intro r _ ihr =>
    intro ρ hρ
    induction hρ with
    | intro ρ _ ihρ =>
     intro e
     refine ⟨_, fun ρ' ⟨i, hi, hlt, hk⟩ => ?_⟩
     by_cases q : i = N
     ·subst q
      exact ihr (ρ' i) (by rw [<- e]; exact hlt) ρ' (ih ρ') rfl
     ·exact ihρ ρ' ⟨i, by omega, hlt, hk⟩ (by rw [hk N (by omega)]; exact e)
  exact fun ρ => key _ (rlt_acc _) ρ (ih ρ) rfl
theorem fam_wf (N : Nat) : WellFounded (Fam N) := ⟨fam_acc N⟩
theorem rlt_wf : WellFounded Rlt := ⟨rlt_acc⟩
abbrev Mea := Nat × (Nat -> Rk) × Rk
def MeaLt (N : Nat) : Mea -> Mea -> Prop := Prod.Lex (· < ·) (Prod.Lex (Fam N) Rlt)
theorem mea_wf (N : Nat) : WellFounded (MeaLt N) := (Prod.lex ⟨_, Nat.lt_wfRel.wf⟩ (Prod.lex ⟨_, fam_wf N⟩ ⟨_, rlt_wf⟩)).wf
section
variable {main : Bool} {Live : World -> Prop} {Ex : Event -> Prop} {Snd : Nat -> (Nat -> Prop) -> Value -> World -> Prop} {ch : Nat} {K : Nat -> Prop}
theorem WayE.ctl {Stop : Nat -> (Nat -> Prop) -> Goroutine -> World -> Prop} {σ : Nat} {S : Nat -> Prop} {g g' : Goroutine} {w : World} (hr : g.status = .running) (h : ∀ w, stepG M main g w = .go g' w #[]) (hn : WayE M main Live Ex Stop Snd ch K σ S g' w) : WayE M main Live Ex Stop Snd ch K σ S g w :=
 WayE.go hr fun w₁ hs => ⟨g', w₁, #[], S, h w₁, Does.none w₁, hn.rely hs⟩
end
end
end Go.Proofs.YtfhhcfcjhlkdoaaGreat
