/- Of the proof: Qg, Qf -/
import Derived.Conc.TokenWalk
import Derived.Test.YtmmeapmlfopleaaGreatBAi
namespace Go.Proofs.YtmmeapmlfopleaaGreat
section
open Go Go.Conc Go.ConcN Go.RowKit Go.Conc.Lib Go.ConcR.Gen Go.ConcN.Gen
open Go.ConcR (KK wgBlock WgAt stA smA rd wr mk Payload Aside2 DC0)
def KeepB (B:Nat->Prop) (w0 u:World):Prop:=(∀ e,B e->u.heap[e]?=w0.heap[e]?)/\u.tape=w0.tape/\u.os=w0.os/\u.output=w0.output/\w0.heap.size<=u.heap.size
section
variable {Goal:Machine->Trace->Prop} {Shun:Nat->Prop} {c:Frame} {cs:List Frame} {B:Nat->Prop} {w0:World} {ch bo many:Nat} {rows:Nat->Int}
end
end
section
open Go Go.Conc Go.ConcN Go.RowKit Go.Conc.Lib Go.ConcR.Gen Go.ConcN.Gen
open Go.ConcR (KK wgBlock WgAt stA smA rd wr mk Payload Aside2 DC0)
theorem grid_rel1 {R:BR} (wd:Int) {x:Value} (hx:VRel R x x):RRel R #[.agg #[.int .i64 wd,x]] #[.agg #[.int .i64 wd,x]]:=by
 refine ⟨rfl,fun i h h'=>?_⟩
 match i,h with
 | 0,_ =>
  refine .agg rfl fun j h h'=>?_
  match j,h with
  | 0,_=>exact .int _ _
  | 1,_=>exact hx
theorem ints_eq {R:BR} {c c':Array Value} (hs:c.size=c'.size) (hv:∀ i (h:i < c.size) (h':i < c'.size),VRel R c[i] c'[i]) (hc:∀ i (h:i < c.size),∃ n,c[i]=.int .i64 n):c'=c:=by
 refine Array.ext hs.symm fun i h h'=>?_
 obtain ⟨n,e⟩:=hc i h'
 have:=hv i h' h
 rw [e] at this ⊢
 exact vrel_int this
theorem vrel_sides {R:BR} {x0 x1 x2 x3 x4 x5 x6 x7 x8 x9 x10 x11 x12 x13 x14 x15 x16 x17 x18 x19 x20 x21 x22 x23:Int} {v:Value} (h:VRel R (.agg #[.int .i64 x0,.int .i64 x1,.int .i64 x2,.int .i64 x3,.int .i64 x4,.int .i64 x5,.int .i64 x6,.int .i64 x7,.int .i64 x8,.int .i64 x9,.int .i64 x10,.int .i64 x11,.int .i64 x12,.int .i64 x13,.int .i64 x14,.int .i64 x15,.int .i64 x16,.int .i64 x17,.int .i64 x18,.int .i64 x19,.int .i64 x20,.int .i64 x21,.int .i64 x22,.int .i64 x23]) v):v=.agg #[.int .i64 x0,.int .i64 x1,.int .i64 x2,.int .i64 x3,.int .i64 x4,.int .i64 x5,.int .i64 x6,.int .i64 x7,.int .i64 x8,.int .i64 x9,.int .i64 x10,.int .i64 x11,.int .i64 x12,.int .i64 x13,.int .i64 x14,.int .i64 x15,.int .i64 x16,.int .i64 x17,.int .i64 x18,.int .i64 x19,.int .i64 x20,.int .i64 x21,.int .i64 x22,.int .i64 x23]:=by
 cases h with
 | agg hs hv=>exact congrArg Value.agg (ints_eq hs hv fun i h=>match i,h with | 0,_=>⟨_,rfl⟩ | 1,_=>⟨_,rfl⟩ | 2,_=>⟨_,rfl⟩ | 3,_=>⟨_,rfl⟩ | 4,_=>⟨_,rfl⟩ | 5,_=>⟨_,rfl⟩ | 6,_=>⟨_,rfl⟩ | 7,_=>⟨_,rfl⟩ | 8,_=>⟨_,rfl⟩ | 9,_=>⟨_,rfl⟩ | 10,_=>⟨_,rfl⟩ | 11,_=>⟨_,rfl⟩ | 12,_=>⟨_,rfl⟩ | 13,_=>⟨_,rfl⟩ | 14,_=>⟨_,rfl⟩ | 15,_=>⟨_,rfl⟩ | 16,_=>⟨_,rfl⟩ | 17,_=>⟨_,rfl⟩ | 18,_=>⟨_,rfl⟩ | 19,_=>⟨_,rfl⟩ | 20,_=>⟨_,rfl⟩ | 21,_=>⟨_,rfl⟩ | 22,_=>⟨_,rfl⟩ | 23,_=>⟨_,rfl⟩ | k + 24,h=>absurd h (by simp))
section
variable [Payload] {L:Program} {Goal:Machine->Trace->Prop} {Shun:Nat->Prop} {c:Frame} {cs:List Frame}
end
end
end Go.Proofs.YtmmeapmlfopleaaGreat
