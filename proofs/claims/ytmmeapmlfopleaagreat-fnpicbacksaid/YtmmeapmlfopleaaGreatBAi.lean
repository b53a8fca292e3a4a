/- Of the proof: Qa, Qb, Qc, Qd -/
import Derived.Test.YtmmeapmlfopleaaGreatChecked
import Derived.WalkKit
import Derived.WalkLawsBesides
import Derived.Conc.WgLib
import Derived.Test.YtmmeapmlfopleaaGreatBAh
namespace Go.Proofs.YtmmeapmlfopleaaGreat
section
open Go Go.Conc Go.ConcN Go.RowKit Go.Conc.Lib Go.ConcR.Gen Go.ConcN.Gen
theorem vrel_bool {R:BR} {b:Bool} {v:Value} (h:VRel R (.bool b) v):v=.bool b:=by cases h; rfl
theorem vrel_int {R:BR} {k:IntKind} {n:Int} {v:Value} (h:VRel R (.int k n) v):v=.int k n:=by cases h; rfl
theorem rrel_two {R:BR} {x y:Value} (hx:VRel R x x) (hy:VRel R y y):RRel R #[x,y] #[x,y]:=by
 refine ⟨rfl,fun i h h'=>?_⟩
 match i,h with
 | 0,_=>exact hx
 | 1,_=>exact hy
theorem side_rel {R:BR} (f m s o i u k:Int):RRel R #[.agg #[.int .i64 f,.int .i64 m,.int .i64 s,.int .i64 o,.int .i64 i,.int .i64 u],.int .i64 k] #[.agg #[.int .i64 f,.int .i64 m,.int .i64 s,.int .i64 o,.int .i64 i,.int .i64 u],.int .i64 k]:=by
 refine rrel_two (.agg rfl fun j h h'=>?_) (.int _ _)
 match j,h with
 | 0,_=>exact .int _ _
 | 1,_=>exact .int _ _
 | 2,_=>exact .int _ _
 | 3,_=>exact .int _ _
 | 4,_=>exact .int _ _
 | 5,_=>exact .int _ _
theorem grid_rel {R:BR} (wd:Int) {x:Value} (hx:VRel R x x) (k:Int):RRel R #[.agg #[.int .i64 wd,x],.int .i64 k] #[.agg #[.int .i64 wd,x],.int .i64 k]:=by
 refine rrel_two (.agg rfl fun j h h'=>?_) (.int _ _)
 match j,h with
 | 0,_=>exact .int _ _
 | 1,_=>exact hx
section
variable {L:Program} {main:Bool} {Live:World->Prop} {Ex:Event->Prop} {Stop:Nat->(Nat->Prop)->Goroutine->World->Prop} {Snd:Nat->(Nat->Prop)->Value->World->Prop} {ch:Nat} {K:Nat->Prop}
end
end
section
open Go
abbrev wgLink:Go.Conc.Lib.WgLink:={ add:=40,done:=42,wait:=44,relMerge:=59,disable:=60,enable:=61,inBubble:=62,associate:=63,fatal:=64,uOr:=65,uAdd:=66,raceRead:=67,uLoad:=68,uStore:=69,disassociate:=70,semrelease:=71,acquire:=73,isAssociated:=74,uCas:=75,raceWrite:=76,semacquire:=77,orU64:=93,addU64:=94,loadU64:=95,storeU64:=96,casU64:=97,tWgP:=109,tUP:=111,tAssoc:=113,tWg:=86,tAU:=83,tU64:=81,tUint:=117,tU32:=84,tPU32:=118,tPAU:=150,tPU64:=152,tNoCopy:=78,tANoCopy:=79,tAlign64:=80 }
theorem wgLib:Go.Conc.Lib.WgLib Tryz.prog wgLink :=
 ⟨Tryz.func40,Tryz.func42,Tryz.func44,Tryz.func59,Tryz.func60,Tryz.func61,Tryz.func62,Tryz.func63,Tryz.func64,Tryz.func65,Tryz.func66,Tryz.func67,Tryz.func68,Tryz.func69,Tryz.func70,Tryz.func71,Tryz.func73,Tryz.func74,Tryz.func75,Tryz.func76,Tryz.func77,Tryz.func93,Tryz.func94,Tryz.func95,Tryz.func96,Tryz.func97,Tryz.underlying109,Tryz.runUnderlying109,Tryz.sizeOf109,Tryz.isAgg109,Tryz.zeroValue109,Tryz.underlying111,Tryz.runUnderlying111,Tryz.sizeOf111,Tryz.isAgg111,Tryz.zeroValue111,Tryz.underlying113,Tryz.runUnderlying113,Tryz.sizeOf113,Tryz.isAgg113,Tryz.zeroValue113,Tryz.underlying86,Tryz.runUnderlying86,Tryz.sizeOf86,Tryz.isAgg86,Tryz.zeroValue86,Tryz.underlying83,Tryz.runUnderlying83,Tryz.sizeOf83,Tryz.isAgg83,Tryz.zeroValue83,Tryz.underlying81,Tryz.runUnderlying81,Tryz.sizeOf81,Tryz.isAgg81,Tryz.zeroValue81,Tryz.underlying117,Tryz.runUnderlying117,Tryz.sizeOf117,Tryz.isAgg117,Tryz.zeroValue117,Tryz.underlying84,Tryz.runUnderlying84,Tryz.sizeOf84,Tryz.isAgg84,Tryz.zeroValue84,Tryz.underlying118,Tryz.runUnderlying118,Tryz.sizeOf118,Tryz.isAgg118,Tryz.zeroValue118,Tryz.underlying150,Tryz.runUnderlying150,Tryz.sizeOf150,Tryz.isAgg150,Tryz.zeroValue150,Tryz.underlying152,Tryz.runUnderlying152,Tryz.sizeOf152,Tryz.isAgg152,Tryz.zeroValue152,Tryz.underlying0,Tryz.runUnderlying0,Tryz.sizeOf0,Tryz.isAgg0,Tryz.zeroValue0,Tryz.underlying3,Tryz.runUnderlying3,Tryz.sizeOf3,Tryz.isAgg3,Tryz.zeroValue3,Tryz.underlying4,Tryz.runUnderlying4,Tryz.sizeOf4,Tryz.isAgg4,Tryz.zeroValue4,Tryz.underlying9,Tryz.runUnderlying9,Tryz.sizeOf9,Tryz.isAgg9,Tryz.zeroValue9,Tryz.underlying20,Tryz.runUnderlying20,Tryz.sizeOf20,Tryz.isAgg20,Tryz.zeroValue20,Tryz.underlying21,Tryz.runUnderlying21,Tryz.sizeOf21,Tryz.isAgg21,Tryz.zeroValue21,by kernel_rfl,by kernel_rfl⟩
end
section
open Go Go.Conc Go.ConcN Go.RowKit Go.Conc.Lib Go.ConcR.Gen Go.ConcN.Gen
open Go.ConcR (KK wgBlock WgAt stA smA rd wr mk Payload Aside2 DC0)
theorem LiveW.alloc {ty:TypeId} {Wg ch:Nat} (w:World) (o:Obj) (h:LiveW ty Wg ch w):LiveW ty Wg ch (w.alloc o):=by
 obtain ⟨⟨st,sm,hw⟩,cap,buf,s,r,tm,hc⟩:=h
 refine ⟨⟨st,sm,hw.of_block ?_⟩,cap,buf,s,r,tm,?_⟩
 ·exact (new_heap w o).2 _ (Array.getElem?_eq_some_iff.1 hw).1
 ·rw [(new_heap w o).2 _ (Array.getElem?_eq_some_iff.1 hc).1]
  exact hc
def LvW (Wg ch:Nat) (c:Nat):Prop:=c=Wg\/c=ch
theorem LiveW.keep {ty:TypeId} {Wg ch:Nat} (w w':World) (h:∀ c,LvW Wg ch c->w'.heap[c]?=w.heap[c]?) (hl:LiveW ty Wg ch w):LiveW ty Wg ch w':=by
 obtain ⟨⟨st,sm,hw⟩,cap,buf,s,r,tm,hc⟩:=hl
 exact ⟨⟨st,sm,hw.of_block (h _ (.inl rfl))⟩,cap,buf,s,r,tm,by rw [h _ (.inr rfl)]; exact hc⟩
theorem LiveW.low {ty:TypeId} {Wg ch:Nat} (w:World) (c:Nat) (hl:LiveW ty Wg ch w) (h:LvW Wg ch c):c < w.heap.size:=by
 obtain ⟨⟨st,sm,hw⟩,cap,buf,s,r,tm,hc⟩:=hl
 rcases h with rfl | rfl
 ·exact (Array.getElem?_eq_some_iff.1 hw).1
 ·exact (Array.getElem?_eq_some_iff.1 hc).1
noncomputable def bot:Frame:={ (default:Frame) with fn:=Tryz.prog.funcs.size,defers:=[],mode:=.panicking [goexitEntry] }
section
variable [Payload] {L:Program} {Snd:Nat->(Nat->Prop)->Value->World->Prop} {Wg ch:Nat} {K S:Nat->Prop}
end
end
section
open Go Go.Conc Go.ConcN Go.RowKit Go.Conc.Lib Go.ConcR.Gen Go.ConcN.Gen
open Go.ConcR (KK wgBlock WgAt stA smA rd wr mk Payload Aside2 DC0)
theorem info_side:(Tryz.prog.info? 64).map (·.size)=some 6:=by kernel_rfl
theorem idx_0 (x0 x1 x2 x3 x4 x5 x6 x7 x8 x9 x10 x11 x12 x13 x14 x15 x16 x17 x18 x19 x20 x21 x22 x23:Int) (w:World):Sem.run Tryz.prog (Instr.index 87 (.agg #[.int .i64 x0,.int .i64 x1,.int .i64 x2,.int .i64 x3,.int .i64 x4,.int .i64 x5,.int .i64 x6,.int .i64 x7,.int .i64 x8,.int .i64 x9,.int .i64 x10,.int .i64 x11,.int .i64 x12,.int .i64 x13,.int .i64 x14,.int .i64 x15,.int .i64 x16,.int .i64 x17,.int .i64 x18,.int .i64 x19,.int .i64 x20,.int .i64 x21,.int .i64 x22,.int .i64 x23]) (.int .i64 0)) w=.ok (.agg #[.int .i64 x0,.int .i64 x1,.int .i64 x2,.int .i64 x3,.int .i64 x4,.int .i64 x5]) w:=by kernel_rfl
theorem idxE_0 (x0 x1 x2 x3 x4 x5 x6 x7 x8 x9 x10 x11 x12 x13 x14 x15 x16 x17 x18 x19 x20 x21 x22 x23:Int) (w:World) (es:Array Event):Sem.events Tryz.prog (Instr.index 87 (.agg #[.int .i64 x0,.int .i64 x1,.int .i64 x2,.int .i64 x3,.int .i64 x4,.int .i64 x5,.int .i64 x6,.int .i64 x7,.int .i64 x8,.int .i64 x9,.int .i64 x10,.int .i64 x11,.int .i64 x12,.int .i64 x13,.int .i64 x14,.int .i64 x15,.int .i64 x16,.int .i64 x17,.int .i64 x18,.int .i64 x19,.int .i64 x20,.int .i64 x21,.int .i64 x22,.int .i64 x23]) (.int .i64 0)) w es=es:=by kernel_rfl
theorem idx_1 (x0 x1 x2 x3 x4 x5 x6 x7 x8 x9 x10 x11 x12 x13 x14 x15 x16 x17 x18 x19 x20 x21 x22 x23:Int) (w:World):Sem.run Tryz.prog (Instr.index 87 (.agg #[.int .i64 x0,.int .i64 x1,.int .i64 x2,.int .i64 x3,.int .i64 x4,.int .i64 x5,.int .i64 x6,.int .i64 x7,.int .i64 x8,.int .i64 x9,.int .i64 x10,.int .i64 x11,.int .i64 x12,.int .i64 x13,.int .i64 x14,.int .i64 x15,.int .i64 x16,.int .i64 x17,.int .i64 x18,.int .i64 x19,.int .i64 x20,.int .i64 x21,.int .i64 x22,.int .i64 x23]) (.int .i64 1)) w=.ok (.agg #[.int .i64 x6,.int .i64 x7,.int .i64 x8,.int .i64 x9,.int .i64 x10,.int .i64 x11]) w:=by kernel_rfl
theorem idxE_1 (x0 x1 x2 x3 x4 x5 x6 x7 x8 x9 x10 x11 x12 x13 x14 x15 x16 x17 x18 x19 x20 x21 x22 x23:Int) (w:World) (es:Array Event):Sem.events Tryz.prog (Instr.index 87 (.agg #[.int .i64 x0,.int .i64 x1,.int .i64 x2,.int .i64 x3,.int .i64 x4,.int .i64 x5,.int .i64 x6,.int .i64 x7,.int .i64 x8,.int .i64 x9,.int .i64 x10,.int .i64 x11,.int .i64 x12,.int .i64 x13,.int .i64 x14,.int .i64 x15,.int .i64 x16,.int .i64 x17,.int .i64 x18,.int .i64 x19,.int .i64 x20,.int .i64 x21,.int .i64 x22,.int .i64 x23]) (.int .i64 1)) w es=es:=by kernel_rfl
theorem idx_2 (x0 x1 x2 x3 x4 x5 x6 x7 x8 x9 x10 x11 x12 x13 x14 x15 x16 x17 x18 x19 x20 x21 x22 x23:Int) (w:World):Sem.run Tryz.prog (Instr.index 87 (.agg #[.int .i64 x0,.int .i64 x1,.int .i64 x2,.int .i64 x3,.int .i64 x4,.int .i64 x5,.int .i64 x6,.int .i64 x7,.int .i64 x8,.int .i64 x9,.int .i64 x10,.int .i64 x11,.int .i64 x12,.int .i64 x13,.int .i64 x14,.int .i64 x15,.int .i64 x16,.int .i64 x17,.int .i64 x18,.int .i64 x19,.int .i64 x20,.int .i64 x21,.int .i64 x22,.int .i64 x23]) (.int .i64 2)) w=.ok (.agg #[.int .i64 x12,.int .i64 x13,.int .i64 x14,.int .i64 x15,.int .i64 x16,.int .i64 x17]) w:=by kernel_rfl
theorem idxE_2 (x0 x1 x2 x3 x4 x5 x6 x7 x8 x9 x10 x11 x12 x13 x14 x15 x16 x17 x18 x19 x20 x21 x22 x23:Int) (w:World) (es:Array Event):Sem.events Tryz.prog (Instr.index 87 (.agg #[.int .i64 x0,.int .i64 x1,.int .i64 x2,.int .i64 x3,.int .i64 x4,.int .i64 x5,.int .i64 x6,.int .i64 x7,.int .i64 x8,.int .i64 x9,.int .i64 x10,.int .i64 x11,.int .i64 x12,.int .i64 x13,.int .i64 x14,.int .i64 x15,.int .i64 x16,.int .i64 x17,.int .i64 x18,.int .i64 x19,.int .i64 x20,.int .i64 x21,.int .i64 x22,.int .i64 x23]) (.int .i64 2)) w es=es:=by kernel_rfl
theorem idx_3 (x0 x1 x2 x3 x4 x5 x6 x7 x8 x9 x10 x11 x12 x13 x14 x15 x16 x17 x18 x19 x20 x21 x22 x23:Int) (w:World):Sem.run Tryz.prog (Instr.index 87 (.agg #[.int .i64 x0,.int .i64 x1,.int .i64 x2,.int .i64 x3,.int .i64 x4,.int .i64 x5,.int .i64 x6,.int .i64 x7,.int .i64 x8,.int .i64 x9,.int .i64 x10,.int .i64 x11,.int .i64 x12,.int .i64 x13,.int .i64 x14,.int .i64 x15,.int .i64 x16,.int .i64 x17,.int .i64 x18,.int .i64 x19,.int .i64 x20,.int .i64 x21,.int .i64 x22,.int .i64 x23]) (.int .i64 3)) w=.ok (.agg #[.int .i64 x18,.int .i64 x19,.int .i64 x20,.int .i64 x21,.int .i64 x22,.int .i64 x23]) w:=by kernel_rfl
theorem idxE_3 (x0 x1 x2 x3 x4 x5 x6 x7 x8 x9 x10 x11 x12 x13 x14 x15 x16 x17 x18 x19 x20 x21 x22 x23:Int) (w:World) (es:Array Event):Sem.events Tryz.prog (Instr.index 87 (.agg #[.int .i64 x0,.int .i64 x1,.int .i64 x2,.int .i64 x3,.int .i64 x4,.int .i64 x5,.int .i64 x6,.int .i64 x7,.int .i64 x8,.int .i64 x9,.int .i64 x10,.int .i64 x11,.int .i64 x12,.int .i64 x13,.int .i64 x14,.int .i64 x15,.int .i64 x16,.int .i64 x17,.int .i64 x18,.int .i64 x19,.int .i64 x20,.int .i64 x21,.int .i64 x22,.int .i64 x23]) (.int .i64 3)) w es=es:=by kernel_rfl
theorem LiveW.aside {ty:TypeId} {Wg ch c:Nat} (hc:¬ LvW Wg ch c) (w w':World) (h:∀ d,d ≠ c->w'.heap[d]?=w.heap[d]?) (hl:LiveW ty Wg ch w):LiveW ty Wg ch w' :=
 LiveW.keep w w' (fun d hd=>h d (by rintro rfl; exact hc hd)) hl
section
variable [Payload] {Snd:Nat->(Nat->Prop)->Value->World->Prop} {Wg ch:Nat} {fst fin:Nat->Nat} {B:Nat->Prop} {Q:World->Prop} {l:List (Nat × Obj)} {gV rV:Value} {many:Int} {bg br bc:Nat} {c:Frame} {cs:List Frame} {x0 x1 x2 x3 x4 x5 x6 x7 x8 x9 x10 x11 x12 x13 x14 x15 x16 x17 x18 x19 x20 x21 x22 x23:Int} {St1:(Nat->Prop)->St} {jn:Nat}
end
end
end Go.Proofs.YtmmeapmlfopleaaGreat
