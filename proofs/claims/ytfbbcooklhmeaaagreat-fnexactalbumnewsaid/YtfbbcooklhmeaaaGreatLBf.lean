/- Of the proof: SqP, PGp, PGq, PGr -/
import Derived.Deep.DrawnRows
import Derived.Deep.QuietTactic
import Derived.Laws.Bits64
import Derived.Deep.RegionLaw
import Derived.Test.YtfbbcooklhmeaaaGreatLAu
set_option linter.unusedVariables false
namespace Go.Proofs.YtfbbcooklhmeaaaGreat
section
open Go
noncomputable abbrev SqP.prog:Program:=SqG.prog Sq.altP
abbrev SqP.underlying30:=@SqG.underlying30 Sq.altP
abbrev SqP.func3:=@SqG.func3 Sq.altP
abbrev SqP.func5:=@SqG.func5 Sq.altP
abbrev SqP.func7:=@SqG.func7 Sq.altP
abbrev SqP.func8:=@SqG.func8 Sq.altP
abbrev SqP.func11:=@SqG.func11 Sq.altP
abbrev SqP.func12:=@SqG.func12 Sq.altP
abbrev SqP.func14:=@SqG.func14 Sq.altP
theorem SqP.func16:SqP.prog.funcs[16]?=some (zlb Tryz.f16):=zjT rfl Tryz.func16
theorem SqP.ntmps16:(zlb Tryz.f16).ntmps=22:=rfl
theorem SqP.body16:(zlb Tryz.f16).body=some zpR:=rfl
theorem SqP.results16:(zlb Tryz.f16).results=Tryz.f16.results:=rfl
@[simp] theorem SqP.call16 (a : Array Value) (w : World) : (callFunc 16 a).run SqP.prog w = .ok (.enter 16 a) w := ziU rfl Tryz.func16 rfl rfl a w
abbrev SqP.func17:=@SqG.func17 Sq.altP
abbrev SqP.func21:=@SqG.func21 Sq.altP
abbrev SqP.func23:=@SqG.func23 Sq.altP
end
namespace Sp
open Go.RowKit
attribute [local go_sem ↓] Go.wp_at_zero Go.wp_at_succ
theorem zpS {Q:Exit->Act->World->Prop} {rest:Code} (wd:Int) (a:Option Addr) (cap:Nat) (cs:List (Int × Int)) (w:World) (h:zai w a cs) (hm:cs.length < 4611686018427387904)
  (hK:∀ (w':World) (u1 u2 u3 u4 u5 u6 u7 u8 u9 u10 u11 u12 u13 u14 u15 u16 u17 u18 u19 u20 u21:Value),Below w.heap.size w w'->Code.wp SqP.prog rest Q ⟨#[.agg #[.int .i64 wd,.slice a cs.length cap],u1,u2,u3,u4,u5,u6,u7,u8,u9,u10,u11,u12,u13,u14,u15,u16,u17,u18,u19,u20,u21],[]⟩ w') :
  Code.wp SqP.prog (ziS rest) Q ⟨#[.agg #[.int .i64 wd,.slice a cs.length cap],undef,undef,undef,undef,undef,undef,undef,undef,undef,undef,undef,undef,undef,undef,undef,undef,undef,undef,undef,undef,undef],[]⟩ w:=by
 unfold ziS ckA ckS ckL
 simp only [opr]
 have b1:decide ((cs.length:Int) < 4611686018427387904)=true:=decide_eq_true (by omega)
 have wz:IntKind.i64.wrap (wd * 0)=0:=by rw [Int.mul_zero]; exact IntWalk.i64_in _ (by omega)
 have hb0:Below w.heap.size w (w.alloc (.cells #[.int .i64 wd,.slice a cs.length cap] 28)):=bel
 have g0:(w.alloc (.cells #[.int .i64 wd,.slice a cs.length cap] 28)).cell? ⟨w.heap.size,0,none⟩=some (.int .i64 wd):=by simp [go_sem]
 have g1:(w.alloc (.cells #[.int .i64 wd,.slice a cs.length cap] 28)).cell? ⟨w.heap.size,1,none⟩=some (.slice a cs.length cap):=by simp [go_sem]
 have f0:(w.alloc (.cells #[.int .i64 wd,.slice a cs.length cap] 28)).frozen? ⟨w.heap.size,0,none⟩=false:=by simp [go_sem]
 have f1:(w.alloc (.cells #[.int .i64 wd,.slice a cs.length cap] 28)).frozen? ⟨w.heap.size,1,none⟩=false:=by simp [go_sem]
 go_wp2_with fail
 obtain ⟨w1,hw1⟩:∃ w1,w1=w.alloc (.cells #[.int .i64 wd,.slice a cs.length cap] 28):=⟨_,rfl⟩
 rw [<- hw1] at hb0 g0 g1 f0 f1 ⊢
 clear hw1 wz
 have hC:=h.below hb0
 go_loopw [9,10,11,12,13,14,15,16,17,18] (fun ii _ _ _ _ _ _ _ _ _ wr=>∃ i:Nat,i<=cs.length/\ii=.int .i64 i/\wr=w1) (fun ii _ _ _ _ _ _ _ _ _ _=>cs.length - (intOf ii).toNat)
 case atStart=>exact ⟨0,Nat.zero_le _,rfl,rfl⟩
 case round =>
  rename World=>wo
  obtain ⟨i,hi,rfl,ew⟩:=hrel
  subst ew
  by_cases hlt:i < cs.length
  ·rcases hC with q | ⟨b,off,rfl,hbl,hc⟩
   ·rw [q] at hlt; simp at hlt
   obtain ⟨z0,z1⟩:=hc i hlt
   obtain ⟨t,et⟩:∃ t,cs.getD i (0,0)=t:=⟨_,rfl⟩
   rw [et] at z0 z1
   obtain ⟨t0,t1⟩:=t
   simp only at z0 z1
   have bl:decide ((i:Int) < (cs.length:Int))=true:=decide_eq_true (by omega)
   have wa:IntKind.i64.wrap (t0 * 0)=0:=by rw [Int.mul_zero]; exact IntWalk.i64_in _ (by omega)
   have wb:IntKind.i64.wrap (t1 * 0)=0:=by rw [Int.mul_zero]; exact IntWalk.i64_in _ (by omega)
   have wi:IntKind.i64.wrap ((i:Int) + 1)=(i:Int) + 1:=IntWalk.i64_in _ (by omega)
   clear hc et
   go_wp2_with fail
   go_roundw
   case rel=>exact ⟨i + 1,by omega,by go_num,by first | rfl | trivial⟩
   case measure=>simp [intOf]; omega
  ·have bl:decide ((i:Int) < (cs.length:Int))=false:=decide_eq_false (by omega)
   have hb2:=(hb0.setCell (p:=⟨w.heap.size,0,none⟩) (Nat.le_refl _) (.int .i64 wd)).setCell (p:=⟨w.heap.size,1,none⟩) (Nat.le_refl _) (.slice a cs.length cap)
   go_wp2_with fail
   exact hK _ _ _ _ _ _ _ _ _ _ _ _ _ _ _ _ _ _ _ _ _ _ hb2
attribute [local go_sem ↓] Go.wp_at_zero Go.wp_at_succ
abbrev zeT (wd:Int) (cs:List (Int × Int)) (M:Nat):Obj:=.cells (Array.ofFn fun k:Fin M=>.int .i64 (zbc wd cs ((k:Nat):Int))) 3
end Sp
namespace Sp
variable {aLt:Nat->Func->Func}
open Go.RowKit
theorem zok:((SqG.prog aLt).info? 3).map (fun i=>(i.zero,i.size,i.bytes))=some (some (.int .i64 0),1,8):=by kernel_rfl
theorem zj6 (n:Nat) (hn:n<=1048576) (w:World):(Instr.makeSlice 29 (.int .i64 (n:Int)) (.int .i64 (n:Int))).run (SqG.prog aLt) w=.ok (.slice (some ⟨w.heap.size,0,none⟩) n n) (w.alloc (.cells (madeCells #[.int .i64 0] n) 3)):=by
 obtain ⟨i0,hi,iz0,iz1,iz2⟩:=info_parts (zok (aLt:=aLt))
 have:=run_make (P:=(SqG.prog aLt)) w 29 3 i0 (.int .i64 0) SqG.underlying29 hi iz0 .i64 .i64 (n:Int) (n:Int) (by omega) (by omega) (by rw [iz2]; omega) (by omega)
 rw [iz1] at this
 simpa [Value.cells] using this
end Sp
end Go.Proofs.YtfbbcooklhmeaaaGreat
