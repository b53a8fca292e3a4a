/- Part. -/
import Derived.Test.YtidbgfnkjgaliaaGreatLZz
import Derived.Test.YtidbgfnkjgaliaaGreatChecked
import Derived.Calls
import Derived.Laws.Sem
import Derived.Below
namespace Go.Proofs.YtidbgfnkjgaliaaGreat
variable{f:Func}{n:FuncId}{i:Nat}
section
def zaA(P:Program)(off:Nat->Bool)(alt:Nat->Func->Func):Program:=⟨P.toTables,P.funcs.mapIdx fun i f=>if off i then alt i f else f⟩
def zcG(f:Func):Func:={ f with name:= "none",origin:= "none",body:=none }
section
variable{P:Program}{off:Nat->Bool}{alt:Nat->Func->Func}
theorem zai(h:off i=false)(hf:P.funcs[i]?=some f):(zaA P off alt).funcs[i]?=some f:=by
 show (P.funcs.mapIdx _)[i]?=some f
 rw[Array.getElem?_mapIdx,hf]
 simp[h]
theorem zhb(h:off i=true)(hf:P.funcs[i]?=some f):(zaA P off alt).funcs[i]?=some (alt i f):=by
 show (P.funcs.mapIdx _)[i]?=some _
 rw[Array.getElem?_mapIdx,hf]
 simp[h]
theorem zeR:(zaA P off alt).toTables=P.toTables:=id rfl
theorem zcl(n:TypeId):(zaA P off alt).underlying n=P.underlying n:=by unfold Program.underlying;simp only[zeR]
theorem zex(n:TypeId)(w:World):(typeInfo n).run (zaA P off alt) w=(typeInfo n).run P w:=by
 unfold typeInfo
 simp[zeR]
 cases P.info? n <;> simp
theorem zgD(n:TypeId)(w:World):(sizeOf n).run (zaA P off alt) w=(sizeOf n).run P w:=by
 unfold Go.sizeOf
 simp[zex]
theorem zbB(n:TypeId)(w:World):(underlying n).run (zaA P off alt) w=(underlying n).run P w:=by
 unfold underlying
 simp[zcl]
 cases P.underlying n <;> simp
theorem zdM(n:TypeId)(w:World):(zeroValue n).run (zaA P off alt) w=(zeroValue n).run P w:=by
 unfold zeroValue
 simp[zex]
 cases (typeInfo n).run P w with
 | ok i w'=>simp;cases i.zero <;> simp
 | halt h w'=>simp
theorem zh4(n:TypeId)(w:World):(isAgg n).run (zaA P off alt) w=(isAgg n).run P w:=by
 unfold isAgg
 simp[zbB]
 cases (underlying n).run P w with
 | ok i w'=>simp;cases i <;> simp
 | halt h w'=>simp
theorem zae(h:off n=false)(hf:P.funcs[n]?=some f)(hb:f.body.isNone=false)(hn:(f.name == "runtime.NumGoroutine")=false)(a:Array Value)(w:World):(callFunc n a).run (zaA P off alt) w=.ok (.enter n a) w:=by
 unfold callFunc
 have h1:¬ f.name= "runtime.NumGoroutine":=by simpa using hn
 have h2:¬ f.body=none:=fun e=>by rw[e] at hb;cases hb
 simp[zai (alt:=alt) h hf,h1,h2]
theorem zfn(h:off n=true)(hf:P.funcs[n]?=some f)(hb:(alt n f).body.isNone=false)(hn:((alt n f).name == "runtime.NumGoroutine")=false)(a:Array Value)(w:World):(callFunc n a).run (zaA P off alt) w=.ok (.enter n a) w:=by
 unfold callFunc
 have h1:¬ (alt n f).name= "runtime.NumGoroutine":=by simpa using hn
 have h2:¬ (alt n f).body=none:=fun e=>by rw[e] at hb;cases hb
 simp[zhb (alt:=alt) h hf,h1,h2]
end
end
section
open Go
section
variable(T:Tables)(F1 F2:Array Func)
theorem zpH(t:TypeId):(Program.mk T F1).info? t=(Program.mk T F2).info? t:=rfl
theorem zf7(t:TypeId):(Program.mk T F1).underlying t=(Program.mk T F2).underlying t:=by unfold Program.underlying;rfl
theorem zf6:(Program.mk T F1).depth=(Program.mk T F2).depth:=by unfold Program.depth;rfl
theorem zq4(t:TypeId):(Program.mk T F1).underlyingId t=(Program.mk T F2).underlyingId t:=by unfold Program.underlyingId;rfl
theorem zi0:∀(d:Nat) (t u:TypeId),(Program.mk T F1).alikeButTags d t u=(Program.mk T F2).alikeButTags d t u
 | 0,_,_=>rfl
 | d+1,t,u=>by
  have ih:(Program.mk T F1).alikeButTags d=(Program.mk T F2).alikeButTags d:=funext fun x=>funext fun y=>zi0 d x y
  unfold Program.alikeButTags
  rw[ih]
theorem zj2(t:TypeId):(Program.mk T F1).stoodInAs t=(Program.mk T F2).stoodInAs t:=by
 unfold Program.stoodInAs
 have h:(Program.mk T F1).alikeButTags=(Program.mk T F2).alikeButTags:=funext fun d=>funext fun x=>funext fun y=>zi0 T F1 F2 d x y
 have hu:(Program.mk T F1).underlyingId=(Program.mk T F2).underlyingId:=funext fun x=>zq4 T F1 F2 x
 rw[h,hu,zf7 T F1 F2,zf6 T F1 F2]
theorem zn0(t:TypeId):(Program.mk T F1).stoodInHeld t=(Program.mk T F2).stoodInHeld t:=by
 unfold Program.stoodInHeld
 rw[zj2 T F1 F2]
theorem zf5(t:TypeId):(Program.mk T F1).cellsOf t=(Program.mk T F2).cellsOf t:=by unfold Program.cellsOf;rfl
theorem zf4(t:TypeId):(Program.mk T F1).bytesOf t=(Program.mk T F2).bytesOf t:=by unfold Program.bytesOf;rfl
theorem zco:∀(d:Nat) (t:TypeId) (off:Nat),byteOfCell (Program.mk T F1) d t off=byteOfCell (Program.mk T F2) d t off
 | 0,_,_=>rfl
 | d+1,t,off=>by
  unfold byteOfCell
  simp only[zf7 T F1 F2,zf5 T F1 F2,zf4 T F1 F2,zco d]
theorem zdq:∀(d:Nat) (t:TypeId) (off:Nat),cellOfByte (Program.mk T F1) d t off=cellOfByte (Program.mk T F2) d t off
 | 0,_,_=>rfl
 | d+1,t,off=>by
  unfold cellOfByte
  simp only[zf7 T F1 F2,zf5 T F1 F2,zf4 T F1 F2,zdq d]
theorem zq3(d:Nat)(e:TypeId)(c o:Nat)(n:Int):cellAtBytes (Program.mk T F1) d e c o n=cellAtBytes (Program.mk T F2) d e c o n:=by
 unfold cellAtBytes
 simp only[zf5 T F1 F2,zf4 T F1 F2,zco T F1 F2,zdq T F1 F2]
theorem zj1:∀(d:Nat) (t:TypeId),(Program.mk T F1).eqGuardType d t=(Program.mk T F2).eqGuardType d t
 | 0,_=>rfl
 | d+1,t=>by
  unfold Program.eqGuardType
  simp only[zf7 T F1 F2,zj1 d]
end
def Sq.off(i:Nat):Bool:=([0,1,7,13,30,35,54,55,56,57,58,62,63,73,74,75,76,77,78,79,80,81,82,83,84,85,87,88,89,90,91,106,107,108,109,110,134,135,136,137,138,139,140,141,142,143,144,145,146,147,148,150,151,152,153,154,155,156,158,159]:List Nat).contains i
class zjb where
 alt:Nat->Func->Func
noncomputable def Sq.prog[A:zjb]:Program:=zaA Tryz.prog Sq.off A.alt
section
variable[zjb]
@[simp] theorem Sq.tabs : Sq.prog.toTables = Tryz.prog.toTables := zeR
@[simp] theorem Sq.underlying(n : TypeId) : Sq.prog.underlying n = Tryz.prog.underlying n := zcl n
@[simp] theorem Sq.sizeOf(n : TypeId)(w : World) : (Go.sizeOf n).run Sq.prog w = (Go.sizeOf n).run Tryz.prog w := zgD n w
@[simp] theorem Sq.runUnderlying(n : TypeId)(w : World) : (Go.underlying n).run Sq.prog w = (Go.underlying n).run Tryz.prog w := zbB n w
@[simp] theorem Sq.zeroValue(n : TypeId)(w : World) : (Go.zeroValue n).run Sq.prog w = (Go.zeroValue n).run Tryz.prog w := zdM n w
@[simp] theorem Sq.isAgg(n : TypeId)(w : World) : (Go.isAgg n).run Sq.prog w = (Go.isAgg n).run Tryz.prog w := zh4 n w
end
abbrev opr(d:Option Tmp)(op:Op)(t:TypeId):Oper:={ dst:=d,op:=op,type:=t,pos:= "",after:=#[],guard:=none }
abbrev ckA:Code:=.region 0 #[opr (some 2) (.box 25 (.tmp 0)) 0,opr (some 3) (.fieldAddr 25 (.tmp 2) 0) 0,opr (some 4) (.load 3 (.tmp 3)) 3,opr (some 5) (.binOp .mul 3 (.tmp 4) (.const (.int .i64 0)) 3) 3,opr (some 6) (.fieldAddr 25 (.tmp 2) 1) 0,opr (some 7) (.load 23 (.tmp 6)) 23,opr (some 8) (.call { callee:=.builtin .len,args:=#[.tmp 7],argTypes:=#[23] }) 3,opr (some 9) (.move (.const (.int .i64 0))) 3,opr (some 10) (.binOp .lss 3 (.tmp 8) (.const (.int .i64 4611686018427387904)) 3) 4] false
abbrev ckL:Code:=.seq (.region 1 #[opr (some 10) (.binOp .lss 3 (.tmp 9) (.tmp 8) 3) 4] false) (.seq (.cond (.tmp 10) .skip (.exit 0)) (.region 2 #[opr (some 11) (.indexAddr 23 (.tmp 7) (.tmp 9)) 0,opr (some 12) (.fieldAddr 68 (.tmp 11) 0) 0,opr (some 13) (.load 3 (.tmp 12)) 3,opr (some 14) (.binOp .mul 3 (.tmp 13) (.const (.int .i64 0)) 3) 3,opr (some 15) (.fieldAddr 68 (.tmp 11) 1) 0,opr (some 16) (.load 3 (.tmp 15)) 3,opr (some 17) (.binOp .mul 3 (.tmp 16) (.const (.int .i64 0)) 3) 3,opr (some 18) (.binOp .add 3 (.tmp 9) (.const (.int .i64 1)) 3) 3,opr (some 9) (.move (.tmp 18)) 3] false))
abbrev ckS:Code:=.region 3 #[opr (none) (.store 25 (.tmp 2) (.tmp 0)) 0] false
abbrev zej(rest:Code):Code:=.seq ckA (.seq (.cond (.tmp 10) .skip (.refuse "too long")) (.seq (.block 0 (.loop ckL)) (.seq ckS rest)))
abbrev zsf:Code:=.seq (.region 7 #[opr (some 7) (.binOp .lss 3 (.tmp 6) (.tmp 4) 3) 4] false) (.seq (.cond (.tmp 7) .skip (.exit 1)) (.region 8 #[opr (some 11) (.indexAddr 27 (.tmp 10) (.tmp 6)) 0,opr (some 8) (.load 3 (.tmp 11)) 3,opr (some 9) (.indexAddr 27 (.tmp 5) (.tmp 6)) 0,opr none (.store 3 (.tmp 9) (.tmp 8)) 0,opr (some 6) (.binOp .add 3 (.tmp 6) (.const (.int .i64 1)) 3) 3] false))
abbrev zdy:Code:=.seq (.region 4 #[opr (some 3) (.call { callee:=.value (.func 24),args:=#[.tmp 0],argTypes:=#[25] }) 4] false) (.seq (.cond (.tmp 3) .skip (.seq (.region 5 #[opr (some 2) (.move (.const (.slice none 0 0))) 27] false) .ret)) (.seq (.region 6 #[opr (some 10) (.call { callee:=.value (.func 15),args:=#[.tmp 0],argTypes:=#[25] }) 27,opr (some 4) (.call { callee:=.builtin .len,args:=#[.tmp 10],argTypes:=#[27] }) 3,opr (some 5) (.makeSlice 27 (.tmp 4) (.tmp 4)) 27,opr (some 6) (.move (.const (.int .i64 0))) 3] false) (.seq (.block 1 (.loop zsf)) (.seq (.region 9 #[opr (some 2) (.move (.tmp 5)) 27] false) .ret))))
def ziA(f:Func):Func:={ f with ntmps:=22,body:=some (zej zdy) }
abbrev scL:Code:=.seq (.region 7 #[opr (some 11) (.binOp .lss 3 (.tmp 10) (.tmp 7) 3) 4] false) (.seq (.cond (.tmp 11) .skip (.exit 1)) (.region 8 #[opr (some 12) (.call { callee:=.value (.func 36),args:=#[.tmp 0,.tmp 10],argTypes:=#[25,3] }) 3,opr (some 13) (.indexAddr 27 (.tmp 8) (.tmp 10)) 0,opr none (.store 3 (.tmp 13) (.tmp 12)) 0,opr (some 14) (.call { callee:=.value (.func 10),args:=#[.tmp 0,.tmp 10],argTypes:=#[25,3] }) 27,opr (some 15) (.indexAddr 28 (.tmp 9) (.tmp 10)) 0,opr none (.store 27 (.tmp 15) (.tmp 14)) 0,opr (some 10) (.binOp .add 3 (.tmp 10) (.const (.int .i64 1)) 3) 3] false))
abbrev scA:Code:=.region 6 #[opr (some 6) (.call { callee:=.value (.func 29),args:=#[.tmp 0],argTypes:=#[25] }) 25,opr (some 7) (.call { callee:=.value (.func 52),args:=#[.tmp 0],argTypes:=#[25] }) 3,opr (some 8) (.makeSlice 27 (.tmp 7) (.tmp 7)) 27,opr (some 9) (.makeSlice 28 (.tmp 7) (.tmp 7)) 28,opr (some 10) (.move (.const (.int .i64 0))) 3] false
abbrev scZ:Code:=.region 9 #[opr (some 16) (.build 30 #[(0,.tmp 6),(1,.tmp 8),(2,.tmp 9)]) 30,opr (some 2) (.alloc 30) 0,opr none (.store 30 (.tmp 2) (.tmp 16)) 0,opr (some 3) (.move (.const (.bool true))) 4] false
abbrev scG:Code:=.region 4 #[opr (some 3) (.call { callee:=.value (.func 24),args:=#[.tmp 0],argTypes:=#[25] }) 4] false
abbrev scN:Code:=.seq (.region 5 #[opr (some 2) (.alloc 30) 0,opr (some 3) (.move (.const (.bool false))) 4] false) .ret
abbrev zgR:Code:=.seq scG (.seq (.cond (.tmp 3) .skip scN) (.seq scA (.seq (.block 1 (.loop scL)) (.seq scZ .ret))))
abbrev zqt:Code:=.seq (zej .skip) zgR
def zlC(f:Func):Func:={ f with ntmps:=22,body:=some zqt }
def Sq.altP(i:Nat)(f:Func):Func:=if i == 13 then ziA f else if i == 7 then zlC f else zcG f
def Sq.altN(_:Nat)(f:Func):Func:=zcG f
abbrev Sq.P:zjb:=⟨Sq.altP⟩
abbrev Sq.N:zjb:=⟨Sq.altN⟩
noncomputable def SqG.prog(aLt:Nat->Func->Func):Program:=zaA Tryz.prog Sq.off aLt
section
variable{aLt:Nat->Func->Func}
@[simp] theorem SqG.tabs : (SqG.prog aLt).toTables = Tryz.prog.toTables := zeR
@[simp] theorem SqG.underlying(n : TypeId) : (SqG.prog aLt).underlying n = Tryz.prog.underlying n := zcl n
@[simp] theorem SqG.sizeOf(n : TypeId)(w : World) : (Go.sizeOf n).run (SqG.prog aLt) w = (Go.sizeOf n).run Tryz.prog w := zgD n w
@[simp] theorem SqG.runUnderlying(n : TypeId)(w : World) : (Go.underlying n).run (SqG.prog aLt) w = (Go.underlying n).run Tryz.prog w := zbB n w
@[simp] theorem SqG.zeroValue(n : TypeId)(w : World) : (Go.zeroValue n).run (SqG.prog aLt) w = (Go.zeroValue n).run Tryz.prog w := zdM n w
@[simp] theorem SqG.isAgg(n : TypeId)(w : World) : (Go.isAgg n).run (SqG.prog aLt) w = (Go.isAgg n).run Tryz.prog w := zh4 n w
@[simp] theorem SqG.depth : (SqG.prog aLt).depth = Tryz.prog.depth := zf6 _ _ _
@[simp] theorem SqG.eqGuardType(n : TypeId) : (SqG.prog aLt).eqGuardType Tryz.prog.depth n = Tryz.prog.eqGuardType Tryz.prog.depth n := zj1 _ _ _ _ n
abbrev SqG.underlying23:=(SqG.underlying (aLt:=aLt) 23).trans Tryz.underlying23
abbrev SqG.underlying27:=(SqG.underlying (aLt:=aLt) 27).trans Tryz.underlying27
abbrev SqG.underlying28:=(SqG.underlying (aLt:=aLt) 28).trans Tryz.underlying28
abbrev SqG.underlying58:=(SqG.underlying (aLt:=aLt) 58).trans Tryz.underlying58
abbrev SqG.underlying59:=(SqG.underlying (aLt:=aLt) 59).trans Tryz.underlying59
abbrev SqG.underlying60:=(SqG.underlying (aLt:=aLt) 60).trans Tryz.underlying60
abbrev SqG.underlying122:=(SqG.underlying (aLt:=aLt) 122).trans Tryz.underlying122
abbrev SqG.underlying189:=(SqG.underlying (aLt:=aLt) 189).trans Tryz.underlying189
@[simp] theorem SqG.func3 : (SqG.prog aLt).funcs[3]? = some Tryz.f3 := zai rfl Tryz.func3
@[simp] theorem SqG.func5 : (SqG.prog aLt).funcs[5]? = some Tryz.f5 := zai rfl Tryz.func5
@[simp] theorem SqG.call5(a : Array Value)(w : World) : (callFunc 5 a).run (SqG.prog aLt) w = .ok (.enter 5 a) w := zae rfl Tryz.func5 rfl rfl a w
@[simp] theorem SqG.func6 : (SqG.prog aLt).funcs[6]? = some Tryz.f6 := zai rfl Tryz.func6
@[simp] theorem SqG.call6(a : Array Value)(w : World) : (callFunc 6 a).run (SqG.prog aLt) w = .ok (.enter 6 a) w := zae rfl Tryz.func6 rfl rfl a w
@[simp] theorem SqG.func8 : (SqG.prog aLt).funcs[8]? = some Tryz.f8 := zai rfl Tryz.func8
@[simp] theorem SqG.call8(a : Array Value)(w : World) : (callFunc 8 a).run (SqG.prog aLt) w = .ok (.enter 8 a) w := zae rfl Tryz.func8 rfl rfl a w
@[simp] theorem SqG.func9 : (SqG.prog aLt).funcs[9]? = some Tryz.f9 := zai rfl Tryz.func9
@[simp] theorem SqG.call9(a : Array Value)(w : World) : (callFunc 9 a).run (SqG.prog aLt) w = .ok (.enter 9 a) w := zae rfl Tryz.func9 rfl rfl a w
@[simp] theorem SqG.func10 : (SqG.prog aLt).funcs[10]? = some Tryz.f10 := zai rfl Tryz.func10
@[simp] theorem SqG.call10(a : Array Value)(w : World) : (callFunc 10 a).run (SqG.prog aLt) w = .ok (.enter 10 a) w := zae rfl Tryz.func10 rfl rfl a w
@[simp] theorem SqG.func11 : (SqG.prog aLt).funcs[11]? = some Tryz.f11 := zai rfl Tryz.func11
@[simp] theorem SqG.call11(a : Array Value)(w : World) : (callFunc 11 a).run (SqG.prog aLt) w = .ok (.enter 11 a) w := zae rfl Tryz.func11 rfl rfl a w
@[simp] theorem SqG.func12 : (SqG.prog aLt).funcs[12]? = some Tryz.f12 := zai rfl Tryz.func12
@[simp] theorem SqG.call12(a : Array Value)(w : World) : (callFunc 12 a).run (SqG.prog aLt) w = .ok (.enter 12 a) w := zae rfl Tryz.func12 rfl rfl a w
@[simp] theorem SqG.func15 : (SqG.prog aLt).funcs[15]? = some Tryz.f15 := zai rfl Tryz.func15
@[simp] theorem SqG.call15(a : Array Value)(w : World) : (callFunc 15 a).run (SqG.prog aLt) w = .ok (.enter 15 a) w := zae rfl Tryz.func15 rfl rfl a w
@[simp] theorem SqG.func22 : (SqG.prog aLt).funcs[22]? = some Tryz.f22 := zai rfl Tryz.func22
@[simp] theorem SqG.call22(a : Array Value)(w : World) : (callFunc 22 a).run (SqG.prog aLt) w = .ok (.enter 22 a) w := zae rfl Tryz.func22 rfl rfl a w
@[simp] theorem SqG.func23 : (SqG.prog aLt).funcs[23]? = some Tryz.f23 := zai rfl Tryz.func23
@[simp] theorem SqG.call23(a : Array Value)(w : World) : (callFunc 23 a).run (SqG.prog aLt) w = .ok (.enter 23 a) w := zae rfl Tryz.func23 rfl rfl a w
@[simp] theorem SqG.func24 : (SqG.prog aLt).funcs[24]? = some Tryz.f24 := zai rfl Tryz.func24
@[simp] theorem SqG.call24(a : Array Value)(w : World) : (callFunc 24 a).run (SqG.prog aLt) w = .ok (.enter 24 a) w := zae rfl Tryz.func24 rfl rfl a w
@[simp] theorem SqG.func25 : (SqG.prog aLt).funcs[25]? = some Tryz.f25 := zai rfl Tryz.func25
@[simp] theorem SqG.call25(a : Array Value)(w : World) : (callFunc 25 a).run (SqG.prog aLt) w = .ok (.enter 25 a) w := zae rfl Tryz.func25 rfl rfl a w
@[simp] theorem SqG.func26 : (SqG.prog aLt).funcs[26]? = some Tryz.f26 := zai rfl Tryz.func26
@[simp] theorem SqG.call26(a : Array Value)(w : World) : (callFunc 26 a).run (SqG.prog aLt) w = .ok (.enter 26 a) w := zae rfl Tryz.func26 rfl rfl a w
@[simp] theorem SqG.func27 : (SqG.prog aLt).funcs[27]? = some Tryz.f27 := zai rfl Tryz.func27
@[simp] theorem SqG.call27(a : Array Value)(w : World) : (callFunc 27 a).run (SqG.prog aLt) w = .ok (.enter 27 a) w := zae rfl Tryz.func27 rfl rfl a w
@[simp] theorem SqG.func28 : (SqG.prog aLt).funcs[28]? = some Tryz.f28 := zai rfl Tryz.func28
@[simp] theorem SqG.call28(a : Array Value)(w : World) : (callFunc 28 a).run (SqG.prog aLt) w = .ok (.enter 28 a) w := zae rfl Tryz.func28 rfl rfl a w
@[simp] theorem SqG.func29 : (SqG.prog aLt).funcs[29]? = some Tryz.f29 := zai rfl Tryz.func29
@[simp] theorem SqG.call29(a : Array Value)(w : World) : (callFunc 29 a).run (SqG.prog aLt) w = .ok (.enter 29 a) w := zae rfl Tryz.func29 rfl rfl a w
@[simp] theorem SqG.func31 : (SqG.prog aLt).funcs[31]? = some Tryz.f31 := zai rfl Tryz.func31
@[simp] theorem SqG.call31(a : Array Value)(w : World) : (callFunc 31 a).run (SqG.prog aLt) w = .ok (.enter 31 a) w := zae rfl Tryz.func31 rfl rfl a w
@[simp] theorem SqG.func32 : (SqG.prog aLt).funcs[32]? = some Tryz.f32 := zai rfl Tryz.func32
@[simp] theorem SqG.call32(a : Array Value)(w : World) : (callFunc 32 a).run (SqG.prog aLt) w = .ok (.enter 32 a) w := zae rfl Tryz.func32 rfl rfl a w
@[simp] theorem SqG.func33 : (SqG.prog aLt).funcs[33]? = some Tryz.f33 := zai rfl Tryz.func33
@[simp] theorem SqG.call33(a : Array Value)(w : World) : (callFunc 33 a).run (SqG.prog aLt) w = .ok (.enter 33 a) w := zae rfl Tryz.func33 rfl rfl a w
@[simp] theorem SqG.func34 : (SqG.prog aLt).funcs[34]? = some Tryz.f34 := zai rfl Tryz.func34
@[simp] theorem SqG.call34(a : Array Value)(w : World) : (callFunc 34 a).run (SqG.prog aLt) w = .ok (.enter 34 a) w := zae rfl Tryz.func34 rfl rfl a w
@[simp] theorem SqG.func36 : (SqG.prog aLt).funcs[36]? = some Tryz.f36 := zai rfl Tryz.func36
@[simp] theorem SqG.call36(a : Array Value)(w : World) : (callFunc 36 a).run (SqG.prog aLt) w = .ok (.enter 36 a) w := zae rfl Tryz.func36 rfl rfl a w
@[simp] theorem SqG.func38 : (SqG.prog aLt).funcs[38]? = some Tryz.f38 := zai rfl Tryz.func38
@[simp] theorem SqG.call38(a : Array Value)(w : World) : (callFunc 38 a).run (SqG.prog aLt) w = .ok (.enter 38 a) w := zae rfl Tryz.func38 rfl rfl a w
@[simp] theorem SqG.func42 : (SqG.prog aLt).funcs[42]? = some Tryz.f42 := zai rfl Tryz.func42
@[simp] theorem SqG.call42(a : Array Value)(w : World) : (callFunc 42 a).run (SqG.prog aLt) w = .ok (.enter 42 a) w := zae rfl Tryz.func42 rfl rfl a w
@[simp] theorem SqG.func43 : (SqG.prog aLt).funcs[43]? = some Tryz.f43 := zai rfl Tryz.func43
@[simp] theorem SqG.call43(a : Array Value)(w : World) : (callFunc 43 a).run (SqG.prog aLt) w = .ok (.enter 43 a) w := zae rfl Tryz.func43 rfl rfl a w
@[simp] theorem SqG.func44 : (SqG.prog aLt).funcs[44]? = some Tryz.f44 := zai rfl Tryz.func44
@[simp] theorem SqG.call44(a : Array Value)(w : World) : (callFunc 44 a).run (SqG.prog aLt) w = .ok (.enter 44 a) w := zae rfl Tryz.func44 rfl rfl a w
@[simp] theorem SqG.func45 : (SqG.prog aLt).funcs[45]? = some Tryz.f45 := zai rfl Tryz.func45
@[simp] theorem SqG.call45(a : Array Value)(w : World) : (callFunc 45 a).run (SqG.prog aLt) w = .ok (.enter 45 a) w := zae rfl Tryz.func45 rfl rfl a w
@[simp] theorem SqG.func46 : (SqG.prog aLt).funcs[46]? = some Tryz.f46 := zai rfl Tryz.func46
@[simp] theorem SqG.call46(a : Array Value)(w : World) : (callFunc 46 a).run (SqG.prog aLt) w = .ok (.enter 46 a) w := zae rfl Tryz.func46 rfl rfl a w
@[simp] theorem SqG.func47 : (SqG.prog aLt).funcs[47]? = some Tryz.f47 := zai rfl Tryz.func47
@[simp] theorem SqG.call47(a : Array Value)(w : World) : (callFunc 47 a).run (SqG.prog aLt) w = .ok (.enter 47 a) w := zae rfl Tryz.func47 rfl rfl a w
@[simp] theorem SqG.func48 : (SqG.prog aLt).funcs[48]? = some Tryz.f48 := zai rfl Tryz.func48
@[simp] theorem SqG.call48(a : Array Value)(w : World) : (callFunc 48 a).run (SqG.prog aLt) w = .ok (.enter 48 a) w := zae rfl Tryz.func48 rfl rfl a w
@[simp] theorem SqG.func49 : (SqG.prog aLt).funcs[49]? = some Tryz.f49 := zai rfl Tryz.func49
@[simp] theorem SqG.call49(a : Array Value)(w : World) : (callFunc 49 a).run (SqG.prog aLt) w = .ok (.enter 49 a) w := zae rfl Tryz.func49 rfl rfl a w
@[simp] theorem SqG.func50 : (SqG.prog aLt).funcs[50]? = some Tryz.f50 := zai rfl Tryz.func50
@[simp] theorem SqG.call50(a : Array Value)(w : World) : (callFunc 50 a).run (SqG.prog aLt) w = .ok (.enter 50 a) w := zae rfl Tryz.func50 rfl rfl a w
@[simp] theorem SqG.func51 : (SqG.prog aLt).funcs[51]? = some Tryz.f51 := zai rfl Tryz.func51
@[simp] theorem SqG.call51(a : Array Value)(w : World) : (callFunc 51 a).run (SqG.prog aLt) w = .ok (.enter 51 a) w := zae rfl Tryz.func51 rfl rfl a w
@[simp] theorem SqG.func52 : (SqG.prog aLt).funcs[52]? = some Tryz.f52 := zai rfl Tryz.func52
@[simp] theorem SqG.call52(a : Array Value)(w : World) : (callFunc 52 a).run (SqG.prog aLt) w = .ok (.enter 52 a) w := zae rfl Tryz.func52 rfl rfl a w
@[simp] theorem SqG.func53 : (SqG.prog aLt).funcs[53]? = some Tryz.f53 := zai rfl Tryz.func53
@[simp] theorem SqG.call53(a : Array Value)(w : World) : (callFunc 53 a).run (SqG.prog aLt) w = .ok (.enter 53 a) w := zae rfl Tryz.func53 rfl rfl a w
@[simp] theorem SqG.func59 : (SqG.prog aLt).funcs[59]? = some Tryz.f59 := zai rfl Tryz.func59
@[simp] theorem SqG.call59(a : Array Value)(w : World) : (callFunc 59 a).run (SqG.prog aLt) w = .ok (.enter 59 a) w := zae rfl Tryz.func59 rfl rfl a w
@[simp] theorem SqG.func60 : (SqG.prog aLt).funcs[60]? = some Tryz.f60 := zai rfl Tryz.func60
@[simp] theorem SqG.call60(a : Array Value)(w : World) : (callFunc 60 a).run (SqG.prog aLt) w = .ok (.enter 60 a) w := zae rfl Tryz.func60 rfl rfl a w
@[simp] theorem SqG.func61 : (SqG.prog aLt).funcs[61]? = some Tryz.f61 := zai rfl Tryz.func61
@[simp] theorem SqG.call61(a : Array Value)(w : World) : (callFunc 61 a).run (SqG.prog aLt) w = .ok (.enter 61 a) w := zae rfl Tryz.func61 rfl rfl a w
@[simp] theorem SqG.func66 : (SqG.prog aLt).funcs[66]? = some Tryz.f66 := zai rfl Tryz.func66
@[simp] theorem SqG.call66(a : Array Value)(w : World) : (callFunc 66 a).run (SqG.prog aLt) w = .ok (.enter 66 a) w := zae rfl Tryz.func66 rfl rfl a w
@[simp] theorem SqG.func67 : (SqG.prog aLt).funcs[67]? = some Tryz.f67 := zai rfl Tryz.func67
@[simp] theorem SqG.call67(a : Array Value)(w : World) : (callFunc 67 a).run (SqG.prog aLt) w = .ok (.enter 67 a) w := zae rfl Tryz.func67 rfl rfl a w
@[simp] theorem SqG.func68 : (SqG.prog aLt).funcs[68]? = some Tryz.f68 := zai rfl Tryz.func68
@[simp] theorem SqG.call68(a : Array Value)(w : World) : (callFunc 68 a).run (SqG.prog aLt) w = .ok (.enter 68 a) w := zae rfl Tryz.func68 rfl rfl a w
@[simp] theorem SqG.func69 : (SqG.prog aLt).funcs[69]? = some Tryz.f69 := zai rfl Tryz.func69
@[simp] theorem SqG.call69(a : Array Value)(w : World) : (callFunc 69 a).run (SqG.prog aLt) w = .ok (.enter 69 a) w := zae rfl Tryz.func69 rfl rfl a w
@[simp] theorem SqG.func70 : (SqG.prog aLt).funcs[70]? = some Tryz.f70 := zai rfl Tryz.func70
@[simp] theorem SqG.call70(a : Array Value)(w : World) : (callFunc 70 a).run (SqG.prog aLt) w = .ok (.enter 70 a) w := zae rfl Tryz.func70 rfl rfl a w
@[simp] theorem SqG.func71 : (SqG.prog aLt).funcs[71]? = some Tryz.f71 := zai rfl Tryz.func71
@[simp] theorem SqG.call71(a : Array Value)(w : World) : (callFunc 71 a).run (SqG.prog aLt) w = .ok (.enter 71 a) w := zae rfl Tryz.func71 rfl rfl a w
@[simp] theorem SqG.func72 : (SqG.prog aLt).funcs[72]? = some Tryz.f72 := zai rfl Tryz.func72
@[simp] theorem SqG.call72(a : Array Value)(w : World) : (callFunc 72 a).run (SqG.prog aLt) w = .ok (.enter 72 a) w := zae rfl Tryz.func72 rfl rfl a w
@[simp] theorem SqG.func86 : (SqG.prog aLt).funcs[86]? = some Tryz.f86 := zai rfl Tryz.func86
@[simp] theorem SqG.call86(a : Array Value)(w : World) : (callFunc 86 a).run (SqG.prog aLt) w = .ok (.enter 86 a) w := zae rfl Tryz.func86 rfl rfl a w
@[simp] theorem SqG.func92 : (SqG.prog aLt).funcs[92]? = some Tryz.f92 := zai rfl Tryz.func92
@[simp] theorem SqG.call92(a : Array Value)(w : World) : (callFunc 92 a).run (SqG.prog aLt) w = .ok (.enter 92 a) w := zae rfl Tryz.func92 rfl rfl a w
@[simp] theorem SqG.func93 : (SqG.prog aLt).funcs[93]? = some Tryz.f93 := zai rfl Tryz.func93
@[simp] theorem SqG.call93(a : Array Value)(w : World) : (callFunc 93 a).run (SqG.prog aLt) w = .ok (.enter 93 a) w := zae rfl Tryz.func93 rfl rfl a w
@[simp] theorem SqG.func94 : (SqG.prog aLt).funcs[94]? = some Tryz.f94 := zai rfl Tryz.func94
@[simp] theorem SqG.call94(a : Array Value)(w : World) : (callFunc 94 a).run (SqG.prog aLt) w = .ok (.enter 94 a) w := zae rfl Tryz.func94 rfl rfl a w
@[simp] theorem SqG.func95 : (SqG.prog aLt).funcs[95]? = some Tryz.f95 := zai rfl Tryz.func95
@[simp] theorem SqG.call95(a : Array Value)(w : World) : (callFunc 95 a).run (SqG.prog aLt) w = .ok (.enter 95 a) w := zae rfl Tryz.func95 rfl rfl a w
@[simp] theorem SqG.func96 : (SqG.prog aLt).funcs[96]? = some Tryz.f96 := zai rfl Tryz.func96
@[simp] theorem SqG.call96(a : Array Value)(w : World) : (callFunc 96 a).run (SqG.prog aLt) w = .ok (.enter 96 a) w := zae rfl Tryz.func96 rfl rfl a w
@[simp] theorem SqG.func97 : (SqG.prog aLt).funcs[97]? = some Tryz.f97 := zai rfl Tryz.func97
@[simp] theorem SqG.call97(a : Array Value)(w : World) : (callFunc 97 a).run (SqG.prog aLt) w = .ok (.enter 97 a) w := zae rfl Tryz.func97 rfl rfl a w
@[simp] theorem SqG.func98 : (SqG.prog aLt).funcs[98]? = some Tryz.f98 := zai rfl Tryz.func98
@[simp] theorem SqG.call98(a : Array Value)(w : World) : (callFunc 98 a).run (SqG.prog aLt) w = .ok (.enter 98 a) w := zae rfl Tryz.func98 rfl rfl a w
@[simp] theorem SqG.func99 : (SqG.prog aLt).funcs[99]? = some Tryz.f99 := zai rfl Tryz.func99
@[simp] theorem SqG.call99(a : Array Value)(w : World) : (callFunc 99 a).run (SqG.prog aLt) w = .ok (.enter 99 a) w := zae rfl Tryz.func99 rfl rfl a w
@[simp] theorem SqG.func100 : (SqG.prog aLt).funcs[100]? = some Tryz.f100 := zai rfl Tryz.func100
@[simp] theorem SqG.call100(a : Array Value)(w : World) : (callFunc 100 a).run (SqG.prog aLt) w = .ok (.enter 100 a) w := zae rfl Tryz.func100 rfl rfl a w
@[simp] theorem SqG.func101 : (SqG.prog aLt).funcs[101]? = some Tryz.f101 := zai rfl Tryz.func101
@[simp] theorem SqG.func102 : (SqG.prog aLt).funcs[102]? = some Tryz.f102 := zai rfl Tryz.func102
@[simp] theorem SqG.call102(a : Array Value)(w : World) : (callFunc 102 a).run (SqG.prog aLt) w = .ok (.enter 102 a) w := zae rfl Tryz.func102 rfl rfl a w
@[simp] theorem SqG.func103 : (SqG.prog aLt).funcs[103]? = some Tryz.f103 := zai rfl Tryz.func103
@[simp] theorem SqG.call103(a : Array Value)(w : World) : (callFunc 103 a).run (SqG.prog aLt) w = .ok (.enter 103 a) w := zae rfl Tryz.func103 rfl rfl a w
@[simp] theorem SqG.func104 : (SqG.prog aLt).funcs[104]? = some Tryz.f104 := zai rfl Tryz.func104
@[simp] theorem SqG.call104(a : Array Value)(w : World) : (callFunc 104 a).run (SqG.prog aLt) w = .ok (.enter 104 a) w := zae rfl Tryz.func104 rfl rfl a w
@[simp] theorem SqG.func105 : (SqG.prog aLt).funcs[105]? = some Tryz.f105 := zai rfl Tryz.func105
@[simp] theorem SqG.call105(a : Array Value)(w : World) : (callFunc 105 a).run (SqG.prog aLt) w = .ok (.enter 105 a) w := zae rfl Tryz.func105 rfl rfl a w
@[simp] theorem SqG.func111 : (SqG.prog aLt).funcs[111]? = some Tryz.f111 := zai rfl Tryz.func111
@[simp] theorem SqG.func112 : (SqG.prog aLt).funcs[112]? = some Tryz.f112 := zai rfl Tryz.func112
@[simp] theorem SqG.func113 : (SqG.prog aLt).funcs[113]? = some Tryz.f113 := zai rfl Tryz.func113
@[simp] theorem SqG.func114 : (SqG.prog aLt).funcs[114]? = some Tryz.f114 := zai rfl Tryz.func114
@[simp] theorem SqG.func115 : (SqG.prog aLt).funcs[115]? = some Tryz.f115 := zai rfl Tryz.func115
@[simp] theorem SqG.func116 : (SqG.prog aLt).funcs[116]? = some Tryz.f116 := zai rfl Tryz.func116
@[simp] theorem SqG.func117 : (SqG.prog aLt).funcs[117]? = some Tryz.f117 := zai rfl Tryz.func117
@[simp] theorem SqG.call117(a : Array Value)(w : World) : (callFunc 117 a).run (SqG.prog aLt) w = .ok (.enter 117 a) w := zae rfl Tryz.func117 rfl rfl a w
@[simp] theorem SqG.func118 : (SqG.prog aLt).funcs[118]? = some Tryz.f118 := zai rfl Tryz.func118
@[simp] theorem SqG.call118(a : Array Value)(w : World) : (callFunc 118 a).run (SqG.prog aLt) w = .ok (.enter 118 a) w := zae rfl Tryz.func118 rfl rfl a w
@[simp] theorem SqG.func119 : (SqG.prog aLt).funcs[119]? = some Tryz.f119 := zai rfl Tryz.func119
@[simp] theorem SqG.call119(a : Array Value)(w : World) : (callFunc 119 a).run (SqG.prog aLt) w = .ok (.enter 119 a) w := zae rfl Tryz.func119 rfl rfl a w
@[simp] theorem SqG.func120 : (SqG.prog aLt).funcs[120]? = some Tryz.f120 := zai rfl Tryz.func120
@[simp] theorem SqG.call120(a : Array Value)(w : World) : (callFunc 120 a).run (SqG.prog aLt) w = .ok (.enter 120 a) w := zae rfl Tryz.func120 rfl rfl a w
@[simp] theorem SqG.func121 : (SqG.prog aLt).funcs[121]? = some Tryz.f121 := zai rfl Tryz.func121
@[simp] theorem SqG.call121(a : Array Value)(w : World) : (callFunc 121 a).run (SqG.prog aLt) w = .ok (.enter 121 a) w := zae rfl Tryz.func121 rfl rfl a w
@[simp] theorem SqG.func122 : (SqG.prog aLt).funcs[122]? = some Tryz.f122 := zai rfl Tryz.func122
@[simp] theorem SqG.call122(a : Array Value)(w : World) : (callFunc 122 a).run (SqG.prog aLt) w = .ok (.enter 122 a) w := zae rfl Tryz.func122 rfl rfl a w
@[simp] theorem SqG.func123 : (SqG.prog aLt).funcs[123]? = some Tryz.f123 := zai rfl Tryz.func123
@[simp] theorem SqG.call123(a : Array Value)(w : World) : (callFunc 123 a).run (SqG.prog aLt) w = .ok (.enter 123 a) w := zae rfl Tryz.func123 rfl rfl a w
@[simp] theorem SqG.func124 : (SqG.prog aLt).funcs[124]? = some Tryz.f124 := zai rfl Tryz.func124
@[simp] theorem SqG.call124(a : Array Value)(w : World) : (callFunc 124 a).run (SqG.prog aLt) w = .ok (.enter 124 a) w := zae rfl Tryz.func124 rfl rfl a w
@[simp] theorem SqG.func125 : (SqG.prog aLt).funcs[125]? = some Tryz.f125 := zai rfl Tryz.func125
@[simp] theorem SqG.call125(a : Array Value)(w : World) : (callFunc 125 a).run (SqG.prog aLt) w = .ok (.enter 125 a) w := zae rfl Tryz.func125 rfl rfl a w
@[simp] theorem SqG.func126 : (SqG.prog aLt).funcs[126]? = some Tryz.f126 := zai rfl Tryz.func126
@[simp] theorem SqG.call126(a : Array Value)(w : World) : (callFunc 126 a).run (SqG.prog aLt) w = .ok (.enter 126 a) w := zae rfl Tryz.func126 rfl rfl a w
@[simp] theorem SqG.func127 : (SqG.prog aLt).funcs[127]? = some Tryz.f127 := zai rfl Tryz.func127
@[simp] theorem SqG.call127(a : Array Value)(w : World) : (callFunc 127 a).run (SqG.prog aLt) w = .ok (.enter 127 a) w := zae rfl Tryz.func127 rfl rfl a w
@[simp] theorem SqG.func128 : (SqG.prog aLt).funcs[128]? = some Tryz.f128 := zai rfl Tryz.func128
@[simp] theorem SqG.call128(a : Array Value)(w : World) : (callFunc 128 a).run (SqG.prog aLt) w = .ok (.enter 128 a) w := zae rfl Tryz.func128 rfl rfl a w
@[simp] theorem SqG.func129 : (SqG.prog aLt).funcs[129]? = some Tryz.f129 := zai rfl Tryz.func129
@[simp] theorem SqG.call129(a : Array Value)(w : World) : (callFunc 129 a).run (SqG.prog aLt) w = .ok (.enter 129 a) w := zae rfl Tryz.func129 rfl rfl a w
@[simp] theorem SqG.func130 : (SqG.prog aLt).funcs[130]? = some Tryz.f130 := zai rfl Tryz.func130
@[simp] theorem SqG.call130(a : Array Value)(w : World) : (callFunc 130 a).run (SqG.prog aLt) w = .ok (.enter 130 a) w := zae rfl Tryz.func130 rfl rfl a w
@[simp] theorem SqG.func131 : (SqG.prog aLt).funcs[131]? = some Tryz.f131 := zai rfl Tryz.func131
@[simp] theorem SqG.call131(a : Array Value)(w : World) : (callFunc 131 a).run (SqG.prog aLt) w = .ok (.enter 131 a) w := zae rfl Tryz.func131 rfl rfl a w
@[simp] theorem SqG.func132 : (SqG.prog aLt).funcs[132]? = some Tryz.f132 := zai rfl Tryz.func132
@[simp] theorem SqG.call132(a : Array Value)(w : World) : (callFunc 132 a).run (SqG.prog aLt) w = .ok (.enter 132 a) w := zae rfl Tryz.func132 rfl rfl a w
@[simp] theorem SqG.func133 : (SqG.prog aLt).funcs[133]? = some Tryz.f133 := zai rfl Tryz.func133
@[simp] theorem SqG.call133(a : Array Value)(w : World) : (callFunc 133 a).run (SqG.prog aLt) w = .ok (.enter 133 a) w := zae rfl Tryz.func133 rfl rfl a w
@[simp] theorem SqG.func149 : (SqG.prog aLt).funcs[149]? = some Tryz.f149 := zai rfl Tryz.func149
@[simp] theorem SqG.call149(a : Array Value)(w : World) : (callFunc 149 a).run (SqG.prog aLt) w = .ok (.enter 149 a) w := zae rfl Tryz.func149 rfl rfl a w
@[simp] theorem SqG.func157 : (SqG.prog aLt).funcs[157]? = some Tryz.f157 := zai rfl Tryz.func157
@[simp] theorem SqG.call157(a : Array Value)(w : World) : (callFunc 157 a).run (SqG.prog aLt) w = .ok (.enter 157 a) w := zae rfl Tryz.func157 rfl rfl a w
end
noncomputable abbrev SqN.prog:Program:=SqG.prog Sq.altN
abbrev SqN.func10:=@SqG.func10 Sq.altN
abbrev SqN.func28:=@SqG.func28 Sq.altN
abbrev SqN.func29:=@SqG.func29 Sq.altN
abbrev SqN.func36:=@SqG.func36 Sq.altN
abbrev SqN.func52:=@SqG.func52 Sq.altN
abbrev SqN.func53:=@SqG.func53 Sq.altN
abbrev SqN.func86:=@SqG.func86 Sq.altN
