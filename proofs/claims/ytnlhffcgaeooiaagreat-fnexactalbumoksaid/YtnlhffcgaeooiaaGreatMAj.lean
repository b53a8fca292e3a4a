/- Part. -/
import Derived.Test.YtnlhffcgaeooiaaGreatMZz
import Derived.Test.YtnlhffcgaeooiaaGreatChecked
import Derived.Calls
import Derived.Laws.Sem
import Derived.Below
namespace Go.Proofs.YtnlhffcgaeooiaaGreat
variable{f:Func}{n:FuncId}{i:Nat}
section
def zaA(P:Program)(off:Nat->Bool)(alt:Nat->Func->Func):Program:=⟨P.toTables,P.funcs.mapIdx fun i f=>if off i then alt i f else f⟩
def zcF(f:Func):Func:={ f with name:= "none",origin:= "none",body:=none }
section
variable{P:Program}{off:Nat->Bool}{alt:Nat->Func->Func}
theorem zah(h:off i=false)(hf:P.funcs[i]?=some f):(zaA P off alt).funcs[i]?=some f:=by
 show (P.funcs.mapIdx _)[i]?=some f
 rw[Array.getElem?_mapIdx,hf]
 simp[h]
theorem zkf(h:off i=true)(hf:P.funcs[i]?=some f):(zaA P off alt).funcs[i]?=some (alt i f):=by
 show (P.funcs.mapIdx _)[i]?=some _
 rw[Array.getElem?_mapIdx,hf]
 simp[h]
theorem zeU:(zaA P off alt).toTables=P.toTables:=id rfl
theorem zce(n:TypeId):(zaA P off alt).underlying n=P.underlying n:=by unfold Program.underlying;simp only[zeU]
theorem zez(n:TypeId)(w:World):(typeInfo n).run (zaA P off alt) w=(typeInfo n).run P w:=by
 unfold typeInfo
 simp[zeU]
 cases P.info? n <;> simp
theorem zgD(n:TypeId)(w:World):(sizeOf n).run (zaA P off alt) w=(sizeOf n).run P w:=by
 unfold Go.sizeOf
 simp[zez]
theorem zby(n:TypeId)(w:World):(underlying n).run (zaA P off alt) w=(underlying n).run P w:=by
 unfold underlying
 simp[zce]
 cases P.underlying n <;> simp
theorem zdH(n:TypeId)(w:World):(zeroValue n).run (zaA P off alt) w=(zeroValue n).run P w:=by
 unfold zeroValue
 simp[zez]
 cases (typeInfo n).run P w with
 | ok i w'=>simp;cases i.zero <;> simp
 | halt h w'=>simp
theorem zh1(n:TypeId)(w:World):(isAgg n).run (zaA P off alt) w=(isAgg n).run P w:=by
 unfold isAgg
 simp[zby]
 cases (underlying n).run P w with
 | ok i w'=>simp;cases i <;> simp
 | halt h w'=>simp
theorem zac(h:off n=false)(hf:P.funcs[n]?=some f)(hb:f.body.isNone=false)(hn:(f.name == "runtime.NumGoroutine")=false)(a:Array Value)(w:World):(callFunc n a).run (zaA P off alt) w=.ok (.enter n a) w:=by
 unfold callFunc
 have h1:¬ f.name= "runtime.NumGoroutine":=by simpa using hn
 have h2:¬ f.body=none:=fun e=>by rw[e] at hb;cases hb
 simp[zah (alt:=alt) h hf,h1,h2]
theorem zjf(h:off n=true)(hf:P.funcs[n]?=some f)(hb:(alt n f).body.isNone=false)(hn:((alt n f).name == "runtime.NumGoroutine")=false)(a:Array Value)(w:World):(callFunc n a).run (zaA P off alt) w=.ok (.enter n a) w:=by
 unfold callFunc
 have h1:¬ (alt n f).name= "runtime.NumGoroutine":=by simpa using hn
 have h2:¬ (alt n f).body=none:=fun e=>by rw[e] at hb;cases hb
 simp[zkf (alt:=alt) h hf,h1,h2]
end
end
section
open Go
section
variable(T:Tables)(F1 F2:Array Func)
theorem zp0(t:TypeId):(Program.mk T F1).info? t=(Program.mk T F2).info? t:=rfl
theorem zf8(t:TypeId):(Program.mk T F1).underlying t=(Program.mk T F2).underlying t:=by unfold Program.underlying;rfl
theorem ziU:(Program.mk T F1).depth=(Program.mk T F2).depth:=by unfold Program.depth;rfl
theorem zrl(t:TypeId):(Program.mk T F1).underlyingId t=(Program.mk T F2).underlyingId t:=by unfold Program.underlyingId;rfl
theorem ziT:∀(d:Nat) (t u:TypeId),(Program.mk T F1).alikeButTags d t u=(Program.mk T F2).alikeButTags d t u
 | 0,_,_=>rfl
 | d+1,t,u=>by
  have ih:(Program.mk T F1).alikeButTags d=(Program.mk T F2).alikeButTags d:=funext fun x=>funext fun y=>ziT d x y
  unfold Program.alikeButTags
  rw[ih]
theorem zjY(t:TypeId):(Program.mk T F1).stoodInAs t=(Program.mk T F2).stoodInAs t:=by
 unfold Program.stoodInAs
 have h:(Program.mk T F1).alikeButTags=(Program.mk T F2).alikeButTags:=funext fun d=>funext fun x=>funext fun y=>ziT T F1 F2 d x y
 have hu:(Program.mk T F1).underlyingId=(Program.mk T F2).underlyingId:=funext fun x=>zrl T F1 F2 x
 rw[h,hu,zf8 T F1 F2,ziU T F1 F2]
theorem zoi(t:TypeId):(Program.mk T F1).stoodInHeld t=(Program.mk T F2).stoodInHeld t:=by
 unfold Program.stoodInHeld
 rw[zjY T F1 F2]
theorem zf7(t:TypeId):(Program.mk T F1).cellsOf t=(Program.mk T F2).cellsOf t:=by unfold Program.cellsOf;rfl
theorem zf6(t:TypeId):(Program.mk T F1).bytesOf t=(Program.mk T F2).bytesOf t:=by unfold Program.bytesOf;rfl
theorem zck:∀(d:Nat) (t:TypeId) (off:Nat),byteOfCell (Program.mk T F1) d t off=byteOfCell (Program.mk T F2) d t off
 | 0,_,_=>rfl
 | d+1,t,off=>by
  unfold byteOfCell
  simp only[zf8 T F1 F2,zf7 T F1 F2,zf6 T F1 F2,zck d]
theorem zdl:∀(d:Nat) (t:TypeId) (off:Nat),cellOfByte (Program.mk T F1) d t off=cellOfByte (Program.mk T F2) d t off
 | 0,_,_=>rfl
 | d+1,t,off=>by
  unfold cellOfByte
  simp only[zf8 T F1 F2,zf7 T F1 F2,zf6 T F1 F2,zdl d]
theorem zrk(d:Nat)(e:TypeId)(c o:Nat)(n:Int):cellAtBytes (Program.mk T F1) d e c o n=cellAtBytes (Program.mk T F2) d e c o n:=by
 unfold cellAtBytes
 simp only[zf7 T F1 F2,zf6 T F1 F2,zck T F1 F2,zdl T F1 F2]
theorem zoh:∀(d:Nat) (t:TypeId),(Program.mk T F1).eqGuardType d t=(Program.mk T F2).eqGuardType d t
 | 0,_=>rfl
 | d+1,t=>by
  unfold Program.eqGuardType
  simp only[zf8 T F1 F2,zoh d]
end
def Sq.off(i:Nat):Bool:=([0,1,29,52,53,67,71,72,73,74,75,81,82,85,86,87,88,89,90,91,92,93,94,95,96,97,99,100,101,102,103,111,112,113,114,115,147,148,149,150,151,152,153,154,155,156,157,158,159,160,161,163,164,165,166,167,168,169,171,172]:List Nat).contains i
class zkZ where
 alt:Nat->Func->Func
noncomputable def Sq.prog[A:zkZ]:Program:=zaA Tryz.prog Sq.off A.alt
section
variable[zkZ]
@[simp] theorem Sq.tabs : Sq.prog.toTables = Tryz.prog.toTables := zeU
@[simp] theorem Sq.underlying(n : TypeId) : Sq.prog.underlying n = Tryz.prog.underlying n := zce n
@[simp] theorem Sq.sizeOf(n : TypeId)(w : World) : (Go.sizeOf n).run Sq.prog w = (Go.sizeOf n).run Tryz.prog w := zgD n w
@[simp] theorem Sq.runUnderlying(n : TypeId)(w : World) : (Go.underlying n).run Sq.prog w = (Go.underlying n).run Tryz.prog w := zby n w
@[simp] theorem Sq.zeroValue(n : TypeId)(w : World) : (Go.zeroValue n).run Sq.prog w = (Go.zeroValue n).run Tryz.prog w := zdH n w
@[simp] theorem Sq.isAgg(n : TypeId)(w : World) : (Go.isAgg n).run Sq.prog w = (Go.isAgg n).run Tryz.prog w := zh1 n w
end
abbrev opr(d:Option Tmp)(op:Op)(t:TypeId):Oper:={ dst:=d,op:=op,type:=t,pos:= "",after:=#[],guard:=none }
abbrev ckA:Code:=.region 0 #[opr (some 2) (.box 33 (.tmp 0)) 0,opr (some 3) (.fieldAddr 33 (.tmp 2) 0) 0,opr (some 4) (.load 3 (.tmp 3)) 3,opr (some 5) (.binOp .mul 3 (.tmp 4) (.const (.int .i64 0)) 3) 3,opr (some 6) (.fieldAddr 33 (.tmp 2) 1) 0,opr (some 7) (.load 31 (.tmp 6)) 31,opr (some 8) (.call { callee:=.builtin .len,args:=#[.tmp 7],argTypes:=#[31] }) 3,opr (some 9) (.move (.const (.int .i64 0))) 3,opr (some 10) (.binOp .lss 3 (.tmp 8) (.const (.int .i64 4611686018427387904)) 3) 4] false
abbrev ckL:Code:=.seq (.region 1 #[opr (some 10) (.binOp .lss 3 (.tmp 9) (.tmp 8) 3) 4] false) (.seq (.cond (.tmp 10) .skip (.exit 0)) (.region 2 #[opr (some 11) (.indexAddr 31 (.tmp 7) (.tmp 9)) 0,opr (some 12) (.fieldAddr 89 (.tmp 11) 0) 0,opr (some 13) (.load 3 (.tmp 12)) 3,opr (some 14) (.binOp .mul 3 (.tmp 13) (.const (.int .i64 0)) 3) 3,opr (some 15) (.fieldAddr 89 (.tmp 11) 1) 0,opr (some 16) (.load 3 (.tmp 15)) 3,opr (some 17) (.binOp .mul 3 (.tmp 16) (.const (.int .i64 0)) 3) 3,opr (some 18) (.binOp .add 3 (.tmp 9) (.const (.int .i64 1)) 3) 3,opr (some 9) (.move (.tmp 18)) 3] false))
abbrev ckS:Code:=.region 3 #[opr (none) (.store 33 (.tmp 2) (.tmp 0)) 0] false
abbrev zjd(rest:Code):Code:=.seq ckA (.seq (.cond (.tmp 10) .skip (.refuse "too long")) (.seq (.block 0 (.loop ckL)) (.seq ckS rest)))
abbrev scL:Code:=.seq (.region 7 #[opr (some 11) (.binOp .lss 3 (.tmp 10) (.tmp 7) 3) 4] false) (.seq (.cond (.tmp 11) .skip (.exit 1)) (.region 8 #[opr (some 12) (.call { callee:=.value (.func 68),args:=#[.tmp 0,.tmp 10],argTypes:=#[33,3] }) 3,opr (some 13) (.indexAddr 25 (.tmp 8) (.tmp 10)) 0,opr none (.store 3 (.tmp 13) (.tmp 12)) 0,opr (some 14) (.call { callee:=.value (.func 54),args:=#[.tmp 0,.tmp 10],argTypes:=#[33,3] }) 25,opr (some 15) (.indexAddr 26 (.tmp 9) (.tmp 10)) 0,opr none (.store 25 (.tmp 15) (.tmp 14)) 0,opr (some 10) (.binOp .add 3 (.tmp 10) (.const (.int .i64 1)) 3) 3] false))
abbrev scA:Code:=.region 6 #[opr (some 6) (.call { callee:=.value (.func 51),args:=#[.tmp 0],argTypes:=#[33] }) 33,opr (some 7) (.call { callee:=.value (.func 69),args:=#[.tmp 0],argTypes:=#[33] }) 3,opr (some 8) (.makeSlice 25 (.tmp 7) (.tmp 7)) 25,opr (some 9) (.makeSlice 26 (.tmp 7) (.tmp 7)) 26,opr (some 10) (.move (.const (.int .i64 0))) 3] false
abbrev scZ:Code:=.region 9 #[opr (some 16) (.build 35 #[(0,.tmp 6),(1,.tmp 8),(2,.tmp 9)]) 35,opr (some 2) (.alloc 35) 0,opr none (.store 35 (.tmp 2) (.tmp 16)) 0,opr (some 3) (.move (.const (.bool true))) 4] false
abbrev scG:Code:=.region 4 #[opr (some 3) (.call { callee:=.value (.func 45),args:=#[.tmp 0],argTypes:=#[33] }) 4] false
abbrev scN:Code:=.seq (.region 5 #[opr (some 2) (.alloc 35) 0,opr (some 3) (.move (.const (.bool false))) 4] false) .ret
abbrev zgO:Code:=.seq scG (.seq (.cond (.tmp 3) .skip scN) (.seq scA (.seq (.block 1 (.loop scL)) (.seq scZ .ret))))
abbrev zqP:Code:=.seq (zjd .skip) zgO
def zlH(f:Func):Func:={ f with ntmps:=22,body:=some zqP }
def Sq.altP(i:Nat)(f:Func):Func:=if i == 29 then zlH f else zcF f
def Sq.altN(_:Nat)(f:Func):Func:=zcF f
abbrev Sq.P:zkZ:=⟨Sq.altP⟩
abbrev Sq.N:zkZ:=⟨Sq.altN⟩
noncomputable def SqG.prog(aLt:Nat->Func->Func):Program:=zaA Tryz.prog Sq.off aLt
section
variable{aLt:Nat->Func->Func}
@[simp] theorem SqG.tabs : (SqG.prog aLt).toTables = Tryz.prog.toTables := zeU
@[simp] theorem SqG.underlying(n : TypeId) : (SqG.prog aLt).underlying n = Tryz.prog.underlying n := zce n
@[simp] theorem SqG.sizeOf(n : TypeId)(w : World) : (Go.sizeOf n).run (SqG.prog aLt) w = (Go.sizeOf n).run Tryz.prog w := zgD n w
@[simp] theorem SqG.runUnderlying(n : TypeId)(w : World) : (Go.underlying n).run (SqG.prog aLt) w = (Go.underlying n).run Tryz.prog w := zby n w
@[simp] theorem SqG.zeroValue(n : TypeId)(w : World) : (Go.zeroValue n).run (SqG.prog aLt) w = (Go.zeroValue n).run Tryz.prog w := zdH n w
@[simp] theorem SqG.isAgg(n : TypeId)(w : World) : (Go.isAgg n).run (SqG.prog aLt) w = (Go.isAgg n).run Tryz.prog w := zh1 n w
abbrev SqG.underlying25:=(SqG.underlying (aLt:=aLt) 25).trans Tryz.underlying25
abbrev SqG.underlying26:=(SqG.underlying (aLt:=aLt) 26).trans Tryz.underlying26
abbrev SqG.underlying31:=(SqG.underlying (aLt:=aLt) 31).trans Tryz.underlying31
abbrev SqG.underlying101:=(SqG.underlying (aLt:=aLt) 101).trans Tryz.underlying101
abbrev SqG.underlying102:=(SqG.underlying (aLt:=aLt) 102).trans Tryz.underlying102
abbrev SqG.underlying129:=(SqG.underlying (aLt:=aLt) 129).trans Tryz.underlying129
abbrev SqG.underlying146:=(SqG.underlying (aLt:=aLt) 146).trans Tryz.underlying146
abbrev SqG.underlying215:=(SqG.underlying (aLt:=aLt) 215).trans Tryz.underlying215
@[simp] theorem SqG.func5 : (SqG.prog aLt).funcs[5]? = some Tryz.f5 := zah rfl Tryz.func5
@[simp] theorem SqG.func6 : (SqG.prog aLt).funcs[6]? = some Tryz.f6 := zah rfl Tryz.func6
@[simp] theorem SqG.call6(a : Array Value)(w : World) : (callFunc 6 a).run (SqG.prog aLt) w = .ok (.enter 6 a) w := zac rfl Tryz.func6 rfl rfl a w
@[simp] theorem SqG.func7 : (SqG.prog aLt).funcs[7]? = some Tryz.f7 := zah rfl Tryz.func7
@[simp] theorem SqG.call7(a : Array Value)(w : World) : (callFunc 7 a).run (SqG.prog aLt) w = .ok (.enter 7 a) w := zac rfl Tryz.func7 rfl rfl a w
@[simp] theorem SqG.func8 : (SqG.prog aLt).funcs[8]? = some Tryz.f8 := zah rfl Tryz.func8
@[simp] theorem SqG.call8(a : Array Value)(w : World) : (callFunc 8 a).run (SqG.prog aLt) w = .ok (.enter 8 a) w := zac rfl Tryz.func8 rfl rfl a w
@[simp] theorem SqG.func9 : (SqG.prog aLt).funcs[9]? = some Tryz.f9 := zah rfl Tryz.func9
@[simp] theorem SqG.call9(a : Array Value)(w : World) : (callFunc 9 a).run (SqG.prog aLt) w = .ok (.enter 9 a) w := zac rfl Tryz.func9 rfl rfl a w
@[simp] theorem SqG.func10 : (SqG.prog aLt).funcs[10]? = some Tryz.f10 := zah rfl Tryz.func10
@[simp] theorem SqG.call10(a : Array Value)(w : World) : (callFunc 10 a).run (SqG.prog aLt) w = .ok (.enter 10 a) w := zac rfl Tryz.func10 rfl rfl a w
@[simp] theorem SqG.func16 : (SqG.prog aLt).funcs[16]? = some Tryz.f16 := zah rfl Tryz.func16
@[simp] theorem SqG.call16(a : Array Value)(w : World) : (callFunc 16 a).run (SqG.prog aLt) w = .ok (.enter 16 a) w := zac rfl Tryz.func16 rfl rfl a w
@[simp] theorem SqG.func17 : (SqG.prog aLt).funcs[17]? = some Tryz.f17 := zah rfl Tryz.func17
@[simp] theorem SqG.call17(a : Array Value)(w : World) : (callFunc 17 a).run (SqG.prog aLt) w = .ok (.enter 17 a) w := zac rfl Tryz.func17 rfl rfl a w
@[simp] theorem SqG.func18 : (SqG.prog aLt).funcs[18]? = some Tryz.f18 := zah rfl Tryz.func18
@[simp] theorem SqG.call18(a : Array Value)(w : World) : (callFunc 18 a).run (SqG.prog aLt) w = .ok (.enter 18 a) w := zac rfl Tryz.func18 rfl rfl a w
@[simp] theorem SqG.func19 : (SqG.prog aLt).funcs[19]? = some Tryz.f19 := zah rfl Tryz.func19
@[simp] theorem SqG.call19(a : Array Value)(w : World) : (callFunc 19 a).run (SqG.prog aLt) w = .ok (.enter 19 a) w := zac rfl Tryz.func19 rfl rfl a w
@[simp] theorem SqG.func20 : (SqG.prog aLt).funcs[20]? = some Tryz.f20 := zah rfl Tryz.func20
@[simp] theorem SqG.call20(a : Array Value)(w : World) : (callFunc 20 a).run (SqG.prog aLt) w = .ok (.enter 20 a) w := zac rfl Tryz.func20 rfl rfl a w
@[simp] theorem SqG.func21 : (SqG.prog aLt).funcs[21]? = some Tryz.f21 := zah rfl Tryz.func21
@[simp] theorem SqG.call21(a : Array Value)(w : World) : (callFunc 21 a).run (SqG.prog aLt) w = .ok (.enter 21 a) w := zac rfl Tryz.func21 rfl rfl a w
@[simp] theorem SqG.func22 : (SqG.prog aLt).funcs[22]? = some Tryz.f22 := zah rfl Tryz.func22
@[simp] theorem SqG.call22(a : Array Value)(w : World) : (callFunc 22 a).run (SqG.prog aLt) w = .ok (.enter 22 a) w := zac rfl Tryz.func22 rfl rfl a w
@[simp] theorem SqG.func23 : (SqG.prog aLt).funcs[23]? = some Tryz.f23 := zah rfl Tryz.func23
@[simp] theorem SqG.call23(a : Array Value)(w : World) : (callFunc 23 a).run (SqG.prog aLt) w = .ok (.enter 23 a) w := zac rfl Tryz.func23 rfl rfl a w
@[simp] theorem SqG.func24 : (SqG.prog aLt).funcs[24]? = some Tryz.f24 := zah rfl Tryz.func24
@[simp] theorem SqG.call24(a : Array Value)(w : World) : (callFunc 24 a).run (SqG.prog aLt) w = .ok (.enter 24 a) w := zac rfl Tryz.func24 rfl rfl a w
@[simp] theorem SqG.func25 : (SqG.prog aLt).funcs[25]? = some Tryz.f25 := zah rfl Tryz.func25
@[simp] theorem SqG.call25(a : Array Value)(w : World) : (callFunc 25 a).run (SqG.prog aLt) w = .ok (.enter 25 a) w := zac rfl Tryz.func25 rfl rfl a w
@[simp] theorem SqG.func26 : (SqG.prog aLt).funcs[26]? = some Tryz.f26 := zah rfl Tryz.func26
@[simp] theorem SqG.call26(a : Array Value)(w : World) : (callFunc 26 a).run (SqG.prog aLt) w = .ok (.enter 26 a) w := zac rfl Tryz.func26 rfl rfl a w
@[simp] theorem SqG.func27 : (SqG.prog aLt).funcs[27]? = some Tryz.f27 := zah rfl Tryz.func27
@[simp] theorem SqG.call27(a : Array Value)(w : World) : (callFunc 27 a).run (SqG.prog aLt) w = .ok (.enter 27 a) w := zac rfl Tryz.func27 rfl rfl a w
@[simp] theorem SqG.func28 : (SqG.prog aLt).funcs[28]? = some Tryz.f28 := zah rfl Tryz.func28
@[simp] theorem SqG.call28(a : Array Value)(w : World) : (callFunc 28 a).run (SqG.prog aLt) w = .ok (.enter 28 a) w := zac rfl Tryz.func28 rfl rfl a w
@[simp] theorem SqG.func30 : (SqG.prog aLt).funcs[30]? = some Tryz.f30 := zah rfl Tryz.func30
@[simp] theorem SqG.call30(a : Array Value)(w : World) : (callFunc 30 a).run (SqG.prog aLt) w = .ok (.enter 30 a) w := zac rfl Tryz.func30 rfl rfl a w
@[simp] theorem SqG.func31 : (SqG.prog aLt).funcs[31]? = some Tryz.f31 := zah rfl Tryz.func31
@[simp] theorem SqG.call31(a : Array Value)(w : World) : (callFunc 31 a).run (SqG.prog aLt) w = .ok (.enter 31 a) w := zac rfl Tryz.func31 rfl rfl a w
@[simp] theorem SqG.func32 : (SqG.prog aLt).funcs[32]? = some Tryz.f32 := zah rfl Tryz.func32
@[simp] theorem SqG.call32(a : Array Value)(w : World) : (callFunc 32 a).run (SqG.prog aLt) w = .ok (.enter 32 a) w := zac rfl Tryz.func32 rfl rfl a w
@[simp] theorem SqG.func33 : (SqG.prog aLt).funcs[33]? = some Tryz.f33 := zah rfl Tryz.func33
@[simp] theorem SqG.call33(a : Array Value)(w : World) : (callFunc 33 a).run (SqG.prog aLt) w = .ok (.enter 33 a) w := zac rfl Tryz.func33 rfl rfl a w
@[simp] theorem SqG.func34 : (SqG.prog aLt).funcs[34]? = some Tryz.f34 := zah rfl Tryz.func34
@[simp] theorem SqG.call34(a : Array Value)(w : World) : (callFunc 34 a).run (SqG.prog aLt) w = .ok (.enter 34 a) w := zac rfl Tryz.func34 rfl rfl a w
@[simp] theorem SqG.func36 : (SqG.prog aLt).funcs[36]? = some Tryz.f36 := zah rfl Tryz.func36
@[simp] theorem SqG.call36(a : Array Value)(w : World) : (callFunc 36 a).run (SqG.prog aLt) w = .ok (.enter 36 a) w := zac rfl Tryz.func36 rfl rfl a w
@[simp] theorem SqG.func39 : (SqG.prog aLt).funcs[39]? = some Tryz.f39 := zah rfl Tryz.func39
@[simp] theorem SqG.call39(a : Array Value)(w : World) : (callFunc 39 a).run (SqG.prog aLt) w = .ok (.enter 39 a) w := zac rfl Tryz.func39 rfl rfl a w
@[simp] theorem SqG.func40 : (SqG.prog aLt).funcs[40]? = some Tryz.f40 := zah rfl Tryz.func40
@[simp] theorem SqG.call40(a : Array Value)(w : World) : (callFunc 40 a).run (SqG.prog aLt) w = .ok (.enter 40 a) w := zac rfl Tryz.func40 rfl rfl a w
@[simp] theorem SqG.func41 : (SqG.prog aLt).funcs[41]? = some Tryz.f41 := zah rfl Tryz.func41
@[simp] theorem SqG.call41(a : Array Value)(w : World) : (callFunc 41 a).run (SqG.prog aLt) w = .ok (.enter 41 a) w := zac rfl Tryz.func41 rfl rfl a w
@[simp] theorem SqG.func42 : (SqG.prog aLt).funcs[42]? = some Tryz.f42 := zah rfl Tryz.func42
@[simp] theorem SqG.call42(a : Array Value)(w : World) : (callFunc 42 a).run (SqG.prog aLt) w = .ok (.enter 42 a) w := zac rfl Tryz.func42 rfl rfl a w
@[simp] theorem SqG.func43 : (SqG.prog aLt).funcs[43]? = some Tryz.f43 := zah rfl Tryz.func43
@[simp] theorem SqG.call43(a : Array Value)(w : World) : (callFunc 43 a).run (SqG.prog aLt) w = .ok (.enter 43 a) w := zac rfl Tryz.func43 rfl rfl a w
@[simp] theorem SqG.func44 : (SqG.prog aLt).funcs[44]? = some Tryz.f44 := zah rfl Tryz.func44
@[simp] theorem SqG.call44(a : Array Value)(w : World) : (callFunc 44 a).run (SqG.prog aLt) w = .ok (.enter 44 a) w := zac rfl Tryz.func44 rfl rfl a w
@[simp] theorem SqG.func45 : (SqG.prog aLt).funcs[45]? = some Tryz.f45 := zah rfl Tryz.func45
@[simp] theorem SqG.call45(a : Array Value)(w : World) : (callFunc 45 a).run (SqG.prog aLt) w = .ok (.enter 45 a) w := zac rfl Tryz.func45 rfl rfl a w
@[simp] theorem SqG.func46 : (SqG.prog aLt).funcs[46]? = some Tryz.f46 := zah rfl Tryz.func46
@[simp] theorem SqG.call46(a : Array Value)(w : World) : (callFunc 46 a).run (SqG.prog aLt) w = .ok (.enter 46 a) w := zac rfl Tryz.func46 rfl rfl a w
@[simp] theorem SqG.func47 : (SqG.prog aLt).funcs[47]? = some Tryz.f47 := zah rfl Tryz.func47
@[simp] theorem SqG.call47(a : Array Value)(w : World) : (callFunc 47 a).run (SqG.prog aLt) w = .ok (.enter 47 a) w := zac rfl Tryz.func47 rfl rfl a w
@[simp] theorem SqG.func48 : (SqG.prog aLt).funcs[48]? = some Tryz.f48 := zah rfl Tryz.func48
@[simp] theorem SqG.call48(a : Array Value)(w : World) : (callFunc 48 a).run (SqG.prog aLt) w = .ok (.enter 48 a) w := zac rfl Tryz.func48 rfl rfl a w
@[simp] theorem SqG.func49 : (SqG.prog aLt).funcs[49]? = some Tryz.f49 := zah rfl Tryz.func49
@[simp] theorem SqG.call49(a : Array Value)(w : World) : (callFunc 49 a).run (SqG.prog aLt) w = .ok (.enter 49 a) w := zac rfl Tryz.func49 rfl rfl a w
@[simp] theorem SqG.func50 : (SqG.prog aLt).funcs[50]? = some Tryz.f50 := zah rfl Tryz.func50
@[simp] theorem SqG.call50(a : Array Value)(w : World) : (callFunc 50 a).run (SqG.prog aLt) w = .ok (.enter 50 a) w := zac rfl Tryz.func50 rfl rfl a w
@[simp] theorem SqG.func51 : (SqG.prog aLt).funcs[51]? = some Tryz.f51 := zah rfl Tryz.func51
@[simp] theorem SqG.call51(a : Array Value)(w : World) : (callFunc 51 a).run (SqG.prog aLt) w = .ok (.enter 51 a) w := zac rfl Tryz.func51 rfl rfl a w
@[simp] theorem SqG.func54 : (SqG.prog aLt).funcs[54]? = some Tryz.f54 := zah rfl Tryz.func54
@[simp] theorem SqG.call54(a : Array Value)(w : World) : (callFunc 54 a).run (SqG.prog aLt) w = .ok (.enter 54 a) w := zac rfl Tryz.func54 rfl rfl a w
@[simp] theorem SqG.func55 : (SqG.prog aLt).funcs[55]? = some Tryz.f55 := zah rfl Tryz.func55
@[simp] theorem SqG.call55(a : Array Value)(w : World) : (callFunc 55 a).run (SqG.prog aLt) w = .ok (.enter 55 a) w := zac rfl Tryz.func55 rfl rfl a w
@[simp] theorem SqG.func56 : (SqG.prog aLt).funcs[56]? = some Tryz.f56 := zah rfl Tryz.func56
@[simp] theorem SqG.call56(a : Array Value)(w : World) : (callFunc 56 a).run (SqG.prog aLt) w = .ok (.enter 56 a) w := zac rfl Tryz.func56 rfl rfl a w
@[simp] theorem SqG.func57 : (SqG.prog aLt).funcs[57]? = some Tryz.f57 := zah rfl Tryz.func57
@[simp] theorem SqG.call57(a : Array Value)(w : World) : (callFunc 57 a).run (SqG.prog aLt) w = .ok (.enter 57 a) w := zac rfl Tryz.func57 rfl rfl a w
@[simp] theorem SqG.func58 : (SqG.prog aLt).funcs[58]? = some Tryz.f58 := zah rfl Tryz.func58
@[simp] theorem SqG.call58(a : Array Value)(w : World) : (callFunc 58 a).run (SqG.prog aLt) w = .ok (.enter 58 a) w := zac rfl Tryz.func58 rfl rfl a w
@[simp] theorem SqG.func59 : (SqG.prog aLt).funcs[59]? = some Tryz.f59 := zah rfl Tryz.func59
@[simp] theorem SqG.call59(a : Array Value)(w : World) : (callFunc 59 a).run (SqG.prog aLt) w = .ok (.enter 59 a) w := zac rfl Tryz.func59 rfl rfl a w
@[simp] theorem SqG.func60 : (SqG.prog aLt).funcs[60]? = some Tryz.f60 := zah rfl Tryz.func60
@[simp] theorem SqG.call60(a : Array Value)(w : World) : (callFunc 60 a).run (SqG.prog aLt) w = .ok (.enter 60 a) w := zac rfl Tryz.func60 rfl rfl a w
@[simp] theorem SqG.func61 : (SqG.prog aLt).funcs[61]? = some Tryz.f61 := zah rfl Tryz.func61
@[simp] theorem SqG.call61(a : Array Value)(w : World) : (callFunc 61 a).run (SqG.prog aLt) w = .ok (.enter 61 a) w := zac rfl Tryz.func61 rfl rfl a w
@[simp] theorem SqG.func62 : (SqG.prog aLt).funcs[62]? = some Tryz.f62 := zah rfl Tryz.func62
@[simp] theorem SqG.call62(a : Array Value)(w : World) : (callFunc 62 a).run (SqG.prog aLt) w = .ok (.enter 62 a) w := zac rfl Tryz.func62 rfl rfl a w
@[simp] theorem SqG.func63 : (SqG.prog aLt).funcs[63]? = some Tryz.f63 := zah rfl Tryz.func63
@[simp] theorem SqG.call63(a : Array Value)(w : World) : (callFunc 63 a).run (SqG.prog aLt) w = .ok (.enter 63 a) w := zac rfl Tryz.func63 rfl rfl a w
@[simp] theorem SqG.func64 : (SqG.prog aLt).funcs[64]? = some Tryz.f64 := zah rfl Tryz.func64
@[simp] theorem SqG.call64(a : Array Value)(w : World) : (callFunc 64 a).run (SqG.prog aLt) w = .ok (.enter 64 a) w := zac rfl Tryz.func64 rfl rfl a w
@[simp] theorem SqG.func65 : (SqG.prog aLt).funcs[65]? = some Tryz.f65 := zah rfl Tryz.func65
@[simp] theorem SqG.call65(a : Array Value)(w : World) : (callFunc 65 a).run (SqG.prog aLt) w = .ok (.enter 65 a) w := zac rfl Tryz.func65 rfl rfl a w
@[simp] theorem SqG.func66 : (SqG.prog aLt).funcs[66]? = some Tryz.f66 := zah rfl Tryz.func66
@[simp] theorem SqG.call66(a : Array Value)(w : World) : (callFunc 66 a).run (SqG.prog aLt) w = .ok (.enter 66 a) w := zac rfl Tryz.func66 rfl rfl a w
@[simp] theorem SqG.func68 : (SqG.prog aLt).funcs[68]? = some Tryz.f68 := zah rfl Tryz.func68
@[simp] theorem SqG.call68(a : Array Value)(w : World) : (callFunc 68 a).run (SqG.prog aLt) w = .ok (.enter 68 a) w := zac rfl Tryz.func68 rfl rfl a w
@[simp] theorem SqG.func69 : (SqG.prog aLt).funcs[69]? = some Tryz.f69 := zah rfl Tryz.func69
@[simp] theorem SqG.call69(a : Array Value)(w : World) : (callFunc 69 a).run (SqG.prog aLt) w = .ok (.enter 69 a) w := zac rfl Tryz.func69 rfl rfl a w
@[simp] theorem SqG.func70 : (SqG.prog aLt).funcs[70]? = some Tryz.f70 := zah rfl Tryz.func70
@[simp] theorem SqG.call70(a : Array Value)(w : World) : (callFunc 70 a).run (SqG.prog aLt) w = .ok (.enter 70 a) w := zac rfl Tryz.func70 rfl rfl a w
@[simp] theorem SqG.func76 : (SqG.prog aLt).funcs[76]? = some Tryz.f76 := zah rfl Tryz.func76
@[simp] theorem SqG.call76(a : Array Value)(w : World) : (callFunc 76 a).run (SqG.prog aLt) w = .ok (.enter 76 a) w := zac rfl Tryz.func76 rfl rfl a w
@[simp] theorem SqG.func77 : (SqG.prog aLt).funcs[77]? = some Tryz.f77 := zah rfl Tryz.func77
@[simp] theorem SqG.call77(a : Array Value)(w : World) : (callFunc 77 a).run (SqG.prog aLt) w = .ok (.enter 77 a) w := zac rfl Tryz.func77 rfl rfl a w
@[simp] theorem SqG.func78 : (SqG.prog aLt).funcs[78]? = some Tryz.f78 := zah rfl Tryz.func78
@[simp] theorem SqG.call78(a : Array Value)(w : World) : (callFunc 78 a).run (SqG.prog aLt) w = .ok (.enter 78 a) w := zac rfl Tryz.func78 rfl rfl a w
@[simp] theorem SqG.func79 : (SqG.prog aLt).funcs[79]? = some Tryz.f79 := zah rfl Tryz.func79
@[simp] theorem SqG.call79(a : Array Value)(w : World) : (callFunc 79 a).run (SqG.prog aLt) w = .ok (.enter 79 a) w := zac rfl Tryz.func79 rfl rfl a w
@[simp] theorem SqG.func80 : (SqG.prog aLt).funcs[80]? = some Tryz.f80 := zah rfl Tryz.func80
@[simp] theorem SqG.call80(a : Array Value)(w : World) : (callFunc 80 a).run (SqG.prog aLt) w = .ok (.enter 80 a) w := zac rfl Tryz.func80 rfl rfl a w
@[simp] theorem SqG.func83 : (SqG.prog aLt).funcs[83]? = some Tryz.f83 := zah rfl Tryz.func83
@[simp] theorem SqG.call83(a : Array Value)(w : World) : (callFunc 83 a).run (SqG.prog aLt) w = .ok (.enter 83 a) w := zac rfl Tryz.func83 rfl rfl a w
@[simp] theorem SqG.func84 : (SqG.prog aLt).funcs[84]? = some Tryz.f84 := zah rfl Tryz.func84
@[simp] theorem SqG.call84(a : Array Value)(w : World) : (callFunc 84 a).run (SqG.prog aLt) w = .ok (.enter 84 a) w := zac rfl Tryz.func84 rfl rfl a w
@[simp] theorem SqG.func98 : (SqG.prog aLt).funcs[98]? = some Tryz.f98 := zah rfl Tryz.func98
@[simp] theorem SqG.call98(a : Array Value)(w : World) : (callFunc 98 a).run (SqG.prog aLt) w = .ok (.enter 98 a) w := zac rfl Tryz.func98 rfl rfl a w
@[simp] theorem SqG.func104 : (SqG.prog aLt).funcs[104]? = some Tryz.f104 := zah rfl Tryz.func104
@[simp] theorem SqG.call104(a : Array Value)(w : World) : (callFunc 104 a).run (SqG.prog aLt) w = .ok (.enter 104 a) w := zac rfl Tryz.func104 rfl rfl a w
@[simp] theorem SqG.func105 : (SqG.prog aLt).funcs[105]? = some Tryz.f105 := zah rfl Tryz.func105
@[simp] theorem SqG.call105(a : Array Value)(w : World) : (callFunc 105 a).run (SqG.prog aLt) w = .ok (.enter 105 a) w := zac rfl Tryz.func105 rfl rfl a w
@[simp] theorem SqG.func106 : (SqG.prog aLt).funcs[106]? = some Tryz.f106 := zah rfl Tryz.func106
@[simp] theorem SqG.call106(a : Array Value)(w : World) : (callFunc 106 a).run (SqG.prog aLt) w = .ok (.enter 106 a) w := zac rfl Tryz.func106 rfl rfl a w
@[simp] theorem SqG.func107 : (SqG.prog aLt).funcs[107]? = some Tryz.f107 := zah rfl Tryz.func107
@[simp] theorem SqG.call107(a : Array Value)(w : World) : (callFunc 107 a).run (SqG.prog aLt) w = .ok (.enter 107 a) w := zac rfl Tryz.func107 rfl rfl a w
@[simp] theorem SqG.func108 : (SqG.prog aLt).funcs[108]? = some Tryz.f108 := zah rfl Tryz.func108
@[simp] theorem SqG.call108(a : Array Value)(w : World) : (callFunc 108 a).run (SqG.prog aLt) w = .ok (.enter 108 a) w := zac rfl Tryz.func108 rfl rfl a w
@[simp] theorem SqG.func109 : (SqG.prog aLt).funcs[109]? = some Tryz.f109 := zah rfl Tryz.func109
@[simp] theorem SqG.call109(a : Array Value)(w : World) : (callFunc 109 a).run (SqG.prog aLt) w = .ok (.enter 109 a) w := zac rfl Tryz.func109 rfl rfl a w
@[simp] theorem SqG.func110 : (SqG.prog aLt).funcs[110]? = some Tryz.f110 := zah rfl Tryz.func110
@[simp] theorem SqG.call110(a : Array Value)(w : World) : (callFunc 110 a).run (SqG.prog aLt) w = .ok (.enter 110 a) w := zac rfl Tryz.func110 rfl rfl a w
@[simp] theorem SqG.func116 : (SqG.prog aLt).funcs[116]? = some Tryz.f116 := zah rfl Tryz.func116
@[simp] theorem SqG.call116(a : Array Value)(w : World) : (callFunc 116 a).run (SqG.prog aLt) w = .ok (.enter 116 a) w := zac rfl Tryz.func116 rfl rfl a w
@[simp] theorem SqG.func117 : (SqG.prog aLt).funcs[117]? = some Tryz.f117 := zah rfl Tryz.func117
@[simp] theorem SqG.call117(a : Array Value)(w : World) : (callFunc 117 a).run (SqG.prog aLt) w = .ok (.enter 117 a) w := zac rfl Tryz.func117 rfl rfl a w
@[simp] theorem SqG.func118 : (SqG.prog aLt).funcs[118]? = some Tryz.f118 := zah rfl Tryz.func118
@[simp] theorem SqG.call118(a : Array Value)(w : World) : (callFunc 118 a).run (SqG.prog aLt) w = .ok (.enter 118 a) w := zac rfl Tryz.func118 rfl rfl a w
@[simp] theorem SqG.func119 : (SqG.prog aLt).funcs[119]? = some Tryz.f119 := zah rfl Tryz.func119
@[simp] theorem SqG.call119(a : Array Value)(w : World) : (callFunc 119 a).run (SqG.prog aLt) w = .ok (.enter 119 a) w := zac rfl Tryz.func119 rfl rfl a w
@[simp] theorem SqG.func120 : (SqG.prog aLt).funcs[120]? = some Tryz.f120 := zah rfl Tryz.func120
@[simp] theorem SqG.call120(a : Array Value)(w : World) : (callFunc 120 a).run (SqG.prog aLt) w = .ok (.enter 120 a) w := zac rfl Tryz.func120 rfl rfl a w
@[simp] theorem SqG.func121 : (SqG.prog aLt).funcs[121]? = some Tryz.f121 := zah rfl Tryz.func121
@[simp] theorem SqG.call121(a : Array Value)(w : World) : (callFunc 121 a).run (SqG.prog aLt) w = .ok (.enter 121 a) w := zac rfl Tryz.func121 rfl rfl a w
@[simp] theorem SqG.func122 : (SqG.prog aLt).funcs[122]? = some Tryz.f122 := zah rfl Tryz.func122
@[simp] theorem SqG.call122(a : Array Value)(w : World) : (callFunc 122 a).run (SqG.prog aLt) w = .ok (.enter 122 a) w := zac rfl Tryz.func122 rfl rfl a w
@[simp] theorem SqG.func123 : (SqG.prog aLt).funcs[123]? = some Tryz.f123 := zah rfl Tryz.func123
@[simp] theorem SqG.call123(a : Array Value)(w : World) : (callFunc 123 a).run (SqG.prog aLt) w = .ok (.enter 123 a) w := zac rfl Tryz.func123 rfl rfl a w
@[simp] theorem SqG.func124 : (SqG.prog aLt).funcs[124]? = some Tryz.f124 := zah rfl Tryz.func124
@[simp] theorem SqG.call124(a : Array Value)(w : World) : (callFunc 124 a).run (SqG.prog aLt) w = .ok (.enter 124 a) w := zac rfl Tryz.func124 rfl rfl a w
@[simp] theorem SqG.func125 : (SqG.prog aLt).funcs[125]? = some Tryz.f125 := zah rfl Tryz.func125
@[simp] theorem SqG.call125(a : Array Value)(w : World) : (callFunc 125 a).run (SqG.prog aLt) w = .ok (.enter 125 a) w := zac rfl Tryz.func125 rfl rfl a w
@[simp] theorem SqG.func126 : (SqG.prog aLt).funcs[126]? = some Tryz.f126 := zah rfl Tryz.func126
@[simp] theorem SqG.call126(a : Array Value)(w : World) : (callFunc 126 a).run (SqG.prog aLt) w = .ok (.enter 126 a) w := zac rfl Tryz.func126 rfl rfl a w
@[simp] theorem SqG.func127 : (SqG.prog aLt).funcs[127]? = some Tryz.f127 := zah rfl Tryz.func127
@[simp] theorem SqG.func128 : (SqG.prog aLt).funcs[128]? = some Tryz.f128 := zah rfl Tryz.func128
@[simp] theorem SqG.func129 : (SqG.prog aLt).funcs[129]? = some Tryz.f129 := zah rfl Tryz.func129
@[simp] theorem SqG.func130 : (SqG.prog aLt).funcs[130]? = some Tryz.f130 := zah rfl Tryz.func130
@[simp] theorem SqG.func131 : (SqG.prog aLt).funcs[131]? = some Tryz.f131 := zah rfl Tryz.func131
@[simp] theorem SqG.func132 : (SqG.prog aLt).funcs[132]? = some Tryz.f132 := zah rfl Tryz.func132
@[simp] theorem SqG.func133 : (SqG.prog aLt).funcs[133]? = some Tryz.f133 := zah rfl Tryz.func133
@[simp] theorem SqG.call133(a : Array Value)(w : World) : (callFunc 133 a).run (SqG.prog aLt) w = .ok (.enter 133 a) w := zac rfl Tryz.func133 rfl rfl a w
@[simp] theorem SqG.func134 : (SqG.prog aLt).funcs[134]? = some Tryz.f134 := zah rfl Tryz.func134
@[simp] theorem SqG.call134(a : Array Value)(w : World) : (callFunc 134 a).run (SqG.prog aLt) w = .ok (.enter 134 a) w := zac rfl Tryz.func134 rfl rfl a w
@[simp] theorem SqG.func135 : (SqG.prog aLt).funcs[135]? = some Tryz.f135 := zah rfl Tryz.func135
@[simp] theorem SqG.call135(a : Array Value)(w : World) : (callFunc 135 a).run (SqG.prog aLt) w = .ok (.enter 135 a) w := zac rfl Tryz.func135 rfl rfl a w
@[simp] theorem SqG.func136 : (SqG.prog aLt).funcs[136]? = some Tryz.f136 := zah rfl Tryz.func136
@[simp] theorem SqG.call136(a : Array Value)(w : World) : (callFunc 136 a).run (SqG.prog aLt) w = .ok (.enter 136 a) w := zac rfl Tryz.func136 rfl rfl a w
@[simp] theorem SqG.func137 : (SqG.prog aLt).funcs[137]? = some Tryz.f137 := zah rfl Tryz.func137
@[simp] theorem SqG.call137(a : Array Value)(w : World) : (callFunc 137 a).run (SqG.prog aLt) w = .ok (.enter 137 a) w := zac rfl Tryz.func137 rfl rfl a w
@[simp] theorem SqG.func138 : (SqG.prog aLt).funcs[138]? = some Tryz.f138 := zah rfl Tryz.func138
@[simp] theorem SqG.call138(a : Array Value)(w : World) : (callFunc 138 a).run (SqG.prog aLt) w = .ok (.enter 138 a) w := zac rfl Tryz.func138 rfl rfl a w
@[simp] theorem SqG.func139 : (SqG.prog aLt).funcs[139]? = some Tryz.f139 := zah rfl Tryz.func139
@[simp] theorem SqG.call139(a : Array Value)(w : World) : (callFunc 139 a).run (SqG.prog aLt) w = .ok (.enter 139 a) w := zac rfl Tryz.func139 rfl rfl a w
@[simp] theorem SqG.func140 : (SqG.prog aLt).funcs[140]? = some Tryz.f140 := zah rfl Tryz.func140
@[simp] theorem SqG.call140(a : Array Value)(w : World) : (callFunc 140 a).run (SqG.prog aLt) w = .ok (.enter 140 a) w := zac rfl Tryz.func140 rfl rfl a w
@[simp] theorem SqG.func141 : (SqG.prog aLt).funcs[141]? = some Tryz.f141 := zah rfl Tryz.func141
@[simp] theorem SqG.call141(a : Array Value)(w : World) : (callFunc 141 a).run (SqG.prog aLt) w = .ok (.enter 141 a) w := zac rfl Tryz.func141 rfl rfl a w
@[simp] theorem SqG.func142 : (SqG.prog aLt).funcs[142]? = some Tryz.f142 := zah rfl Tryz.func142
@[simp] theorem SqG.call142(a : Array Value)(w : World) : (callFunc 142 a).run (SqG.prog aLt) w = .ok (.enter 142 a) w := zac rfl Tryz.func142 rfl rfl a w
@[simp] theorem SqG.func143 : (SqG.prog aLt).funcs[143]? = some Tryz.f143 := zah rfl Tryz.func143
@[simp] theorem SqG.call143(a : Array Value)(w : World) : (callFunc 143 a).run (SqG.prog aLt) w = .ok (.enter 143 a) w := zac rfl Tryz.func143 rfl rfl a w
@[simp] theorem SqG.func144 : (SqG.prog aLt).funcs[144]? = some Tryz.f144 := zah rfl Tryz.func144
@[simp] theorem SqG.call144(a : Array Value)(w : World) : (callFunc 144 a).run (SqG.prog aLt) w = .ok (.enter 144 a) w := zac rfl Tryz.func144 rfl rfl a w
@[simp] theorem SqG.func145 : (SqG.prog aLt).funcs[145]? = some Tryz.f145 := zah rfl Tryz.func145
@[simp] theorem SqG.call145(a : Array Value)(w : World) : (callFunc 145 a).run (SqG.prog aLt) w = .ok (.enter 145 a) w := zac rfl Tryz.func145 rfl rfl a w
@[simp] theorem SqG.func146 : (SqG.prog aLt).funcs[146]? = some Tryz.f146 := zah rfl Tryz.func146
@[simp] theorem SqG.call146(a : Array Value)(w : World) : (callFunc 146 a).run (SqG.prog aLt) w = .ok (.enter 146 a) w := zac rfl Tryz.func146 rfl rfl a w
@[simp] theorem SqG.func162 : (SqG.prog aLt).funcs[162]? = some Tryz.f162 := zah rfl Tryz.func162
@[simp] theorem SqG.call162(a : Array Value)(w : World) : (callFunc 162 a).run (SqG.prog aLt) w = .ok (.enter 162 a) w := zac rfl Tryz.func162 rfl rfl a w
@[simp] theorem SqG.func170 : (SqG.prog aLt).funcs[170]? = some Tryz.f170 := zah rfl Tryz.func170
@[simp] theorem SqG.call170(a : Array Value)(w : World) : (callFunc 170 a).run (SqG.prog aLt) w = .ok (.enter 170 a) w := zac rfl Tryz.func170 rfl rfl a w
