/- Part. -/
import Derived.Test.YtbggojblgbeohaaGreatLZz
import Derived.Test.YtbggojblgbeohaaGreatChecked
import Derived.Calls
import Derived.Laws.Sem
import Derived.Below
namespace Go.Proofs.YtbggojblgbeohaaGreat
variable{f:Func}{n:FuncId}{i:Nat}
section
def zaA(P:Program)(off:Nat->Bool)(alt:Nat->Func->Func):Program:=⟨P.toTables,P.funcs.mapIdx fun i f=>if off i then alt i f else f⟩
def zcQ(f:Func):Func:={ f with name:= "none",origin:= "none",body:=none }
section
variable{P:Program}{off:Nat->Bool}{alt:Nat->Func->Func}
theorem zah(h:off i=false)(hf:P.funcs[i]?=some f):(zaA P off alt).funcs[i]?=some f:=by
 show (P.funcs.mapIdx _)[i]?=some f
 rw[Array.getElem?_mapIdx,hf]
 simp[h]
theorem zlg(h:off i=true)(hf:P.funcs[i]?=some f):(zaA P off alt).funcs[i]?=some (alt i f):=by
 show (P.funcs.mapIdx _)[i]?=some _
 rw[Array.getElem?_mapIdx,hf]
 simp[h]
theorem zfu:(zaA P off alt).toTables=P.toTables:=id rfl
theorem zcs(n:TypeId):(zaA P off alt).underlying n=P.underlying n:=by unfold Program.underlying;simp only[zfu]
theorem ze0(n:TypeId)(w:World):(typeInfo n).run (zaA P off alt) w=(typeInfo n).run P w:=by
 unfold typeInfo
 simp[zfu]
 cases P.info? n <;> simp
theorem zhj(n:TypeId)(w:World):(sizeOf n).run (zaA P off alt) w=(sizeOf n).run P w:=by
 unfold Go.sizeOf
 simp[ze0]
theorem zbI(n:TypeId)(w:World):(underlying n).run (zaA P off alt) w=(underlying n).run P w:=by
 unfold underlying
 simp[zcs]
 cases P.underlying n <;> simp
theorem zd0(n:TypeId)(w:World):(zeroValue n).run (zaA P off alt) w=(zeroValue n).run P w:=by
 unfold zeroValue
 simp[ze0]
 cases (typeInfo n).run P w with
 | ok i w'=>simp;cases i.zero <;> simp
 | halt h w'=>simp
theorem ziU(n:TypeId)(w:World):(isAgg n).run (zaA P off alt) w=(isAgg n).run P w:=by
 unfold isAgg
 simp[zbI]
 cases (underlying n).run P w with
 | ok i w'=>simp;cases i <;> simp
 | halt h w'=>simp
theorem zac(h:off n=false)(hf:P.funcs[n]?=some f)(hb:f.body.isNone=false)(hn:(f.name == "runtime.NumGoroutine")=false)(a:Array Value)(w:World):(callFunc n a).run (zaA P off alt) w=.ok (.enter n a) w:=by
 unfold callFunc
 have h1:¬ f.name= "runtime.NumGoroutine":=by simpa using hn
 have h2:¬ f.body=none:=fun e=>by rw[e] at hb;cases hb
 simp[zah (alt:=alt) h hf,h1,h2]
theorem zke(h:off n=true)(hf:P.funcs[n]?=some f)(hb:(alt n f).body.isNone=false)(hn:((alt n f).name == "runtime.NumGoroutine")=false)(a:Array Value)(w:World):(callFunc n a).run (zaA P off alt) w=.ok (.enter n a) w:=by
 unfold callFunc
 have h1:¬ (alt n f).name= "runtime.NumGoroutine":=by simpa using hn
 have h2:¬ (alt n f).body=none:=fun e=>by rw[e] at hb;cases hb
 simp[zlg (alt:=alt) h hf,h1,h2]
end
end
section
open Go
section
variable(T:Tables)(F1 F2:Array Func)
theorem zq0(t:TypeId):(Program.mk T F1).info? t=(Program.mk T F2).info? t:=rfl
theorem zgJ(t:TypeId):(Program.mk T F1).underlying t=(Program.mk T F2).underlying t:=by unfold Program.underlying;rfl
theorem zgI:(Program.mk T F1).depth=(Program.mk T F2).depth:=by unfold Program.depth;rfl
theorem zsr(t:TypeId):(Program.mk T F1).underlyingId t=(Program.mk T F2).underlyingId t:=by unfold Program.underlyingId;rfl
theorem zjS:∀(d:Nat) (t u:TypeId),(Program.mk T F1).alikeButTags d t u=(Program.mk T F2).alikeButTags d t u
 | 0,_,_=>rfl
 | d+1,t,u=>by
  have ih:(Program.mk T F1).alikeButTags d=(Program.mk T F2).alikeButTags d:=funext fun x=>funext fun y=>zjS d x y
  unfold Program.alikeButTags
  rw[ih]
theorem zk0(t:TypeId):(Program.mk T F1).stoodInAs t=(Program.mk T F2).stoodInAs t:=by
 unfold Program.stoodInAs
 have h:(Program.mk T F1).alikeButTags=(Program.mk T F2).alikeButTags:=funext fun d=>funext fun x=>funext fun y=>zjS T F1 F2 d x y
 have hu:(Program.mk T F1).underlyingId=(Program.mk T F2).underlyingId:=funext fun x=>zsr T F1 F2 x
 rw[h,hu,zgJ T F1 F2,zgI T F1 F2]
theorem zpm(t:TypeId):(Program.mk T F1).stoodInHeld t=(Program.mk T F2).stoodInHeld t:=by
 unfold Program.stoodInHeld
 rw[zk0 T F1 F2]
theorem zgH(t:TypeId):(Program.mk T F1).cellsOf t=(Program.mk T F2).cellsOf t:=by unfold Program.cellsOf;rfl
theorem zgG(t:TypeId):(Program.mk T F1).bytesOf t=(Program.mk T F2).bytesOf t:=by unfold Program.bytesOf;rfl
theorem zcv:∀(d:Nat) (t:TypeId) (off:Nat),byteOfCell (Program.mk T F1) d t off=byteOfCell (Program.mk T F2) d t off
 | 0,_,_=>rfl
 | d+1,t,off=>by
  unfold byteOfCell
  simp only[zgJ T F1 F2,zgH T F1 F2,zgG T F1 F2,zcv d]
theorem zdu:∀(d:Nat) (t:TypeId) (off:Nat),cellOfByte (Program.mk T F1) d t off=cellOfByte (Program.mk T F2) d t off
 | 0,_,_=>rfl
 | d+1,t,off=>by
  unfold cellOfByte
  simp only[zgJ T F1 F2,zgH T F1 F2,zgG T F1 F2,zdu d]
theorem zsq(d:Nat)(e:TypeId)(c o:Nat)(n:Int):cellAtBytes (Program.mk T F1) d e c o n=cellAtBytes (Program.mk T F2) d e c o n:=by
 unfold cellAtBytes
 simp only[zgH T F1 F2,zgG T F1 F2,zcv T F1 F2,zdu T F1 F2]
theorem zkZ:∀(d:Nat) (t:TypeId),(Program.mk T F1).eqGuardType d t=(Program.mk T F2).eqGuardType d t
 | 0,_=>rfl
 | d+1,t=>by
  unfold Program.eqGuardType
  simp only[zgJ T F1 F2,zkZ d]
end
def Sq.off(i:Nat):Bool:=([0,1,6,20,21,39,42,43,44,45,46,56,57,58,59,60,61,62,63,64,65,66,67,68,69,70,72,73,74,75,76,85,86,87,88,89,122,123,124,125,126,127,128,129,130,131,132,133,134,135,136,147]:List Nat).contains i
class zl9 where
 alt:Nat->Func->Func
noncomputable def Sq.prog[A:zl9]:Program:=zaA Tryz.prog Sq.off A.alt
section
variable[zl9]
@[simp] theorem Sq.tabs : Sq.prog.toTables = Tryz.prog.toTables := zfu
@[simp] theorem Sq.underlying(n : TypeId) : Sq.prog.underlying n = Tryz.prog.underlying n := zcs n
@[simp] theorem Sq.sizeOf(n : TypeId)(w : World) : (Go.sizeOf n).run Sq.prog w = (Go.sizeOf n).run Tryz.prog w := zhj n w
@[simp] theorem Sq.runUnderlying(n : TypeId)(w : World) : (Go.underlying n).run Sq.prog w = (Go.underlying n).run Tryz.prog w := zbI n w
@[simp] theorem Sq.zeroValue(n : TypeId)(w : World) : (Go.zeroValue n).run Sq.prog w = (Go.zeroValue n).run Tryz.prog w := zd0 n w
@[simp] theorem Sq.isAgg(n : TypeId)(w : World) : (Go.isAgg n).run Sq.prog w = (Go.isAgg n).run Tryz.prog w := ziU n w
end
abbrev opr(d:Option Tmp)(op:Op)(t:TypeId):Oper:={ dst:=d,op:=op,type:=t,pos:= "",after:=#[],guard:=none }
abbrev ckA:Code:=.region 0 #[opr (some 2) (.box 25 (.tmp 0)) 0,opr (some 3) (.fieldAddr 25 (.tmp 2) 0) 0,opr (some 4) (.load 3 (.tmp 3)) 3,opr (some 5) (.binOp .mul 3 (.tmp 4) (.const (.int .i64 0)) 3) 3,opr (some 6) (.fieldAddr 25 (.tmp 2) 1) 0,opr (some 7) (.load 23 (.tmp 6)) 23,opr (some 8) (.call { callee:=.builtin .len,args:=#[.tmp 7],argTypes:=#[23] }) 3,opr (some 9) (.move (.const (.int .i64 0))) 3,opr (some 10) (.binOp .lss 3 (.tmp 8) (.const (.int .i64 4611686018427387904)) 3) 4] false
abbrev ckL:Code:=.seq (.region 1 #[opr (some 10) (.binOp .lss 3 (.tmp 9) (.tmp 8) 3) 4] false) (.seq (.cond (.tmp 10) .skip (.exit 0)) (.region 2 #[opr (some 11) (.indexAddr 23 (.tmp 7) (.tmp 9)) 0,opr (some 12) (.fieldAddr 50 (.tmp 11) 0) 0,opr (some 13) (.load 3 (.tmp 12)) 3,opr (some 14) (.binOp .mul 3 (.tmp 13) (.const (.int .i64 0)) 3) 3,opr (some 15) (.fieldAddr 50 (.tmp 11) 1) 0,opr (some 16) (.load 3 (.tmp 15)) 3,opr (some 17) (.binOp .mul 3 (.tmp 16) (.const (.int .i64 0)) 3) 3,opr (some 18) (.binOp .add 3 (.tmp 9) (.const (.int .i64 1)) 3) 3,opr (some 9) (.move (.tmp 18)) 3] false))
abbrev ckS:Code:=.region 3 #[opr (none) (.store 25 (.tmp 2) (.tmp 0)) 0] false
abbrev zkc(rest:Code):Code:=.seq ckA (.seq (.cond (.tmp 10) .skip (.refuse "too long")) (.seq (.block 0 (.loop ckL)) (.seq ckS rest)))
abbrev scL:Code:=.seq (.region 7 #[opr (some 11) (.binOp .lss 3 (.tmp 10) (.tmp 7) 3) 4] false) (.seq (.cond (.tmp 11) .skip (.exit 1)) (.region 8 #[opr (some 12) (.call { callee:=.value (.func 40),args:=#[.tmp 0,.tmp 10],argTypes:=#[25,3] }) 3,opr (some 13) (.indexAddr 27 (.tmp 8) (.tmp 10)) 0,opr none (.store 3 (.tmp 13) (.tmp 12)) 0,opr (some 14) (.call { callee:=.value (.func 22),args:=#[.tmp 0,.tmp 10],argTypes:=#[25,3] }) 27,opr (some 15) (.indexAddr 28 (.tmp 9) (.tmp 10)) 0,opr none (.store 27 (.tmp 15) (.tmp 14)) 0,opr (some 10) (.binOp .add 3 (.tmp 10) (.const (.int .i64 1)) 3) 3] false))
abbrev scA:Code:=.region 6 #[opr (some 6) (.call { callee:=.value (.func 19),args:=#[.tmp 0],argTypes:=#[25] }) 25,opr (some 7) (.call { callee:=.value (.func 29),args:=#[.tmp 0],argTypes:=#[25] }) 3,opr (some 8) (.makeSlice 27 (.tmp 7) (.tmp 7)) 27,opr (some 9) (.makeSlice 28 (.tmp 7) (.tmp 7)) 28,opr (some 10) (.move (.const (.int .i64 0))) 3] false
abbrev scZ:Code:=.region 9 #[opr (some 16) (.build 30 #[(0,.tmp 6),(1,.tmp 8),(2,.tmp 9)]) 30,opr (some 2) (.alloc 30) 0,opr none (.store 30 (.tmp 2) (.tmp 16)) 0,opr (some 3) (.move (.const (.bool true))) 4] false
abbrev scG:Code:=.region 4 #[opr (some 3) (.call { callee:=.value (.func 14),args:=#[.tmp 0],argTypes:=#[25] }) 4] false
abbrev scN:Code:=.seq (.region 5 #[opr (some 2) (.alloc 30) 0,opr (some 3) (.move (.const (.bool false))) 4] false) .ret
abbrev zhv:Code:=.seq scG (.seq (.cond (.tmp 3) .skip scN) (.seq scA (.seq (.block 1 (.loop scL)) (.seq scZ .ret))))
abbrev zrR:Code:=.seq (zkc .skip) zhv
def zmQ(f:Func):Func:={ f with ntmps:=22,body:=some zrR }
def Sq.altP(i:Nat)(f:Func):Func:=if i == 6 then zmQ f else zcQ f
def Sq.altN(_:Nat)(f:Func):Func:=zcQ f
abbrev Sq.P:zl9:=⟨Sq.altP⟩
abbrev Sq.N:zl9:=⟨Sq.altN⟩
noncomputable def SqG.prog(aLt:Nat->Func->Func):Program:=zaA Tryz.prog Sq.off aLt
section
variable{aLt:Nat->Func->Func}
@[simp] theorem SqG.tabs : (SqG.prog aLt).toTables = Tryz.prog.toTables := zfu
@[simp] theorem SqG.underlying(n : TypeId) : (SqG.prog aLt).underlying n = Tryz.prog.underlying n := zcs n
@[simp] theorem SqG.sizeOf(n : TypeId)(w : World) : (Go.sizeOf n).run (SqG.prog aLt) w = (Go.sizeOf n).run Tryz.prog w := zhj n w
@[simp] theorem SqG.runUnderlying(n : TypeId)(w : World) : (Go.underlying n).run (SqG.prog aLt) w = (Go.underlying n).run Tryz.prog w := zbI n w
@[simp] theorem SqG.zeroValue(n : TypeId)(w : World) : (Go.zeroValue n).run (SqG.prog aLt) w = (Go.zeroValue n).run Tryz.prog w := zd0 n w
@[simp] theorem SqG.isAgg(n : TypeId)(w : World) : (Go.isAgg n).run (SqG.prog aLt) w = (Go.isAgg n).run Tryz.prog w := ziU n w
@[simp] theorem SqG.depth : (SqG.prog aLt).depth = Tryz.prog.depth := zgI _ _ _
@[simp] theorem SqG.eqGuardType(n : TypeId) : (SqG.prog aLt).eqGuardType Tryz.prog.depth n = Tryz.prog.eqGuardType Tryz.prog.depth n := zkZ _ _ _ _ n
abbrev SqG.underlying23:=(SqG.underlying (aLt:=aLt) 23).trans Tryz.underlying23
abbrev SqG.underlying27:=(SqG.underlying (aLt:=aLt) 27).trans Tryz.underlying27
abbrev SqG.underlying28:=(SqG.underlying (aLt:=aLt) 28).trans Tryz.underlying28
abbrev SqG.underlying61:=(SqG.underlying (aLt:=aLt) 61).trans Tryz.underlying61
abbrev SqG.underlying62:=(SqG.underlying (aLt:=aLt) 62).trans Tryz.underlying62
abbrev SqG.underlying87:=(SqG.underlying (aLt:=aLt) 87).trans Tryz.underlying87
abbrev SqG.underlying108:=(SqG.underlying (aLt:=aLt) 108).trans Tryz.underlying108
abbrev SqG.underlying176:=(SqG.underlying (aLt:=aLt) 176).trans Tryz.underlying176
@[simp] theorem SqG.func3 : (SqG.prog aLt).funcs[3]? = some Tryz.f3 := zah rfl Tryz.func3
@[simp] theorem SqG.func4 : (SqG.prog aLt).funcs[4]? = some Tryz.f4 := zah rfl Tryz.func4
@[simp] theorem SqG.call4(a : Array Value)(w : World) : (callFunc 4 a).run (SqG.prog aLt) w = .ok (.enter 4 a) w := zac rfl Tryz.func4 rfl rfl a w
@[simp] theorem SqG.func5 : (SqG.prog aLt).funcs[5]? = some Tryz.f5 := zah rfl Tryz.func5
@[simp] theorem SqG.call5(a : Array Value)(w : World) : (callFunc 5 a).run (SqG.prog aLt) w = .ok (.enter 5 a) w := zac rfl Tryz.func5 rfl rfl a w
@[simp] theorem SqG.func7 : (SqG.prog aLt).funcs[7]? = some Tryz.f7 := zah rfl Tryz.func7
@[simp] theorem SqG.call7(a : Array Value)(w : World) : (callFunc 7 a).run (SqG.prog aLt) w = .ok (.enter 7 a) w := zac rfl Tryz.func7 rfl rfl a w
@[simp] theorem SqG.func8 : (SqG.prog aLt).funcs[8]? = some Tryz.f8 := zah rfl Tryz.func8
@[simp] theorem SqG.call8(a : Array Value)(w : World) : (callFunc 8 a).run (SqG.prog aLt) w = .ok (.enter 8 a) w := zac rfl Tryz.func8 rfl rfl a w
@[simp] theorem SqG.func9 : (SqG.prog aLt).funcs[9]? = some Tryz.f9 := zah rfl Tryz.func9
@[simp] theorem SqG.call9(a : Array Value)(w : World) : (callFunc 9 a).run (SqG.prog aLt) w = .ok (.enter 9 a) w := zac rfl Tryz.func9 rfl rfl a w
@[simp] theorem SqG.func10 : (SqG.prog aLt).funcs[10]? = some Tryz.f10 := zah rfl Tryz.func10
@[simp] theorem SqG.call10(a : Array Value)(w : World) : (callFunc 10 a).run (SqG.prog aLt) w = .ok (.enter 10 a) w := zac rfl Tryz.func10 rfl rfl a w
@[simp] theorem SqG.func11 : (SqG.prog aLt).funcs[11]? = some Tryz.f11 := zah rfl Tryz.func11
@[simp] theorem SqG.call11(a : Array Value)(w : World) : (callFunc 11 a).run (SqG.prog aLt) w = .ok (.enter 11 a) w := zac rfl Tryz.func11 rfl rfl a w
@[simp] theorem SqG.func12 : (SqG.prog aLt).funcs[12]? = some Tryz.f12 := zah rfl Tryz.func12
@[simp] theorem SqG.call12(a : Array Value)(w : World) : (callFunc 12 a).run (SqG.prog aLt) w = .ok (.enter 12 a) w := zac rfl Tryz.func12 rfl rfl a w
@[simp] theorem SqG.func13 : (SqG.prog aLt).funcs[13]? = some Tryz.f13 := zah rfl Tryz.func13
@[simp] theorem SqG.call13(a : Array Value)(w : World) : (callFunc 13 a).run (SqG.prog aLt) w = .ok (.enter 13 a) w := zac rfl Tryz.func13 rfl rfl a w
@[simp] theorem SqG.func14 : (SqG.prog aLt).funcs[14]? = some Tryz.f14 := zah rfl Tryz.func14
@[simp] theorem SqG.call14(a : Array Value)(w : World) : (callFunc 14 a).run (SqG.prog aLt) w = .ok (.enter 14 a) w := zac rfl Tryz.func14 rfl rfl a w
@[simp] theorem SqG.func15 : (SqG.prog aLt).funcs[15]? = some Tryz.f15 := zah rfl Tryz.func15
@[simp] theorem SqG.call15(a : Array Value)(w : World) : (callFunc 15 a).run (SqG.prog aLt) w = .ok (.enter 15 a) w := zac rfl Tryz.func15 rfl rfl a w
@[simp] theorem SqG.func16 : (SqG.prog aLt).funcs[16]? = some Tryz.f16 := zah rfl Tryz.func16
@[simp] theorem SqG.call16(a : Array Value)(w : World) : (callFunc 16 a).run (SqG.prog aLt) w = .ok (.enter 16 a) w := zac rfl Tryz.func16 rfl rfl a w
@[simp] theorem SqG.func17 : (SqG.prog aLt).funcs[17]? = some Tryz.f17 := zah rfl Tryz.func17
@[simp] theorem SqG.call17(a : Array Value)(w : World) : (callFunc 17 a).run (SqG.prog aLt) w = .ok (.enter 17 a) w := zac rfl Tryz.func17 rfl rfl a w
@[simp] theorem SqG.func18 : (SqG.prog aLt).funcs[18]? = some Tryz.f18 := zah rfl Tryz.func18
@[simp] theorem SqG.call18(a : Array Value)(w : World) : (callFunc 18 a).run (SqG.prog aLt) w = .ok (.enter 18 a) w := zac rfl Tryz.func18 rfl rfl a w
@[simp] theorem SqG.func19 : (SqG.prog aLt).funcs[19]? = some Tryz.f19 := zah rfl Tryz.func19
@[simp] theorem SqG.call19(a : Array Value)(w : World) : (callFunc 19 a).run (SqG.prog aLt) w = .ok (.enter 19 a) w := zac rfl Tryz.func19 rfl rfl a w
@[simp] theorem SqG.func22 : (SqG.prog aLt).funcs[22]? = some Tryz.f22 := zah rfl Tryz.func22
@[simp] theorem SqG.call22(a : Array Value)(w : World) : (callFunc 22 a).run (SqG.prog aLt) w = .ok (.enter 22 a) w := zac rfl Tryz.func22 rfl rfl a w
@[simp] theorem SqG.func23 : (SqG.prog aLt).funcs[23]? = some Tryz.f23 := zah rfl Tryz.func23
@[simp] theorem SqG.call23(a : Array Value)(w : World) : (callFunc 23 a).run (SqG.prog aLt) w = .ok (.enter 23 a) w := zac rfl Tryz.func23 rfl rfl a w
@[simp] theorem SqG.func24 : (SqG.prog aLt).funcs[24]? = some Tryz.f24 := zah rfl Tryz.func24
@[simp] theorem SqG.call24(a : Array Value)(w : World) : (callFunc 24 a).run (SqG.prog aLt) w = .ok (.enter 24 a) w := zac rfl Tryz.func24 rfl rfl a w
@[simp] theorem SqG.func25 : (SqG.prog aLt).funcs[25]? = some Tryz.f25 := zah rfl Tryz.func25
@[simp] theorem SqG.call25(a : Array Value)(w : World) : (callFunc 25 a).run (SqG.prog aLt) w = .ok (.enter 25 a) w := zac rfl Tryz.func25 rfl rfl a w
@[simp] theorem SqG.func26 : (SqG.prog aLt).funcs[26]? = some Tryz.f26 := zah rfl Tryz.func26
@[simp] theorem SqG.call26(a : Array Value)(w : World) : (callFunc 26 a).run (SqG.prog aLt) w = .ok (.enter 26 a) w := zac rfl Tryz.func26 rfl rfl a w
@[simp] theorem SqG.func27 : (SqG.prog aLt).funcs[27]? = some Tryz.f27 := zah rfl Tryz.func27
@[simp] theorem SqG.call27(a : Array Value)(w : World) : (callFunc 27 a).run (SqG.prog aLt) w = .ok (.enter 27 a) w := zac rfl Tryz.func27 rfl rfl a w
@[simp] theorem SqG.func28 : (SqG.prog aLt).funcs[28]? = some Tryz.f28 := zah rfl Tryz.func28
@[simp] theorem SqG.call28(a : Array Value)(w : World) : (callFunc 28 a).run (SqG.prog aLt) w = .ok (.enter 28 a) w := zac rfl Tryz.func28 rfl rfl a w
@[simp] theorem SqG.func29 : (SqG.prog aLt).funcs[29]? = some Tryz.f29 := zah rfl Tryz.func29
@[simp] theorem SqG.call29(a : Array Value)(w : World) : (callFunc 29 a).run (SqG.prog aLt) w = .ok (.enter 29 a) w := zac rfl Tryz.func29 rfl rfl a w
@[simp] theorem SqG.func30 : (SqG.prog aLt).funcs[30]? = some Tryz.f30 := zah rfl Tryz.func30
@[simp] theorem SqG.call30(a : Array Value)(w : World) : (callFunc 30 a).run (SqG.prog aLt) w = .ok (.enter 30 a) w := zac rfl Tryz.func30 rfl rfl a w
@[simp] theorem SqG.func31 : (SqG.prog aLt).funcs[31]? = some Tryz.f31 := zah rfl Tryz.func31
@[simp] theorem SqG.call31(a : Array Value)(w : World) : (callFunc 31 a).run (SqG.prog aLt) w = .ok (.enter 31 a) w := zac rfl Tryz.func31 rfl rfl a w
@[simp] theorem SqG.func32 : (SqG.prog aLt).funcs[32]? = some Tryz.f32 := zah rfl Tryz.func32
@[simp] theorem SqG.call32(a : Array Value)(w : World) : (callFunc 32 a).run (SqG.prog aLt) w = .ok (.enter 32 a) w := zac rfl Tryz.func32 rfl rfl a w
@[simp] theorem SqG.func33 : (SqG.prog aLt).funcs[33]? = some Tryz.f33 := zah rfl Tryz.func33
@[simp] theorem SqG.call33(a : Array Value)(w : World) : (callFunc 33 a).run (SqG.prog aLt) w = .ok (.enter 33 a) w := zac rfl Tryz.func33 rfl rfl a w
@[simp] theorem SqG.func34 : (SqG.prog aLt).funcs[34]? = some Tryz.f34 := zah rfl Tryz.func34
@[simp] theorem SqG.call34(a : Array Value)(w : World) : (callFunc 34 a).run (SqG.prog aLt) w = .ok (.enter 34 a) w := zac rfl Tryz.func34 rfl rfl a w
@[simp] theorem SqG.func35 : (SqG.prog aLt).funcs[35]? = some Tryz.f35 := zah rfl Tryz.func35
@[simp] theorem SqG.call35(a : Array Value)(w : World) : (callFunc 35 a).run (SqG.prog aLt) w = .ok (.enter 35 a) w := zac rfl Tryz.func35 rfl rfl a w
@[simp] theorem SqG.func36 : (SqG.prog aLt).funcs[36]? = some Tryz.f36 := zah rfl Tryz.func36
@[simp] theorem SqG.call36(a : Array Value)(w : World) : (callFunc 36 a).run (SqG.prog aLt) w = .ok (.enter 36 a) w := zac rfl Tryz.func36 rfl rfl a w
@[simp] theorem SqG.func37 : (SqG.prog aLt).funcs[37]? = some Tryz.f37 := zah rfl Tryz.func37
@[simp] theorem SqG.call37(a : Array Value)(w : World) : (callFunc 37 a).run (SqG.prog aLt) w = .ok (.enter 37 a) w := zac rfl Tryz.func37 rfl rfl a w
@[simp] theorem SqG.func38 : (SqG.prog aLt).funcs[38]? = some Tryz.f38 := zah rfl Tryz.func38
@[simp] theorem SqG.call38(a : Array Value)(w : World) : (callFunc 38 a).run (SqG.prog aLt) w = .ok (.enter 38 a) w := zac rfl Tryz.func38 rfl rfl a w
@[simp] theorem SqG.func40 : (SqG.prog aLt).funcs[40]? = some Tryz.f40 := zah rfl Tryz.func40
@[simp] theorem SqG.call40(a : Array Value)(w : World) : (callFunc 40 a).run (SqG.prog aLt) w = .ok (.enter 40 a) w := zac rfl Tryz.func40 rfl rfl a w
@[simp] theorem SqG.func41 : (SqG.prog aLt).funcs[41]? = some Tryz.f41 := zah rfl Tryz.func41
@[simp] theorem SqG.call41(a : Array Value)(w : World) : (callFunc 41 a).run (SqG.prog aLt) w = .ok (.enter 41 a) w := zac rfl Tryz.func41 rfl rfl a w
@[simp] theorem SqG.func47 : (SqG.prog aLt).funcs[47]? = some Tryz.f47 := zah rfl Tryz.func47
@[simp] theorem SqG.call47(a : Array Value)(w : World) : (callFunc 47 a).run (SqG.prog aLt) w = .ok (.enter 47 a) w := zac rfl Tryz.func47 rfl rfl a w
@[simp] theorem SqG.func48 : (SqG.prog aLt).funcs[48]? = some Tryz.f48 := zah rfl Tryz.func48
@[simp] theorem SqG.call48(a : Array Value)(w : World) : (callFunc 48 a).run (SqG.prog aLt) w = .ok (.enter 48 a) w := zac rfl Tryz.func48 rfl rfl a w
@[simp] theorem SqG.func49 : (SqG.prog aLt).funcs[49]? = some Tryz.f49 := zah rfl Tryz.func49
@[simp] theorem SqG.call49(a : Array Value)(w : World) : (callFunc 49 a).run (SqG.prog aLt) w = .ok (.enter 49 a) w := zac rfl Tryz.func49 rfl rfl a w
@[simp] theorem SqG.func50 : (SqG.prog aLt).funcs[50]? = some Tryz.f50 := zah rfl Tryz.func50
@[simp] theorem SqG.call50(a : Array Value)(w : World) : (callFunc 50 a).run (SqG.prog aLt) w = .ok (.enter 50 a) w := zac rfl Tryz.func50 rfl rfl a w
@[simp] theorem SqG.func51 : (SqG.prog aLt).funcs[51]? = some Tryz.f51 := zah rfl Tryz.func51
@[simp] theorem SqG.call51(a : Array Value)(w : World) : (callFunc 51 a).run (SqG.prog aLt) w = .ok (.enter 51 a) w := zac rfl Tryz.func51 rfl rfl a w
@[simp] theorem SqG.func52 : (SqG.prog aLt).funcs[52]? = some Tryz.f52 := zah rfl Tryz.func52
@[simp] theorem SqG.call52(a : Array Value)(w : World) : (callFunc 52 a).run (SqG.prog aLt) w = .ok (.enter 52 a) w := zac rfl Tryz.func52 rfl rfl a w
@[simp] theorem SqG.func53 : (SqG.prog aLt).funcs[53]? = some Tryz.f53 := zah rfl Tryz.func53
@[simp] theorem SqG.call53(a : Array Value)(w : World) : (callFunc 53 a).run (SqG.prog aLt) w = .ok (.enter 53 a) w := zac rfl Tryz.func53 rfl rfl a w
@[simp] theorem SqG.func54 : (SqG.prog aLt).funcs[54]? = some Tryz.f54 := zah rfl Tryz.func54
@[simp] theorem SqG.call54(a : Array Value)(w : World) : (callFunc 54 a).run (SqG.prog aLt) w = .ok (.enter 54 a) w := zac rfl Tryz.func54 rfl rfl a w
@[simp] theorem SqG.func55 : (SqG.prog aLt).funcs[55]? = some Tryz.f55 := zah rfl Tryz.func55
@[simp] theorem SqG.call55(a : Array Value)(w : World) : (callFunc 55 a).run (SqG.prog aLt) w = .ok (.enter 55 a) w := zac rfl Tryz.func55 rfl rfl a w
@[simp] theorem SqG.func71 : (SqG.prog aLt).funcs[71]? = some Tryz.f71 := zah rfl Tryz.func71
@[simp] theorem SqG.call71(a : Array Value)(w : World) : (callFunc 71 a).run (SqG.prog aLt) w = .ok (.enter 71 a) w := zac rfl Tryz.func71 rfl rfl a w
@[simp] theorem SqG.func77 : (SqG.prog aLt).funcs[77]? = some Tryz.f77 := zah rfl Tryz.func77
@[simp] theorem SqG.call77(a : Array Value)(w : World) : (callFunc 77 a).run (SqG.prog aLt) w = .ok (.enter 77 a) w := zac rfl Tryz.func77 rfl rfl a w
@[simp] theorem SqG.func78 : (SqG.prog aLt).funcs[78]? = some Tryz.f78 := zah rfl Tryz.func78
@[simp] theorem SqG.call78(a : Array Value)(w : World) : (callFunc 78 a).run (SqG.prog aLt) w = .ok (.enter 78 a) w := zac rfl Tryz.func78 rfl rfl a w
@[simp] theorem SqG.func79 : (SqG.prog aLt).funcs[79]? = some Tryz.f79 := zah rfl Tryz.func79
@[simp] theorem SqG.call79(a : Array Value)(w : World) : (callFunc 79 a).run (SqG.prog aLt) w = .ok (.enter 79 a) w := zac rfl Tryz.func79 rfl rfl a w
@[simp] theorem SqG.func80 : (SqG.prog aLt).funcs[80]? = some Tryz.f80 := zah rfl Tryz.func80
@[simp] theorem SqG.func81 : (SqG.prog aLt).funcs[81]? = some Tryz.f81 := zah rfl Tryz.func81
@[simp] theorem SqG.call81(a : Array Value)(w : World) : (callFunc 81 a).run (SqG.prog aLt) w = .ok (.enter 81 a) w := zac rfl Tryz.func81 rfl rfl a w
@[simp] theorem SqG.func82 : (SqG.prog aLt).funcs[82]? = some Tryz.f82 := zah rfl Tryz.func82
@[simp] theorem SqG.call82(a : Array Value)(w : World) : (callFunc 82 a).run (SqG.prog aLt) w = .ok (.enter 82 a) w := zac rfl Tryz.func82 rfl rfl a w
@[simp] theorem SqG.func83 : (SqG.prog aLt).funcs[83]? = some Tryz.f83 := zah rfl Tryz.func83
@[simp] theorem SqG.call83(a : Array Value)(w : World) : (callFunc 83 a).run (SqG.prog aLt) w = .ok (.enter 83 a) w := zac rfl Tryz.func83 rfl rfl a w
@[simp] theorem SqG.func84 : (SqG.prog aLt).funcs[84]? = some Tryz.f84 := zah rfl Tryz.func84
@[simp] theorem SqG.call84(a : Array Value)(w : World) : (callFunc 84 a).run (SqG.prog aLt) w = .ok (.enter 84 a) w := zac rfl Tryz.func84 rfl rfl a w
@[simp] theorem SqG.func90 : (SqG.prog aLt).funcs[90]? = some Tryz.f90 := zah rfl Tryz.func90
@[simp] theorem SqG.call90(a : Array Value)(w : World) : (callFunc 90 a).run (SqG.prog aLt) w = .ok (.enter 90 a) w := zac rfl Tryz.func90 rfl rfl a w
@[simp] theorem SqG.func91 : (SqG.prog aLt).funcs[91]? = some Tryz.f91 := zah rfl Tryz.func91
@[simp] theorem SqG.call91(a : Array Value)(w : World) : (callFunc 91 a).run (SqG.prog aLt) w = .ok (.enter 91 a) w := zac rfl Tryz.func91 rfl rfl a w
@[simp] theorem SqG.func92 : (SqG.prog aLt).funcs[92]? = some Tryz.f92 := zah rfl Tryz.func92
@[simp] theorem SqG.call92(a : Array Value)(w : World) : (callFunc 92 a).run (SqG.prog aLt) w = .ok (.enter 92 a) w := zac rfl Tryz.func92 rfl rfl a w
@[simp] theorem SqG.func93 : (SqG.prog aLt).funcs[93]? = some Tryz.f93 := zah rfl Tryz.func93
@[simp] theorem SqG.call93(a : Array Value)(w : World) : (callFunc 93 a).run (SqG.prog aLt) w = .ok (.enter 93 a) w := zac rfl Tryz.func93 rfl rfl a w
@[simp] theorem SqG.func94 : (SqG.prog aLt).funcs[94]? = some Tryz.f94 := zah rfl Tryz.func94
@[simp] theorem SqG.call94(a : Array Value)(w : World) : (callFunc 94 a).run (SqG.prog aLt) w = .ok (.enter 94 a) w := zac rfl Tryz.func94 rfl rfl a w
@[simp] theorem SqG.func95 : (SqG.prog aLt).funcs[95]? = some Tryz.f95 := zah rfl Tryz.func95
@[simp] theorem SqG.call95(a : Array Value)(w : World) : (callFunc 95 a).run (SqG.prog aLt) w = .ok (.enter 95 a) w := zac rfl Tryz.func95 rfl rfl a w
@[simp] theorem SqG.func96 : (SqG.prog aLt).funcs[96]? = some Tryz.f96 := zah rfl Tryz.func96
@[simp] theorem SqG.call96(a : Array Value)(w : World) : (callFunc 96 a).run (SqG.prog aLt) w = .ok (.enter 96 a) w := zac rfl Tryz.func96 rfl rfl a w
@[simp] theorem SqG.func97 : (SqG.prog aLt).funcs[97]? = some Tryz.f97 := zah rfl Tryz.func97
@[simp] theorem SqG.call97(a : Array Value)(w : World) : (callFunc 97 a).run (SqG.prog aLt) w = .ok (.enter 97 a) w := zac rfl Tryz.func97 rfl rfl a w
@[simp] theorem SqG.func98 : (SqG.prog aLt).funcs[98]? = some Tryz.f98 := zah rfl Tryz.func98
@[simp] theorem SqG.call98(a : Array Value)(w : World) : (callFunc 98 a).run (SqG.prog aLt) w = .ok (.enter 98 a) w := zac rfl Tryz.func98 rfl rfl a w
@[simp] theorem SqG.func99 : (SqG.prog aLt).funcs[99]? = some Tryz.f99 := zah rfl Tryz.func99
@[simp] theorem SqG.call99(a : Array Value)(w : World) : (callFunc 99 a).run (SqG.prog aLt) w = .ok (.enter 99 a) w := zac rfl Tryz.func99 rfl rfl a w
@[simp] theorem SqG.func100 : (SqG.prog aLt).funcs[100]? = some Tryz.f100 := zah rfl Tryz.func100
@[simp] theorem SqG.call100(a : Array Value)(w : World) : (callFunc 100 a).run (SqG.prog aLt) w = .ok (.enter 100 a) w := zac rfl Tryz.func100 rfl rfl a w
@[simp] theorem SqG.func101 : (SqG.prog aLt).funcs[101]? = some Tryz.f101 := zah rfl Tryz.func101
@[simp] theorem SqG.func102 : (SqG.prog aLt).funcs[102]? = some Tryz.f102 := zah rfl Tryz.func102
@[simp] theorem SqG.func103 : (SqG.prog aLt).funcs[103]? = some Tryz.f103 := zah rfl Tryz.func103
@[simp] theorem SqG.func104 : (SqG.prog aLt).funcs[104]? = some Tryz.f104 := zah rfl Tryz.func104
@[simp] theorem SqG.func105 : (SqG.prog aLt).funcs[105]? = some Tryz.f105 := zah rfl Tryz.func105
@[simp] theorem SqG.func106 : (SqG.prog aLt).funcs[106]? = some Tryz.f106 := zah rfl Tryz.func106
@[simp] theorem SqG.func107 : (SqG.prog aLt).funcs[107]? = some Tryz.f107 := zah rfl Tryz.func107
@[simp] theorem SqG.call107(a : Array Value)(w : World) : (callFunc 107 a).run (SqG.prog aLt) w = .ok (.enter 107 a) w := zac rfl Tryz.func107 rfl rfl a w
@[simp] theorem SqG.func108 : (SqG.prog aLt).funcs[108]? = some Tryz.f108 := zah rfl Tryz.func108
@[simp] theorem SqG.call108(a : Array Value)(w : World) : (callFunc 108 a).run (SqG.prog aLt) w = .ok (.enter 108 a) w := zac rfl Tryz.func108 rfl rfl a w
@[simp] theorem SqG.func109 : (SqG.prog aLt).funcs[109]? = some Tryz.f109 := zah rfl Tryz.func109
@[simp] theorem SqG.call109(a : Array Value)(w : World) : (callFunc 109 a).run (SqG.prog aLt) w = .ok (.enter 109 a) w := zac rfl Tryz.func109 rfl rfl a w
@[simp] theorem SqG.func110 : (SqG.prog aLt).funcs[110]? = some Tryz.f110 := zah rfl Tryz.func110
@[simp] theorem SqG.call110(a : Array Value)(w : World) : (callFunc 110 a).run (SqG.prog aLt) w = .ok (.enter 110 a) w := zac rfl Tryz.func110 rfl rfl a w
@[simp] theorem SqG.func111 : (SqG.prog aLt).funcs[111]? = some Tryz.f111 := zah rfl Tryz.func111
@[simp] theorem SqG.call111(a : Array Value)(w : World) : (callFunc 111 a).run (SqG.prog aLt) w = .ok (.enter 111 a) w := zac rfl Tryz.func111 rfl rfl a w
@[simp] theorem SqG.func112 : (SqG.prog aLt).funcs[112]? = some Tryz.f112 := zah rfl Tryz.func112
@[simp] theorem SqG.call112(a : Array Value)(w : World) : (callFunc 112 a).run (SqG.prog aLt) w = .ok (.enter 112 a) w := zac rfl Tryz.func112 rfl rfl a w
@[simp] theorem SqG.func113 : (SqG.prog aLt).funcs[113]? = some Tryz.f113 := zah rfl Tryz.func113
@[simp] theorem SqG.call113(a : Array Value)(w : World) : (callFunc 113 a).run (SqG.prog aLt) w = .ok (.enter 113 a) w := zac rfl Tryz.func113 rfl rfl a w
@[simp] theorem SqG.func114 : (SqG.prog aLt).funcs[114]? = some Tryz.f114 := zah rfl Tryz.func114
@[simp] theorem SqG.call114(a : Array Value)(w : World) : (callFunc 114 a).run (SqG.prog aLt) w = .ok (.enter 114 a) w := zac rfl Tryz.func114 rfl rfl a w
@[simp] theorem SqG.func115 : (SqG.prog aLt).funcs[115]? = some Tryz.f115 := zah rfl Tryz.func115
@[simp] theorem SqG.call115(a : Array Value)(w : World) : (callFunc 115 a).run (SqG.prog aLt) w = .ok (.enter 115 a) w := zac rfl Tryz.func115 rfl rfl a w
@[simp] theorem SqG.func116 : (SqG.prog aLt).funcs[116]? = some Tryz.f116 := zah rfl Tryz.func116
@[simp] theorem SqG.call116(a : Array Value)(w : World) : (callFunc 116 a).run (SqG.prog aLt) w = .ok (.enter 116 a) w := zac rfl Tryz.func116 rfl rfl a w
@[simp] theorem SqG.func117 : (SqG.prog aLt).funcs[117]? = some Tryz.f117 := zah rfl Tryz.func117
@[simp] theorem SqG.call117(a : Array Value)(w : World) : (callFunc 117 a).run (SqG.prog aLt) w = .ok (.enter 117 a) w := zac rfl Tryz.func117 rfl rfl a w
@[simp] theorem SqG.func118 : (SqG.prog aLt).funcs[118]? = some Tryz.f118 := zah rfl Tryz.func118
@[simp] theorem SqG.call118(a : Array Value)(w : World) : (callFunc 118 a).run (SqG.prog aLt) w = .ok (.enter 118 a) w := zac rfl Tryz.func118 rfl rfl a w
@[simp] theorem SqG.func119 : (SqG.prog aLt).funcs[119]? = some Tryz.f119 := zah rfl Tryz.func119
@[simp] theorem SqG.call119(a : Array Value)(w : World) : (callFunc 119 a).run (SqG.prog aLt) w = .ok (.enter 119 a) w := zac rfl Tryz.func119 rfl rfl a w
@[simp] theorem SqG.func120 : (SqG.prog aLt).funcs[120]? = some Tryz.f120 := zah rfl Tryz.func120
@[simp] theorem SqG.call120(a : Array Value)(w : World) : (callFunc 120 a).run (SqG.prog aLt) w = .ok (.enter 120 a) w := zac rfl Tryz.func120 rfl rfl a w
@[simp] theorem SqG.func121 : (SqG.prog aLt).funcs[121]? = some Tryz.f121 := zah rfl Tryz.func121
@[simp] theorem SqG.call121(a : Array Value)(w : World) : (callFunc 121 a).run (SqG.prog aLt) w = .ok (.enter 121 a) w := zac rfl Tryz.func121 rfl rfl a w
@[simp] theorem SqG.func137 : (SqG.prog aLt).funcs[137]? = some Tryz.f137 := zah rfl Tryz.func137
@[simp] theorem SqG.call137(a : Array Value)(w : World) : (callFunc 137 a).run (SqG.prog aLt) w = .ok (.enter 137 a) w := zac rfl Tryz.func137 rfl rfl a w
@[simp] theorem SqG.func138 : (SqG.prog aLt).funcs[138]? = some Tryz.f138 := zah rfl Tryz.func138
@[simp] theorem SqG.call138(a : Array Value)(w : World) : (callFunc 138 a).run (SqG.prog aLt) w = .ok (.enter 138 a) w := zac rfl Tryz.func138 rfl rfl a w
@[simp] theorem SqG.func139 : (SqG.prog aLt).funcs[139]? = some Tryz.f139 := zah rfl Tryz.func139
@[simp] theorem SqG.call139(a : Array Value)(w : World) : (callFunc 139 a).run (SqG.prog aLt) w = .ok (.enter 139 a) w := zac rfl Tryz.func139 rfl rfl a w
@[simp] theorem SqG.func140 : (SqG.prog aLt).funcs[140]? = some Tryz.f140 := zah rfl Tryz.func140
@[simp] theorem SqG.call140(a : Array Value)(w : World) : (callFunc 140 a).run (SqG.prog aLt) w = .ok (.enter 140 a) w := zac rfl Tryz.func140 rfl rfl a w
@[simp] theorem SqG.func141 : (SqG.prog aLt).funcs[141]? = some Tryz.f141 := zah rfl Tryz.func141
@[simp] theorem SqG.call141(a : Array Value)(w : World) : (callFunc 141 a).run (SqG.prog aLt) w = .ok (.enter 141 a) w := zac rfl Tryz.func141 rfl rfl a w
@[simp] theorem SqG.func142 : (SqG.prog aLt).funcs[142]? = some Tryz.f142 := zah rfl Tryz.func142
@[simp] theorem SqG.call142(a : Array Value)(w : World) : (callFunc 142 a).run (SqG.prog aLt) w = .ok (.enter 142 a) w := zac rfl Tryz.func142 rfl rfl a w
@[simp] theorem SqG.func143 : (SqG.prog aLt).funcs[143]? = some Tryz.f143 := zah rfl Tryz.func143
@[simp] theorem SqG.call143(a : Array Value)(w : World) : (callFunc 143 a).run (SqG.prog aLt) w = .ok (.enter 143 a) w := zac rfl Tryz.func143 rfl rfl a w
@[simp] theorem SqG.func144 : (SqG.prog aLt).funcs[144]? = some Tryz.f144 := zah rfl Tryz.func144
@[simp] theorem SqG.call144(a : Array Value)(w : World) : (callFunc 144 a).run (SqG.prog aLt) w = .ok (.enter 144 a) w := zac rfl Tryz.func144 rfl rfl a w
@[simp] theorem SqG.func145 : (SqG.prog aLt).funcs[145]? = some Tryz.f145 := zah rfl Tryz.func145
@[simp] theorem SqG.call145(a : Array Value)(w : World) : (callFunc 145 a).run (SqG.prog aLt) w = .ok (.enter 145 a) w := zac rfl Tryz.func145 rfl rfl a w
@[simp] theorem SqG.func146 : (SqG.prog aLt).funcs[146]? = some Tryz.f146 := zah rfl Tryz.func146
@[simp] theorem SqG.call146(a : Array Value)(w : World) : (callFunc 146 a).run (SqG.prog aLt) w = .ok (.enter 146 a) w := zac rfl Tryz.func146 rfl rfl a w
