/- Part. -/
import Derived.Test.YthfhphdofgkjhaaGreatLZz
import Derived.Test.YthfhphdofgkjhaaGreatChecked
import Derived.Calls
import Derived.Laws.Sem
import Derived.Below
namespace Go.Proofs.YthfhphdofgkjhaaGreat
variable{f:Func}{n:FuncId}{i:Nat}
section
def zaA(P:Program)(off:Nat->Bool)(alt:Nat->Func->Func):Program:=⟨P.toTables,P.funcs.mapIdx fun i f=>if off i then alt i f else f⟩
def zcI(f:Func):Func:={ f with name:= "none",origin:= "none",body:=none }
section
variable{P:Program}{off:Nat->Bool}{alt:Nat->Func->Func}
theorem zah(h:off i=false)(hf:P.funcs[i]?=some f):(zaA P off alt).funcs[i]?=some f:=by
 show (P.funcs.mapIdx _)[i]?=some f
 rw[Array.getElem?_mapIdx,hf]
 simp[h]
theorem zj6(h:off i=true)(hf:P.funcs[i]?=some f):(zaA P off alt).funcs[i]?=some (alt i f):=by
 show (P.funcs.mapIdx _)[i]?=some _
 rw[Array.getElem?_mapIdx,hf]
 simp[h]
theorem zeU:(zaA P off alt).toTables=P.toTables:=id rfl
theorem zci(n:TypeId):(zaA P off alt).underlying n=P.underlying n:=by unfold Program.underlying;simp only[zeU]
theorem zex(n:TypeId)(w:World):(typeInfo n).run (zaA P off alt) w=(typeInfo n).run P w:=by
 unfold typeInfo
 simp[zeU]
 cases P.info? n <;> simp
theorem zgv(n:TypeId)(w:World):(sizeOf n).run (zaA P off alt) w=(sizeOf n).run P w:=by
 unfold Go.sizeOf
 simp[zex]
theorem zbz(n:TypeId)(w:World):(underlying n).run (zaA P off alt) w=(underlying n).run P w:=by
 unfold underlying
 simp[zci]
 cases P.underlying n <;> simp
theorem zdI(n:TypeId)(w:World):(zeroValue n).run (zaA P off alt) w=(zeroValue n).run P w:=by
 unfold zeroValue
 simp[zex]
 cases (typeInfo n).run P w with
 | ok i w'=>simp;cases i.zero <;> simp
 | halt h w'=>simp
theorem zhT(n:TypeId)(w:World):(isAgg n).run (zaA P off alt) w=(isAgg n).run P w:=by
 unfold isAgg
 simp[zbz]
 cases (underlying n).run P w with
 | ok i w'=>simp;cases i <;> simp
 | halt h w'=>simp
theorem zae(h:off n=false)(hf:P.funcs[n]?=some f)(hb:f.body.isNone=false)(hn:(f.name == "runtime.NumGoroutine")=false)(a:Array Value)(w:World):(callFunc n a).run (zaA P off alt) w=.ok (.enter n a) w:=by
 unfold callFunc
 have h1:¬ f.name= "runtime.NumGoroutine":=by simpa using hn
 have h2:¬ f.body=none:=fun e=>by rw[e] at hb;cases hb
 simp[zah (alt:=alt) h hf,h1,h2]
theorem zi5(h:off n=true)(hf:P.funcs[n]?=some f)(hb:(alt n f).body.isNone=false)(hn:((alt n f).name == "runtime.NumGoroutine")=false)(a:Array Value)(w:World):(callFunc n a).run (zaA P off alt) w=.ok (.enter n a) w:=by
 unfold callFunc
 have h1:¬ (alt n f).name= "runtime.NumGoroutine":=by simpa using hn
 have h2:¬ (alt n f).body=none:=fun e=>by rw[e] at hb;cases hb
 simp[zj6 (alt:=alt) h hf,h1,h2]
end
end
section
open Go
section
variable(T:Tables)(F1 F2:Array Func)
theorem zpC(t:TypeId):(Program.mk T F1).info? t=(Program.mk T F2).info? t:=rfl
theorem zf3(t:TypeId):(Program.mk T F1).underlying t=(Program.mk T F2).underlying t:=by unfold Program.underlying;rfl
theorem zf2:(Program.mk T F1).depth=(Program.mk T F2).depth:=by unfold Program.depth;rfl
theorem zqX(t:TypeId):(Program.mk T F1).underlyingId t=(Program.mk T F2).underlyingId t:=by unfold Program.underlyingId;rfl
theorem ziI:∀(d:Nat) (t u:TypeId),(Program.mk T F1).alikeButTags d t u=(Program.mk T F2).alikeButTags d t u
 | 0,_,_=>rfl
 | d+1,t,u=>by
  have ih:(Program.mk T F1).alikeButTags d=(Program.mk T F2).alikeButTags d:=funext fun x=>funext fun y=>ziI d x y
  unfold Program.alikeButTags
  rw[ih]
theorem zjR(t:TypeId):(Program.mk T F1).stoodInAs t=(Program.mk T F2).stoodInAs t:=by
 unfold Program.stoodInAs
 have h:(Program.mk T F1).alikeButTags=(Program.mk T F2).alikeButTags:=funext fun d=>funext fun x=>funext fun y=>ziI T F1 F2 d x y
 have hu:(Program.mk T F1).underlyingId=(Program.mk T F2).underlyingId:=funext fun x=>zqX T F1 F2 x
 rw[h,hu,zf3 T F1 F2,zf2 T F1 F2]
theorem znR(t:TypeId):(Program.mk T F1).stoodInHeld t=(Program.mk T F2).stoodInHeld t:=by
 unfold Program.stoodInHeld
 rw[zjR T F1 F2]
theorem zfZ(t:TypeId):(Program.mk T F1).cellsOf t=(Program.mk T F2).cellsOf t:=by unfold Program.cellsOf;rfl
theorem zfY(t:TypeId):(Program.mk T F1).bytesOf t=(Program.mk T F2).bytesOf t:=by unfold Program.bytesOf;rfl
theorem zcn:∀(d:Nat) (t:TypeId) (off:Nat),byteOfCell (Program.mk T F1) d t off=byteOfCell (Program.mk T F2) d t off
 | 0,_,_=>rfl
 | d+1,t,off=>by
  unfold byteOfCell
  simp only[zf3 T F1 F2,zfZ T F1 F2,zfY T F1 F2,zcn d]
theorem zdp:∀(d:Nat) (t:TypeId) (off:Nat),cellOfByte (Program.mk T F1) d t off=cellOfByte (Program.mk T F2) d t off
 | 0,_,_=>rfl
 | d+1,t,off=>by
  unfold cellOfByte
  simp only[zf3 T F1 F2,zfZ T F1 F2,zfY T F1 F2,zdp d]
theorem zqW(d:Nat)(e:TypeId)(c o:Nat)(n:Int):cellAtBytes (Program.mk T F1) d e c o n=cellAtBytes (Program.mk T F2) d e c o n:=by
 unfold cellAtBytes
 simp only[zfZ T F1 F2,zfY T F1 F2,zcn T F1 F2,zdp T F1 F2]
theorem zjQ:∀(d:Nat) (t:TypeId),(Program.mk T F1).eqGuardType d t=(Program.mk T F2).eqGuardType d t
 | 0,_=>rfl
 | d+1,t=>by
  unfold Program.eqGuardType
  simp only[zf3 T F1 F2,zjQ d]
end
def Sq.off(i:Nat):Bool:=([0,1,8,19,20,40,44,45,46,47,48,52,64,65,68,69,70,71,72,73,74,75,76,77,78,79,80,82,83,84,85,86,90,93,94,95,96,97,107,124,125,126,137,141,142,143,144,145,146,147,148,149,150,151,152,153,154,155,156,158,159,160,161,162,163,164,166,167]:List Nat).contains i
class zkS where
 alt:Nat->Func->Func
noncomputable def Sq.prog[A:zkS]:Program:=zaA Tryz.prog Sq.off A.alt
section
variable[zkS]
@[simp] theorem Sq.tabs : Sq.prog.toTables = Tryz.prog.toTables := zeU
@[simp] theorem Sq.underlying(n : TypeId) : Sq.prog.underlying n = Tryz.prog.underlying n := zci n
@[simp] theorem Sq.sizeOf(n : TypeId)(w : World) : (Go.sizeOf n).run Sq.prog w = (Go.sizeOf n).run Tryz.prog w := zgv n w
@[simp] theorem Sq.runUnderlying(n : TypeId)(w : World) : (Go.underlying n).run Sq.prog w = (Go.underlying n).run Tryz.prog w := zbz n w
@[simp] theorem Sq.zeroValue(n : TypeId)(w : World) : (Go.zeroValue n).run Sq.prog w = (Go.zeroValue n).run Tryz.prog w := zdI n w
@[simp] theorem Sq.isAgg(n : TypeId)(w : World) : (Go.isAgg n).run Sq.prog w = (Go.isAgg n).run Tryz.prog w := zhT n w
end
abbrev opr(d:Option Tmp)(op:Op)(t:TypeId):Oper:={ dst:=d,op:=op,type:=t,pos:= "",after:=#[],guard:=none }
abbrev ckA:Code:=.region 0 #[opr (some 2) (.box 25 (.tmp 0)) 0,opr (some 3) (.fieldAddr 25 (.tmp 2) 0) 0,opr (some 4) (.load 3 (.tmp 3)) 3,opr (some 5) (.binOp .mul 3 (.tmp 4) (.const (.int .i64 0)) 3) 3,opr (some 6) (.fieldAddr 25 (.tmp 2) 1) 0,opr (some 7) (.load 23 (.tmp 6)) 23,opr (some 8) (.call { callee:=.builtin .len,args:=#[.tmp 7],argTypes:=#[23] }) 3,opr (some 9) (.move (.const (.int .i64 0))) 3,opr (some 10) (.binOp .lss 3 (.tmp 8) (.const (.int .i64 4611686018427387904)) 3) 4] false
abbrev ckL:Code:=.seq (.region 1 #[opr (some 10) (.binOp .lss 3 (.tmp 9) (.tmp 8) 3) 4] false) (.seq (.cond (.tmp 10) .skip (.exit 0)) (.region 2 #[opr (some 11) (.indexAddr 23 (.tmp 7) (.tmp 9)) 0,opr (some 12) (.fieldAddr 64 (.tmp 11) 0) 0,opr (some 13) (.load 3 (.tmp 12)) 3,opr (some 14) (.binOp .mul 3 (.tmp 13) (.const (.int .i64 0)) 3) 3,opr (some 15) (.fieldAddr 64 (.tmp 11) 1) 0,opr (some 16) (.load 3 (.tmp 15)) 3,opr (some 17) (.binOp .mul 3 (.tmp 16) (.const (.int .i64 0)) 3) 3,opr (some 18) (.binOp .add 3 (.tmp 9) (.const (.int .i64 1)) 3) 3,opr (some 9) (.move (.tmp 18)) 3] false))
abbrev ckS:Code:=.region 3 #[opr (none) (.store 25 (.tmp 2) (.tmp 0)) 0] false
abbrev zi3(rest:Code):Code:=.seq ckA (.seq (.cond (.tmp 10) .skip (.refuse "too long")) (.seq (.block 0 (.loop ckL)) (.seq ckS rest)))
abbrev scL:Code:=.seq (.region 7 #[opr (some 11) (.binOp .lss 3 (.tmp 10) (.tmp 7) 3) 4] false) (.seq (.cond (.tmp 11) .skip (.exit 1)) (.region 8 #[opr (some 12) (.call { callee:=.value (.func 41),args:=#[.tmp 0,.tmp 10],argTypes:=#[25,3] }) 3,opr (some 13) (.indexAddr 27 (.tmp 8) (.tmp 10)) 0,opr none (.store 3 (.tmp 13) (.tmp 12)) 0,opr (some 14) (.call { callee:=.value (.func 21),args:=#[.tmp 0,.tmp 10],argTypes:=#[25,3] }) 27,opr (some 15) (.indexAddr 28 (.tmp 9) (.tmp 10)) 0,opr none (.store 27 (.tmp 15) (.tmp 14)) 0,opr (some 10) (.binOp .add 3 (.tmp 10) (.const (.int .i64 1)) 3) 3] false))
abbrev scA:Code:=.region 6 #[opr (some 6) (.call { callee:=.value (.func 18),args:=#[.tmp 0],argTypes:=#[25] }) 25,opr (some 7) (.call { callee:=.value (.func 42),args:=#[.tmp 0],argTypes:=#[25] }) 3,opr (some 8) (.makeSlice 27 (.tmp 7) (.tmp 7)) 27,opr (some 9) (.makeSlice 28 (.tmp 7) (.tmp 7)) 28,opr (some 10) (.move (.const (.int .i64 0))) 3] false
abbrev scZ:Code:=.region 9 #[opr (some 16) (.build 30 #[(0,.tmp 6),(1,.tmp 8),(2,.tmp 9)]) 30,opr (some 2) (.alloc 30) 0,opr none (.store 30 (.tmp 2) (.tmp 16)) 0,opr (some 3) (.move (.const (.bool true))) 4] false
abbrev scG:Code:=.region 4 #[opr (some 3) (.call { callee:=.value (.func 34),args:=#[.tmp 0],argTypes:=#[25] }) 4] false
abbrev scN:Code:=.seq (.region 5 #[opr (some 2) (.alloc 30) 0,opr (some 3) (.move (.const (.bool false))) 4] false) .ret
abbrev zgG:Code:=.seq scG (.seq (.cond (.tmp 3) .skip scN) (.seq scA (.seq (.block 1 (.loop scL)) (.seq scZ .ret))))
abbrev zqo:Code:=.seq (zi3 .skip) zgG
def zlx(f:Func):Func:={ f with ntmps:=22,body:=some zqo }
def Sq.altP(i:Nat)(f:Func):Func:=if i == 8 then zlx f else zcI f
def Sq.altN(_:Nat)(f:Func):Func:=zcI f
abbrev Sq.P:zkS:=⟨Sq.altP⟩
abbrev Sq.N:zkS:=⟨Sq.altN⟩
noncomputable def SqG.prog(aLt:Nat->Func->Func):Program:=zaA Tryz.prog Sq.off aLt
section
variable{aLt:Nat->Func->Func}
@[simp] theorem SqG.tabs : (SqG.prog aLt).toTables = Tryz.prog.toTables := zeU
@[simp] theorem SqG.underlying(n : TypeId) : (SqG.prog aLt).underlying n = Tryz.prog.underlying n := zci n
@[simp] theorem SqG.sizeOf(n : TypeId)(w : World) : (Go.sizeOf n).run (SqG.prog aLt) w = (Go.sizeOf n).run Tryz.prog w := zgv n w
@[simp] theorem SqG.runUnderlying(n : TypeId)(w : World) : (Go.underlying n).run (SqG.prog aLt) w = (Go.underlying n).run Tryz.prog w := zbz n w
@[simp] theorem SqG.zeroValue(n : TypeId)(w : World) : (Go.zeroValue n).run (SqG.prog aLt) w = (Go.zeroValue n).run Tryz.prog w := zdI n w
@[simp] theorem SqG.isAgg(n : TypeId)(w : World) : (Go.isAgg n).run (SqG.prog aLt) w = (Go.isAgg n).run Tryz.prog w := zhT n w
@[simp] theorem SqG.depth : (SqG.prog aLt).depth = Tryz.prog.depth := zf2 _ _ _
@[simp] theorem SqG.eqGuardType(n : TypeId) : (SqG.prog aLt).eqGuardType Tryz.prog.depth n = Tryz.prog.eqGuardType Tryz.prog.depth n := zjQ _ _ _ _ n
abbrev SqG.underlying23:=(SqG.underlying (aLt:=aLt) 23).trans Tryz.underlying23
abbrev SqG.underlying27:=(SqG.underlying (aLt:=aLt) 27).trans Tryz.underlying27
abbrev SqG.underlying28:=(SqG.underlying (aLt:=aLt) 28).trans Tryz.underlying28
abbrev SqG.underlying95:=(SqG.underlying (aLt:=aLt) 95).trans Tryz.underlying95
abbrev SqG.underlying96:=(SqG.underlying (aLt:=aLt) 96).trans Tryz.underlying96
abbrev SqG.underlying97:=(SqG.underlying (aLt:=aLt) 97).trans Tryz.underlying97
abbrev SqG.underlying162:=(SqG.underlying (aLt:=aLt) 162).trans Tryz.underlying162
abbrev SqG.underlying204:=(SqG.underlying (aLt:=aLt) 204).trans Tryz.underlying204
@[simp] theorem SqG.func3 : (SqG.prog aLt).funcs[3]? = some Tryz.f3 := zah rfl Tryz.func3
@[simp] theorem SqG.func4 : (SqG.prog aLt).funcs[4]? = some Tryz.f4 := zah rfl Tryz.func4
@[simp] theorem SqG.call4(a : Array Value)(w : World) : (callFunc 4 a).run (SqG.prog aLt) w = .ok (.enter 4 a) w := zae rfl Tryz.func4 rfl rfl a w
@[simp] theorem SqG.func5 : (SqG.prog aLt).funcs[5]? = some Tryz.f5 := zah rfl Tryz.func5
@[simp] theorem SqG.call5(a : Array Value)(w : World) : (callFunc 5 a).run (SqG.prog aLt) w = .ok (.enter 5 a) w := zae rfl Tryz.func5 rfl rfl a w
@[simp] theorem SqG.func6 : (SqG.prog aLt).funcs[6]? = some Tryz.f6 := zah rfl Tryz.func6
@[simp] theorem SqG.call6(a : Array Value)(w : World) : (callFunc 6 a).run (SqG.prog aLt) w = .ok (.enter 6 a) w := zae rfl Tryz.func6 rfl rfl a w
@[simp] theorem SqG.func7 : (SqG.prog aLt).funcs[7]? = some Tryz.f7 := zah rfl Tryz.func7
@[simp] theorem SqG.call7(a : Array Value)(w : World) : (callFunc 7 a).run (SqG.prog aLt) w = .ok (.enter 7 a) w := zae rfl Tryz.func7 rfl rfl a w
@[simp] theorem SqG.func9 : (SqG.prog aLt).funcs[9]? = some Tryz.f9 := zah rfl Tryz.func9
@[simp] theorem SqG.call9(a : Array Value)(w : World) : (callFunc 9 a).run (SqG.prog aLt) w = .ok (.enter 9 a) w := zae rfl Tryz.func9 rfl rfl a w
@[simp] theorem SqG.func10 : (SqG.prog aLt).funcs[10]? = some Tryz.f10 := zah rfl Tryz.func10
@[simp] theorem SqG.call10(a : Array Value)(w : World) : (callFunc 10 a).run (SqG.prog aLt) w = .ok (.enter 10 a) w := zae rfl Tryz.func10 rfl rfl a w
@[simp] theorem SqG.func11 : (SqG.prog aLt).funcs[11]? = some Tryz.f11 := zah rfl Tryz.func11
@[simp] theorem SqG.call11(a : Array Value)(w : World) : (callFunc 11 a).run (SqG.prog aLt) w = .ok (.enter 11 a) w := zae rfl Tryz.func11 rfl rfl a w
@[simp] theorem SqG.func12 : (SqG.prog aLt).funcs[12]? = some Tryz.f12 := zah rfl Tryz.func12
@[simp] theorem SqG.call12(a : Array Value)(w : World) : (callFunc 12 a).run (SqG.prog aLt) w = .ok (.enter 12 a) w := zae rfl Tryz.func12 rfl rfl a w
@[simp] theorem SqG.func13 : (SqG.prog aLt).funcs[13]? = some Tryz.f13 := zah rfl Tryz.func13
@[simp] theorem SqG.call13(a : Array Value)(w : World) : (callFunc 13 a).run (SqG.prog aLt) w = .ok (.enter 13 a) w := zae rfl Tryz.func13 rfl rfl a w
@[simp] theorem SqG.func14 : (SqG.prog aLt).funcs[14]? = some Tryz.f14 := zah rfl Tryz.func14
@[simp] theorem SqG.call14(a : Array Value)(w : World) : (callFunc 14 a).run (SqG.prog aLt) w = .ok (.enter 14 a) w := zae rfl Tryz.func14 rfl rfl a w
@[simp] theorem SqG.func15 : (SqG.prog aLt).funcs[15]? = some Tryz.f15 := zah rfl Tryz.func15
@[simp] theorem SqG.call15(a : Array Value)(w : World) : (callFunc 15 a).run (SqG.prog aLt) w = .ok (.enter 15 a) w := zae rfl Tryz.func15 rfl rfl a w
@[simp] theorem SqG.func16 : (SqG.prog aLt).funcs[16]? = some Tryz.f16 := zah rfl Tryz.func16
@[simp] theorem SqG.call16(a : Array Value)(w : World) : (callFunc 16 a).run (SqG.prog aLt) w = .ok (.enter 16 a) w := zae rfl Tryz.func16 rfl rfl a w
@[simp] theorem SqG.func17 : (SqG.prog aLt).funcs[17]? = some Tryz.f17 := zah rfl Tryz.func17
@[simp] theorem SqG.call17(a : Array Value)(w : World) : (callFunc 17 a).run (SqG.prog aLt) w = .ok (.enter 17 a) w := zae rfl Tryz.func17 rfl rfl a w
@[simp] theorem SqG.func18 : (SqG.prog aLt).funcs[18]? = some Tryz.f18 := zah rfl Tryz.func18
@[simp] theorem SqG.call18(a : Array Value)(w : World) : (callFunc 18 a).run (SqG.prog aLt) w = .ok (.enter 18 a) w := zae rfl Tryz.func18 rfl rfl a w
@[simp] theorem SqG.func21 : (SqG.prog aLt).funcs[21]? = some Tryz.f21 := zah rfl Tryz.func21
@[simp] theorem SqG.call21(a : Array Value)(w : World) : (callFunc 21 a).run (SqG.prog aLt) w = .ok (.enter 21 a) w := zae rfl Tryz.func21 rfl rfl a w
@[simp] theorem SqG.func22 : (SqG.prog aLt).funcs[22]? = some Tryz.f22 := zah rfl Tryz.func22
@[simp] theorem SqG.call22(a : Array Value)(w : World) : (callFunc 22 a).run (SqG.prog aLt) w = .ok (.enter 22 a) w := zae rfl Tryz.func22 rfl rfl a w
@[simp] theorem SqG.func23 : (SqG.prog aLt).funcs[23]? = some Tryz.f23 := zah rfl Tryz.func23
@[simp] theorem SqG.call23(a : Array Value)(w : World) : (callFunc 23 a).run (SqG.prog aLt) w = .ok (.enter 23 a) w := zae rfl Tryz.func23 rfl rfl a w
@[simp] theorem SqG.func25 : (SqG.prog aLt).funcs[25]? = some Tryz.f25 := zah rfl Tryz.func25
@[simp] theorem SqG.call25(a : Array Value)(w : World) : (callFunc 25 a).run (SqG.prog aLt) w = .ok (.enter 25 a) w := zae rfl Tryz.func25 rfl rfl a w
@[simp] theorem SqG.func26 : (SqG.prog aLt).funcs[26]? = some Tryz.f26 := zah rfl Tryz.func26
@[simp] theorem SqG.call26(a : Array Value)(w : World) : (callFunc 26 a).run (SqG.prog aLt) w = .ok (.enter 26 a) w := zae rfl Tryz.func26 rfl rfl a w
@[simp] theorem SqG.func27 : (SqG.prog aLt).funcs[27]? = some Tryz.f27 := zah rfl Tryz.func27
@[simp] theorem SqG.call27(a : Array Value)(w : World) : (callFunc 27 a).run (SqG.prog aLt) w = .ok (.enter 27 a) w := zae rfl Tryz.func27 rfl rfl a w
@[simp] theorem SqG.func28 : (SqG.prog aLt).funcs[28]? = some Tryz.f28 := zah rfl Tryz.func28
@[simp] theorem SqG.call28(a : Array Value)(w : World) : (callFunc 28 a).run (SqG.prog aLt) w = .ok (.enter 28 a) w := zae rfl Tryz.func28 rfl rfl a w
@[simp] theorem SqG.func29 : (SqG.prog aLt).funcs[29]? = some Tryz.f29 := zah rfl Tryz.func29
@[simp] theorem SqG.call29(a : Array Value)(w : World) : (callFunc 29 a).run (SqG.prog aLt) w = .ok (.enter 29 a) w := zae rfl Tryz.func29 rfl rfl a w
@[simp] theorem SqG.func30 : (SqG.prog aLt).funcs[30]? = some Tryz.f30 := zah rfl Tryz.func30
@[simp] theorem SqG.call30(a : Array Value)(w : World) : (callFunc 30 a).run (SqG.prog aLt) w = .ok (.enter 30 a) w := zae rfl Tryz.func30 rfl rfl a w
@[simp] theorem SqG.func31 : (SqG.prog aLt).funcs[31]? = some Tryz.f31 := zah rfl Tryz.func31
@[simp] theorem SqG.call31(a : Array Value)(w : World) : (callFunc 31 a).run (SqG.prog aLt) w = .ok (.enter 31 a) w := zae rfl Tryz.func31 rfl rfl a w
@[simp] theorem SqG.func32 : (SqG.prog aLt).funcs[32]? = some Tryz.f32 := zah rfl Tryz.func32
@[simp] theorem SqG.call32(a : Array Value)(w : World) : (callFunc 32 a).run (SqG.prog aLt) w = .ok (.enter 32 a) w := zae rfl Tryz.func32 rfl rfl a w
@[simp] theorem SqG.func33 : (SqG.prog aLt).funcs[33]? = some Tryz.f33 := zah rfl Tryz.func33
@[simp] theorem SqG.call33(a : Array Value)(w : World) : (callFunc 33 a).run (SqG.prog aLt) w = .ok (.enter 33 a) w := zae rfl Tryz.func33 rfl rfl a w
@[simp] theorem SqG.func34 : (SqG.prog aLt).funcs[34]? = some Tryz.f34 := zah rfl Tryz.func34
@[simp] theorem SqG.call34(a : Array Value)(w : World) : (callFunc 34 a).run (SqG.prog aLt) w = .ok (.enter 34 a) w := zae rfl Tryz.func34 rfl rfl a w
@[simp] theorem SqG.func35 : (SqG.prog aLt).funcs[35]? = some Tryz.f35 := zah rfl Tryz.func35
@[simp] theorem SqG.call35(a : Array Value)(w : World) : (callFunc 35 a).run (SqG.prog aLt) w = .ok (.enter 35 a) w := zae rfl Tryz.func35 rfl rfl a w
@[simp] theorem SqG.func36 : (SqG.prog aLt).funcs[36]? = some Tryz.f36 := zah rfl Tryz.func36
@[simp] theorem SqG.call36(a : Array Value)(w : World) : (callFunc 36 a).run (SqG.prog aLt) w = .ok (.enter 36 a) w := zae rfl Tryz.func36 rfl rfl a w
@[simp] theorem SqG.func37 : (SqG.prog aLt).funcs[37]? = some Tryz.f37 := zah rfl Tryz.func37
@[simp] theorem SqG.call37(a : Array Value)(w : World) : (callFunc 37 a).run (SqG.prog aLt) w = .ok (.enter 37 a) w := zae rfl Tryz.func37 rfl rfl a w
@[simp] theorem SqG.func38 : (SqG.prog aLt).funcs[38]? = some Tryz.f38 := zah rfl Tryz.func38
@[simp] theorem SqG.call38(a : Array Value)(w : World) : (callFunc 38 a).run (SqG.prog aLt) w = .ok (.enter 38 a) w := zae rfl Tryz.func38 rfl rfl a w
@[simp] theorem SqG.func39 : (SqG.prog aLt).funcs[39]? = some Tryz.f39 := zah rfl Tryz.func39
@[simp] theorem SqG.call39(a : Array Value)(w : World) : (callFunc 39 a).run (SqG.prog aLt) w = .ok (.enter 39 a) w := zae rfl Tryz.func39 rfl rfl a w
@[simp] theorem SqG.func41 : (SqG.prog aLt).funcs[41]? = some Tryz.f41 := zah rfl Tryz.func41
@[simp] theorem SqG.call41(a : Array Value)(w : World) : (callFunc 41 a).run (SqG.prog aLt) w = .ok (.enter 41 a) w := zae rfl Tryz.func41 rfl rfl a w
@[simp] theorem SqG.func42 : (SqG.prog aLt).funcs[42]? = some Tryz.f42 := zah rfl Tryz.func42
@[simp] theorem SqG.call42(a : Array Value)(w : World) : (callFunc 42 a).run (SqG.prog aLt) w = .ok (.enter 42 a) w := zae rfl Tryz.func42 rfl rfl a w
@[simp] theorem SqG.func43 : (SqG.prog aLt).funcs[43]? = some Tryz.f43 := zah rfl Tryz.func43
@[simp] theorem SqG.call43(a : Array Value)(w : World) : (callFunc 43 a).run (SqG.prog aLt) w = .ok (.enter 43 a) w := zae rfl Tryz.func43 rfl rfl a w
@[simp] theorem SqG.func49 : (SqG.prog aLt).funcs[49]? = some Tryz.f49 := zah rfl Tryz.func49
@[simp] theorem SqG.call49(a : Array Value)(w : World) : (callFunc 49 a).run (SqG.prog aLt) w = .ok (.enter 49 a) w := zae rfl Tryz.func49 rfl rfl a w
@[simp] theorem SqG.func51 : (SqG.prog aLt).funcs[51]? = some Tryz.f51 := zah rfl Tryz.func51
@[simp] theorem SqG.call51(a : Array Value)(w : World) : (callFunc 51 a).run (SqG.prog aLt) w = .ok (.enter 51 a) w := zae rfl Tryz.func51 rfl rfl a w
@[simp] theorem SqG.func53 : (SqG.prog aLt).funcs[53]? = some Tryz.f53 := zah rfl Tryz.func53
@[simp] theorem SqG.call53(a : Array Value)(w : World) : (callFunc 53 a).run (SqG.prog aLt) w = .ok (.enter 53 a) w := zae rfl Tryz.func53 rfl rfl a w
@[simp] theorem SqG.func54 : (SqG.prog aLt).funcs[54]? = some Tryz.f54 := zah rfl Tryz.func54
@[simp] theorem SqG.call54(a : Array Value)(w : World) : (callFunc 54 a).run (SqG.prog aLt) w = .ok (.enter 54 a) w := zae rfl Tryz.func54 rfl rfl a w
@[simp] theorem SqG.func55 : (SqG.prog aLt).funcs[55]? = some Tryz.f55 := zah rfl Tryz.func55
@[simp] theorem SqG.call55(a : Array Value)(w : World) : (callFunc 55 a).run (SqG.prog aLt) w = .ok (.enter 55 a) w := zae rfl Tryz.func55 rfl rfl a w
@[simp] theorem SqG.func56 : (SqG.prog aLt).funcs[56]? = some Tryz.f56 := zah rfl Tryz.func56
@[simp] theorem SqG.func57 : (SqG.prog aLt).funcs[57]? = some Tryz.f57 := zah rfl Tryz.func57
@[simp] theorem SqG.call57(a : Array Value)(w : World) : (callFunc 57 a).run (SqG.prog aLt) w = .ok (.enter 57 a) w := zae rfl Tryz.func57 rfl rfl a w
@[simp] theorem SqG.func58 : (SqG.prog aLt).funcs[58]? = some Tryz.f58 := zah rfl Tryz.func58
@[simp] theorem SqG.call58(a : Array Value)(w : World) : (callFunc 58 a).run (SqG.prog aLt) w = .ok (.enter 58 a) w := zae rfl Tryz.func58 rfl rfl a w
@[simp] theorem SqG.func59 : (SqG.prog aLt).funcs[59]? = some Tryz.f59 := zah rfl Tryz.func59
@[simp] theorem SqG.call59(a : Array Value)(w : World) : (callFunc 59 a).run (SqG.prog aLt) w = .ok (.enter 59 a) w := zae rfl Tryz.func59 rfl rfl a w
@[simp] theorem SqG.func60 : (SqG.prog aLt).funcs[60]? = some Tryz.f60 := zah rfl Tryz.func60
@[simp] theorem SqG.call60(a : Array Value)(w : World) : (callFunc 60 a).run (SqG.prog aLt) w = .ok (.enter 60 a) w := zae rfl Tryz.func60 rfl rfl a w
@[simp] theorem SqG.func61 : (SqG.prog aLt).funcs[61]? = some Tryz.f61 := zah rfl Tryz.func61
@[simp] theorem SqG.call61(a : Array Value)(w : World) : (callFunc 61 a).run (SqG.prog aLt) w = .ok (.enter 61 a) w := zae rfl Tryz.func61 rfl rfl a w
@[simp] theorem SqG.func62 : (SqG.prog aLt).funcs[62]? = some Tryz.f62 := zah rfl Tryz.func62
@[simp] theorem SqG.call62(a : Array Value)(w : World) : (callFunc 62 a).run (SqG.prog aLt) w = .ok (.enter 62 a) w := zae rfl Tryz.func62 rfl rfl a w
@[simp] theorem SqG.func63 : (SqG.prog aLt).funcs[63]? = some Tryz.f63 := zah rfl Tryz.func63
@[simp] theorem SqG.call63(a : Array Value)(w : World) : (callFunc 63 a).run (SqG.prog aLt) w = .ok (.enter 63 a) w := zae rfl Tryz.func63 rfl rfl a w
@[simp] theorem SqG.func66 : (SqG.prog aLt).funcs[66]? = some Tryz.f66 := zah rfl Tryz.func66
@[simp] theorem SqG.call66(a : Array Value)(w : World) : (callFunc 66 a).run (SqG.prog aLt) w = .ok (.enter 66 a) w := zae rfl Tryz.func66 rfl rfl a w
@[simp] theorem SqG.func67 : (SqG.prog aLt).funcs[67]? = some Tryz.f67 := zah rfl Tryz.func67
@[simp] theorem SqG.call67(a : Array Value)(w : World) : (callFunc 67 a).run (SqG.prog aLt) w = .ok (.enter 67 a) w := zae rfl Tryz.func67 rfl rfl a w
@[simp] theorem SqG.func81 : (SqG.prog aLt).funcs[81]? = some Tryz.f81 := zah rfl Tryz.func81
@[simp] theorem SqG.call81(a : Array Value)(w : World) : (callFunc 81 a).run (SqG.prog aLt) w = .ok (.enter 81 a) w := zae rfl Tryz.func81 rfl rfl a w
@[simp] theorem SqG.func87 : (SqG.prog aLt).funcs[87]? = some Tryz.f87 := zah rfl Tryz.func87
@[simp] theorem SqG.call87(a : Array Value)(w : World) : (callFunc 87 a).run (SqG.prog aLt) w = .ok (.enter 87 a) w := zae rfl Tryz.func87 rfl rfl a w
@[simp] theorem SqG.func88 : (SqG.prog aLt).funcs[88]? = some Tryz.f88 := zah rfl Tryz.func88
@[simp] theorem SqG.call88(a : Array Value)(w : World) : (callFunc 88 a).run (SqG.prog aLt) w = .ok (.enter 88 a) w := zae rfl Tryz.func88 rfl rfl a w
@[simp] theorem SqG.func89 : (SqG.prog aLt).funcs[89]? = some Tryz.f89 := zah rfl Tryz.func89
@[simp] theorem SqG.call89(a : Array Value)(w : World) : (callFunc 89 a).run (SqG.prog aLt) w = .ok (.enter 89 a) w := zae rfl Tryz.func89 rfl rfl a w
@[simp] theorem SqG.func91 : (SqG.prog aLt).funcs[91]? = some Tryz.f91 := zah rfl Tryz.func91
@[simp] theorem SqG.call91(a : Array Value)(w : World) : (callFunc 91 a).run (SqG.prog aLt) w = .ok (.enter 91 a) w := zae rfl Tryz.func91 rfl rfl a w
@[simp] theorem SqG.func92 : (SqG.prog aLt).funcs[92]? = some Tryz.f92 := zah rfl Tryz.func92
@[simp] theorem SqG.call92(a : Array Value)(w : World) : (callFunc 92 a).run (SqG.prog aLt) w = .ok (.enter 92 a) w := zae rfl Tryz.func92 rfl rfl a w
@[simp] theorem SqG.func98 : (SqG.prog aLt).funcs[98]? = some Tryz.f98 := zah rfl Tryz.func98
@[simp] theorem SqG.call98(a : Array Value)(w : World) : (callFunc 98 a).run (SqG.prog aLt) w = .ok (.enter 98 a) w := zae rfl Tryz.func98 rfl rfl a w
@[simp] theorem SqG.func99 : (SqG.prog aLt).funcs[99]? = some Tryz.f99 := zah rfl Tryz.func99
@[simp] theorem SqG.call99(a : Array Value)(w : World) : (callFunc 99 a).run (SqG.prog aLt) w = .ok (.enter 99 a) w := zae rfl Tryz.func99 rfl rfl a w
@[simp] theorem SqG.func100 : (SqG.prog aLt).funcs[100]? = some Tryz.f100 := zah rfl Tryz.func100
@[simp] theorem SqG.call100(a : Array Value)(w : World) : (callFunc 100 a).run (SqG.prog aLt) w = .ok (.enter 100 a) w := zae rfl Tryz.func100 rfl rfl a w
@[simp] theorem SqG.func101 : (SqG.prog aLt).funcs[101]? = some Tryz.f101 := zah rfl Tryz.func101
@[simp] theorem SqG.call101(a : Array Value)(w : World) : (callFunc 101 a).run (SqG.prog aLt) w = .ok (.enter 101 a) w := zae rfl Tryz.func101 rfl rfl a w
@[simp] theorem SqG.func102 : (SqG.prog aLt).funcs[102]? = some Tryz.f102 := zah rfl Tryz.func102
@[simp] theorem SqG.call102(a : Array Value)(w : World) : (callFunc 102 a).run (SqG.prog aLt) w = .ok (.enter 102 a) w := zae rfl Tryz.func102 rfl rfl a w
@[simp] theorem SqG.func103 : (SqG.prog aLt).funcs[103]? = some Tryz.f103 := zah rfl Tryz.func103
@[simp] theorem SqG.call103(a : Array Value)(w : World) : (callFunc 103 a).run (SqG.prog aLt) w = .ok (.enter 103 a) w := zae rfl Tryz.func103 rfl rfl a w
@[simp] theorem SqG.func104 : (SqG.prog aLt).funcs[104]? = some Tryz.f104 := zah rfl Tryz.func104
@[simp] theorem SqG.call104(a : Array Value)(w : World) : (callFunc 104 a).run (SqG.prog aLt) w = .ok (.enter 104 a) w := zae rfl Tryz.func104 rfl rfl a w
@[simp] theorem SqG.func105 : (SqG.prog aLt).funcs[105]? = some Tryz.f105 := zah rfl Tryz.func105
@[simp] theorem SqG.call105(a : Array Value)(w : World) : (callFunc 105 a).run (SqG.prog aLt) w = .ok (.enter 105 a) w := zae rfl Tryz.func105 rfl rfl a w
@[simp] theorem SqG.func106 : (SqG.prog aLt).funcs[106]? = some Tryz.f106 := zah rfl Tryz.func106
@[simp] theorem SqG.call106(a : Array Value)(w : World) : (callFunc 106 a).run (SqG.prog aLt) w = .ok (.enter 106 a) w := zae rfl Tryz.func106 rfl rfl a w
@[simp] theorem SqG.func108 : (SqG.prog aLt).funcs[108]? = some Tryz.f108 := zah rfl Tryz.func108
@[simp] theorem SqG.call108(a : Array Value)(w : World) : (callFunc 108 a).run (SqG.prog aLt) w = .ok (.enter 108 a) w := zae rfl Tryz.func108 rfl rfl a w
@[simp] theorem SqG.func109 : (SqG.prog aLt).funcs[109]? = some Tryz.f109 := zah rfl Tryz.func109
@[simp] theorem SqG.call109(a : Array Value)(w : World) : (callFunc 109 a).run (SqG.prog aLt) w = .ok (.enter 109 a) w := zae rfl Tryz.func109 rfl rfl a w
@[simp] theorem SqG.func110 : (SqG.prog aLt).funcs[110]? = some Tryz.f110 := zah rfl Tryz.func110
@[simp] theorem SqG.call110(a : Array Value)(w : World) : (callFunc 110 a).run (SqG.prog aLt) w = .ok (.enter 110 a) w := zae rfl Tryz.func110 rfl rfl a w
@[simp] theorem SqG.func111 : (SqG.prog aLt).funcs[111]? = some Tryz.f111 := zah rfl Tryz.func111
@[simp] theorem SqG.call111(a : Array Value)(w : World) : (callFunc 111 a).run (SqG.prog aLt) w = .ok (.enter 111 a) w := zae rfl Tryz.func111 rfl rfl a w
@[simp] theorem SqG.func112 : (SqG.prog aLt).funcs[112]? = some Tryz.f112 := zah rfl Tryz.func112
@[simp] theorem SqG.func113 : (SqG.prog aLt).funcs[113]? = some Tryz.f113 := zah rfl Tryz.func113
@[simp] theorem SqG.func114 : (SqG.prog aLt).funcs[114]? = some Tryz.f114 := zah rfl Tryz.func114
@[simp] theorem SqG.func115 : (SqG.prog aLt).funcs[115]? = some Tryz.f115 := zah rfl Tryz.func115
@[simp] theorem SqG.func116 : (SqG.prog aLt).funcs[116]? = some Tryz.f116 := zah rfl Tryz.func116
@[simp] theorem SqG.func117 : (SqG.prog aLt).funcs[117]? = some Tryz.f117 := zah rfl Tryz.func117
@[simp] theorem SqG.func118 : (SqG.prog aLt).funcs[118]? = some Tryz.f118 := zah rfl Tryz.func118
@[simp] theorem SqG.call118(a : Array Value)(w : World) : (callFunc 118 a).run (SqG.prog aLt) w = .ok (.enter 118 a) w := zae rfl Tryz.func118 rfl rfl a w
@[simp] theorem SqG.func119 : (SqG.prog aLt).funcs[119]? = some Tryz.f119 := zah rfl Tryz.func119
@[simp] theorem SqG.call119(a : Array Value)(w : World) : (callFunc 119 a).run (SqG.prog aLt) w = .ok (.enter 119 a) w := zae rfl Tryz.func119 rfl rfl a w
@[simp] theorem SqG.func120 : (SqG.prog aLt).funcs[120]? = some Tryz.f120 := zah rfl Tryz.func120
@[simp] theorem SqG.call120(a : Array Value)(w : World) : (callFunc 120 a).run (SqG.prog aLt) w = .ok (.enter 120 a) w := zae rfl Tryz.func120 rfl rfl a w
@[simp] theorem SqG.func121 : (SqG.prog aLt).funcs[121]? = some Tryz.f121 := zah rfl Tryz.func121
@[simp] theorem SqG.call121(a : Array Value)(w : World) : (callFunc 121 a).run (SqG.prog aLt) w = .ok (.enter 121 a) w := zae rfl Tryz.func121 rfl rfl a w
@[simp] theorem SqG.func122 : (SqG.prog aLt).funcs[122]? = some Tryz.f122 := zah rfl Tryz.func122
@[simp] theorem SqG.call122(a : Array Value)(w : World) : (callFunc 122 a).run (SqG.prog aLt) w = .ok (.enter 122 a) w := zae rfl Tryz.func122 rfl rfl a w
@[simp] theorem SqG.func123 : (SqG.prog aLt).funcs[123]? = some Tryz.f123 := zah rfl Tryz.func123
@[simp] theorem SqG.call123(a : Array Value)(w : World) : (callFunc 123 a).run (SqG.prog aLt) w = .ok (.enter 123 a) w := zae rfl Tryz.func123 rfl rfl a w
@[simp] theorem SqG.func127 : (SqG.prog aLt).funcs[127]? = some Tryz.f127 := zah rfl Tryz.func127
@[simp] theorem SqG.call127(a : Array Value)(w : World) : (callFunc 127 a).run (SqG.prog aLt) w = .ok (.enter 127 a) w := zae rfl Tryz.func127 rfl rfl a w
@[simp] theorem SqG.func128 : (SqG.prog aLt).funcs[128]? = some Tryz.f128 := zah rfl Tryz.func128
@[simp] theorem SqG.call128(a : Array Value)(w : World) : (callFunc 128 a).run (SqG.prog aLt) w = .ok (.enter 128 a) w := zae rfl Tryz.func128 rfl rfl a w
@[simp] theorem SqG.func129 : (SqG.prog aLt).funcs[129]? = some Tryz.f129 := zah rfl Tryz.func129
@[simp] theorem SqG.call129(a : Array Value)(w : World) : (callFunc 129 a).run (SqG.prog aLt) w = .ok (.enter 129 a) w := zae rfl Tryz.func129 rfl rfl a w
@[simp] theorem SqG.func130 : (SqG.prog aLt).funcs[130]? = some Tryz.f130 := zah rfl Tryz.func130
@[simp] theorem SqG.call130(a : Array Value)(w : World) : (callFunc 130 a).run (SqG.prog aLt) w = .ok (.enter 130 a) w := zae rfl Tryz.func130 rfl rfl a w
@[simp] theorem SqG.func131 : (SqG.prog aLt).funcs[131]? = some Tryz.f131 := zah rfl Tryz.func131
@[simp] theorem SqG.call131(a : Array Value)(w : World) : (callFunc 131 a).run (SqG.prog aLt) w = .ok (.enter 131 a) w := zae rfl Tryz.func131 rfl rfl a w
@[simp] theorem SqG.func132 : (SqG.prog aLt).funcs[132]? = some Tryz.f132 := zah rfl Tryz.func132
@[simp] theorem SqG.call132(a : Array Value)(w : World) : (callFunc 132 a).run (SqG.prog aLt) w = .ok (.enter 132 a) w := zae rfl Tryz.func132 rfl rfl a w
@[simp] theorem SqG.func133 : (SqG.prog aLt).funcs[133]? = some Tryz.f133 := zah rfl Tryz.func133
@[simp] theorem SqG.call133(a : Array Value)(w : World) : (callFunc 133 a).run (SqG.prog aLt) w = .ok (.enter 133 a) w := zae rfl Tryz.func133 rfl rfl a w
@[simp] theorem SqG.func134 : (SqG.prog aLt).funcs[134]? = some Tryz.f134 := zah rfl Tryz.func134
@[simp] theorem SqG.call134(a : Array Value)(w : World) : (callFunc 134 a).run (SqG.prog aLt) w = .ok (.enter 134 a) w := zae rfl Tryz.func134 rfl rfl a w
@[simp] theorem SqG.func135 : (SqG.prog aLt).funcs[135]? = some Tryz.f135 := zah rfl Tryz.func135
@[simp] theorem SqG.call135(a : Array Value)(w : World) : (callFunc 135 a).run (SqG.prog aLt) w = .ok (.enter 135 a) w := zae rfl Tryz.func135 rfl rfl a w
@[simp] theorem SqG.func139 : (SqG.prog aLt).funcs[139]? = some Tryz.f139 := zah rfl Tryz.func139
@[simp] theorem SqG.call139(a : Array Value)(w : World) : (callFunc 139 a).run (SqG.prog aLt) w = .ok (.enter 139 a) w := zae rfl Tryz.func139 rfl rfl a w
@[simp] theorem SqG.func157 : (SqG.prog aLt).funcs[157]? = some Tryz.f157 := zah rfl Tryz.func157
@[simp] theorem SqG.call157(a : Array Value)(w : World) : (callFunc 157 a).run (SqG.prog aLt) w = .ok (.enter 157 a) w := zae rfl Tryz.func157 rfl rfl a w
@[simp] theorem SqG.func165 : (SqG.prog aLt).funcs[165]? = some Tryz.f165 := zah rfl Tryz.func165
@[simp] theorem SqG.call165(a : Array Value)(w : World) : (callFunc 165 a).run (SqG.prog aLt) w = .ok (.enter 165 a) w := zae rfl Tryz.func165 rfl rfl a w
