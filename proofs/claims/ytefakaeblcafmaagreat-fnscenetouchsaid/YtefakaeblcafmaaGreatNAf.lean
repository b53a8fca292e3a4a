/- Part. -/
import Derived.Test.YtefakaeblcafmaaGreatNZz
import Derived.Test.YtefakaeblcafmaaGreatChecked
import Derived.Calls
import Derived.Laws.Sem
import Derived.Below
namespace Go.Proofs.YtefakaeblcafmaaGreat
variable{f:Func}{n:FuncId}{i:Nat}
section
def zau(P:Program)(off:Nat->Bool)(alt:Nat->Func->Func):Program:=⟨P.toTables,P.funcs.mapIdx fun i f=>if off i then alt i f else f⟩
def zcH(f:Func):Func:={ f with name:= "none",origin:= "none",body:=none }
section
variable{P:Program}{off:Nat->Bool}{alt:Nat->Func->Func}
theorem zkh(h:off i=false)(hf:P.funcs[i]?=some f):(zau P off alt).funcs[i]?=some f:=by
 show (P.funcs.mapIdx _)[i]?=some f
 rw[Array.getElem?_mapIdx,hf]
 simp[h]
theorem zkg(h:off i=true)(hf:P.funcs[i]?=some f):(zau P off alt).funcs[i]?=some (alt i f):=by
 show (P.funcs.mapIdx _)[i]?=some _
 rw[Array.getElem?_mapIdx,hf]
 simp[h]
theorem ze1:(zau P off alt).toTables=P.toTables:=id rfl
theorem zcc(n:TypeId):(zau P off alt).underlying n=P.underlying n:=by unfold Program.underlying;simp only[ze1]
theorem zeH(n:TypeId)(w:World):(typeInfo n).run (zau P off alt) w=(typeInfo n).run P w:=by
 unfold typeInfo
 simp[ze1]
 cases P.info? n <;> simp
theorem zgB(n:TypeId)(w:World):(sizeOf n).run (zau P off alt) w=(sizeOf n).run P w:=by
 unfold Go.sizeOf
 simp[zeH]
theorem zbw(n:TypeId)(w:World):(underlying n).run (zau P off alt) w=(underlying n).run P w:=by
 unfold underlying
 simp[zcc]
 cases P.underlying n <;> simp
theorem zdV(n:TypeId)(w:World):(zeroValue n).run (zau P off alt) w=(zeroValue n).run P w:=by
 unfold zeroValue
 simp[zeH]
 cases (typeInfo n).run P w with
 | ok i w'=>simp;cases i.zero <;> simp
 | halt h w'=>simp
theorem zhX(n:TypeId)(w:World):(isAgg n).run (zau P off alt) w=(isAgg n).run P w:=by
 unfold isAgg
 simp[zbw]
 cases (underlying n).run P w with
 | ok i w'=>simp;cases i <;> simp
 | halt h w'=>simp
theorem zhW(h:off n=false)(hf:P.funcs[n]?=some f)(hb:f.body.isNone=false)(hn:(f.name == "runtime.NumGoroutine")=false)(a:Array Value)(w:World):(callFunc n a).run (zau P off alt) w=.ok (.enter n a) w:=by
 unfold callFunc
 have h1:¬ f.name= "runtime.NumGoroutine":=by simpa using hn
 have h2:¬ f.body=none:=fun e=>by rw[e] at hb;cases hb
 simp[zkh (alt:=alt) h hf,h1,h2]
theorem zi9(h:off n=true)(hf:P.funcs[n]?=some f)(hb:(alt n f).body.isNone=false)(hn:((alt n f).name == "runtime.NumGoroutine")=false)(a:Array Value)(w:World):(callFunc n a).run (zau P off alt) w=.ok (.enter n a) w:=by
 unfold callFunc
 have h1:¬ (alt n f).name= "runtime.NumGoroutine":=by simpa using hn
 have h2:¬ (alt n f).body=none:=fun e=>by rw[e] at hb;cases hb
 simp[zkg (alt:=alt) h hf,h1,h2]
end
end
section
open Go
section
variable(T:Tables)(F1 F2:Array Func)
theorem zp5(t:TypeId):(Program.mk T F1).info? t=(Program.mk T F2).info? t:=rfl
theorem zf9(t:TypeId):(Program.mk T F1).underlying t=(Program.mk T F2).underlying t:=by unfold Program.underlying;rfl
theorem ziN:(Program.mk T F1).depth=(Program.mk T F2).depth:=by unfold Program.depth;rfl
theorem zrq(t:TypeId):(Program.mk T F1).underlyingId t=(Program.mk T F2).underlyingId t:=by unfold Program.underlyingId;rfl
theorem ziM:∀(d:Nat) (t u:TypeId),(Program.mk T F1).alikeButTags d t u=(Program.mk T F2).alikeButTags d t u
 | 0,_,_=>rfl
 | d+1,t,u=>by
  have ih:(Program.mk T F1).alikeButTags d=(Program.mk T F2).alikeButTags d:=funext fun x=>funext fun y=>ziM d x y
  unfold Program.alikeButTags
  rw[ih]
theorem zjW(t:TypeId):(Program.mk T F1).stoodInAs t=(Program.mk T F2).stoodInAs t:=by
 unfold Program.stoodInAs
 have h:(Program.mk T F1).alikeButTags=(Program.mk T F2).alikeButTags:=funext fun d=>funext fun x=>funext fun y=>ziM T F1 F2 d x y
 have hu:(Program.mk T F1).underlyingId=(Program.mk T F2).underlyingId:=funext fun x=>zrq T F1 F2 x
 rw[h,hu,zf9 T F1 F2,ziN T F1 F2]
theorem zol(t:TypeId):(Program.mk T F1).stoodInHeld t=(Program.mk T F2).stoodInHeld t:=by
 unfold Program.stoodInHeld
 rw[zjW T F1 F2]
theorem zf8(t:TypeId):(Program.mk T F1).cellsOf t=(Program.mk T F2).cellsOf t:=by unfold Program.cellsOf;rfl
theorem zf7(t:TypeId):(Program.mk T F1).bytesOf t=(Program.mk T F2).bytesOf t:=by unfold Program.bytesOf;rfl
theorem zcf:∀(d:Nat) (t:TypeId) (off:Nat),byteOfCell (Program.mk T F1) d t off=byteOfCell (Program.mk T F2) d t off
 | 0,_,_=>rfl
 | d+1,t,off=>by
  unfold byteOfCell
  simp only[zf9 T F1 F2,zf8 T F1 F2,zf7 T F1 F2,zcf d]
theorem zdz:∀(d:Nat) (t:TypeId) (off:Nat),cellOfByte (Program.mk T F1) d t off=cellOfByte (Program.mk T F2) d t off
 | 0,_,_=>rfl
 | d+1,t,off=>by
  unfold cellOfByte
  simp only[zf9 T F1 F2,zf8 T F1 F2,zf7 T F1 F2,zdz d]
theorem zrp(d:Nat)(e:TypeId)(c o:Nat)(n:Int):cellAtBytes (Program.mk T F1) d e c o n=cellAtBytes (Program.mk T F2) d e c o n:=by
 unfold cellAtBytes
 simp only[zf8 T F1 F2,zf7 T F1 F2,zcf T F1 F2,zdz T F1 F2]
theorem zok:∀(d:Nat) (t:TypeId),(Program.mk T F1).eqGuardType d t=(Program.mk T F2).eqGuardType d t
 | 0,_=>rfl
 | d+1,t=>by
  unfold Program.eqGuardType
  simp only[zf9 T F1 F2,zok d]
end
def Sq.off(i:Nat):Bool:=([0,1,22,36,37,58,62,63,64,65,66,85,86,88,89,90,91,92,93,94,95,96,97,98,99,100,101,102,103,104,105,117,118,119,120,121,125,126,127,128,129,130,131,132,133,134,135,136,137,138,139,141,142,143,144,145,146,147,149,150]:List Nat).contains i
class zk6 where
 alt:Nat->Func->Func
noncomputable def Sq.prog[A:zk6]:Program:=zau Tryz.prog Sq.off A.alt
section
variable[zk6]
@[simp] theorem Sq.tabs : Sq.prog.toTables = Tryz.prog.toTables := ze1
@[simp] theorem Sq.underlying(n : TypeId) : Sq.prog.underlying n = Tryz.prog.underlying n := zcc n
@[simp] theorem Sq.sizeOf(n : TypeId)(w : World) : (Go.sizeOf n).run Sq.prog w = (Go.sizeOf n).run Tryz.prog w := zgB n w
@[simp] theorem Sq.runUnderlying(n : TypeId)(w : World) : (Go.underlying n).run Sq.prog w = (Go.underlying n).run Tryz.prog w := zbw n w
@[simp] theorem Sq.zeroValue(n : TypeId)(w : World) : (Go.zeroValue n).run Sq.prog w = (Go.zeroValue n).run Tryz.prog w := zdV n w
@[simp] theorem Sq.isAgg(n : TypeId)(w : World) : (Go.isAgg n).run Sq.prog w = (Go.isAgg n).run Tryz.prog w := zhX n w
end
abbrev opr(d:Option Tmp)(op:Op)(t:TypeId):Oper:={ dst:=d,op:=op,type:=t,pos:= "",after:=#[],guard:=none }
abbrev ckA:Code:=.region 0 #[opr (some 2) (.box 25 (.tmp 0)) 0,opr (some 3) (.fieldAddr 25 (.tmp 2) 0) 0,opr (some 4) (.load 3 (.tmp 3)) 3,opr (some 5) (.binOp .mul 3 (.tmp 4) (.const (.int .i64 0)) 3) 3,opr (some 6) (.fieldAddr 25 (.tmp 2) 1) 0,opr (some 7) (.load 23 (.tmp 6)) 23,opr (some 8) (.call { callee:=.builtin .len,args:=#[.tmp 7],argTypes:=#[23] }) 3,opr (some 9) (.move (.const (.int .i64 0))) 3,opr (some 10) (.binOp .lss 3 (.tmp 8) (.const (.int .i64 4611686018427387904)) 3) 4] false
abbrev ckL:Code:=.seq (.region 1 #[opr (some 10) (.binOp .lss 3 (.tmp 9) (.tmp 8) 3) 4] false) (.seq (.cond (.tmp 10) .skip (.exit 0)) (.region 2 #[opr (some 11) (.indexAddr 23 (.tmp 7) (.tmp 9)) 0,opr (some 12) (.fieldAddr 60 (.tmp 11) 0) 0,opr (some 13) (.load 3 (.tmp 12)) 3,opr (some 14) (.binOp .mul 3 (.tmp 13) (.const (.int .i64 0)) 3) 3,opr (some 15) (.fieldAddr 60 (.tmp 11) 1) 0,opr (some 16) (.load 3 (.tmp 15)) 3,opr (some 17) (.binOp .mul 3 (.tmp 16) (.const (.int .i64 0)) 3) 3,opr (some 18) (.binOp .add 3 (.tmp 9) (.const (.int .i64 1)) 3) 3,opr (some 9) (.move (.tmp 18)) 3] false))
abbrev ckS:Code:=.region 3 #[opr (none) (.store 25 (.tmp 2) (.tmp 0)) 0] false
abbrev zi7(rest:Code):Code:=.seq ckA (.seq (.cond (.tmp 10) .skip (.refuse "too long")) (.seq (.block 0 (.loop ckL)) (.seq ckS rest)))
abbrev scL:Code:=.seq (.region 7 #[opr (some 11) (.binOp .lss 3 (.tmp 10) (.tmp 7) 3) 4] false) (.seq (.cond (.tmp 11) .skip (.exit 1)) (.region 8 #[opr (some 12) (.call { callee:=.value (.func 59),args:=#[.tmp 0,.tmp 10],argTypes:=#[25,3] }) 3,opr (some 13) (.indexAddr 26 (.tmp 8) (.tmp 10)) 0,opr none (.store 3 (.tmp 13) (.tmp 12)) 0,opr (some 14) (.call { callee:=.value (.func 9),args:=#[.tmp 0,.tmp 10],argTypes:=#[25,3] }) 26,opr (some 15) (.indexAddr 27 (.tmp 9) (.tmp 10)) 0,opr none (.store 26 (.tmp 15) (.tmp 14)) 0,opr (some 10) (.binOp .add 3 (.tmp 10) (.const (.int .i64 1)) 3) 3] false))
abbrev scA:Code:=.region 6 #[opr (some 6) (.call { callee:=.value (.func 35),args:=#[.tmp 0],argTypes:=#[25] }) 25,opr (some 7) (.call { callee:=.value (.func 60),args:=#[.tmp 0],argTypes:=#[25] }) 3,opr (some 8) (.makeSlice 26 (.tmp 7) (.tmp 7)) 26,opr (some 9) (.makeSlice 27 (.tmp 7) (.tmp 7)) 27,opr (some 10) (.move (.const (.int .i64 0))) 3] false
abbrev scZ:Code:=.region 9 #[opr (some 16) (.build 29 #[(0,.tmp 6),(1,.tmp 8),(2,.tmp 9)]) 29,opr (some 2) (.alloc 29) 0,opr none (.store 29 (.tmp 2) (.tmp 16)) 0,opr (some 3) (.move (.const (.bool true))) 4] false
abbrev scG:Code:=.region 4 #[opr (some 3) (.call { callee:=.value (.func 26),args:=#[.tmp 0],argTypes:=#[25] }) 4] false
abbrev scN:Code:=.seq (.region 5 #[opr (some 2) (.alloc 29) 0,opr (some 3) (.move (.const (.bool false))) 4] false) .ret
abbrev zgK:Code:=.seq scG (.seq (.cond (.tmp 3) .skip scN) (.seq scA (.seq (.block 1 (.loop scL)) (.seq scZ .ret))))
abbrev zqV:Code:=.seq (zi7 .skip) zgK
def zlM(f:Func):Func:={ f with ntmps:=22,body:=some zqV }
def Sq.altP(i:Nat)(f:Func):Func:=if i == 22 then zlM f else zcH f
def Sq.altN(_:Nat)(f:Func):Func:=zcH f
abbrev Sq.P:zk6:=⟨Sq.altP⟩
abbrev Sq.N:zk6:=⟨Sq.altN⟩
noncomputable def SqG.prog(aLt:Nat->Func->Func):Program:=zau Tryz.prog Sq.off aLt
section
variable{aLt:Nat->Func->Func}
@[simp] theorem SqG.tabs : (SqG.prog aLt).toTables = Tryz.prog.toTables := ze1
@[simp] theorem SqG.underlying(n : TypeId) : (SqG.prog aLt).underlying n = Tryz.prog.underlying n := zcc n
@[simp] theorem SqG.sizeOf(n : TypeId)(w : World) : (Go.sizeOf n).run (SqG.prog aLt) w = (Go.sizeOf n).run Tryz.prog w := zgB n w
@[simp] theorem SqG.runUnderlying(n : TypeId)(w : World) : (Go.underlying n).run (SqG.prog aLt) w = (Go.underlying n).run Tryz.prog w := zbw n w
@[simp] theorem SqG.zeroValue(n : TypeId)(w : World) : (Go.zeroValue n).run (SqG.prog aLt) w = (Go.zeroValue n).run Tryz.prog w := zdV n w
@[simp] theorem SqG.isAgg(n : TypeId)(w : World) : (Go.isAgg n).run (SqG.prog aLt) w = (Go.isAgg n).run Tryz.prog w := zhX n w
abbrev SqG.underlying3:=(SqG.underlying (aLt:=aLt) 3).trans Tryz.underlying3
abbrev SqG.underlying23:=(SqG.underlying (aLt:=aLt) 23).trans Tryz.underlying23
abbrev SqG.underlying26:=(SqG.underlying (aLt:=aLt) 26).trans Tryz.underlying26
abbrev SqG.underlying27:=(SqG.underlying (aLt:=aLt) 27).trans Tryz.underlying27
abbrev SqG.underlying42:=(SqG.underlying (aLt:=aLt) 42).trans Tryz.underlying42
abbrev SqG.underlying47:=(SqG.underlying (aLt:=aLt) 47).trans Tryz.underlying47
abbrev SqG.underlying48:=(SqG.underlying (aLt:=aLt) 48).trans Tryz.underlying48
abbrev SqG.underlying49:=(SqG.underlying (aLt:=aLt) 49).trans Tryz.underlying49
abbrev SqG.underlying128:=(SqG.underlying (aLt:=aLt) 128).trans Tryz.underlying128
abbrev SqG.underlying134:=(SqG.underlying (aLt:=aLt) 134).trans Tryz.underlying134
theorem zfx{n:Nat}(h:Tryz.prog.funcs[n]?=some f)(o:Sq.off n=false:=by rfl):(SqG.prog aLt).funcs[n]?=some f:=zkh o h
abbrev SqG.C(n:Nat):Prop:=∀(aLt:Nat->Func->Func) (a:Array Value) (w:World),(callFunc n a).run (SqG.prog aLt) w=.ok (.enter n a) w
theorem zcx{n:Nat}(h:Tryz.prog.funcs[n]?=some f)(o:Sq.off n=false:=by rfl)(b:f.body.isNone=false:=by rfl)(m:(f.name == "runtime.NumGoroutine")=false:=by rfl):SqG.C n:=fun _ a w=>zhW o h b m a w
@[simp] theorem SqG.c0 : SqG.C 4 /\ SqG.C 5 /\ SqG.C 6 /\ SqG.C 7 /\ SqG.C 8 /\ SqG.C 9 /\ SqG.C 10 /\ SqG.C 11 /\ SqG.C 12 /\ SqG.C 13 := ⟨zcx Tryz.func4, zcx Tryz.func5, zcx Tryz.func6, zcx Tryz.func7, zcx Tryz.func8, zcx Tryz.func9, zcx Tryz.func10, zcx Tryz.func11, zcx Tryz.func12, zcx Tryz.func13⟩
@[simp] theorem SqG.c1 : SqG.C 14 /\ SqG.C 15 /\ SqG.C 16 /\ SqG.C 17 /\ SqG.C 18 /\ SqG.C 19 /\ SqG.C 20 /\ SqG.C 21 /\ SqG.C 23 /\ SqG.C 24 := ⟨zcx Tryz.func14, zcx Tryz.func15, zcx Tryz.func16, zcx Tryz.func17, zcx Tryz.func18, zcx Tryz.func19, zcx Tryz.func20, zcx Tryz.func21, zcx Tryz.func23, zcx Tryz.func24⟩
@[simp] theorem SqG.c2 : SqG.C 25 /\ SqG.C 26 /\ SqG.C 27 /\ SqG.C 28 /\ SqG.C 29 /\ SqG.C 30 /\ SqG.C 31 /\ SqG.C 32 /\ SqG.C 33 /\ SqG.C 34 := ⟨zcx Tryz.func25, zcx Tryz.func26, zcx Tryz.func27, zcx Tryz.func28, zcx Tryz.func29, zcx Tryz.func30, zcx Tryz.func31, zcx Tryz.func32, zcx Tryz.func33, zcx Tryz.func34⟩
@[simp] theorem SqG.c3 : SqG.C 35 /\ SqG.C 38 /\ SqG.C 39 /\ SqG.C 40 /\ SqG.C 41 /\ SqG.C 42 /\ SqG.C 43 /\ SqG.C 44 /\ SqG.C 45 /\ SqG.C 46 := ⟨zcx Tryz.func35, zcx Tryz.func38, zcx Tryz.func39, zcx Tryz.func40, zcx Tryz.func41, zcx Tryz.func42, zcx Tryz.func43, zcx Tryz.func44, zcx Tryz.func45, zcx Tryz.func46⟩
@[simp] theorem SqG.c4 : SqG.C 47 /\ SqG.C 48 /\ SqG.C 49 /\ SqG.C 50 /\ SqG.C 51 /\ SqG.C 52 /\ SqG.C 53 /\ SqG.C 54 /\ SqG.C 55 /\ SqG.C 56 := ⟨zcx Tryz.func47, zcx Tryz.func48, zcx Tryz.func49, zcx Tryz.func50, zcx Tryz.func51, zcx Tryz.func52, zcx Tryz.func53, zcx Tryz.func54, zcx Tryz.func55, zcx Tryz.func56⟩
@[simp] theorem SqG.c5 : SqG.C 57 /\ SqG.C 59 /\ SqG.C 60 /\ SqG.C 61 /\ SqG.C 67 /\ SqG.C 68 /\ SqG.C 75 /\ SqG.C 76 /\ SqG.C 77 /\ SqG.C 78 := ⟨zcx Tryz.func57, zcx Tryz.func59, zcx Tryz.func60, zcx Tryz.func61, zcx Tryz.func67, zcx Tryz.func68, zcx Tryz.func75, zcx Tryz.func76, zcx Tryz.func77, zcx Tryz.func78⟩
@[simp] theorem SqG.c6 : SqG.C 79 /\ SqG.C 80 /\ SqG.C 81 /\ SqG.C 82 /\ SqG.C 84 /\ SqG.C 87 /\ SqG.C 106 /\ SqG.C 107 /\ SqG.C 108 /\ SqG.C 109 := ⟨zcx Tryz.func79, zcx Tryz.func80, zcx Tryz.func81, zcx Tryz.func82, zcx Tryz.func84, zcx Tryz.func87, zcx Tryz.func106, zcx Tryz.func107, zcx Tryz.func108, zcx Tryz.func109⟩
@[simp] theorem SqG.c7 : SqG.C 110 /\ SqG.C 111 /\ SqG.C 112 /\ SqG.C 113 /\ SqG.C 114 /\ SqG.C 115 /\ SqG.C 116 /\ SqG.C 122 /\ SqG.C 123 /\ SqG.C 124 := ⟨zcx Tryz.func110, zcx Tryz.func111, zcx Tryz.func112, zcx Tryz.func113, zcx Tryz.func114, zcx Tryz.func115, zcx Tryz.func116, zcx Tryz.func122, zcx Tryz.func123, zcx Tryz.func124⟩
@[simp] theorem SqG.c8 : SqG.C 140 /\ SqG.C 148 := ⟨zcx Tryz.func140, zcx Tryz.func148⟩
