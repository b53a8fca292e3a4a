/- Of the proof: Ed, Ef, SqT, SqD -/
import Derived.Test.YtfbbcooklhmeaaaGreatLZz
import Derived.Test.YtfbbcooklhmeaaaGreatChecked
import Derived.Calls
import Derived.Laws.Sem
namespace Go.Proofs.YtfbbcooklhmeaaaGreat
variable {f:Func} {n:FuncId} {i:Nat}
section
def zaA (P:Program) (off:Nat->Bool) (alt:Nat->Func->Func):Program:=⟨P.toTables,P.funcs.mapIdx fun i f=>if off i then alt i f else f⟩
def zcA (f:Func):Func:={ f with name:= "none",origin:= "none",body:=none }
section
variable {P:Program} {off:Nat->Bool} {alt:Nat->Func->Func}
theorem zah (h:off i=false) (hf:P.funcs[i]?=some f):(zaA P off alt).funcs[i]?=some f:=by
 show (P.funcs.mapIdx _)[i]?=some f
 rw [Array.getElem?_mapIdx,hf]
 simp [h]
theorem zjT (h:off i=true) (hf:P.funcs[i]?=some f):(zaA P off alt).funcs[i]?=some (alt i f):=by
 show (P.funcs.mapIdx _)[i]?=some _
 rw [Array.getElem?_mapIdx,hf]
 simp [h]
theorem zeL:(zaA P off alt).toTables=P.toTables:=id rfl
theorem zcf (n:TypeId):(zaA P off alt).underlying n=P.underlying n:=by unfold Program.underlying; simp only [zeL]
theorem zen (n:TypeId) (w:World):(typeInfo n).run (zaA P off alt) w=(typeInfo n).run P w:=by
 unfold typeInfo
 simp [zeL]
 cases P.info? n <;> simp
theorem zgi (n:TypeId) (w:World):(sizeOf n).run (zaA P off alt) w=(sizeOf n).run P w:=by
 unfold Go.sizeOf
 simp [zen]
theorem zbx (n:TypeId) (w:World):(underlying n).run (zaA P off alt) w=(underlying n).run P w:=by
 unfold underlying
 simp [zcf]
 cases P.underlying n <;> simp
theorem zdE (n:TypeId) (w:World):(zeroValue n).run (zaA P off alt) w=(zeroValue n).run P w:=by
 unfold zeroValue
 simp [zen]
 cases (typeInfo n).run P w with
 | ok i w'=>simp; cases i.zero <;> simp
 | halt h w'=>simp
theorem zhJ (n:TypeId) (w:World):(isAgg n).run (zaA P off alt) w=(isAgg n).run P w:=by
 unfold isAgg
 simp [zbx]
 cases (underlying n).run P w with
 | ok i w'=>simp; cases i <;> simp
 | halt h w'=>simp
theorem zac (h:off n=false) (hf:P.funcs[n]?=some f) (hb:f.body.isNone=false) (hn:(f.name == "runtime.NumGoroutine")=false) (a:Array Value) (w:World):(callFunc n a).run (zaA P off alt) w=.ok (.enter n a) w:=by
 unfold callFunc
 have h1:¬ f.name= "runtime.NumGoroutine":=by simpa using hn
 have h2:¬ f.body=none:=fun e=>by rw [e] at hb; cases hb
 simp [zah (alt:=alt) h hf,h1,h2]
theorem ziU (h:off n=true) (hf:P.funcs[n]?=some f) (hb:(alt n f).body.isNone=false) (hn:((alt n f).name == "runtime.NumGoroutine")=false) (a:Array Value) (w:World):(callFunc n a).run (zaA P off alt) w=.ok (.enter n a) w:=by
 unfold callFunc
 have h1:¬ (alt n f).name= "runtime.NumGoroutine":=by simpa using hn
 have h2:¬ (alt n f).body=none:=fun e=>by rw [e] at hb; cases hb
 simp [zjT (alt:=alt) h hf,h1,h2]
end
end
section
open Go
section
variable (T:Tables) (F1 F2:Array Func)
theorem zo3 (t:TypeId):(Program.mk T F1).info? t=(Program.mk T F2).info? t:=rfl
theorem zfN (t:TypeId):(Program.mk T F1).underlying t=(Program.mk T F2).underlying t:=by unfold Program.underlying; rfl
theorem ziA:(Program.mk T F1).depth=(Program.mk T F2).depth:=by unfold Program.depth; rfl
theorem zql (t:TypeId):(Program.mk T F1).underlyingId t=(Program.mk T F2).underlyingId t:=by unfold Program.underlyingId; rfl
theorem ziz:∀ (d:Nat) (t u:TypeId),(Program.mk T F1).alikeButTags d t u=(Program.mk T F2).alikeButTags d t u
 | 0,_,_=>rfl
 | d + 1,t,u=>by
  have ih:(Program.mk T F1).alikeButTags d=(Program.mk T F2).alikeButTags d:=funext fun x=>funext fun y=>ziz d x y
  unfold Program.alikeButTags
  rw [ih]
theorem zjD (t:TypeId):(Program.mk T F1).stoodInAs t=(Program.mk T F2).stoodInAs t:=by
 unfold Program.stoodInAs
 have h:(Program.mk T F1).alikeButTags=(Program.mk T F2).alikeButTags:=funext fun d=>funext fun x=>funext fun y=>ziz T F1 F2 d x y
 have hu:(Program.mk T F1).underlyingId=(Program.mk T F2).underlyingId:=funext fun x=>zql T F1 F2 x
 rw [h,hu,zfN T F1 F2,ziA T F1 F2]
theorem zns (t:TypeId):(Program.mk T F1).stoodInHeld t=(Program.mk T F2).stoodInHeld t:=by
 unfold Program.stoodInHeld
 rw [zjD T F1 F2]
theorem zfM (t:TypeId):(Program.mk T F1).cellsOf t=(Program.mk T F2).cellsOf t:=by unfold Program.cellsOf; rfl
theorem zfL (t:TypeId):(Program.mk T F1).bytesOf t=(Program.mk T F2).bytesOf t:=by unfold Program.bytesOf; rfl
theorem zci:∀ (d:Nat) (t:TypeId) (off:Nat),byteOfCell (Program.mk T F1) d t off=byteOfCell (Program.mk T F2) d t off
 | 0,_,_=>rfl
 | d + 1,t,off=>by
  unfold byteOfCell
  simp only [zfN T F1 F2,zfM T F1 F2,zfL T F1 F2,zci d]
theorem zdl:∀ (d:Nat) (t:TypeId) (off:Nat),cellOfByte (Program.mk T F1) d t off=cellOfByte (Program.mk T F2) d t off
 | 0,_,_=>rfl
 | d + 1,t,off=>by
  unfold cellOfByte
  simp only [zfN T F1 F2,zfM T F1 F2,zfL T F1 F2,zdl d]
theorem zqk (d:Nat) (e:TypeId) (c o:Nat) (n:Int):cellAtBytes (Program.mk T F1) d e c o n=cellAtBytes (Program.mk T F2) d e c o n:=by
 unfold cellAtBytes
 simp only [zfM T F1 F2,zfL T F1 F2,zci T F1 F2,zdl T F1 F2]
theorem znr:∀ (d:Nat) (t:TypeId),(Program.mk T F1).eqGuardType d t=(Program.mk T F2).eqGuardType d t
 | 0,_=>rfl
 | d + 1,t=>by
  unfold Program.eqGuardType
  simp only [zfN T F1 F2,znr d]
end
def Sq.off (i:Nat):Bool:=([0,1,16,32,33,52,56,57,58,59,60,66,67,70,71,72,73,74,75,76,77,78,79,80,81,82,84,85,86,87,88,96,97,98,99,100,133,134,135,136,137,138,139,140,141,142,143,144,145,146,147,149,150,151,152,153,154,155,157,158]:List Nat).contains i
class zky where
 alt:Nat->Func->Func
noncomputable def Sq.prog [A:zky]:Program:=zaA Tryz.prog Sq.off A.alt
section
variable [zky]
@[simp] theorem Sq.tabs : Sq.prog.toTables = Tryz.prog.toTables := zeL
@[simp] theorem Sq.underlying (n : TypeId) : Sq.prog.underlying n = Tryz.prog.underlying n := zcf n
@[simp] theorem Sq.sizeOf (n : TypeId) (w : World) : (Go.sizeOf n).run Sq.prog w = (Go.sizeOf n).run Tryz.prog w := zgi n w
@[simp] theorem Sq.runUnderlying (n : TypeId) (w : World) : (Go.underlying n).run Sq.prog w = (Go.underlying n).run Tryz.prog w := zbx n w
@[simp] theorem Sq.zeroValue (n : TypeId) (w : World) : (Go.zeroValue n).run Sq.prog w = (Go.zeroValue n).run Tryz.prog w := zdE n w
@[simp] theorem Sq.isAgg (n : TypeId) (w : World) : (Go.isAgg n).run Sq.prog w = (Go.isAgg n).run Tryz.prog w := zhJ n w
end
abbrev opr (d:Option Tmp) (op:Op) (t:TypeId):Oper:={ dst:=d,op:=op,type:=t,pos:= "",after:=#[],guard:=none }
abbrev ckA:Code:=.region 0 #[opr (some 2) (.box 28 (.tmp 0)) 0,opr (some 3) (.fieldAddr 28 (.tmp 2) 0) 0,opr (some 4) (.load 3 (.tmp 3)) 3,opr (some 5) (.binOp .mul 3 (.tmp 4) (.const (.int .i64 0)) 3) 3,opr (some 6) (.fieldAddr 28 (.tmp 2) 1) 0,opr (some 7) (.load 26 (.tmp 6)) 26,opr (some 8) (.call { callee:=.builtin .len,args:=#[.tmp 7],argTypes:=#[26] }) 3,opr (some 9) (.move (.const (.int .i64 0))) 3,opr (some 10) (.binOp .lss 3 (.tmp 8) (.const (.int .i64 4611686018427387904)) 3) 4] false
abbrev ckL:Code:=.seq (.region 1 #[opr (some 10) (.binOp .lss 3 (.tmp 9) (.tmp 8) 3) 4] false) (.seq (.cond (.tmp 10) .skip (.exit 0)) (.region 2 #[opr (some 11) (.indexAddr 26 (.tmp 7) (.tmp 9)) 0,opr (some 12) (.fieldAddr 59 (.tmp 11) 0) 0,opr (some 13) (.load 3 (.tmp 12)) 3,opr (some 14) (.binOp .mul 3 (.tmp 13) (.const (.int .i64 0)) 3) 3,opr (some 15) (.fieldAddr 59 (.tmp 11) 1) 0,opr (some 16) (.load 3 (.tmp 15)) 3,opr (some 17) (.binOp .mul 3 (.tmp 16) (.const (.int .i64 0)) 3) 3,opr (some 18) (.binOp .add 3 (.tmp 9) (.const (.int .i64 1)) 3) 3,opr (some 9) (.move (.tmp 18)) 3] false))
abbrev ckS:Code:=.region 3 #[opr (none) (.store 28 (.tmp 2) (.tmp 0)) 0] false
abbrev ziS (rest:Code):Code:=.seq ckA (.seq (.cond (.tmp 10) .skip (.refuse "too long")) (.seq (.block 0 (.loop ckL)) (.seq ckS rest)))
abbrev scL:Code:=.seq (.region 7 #[opr (some 11) (.binOp .lss 3 (.tmp 10) (.tmp 7) 3) 4] false) (.seq (.cond (.tmp 11) .skip (.exit 1)) (.region 8 #[opr (some 12) (.call { callee:=.value (.func 53),args:=#[.tmp 0,.tmp 10],argTypes:=#[28,3] }) 3,opr (some 13) (.indexAddr 29 (.tmp 8) (.tmp 10)) 0,opr none (.store 3 (.tmp 13) (.tmp 12)) 0,opr (some 14) (.call { callee:=.value (.func 34),args:=#[.tmp 0,.tmp 10],argTypes:=#[28,3] }) 29,opr (some 15) (.indexAddr 30 (.tmp 9) (.tmp 10)) 0,opr none (.store 29 (.tmp 15) (.tmp 14)) 0,opr (some 10) (.binOp .add 3 (.tmp 10) (.const (.int .i64 1)) 3) 3] false))
abbrev scA:Code:=.region 6 #[opr (some 6) (.call { callee:=.value (.func 31),args:=#[.tmp 0],argTypes:=#[28] }) 28,opr (some 7) (.call { callee:=.value (.func 54),args:=#[.tmp 0],argTypes:=#[28] }) 3,opr (some 8) (.makeSlice 29 (.tmp 7) (.tmp 7)) 29,opr (some 9) (.makeSlice 30 (.tmp 7) (.tmp 7)) 30,opr (some 10) (.move (.const (.int .i64 0))) 3] false
abbrev scZ:Code:=.region 9 #[opr (some 16) (.build 32 #[(0,.tmp 6),(1,.tmp 8),(2,.tmp 9)]) 32,opr (some 2) (.alloc 32) 0,opr none (.store 32 (.tmp 2) (.tmp 16)) 0,opr (some 3) (.move (.const (.bool true))) 4] false
abbrev scG:Code:=.region 4 #[opr (some 3) (.call { callee:=.value (.func 25),args:=#[.tmp 0],argTypes:=#[28] }) 4] false
abbrev scN:Code:=.seq (.region 5 #[opr (some 2) (.alloc 32) 0,opr (some 3) (.move (.const (.bool false))) 4] false) .ret
abbrev zgv:Code:=.seq scG (.seq (.cond (.tmp 3) .skip scN) (.seq scA (.seq (.block 1 (.loop scL)) (.seq scZ .ret))))
abbrev zpR:Code:=.seq (ziS .skip) zgv
def zlb (f:Func):Func:={ f with ntmps:=22,body:=some zpR }
def Sq.altP (i:Nat) (f:Func):Func:=if i == 16 then zlb f else zcA f
def Sq.altN (_:Nat) (f:Func):Func:=zcA f
abbrev Sq.P:zky:=⟨Sq.altP⟩
abbrev Sq.N:zky:=⟨Sq.altN⟩
end
end Go.Proofs.YtfbbcooklhmeaaaGreat
