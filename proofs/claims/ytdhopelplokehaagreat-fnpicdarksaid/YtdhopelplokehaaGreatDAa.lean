/- Of the proof: Ed, Ef, SqT, SqD -/
import Derived.Test.YtdhopelplokehaaGreatChecked
import Derived.Calls
import Derived.Laws.Sem
namespace Go.Proofs.YtdhopelplokehaaGreat
section
def cutProg (P:Program) (off:Nat->Bool) (alt:Nat->Func->Func):Program:=⟨P.toTables,P.funcs.mapIdx fun i f=>if off i then alt i f else f⟩
def noBody (f:Func):Func:={ f with name:= "none",origin:= "none",body:=none }
section
variable {P:Program} {off:Nat->Bool} {alt:Nat->Func->Func}
theorem cut_same {i:Nat} {f:Func} (h:off i=false) (hf:P.funcs[i]?=some f):(cutProg P off alt).funcs[i]?=some f:=by
 show (P.funcs.mapIdx _)[i]?=some f
 rw [Array.getElem?_mapIdx,hf]
 simp [h]
theorem cut_alt0 {i:Nat} {f:Func} (h:off i=true) (hf:P.funcs[i]?=some f):(cutProg P off alt).funcs[i]?=some (alt i f):=by
 show (P.funcs.mapIdx _)[i]?=some _
 rw [Array.getElem?_mapIdx,hf]
 simp [h]
theorem cut_tabs:(cutProg P off alt).toTables=P.toTables:=id rfl
theorem cut_underlying (n:TypeId):(cutProg P off alt).underlying n=P.underlying n:=by unfold Program.underlying; simp only [cut_tabs]
theorem cut_typeInfo (n:TypeId) (w:World):(typeInfo n).run (cutProg P off alt) w=(typeInfo n).run P w:=by
 unfold typeInfo
 simp [cut_tabs]
 cases P.info? n <;> simp
theorem cut_sizeOf (n:TypeId) (w:World):(sizeOf n).run (cutProg P off alt) w=(sizeOf n).run P w:=by
 unfold Go.sizeOf
 simp [cut_typeInfo]
theorem cut_runUnderlying (n:TypeId) (w:World):(underlying n).run (cutProg P off alt) w=(underlying n).run P w:=by
 unfold underlying
 simp [cut_underlying]
 cases P.underlying n <;> simp
theorem cut_zeroValue (n:TypeId) (w:World):(zeroValue n).run (cutProg P off alt) w=(zeroValue n).run P w:=by
 unfold zeroValue
 simp [cut_typeInfo]
 cases (typeInfo n).run P w with
 | ok i w'=>simp; cases i.zero <;> simp
 | halt h w'=>simp
theorem cut_isAgg (n:TypeId) (w:World):(isAgg n).run (cutProg P off alt) w=(isAgg n).run P w:=by
 unfold isAgg
 simp [cut_runUnderlying]
 cases (underlying n).run P w with
 | ok i w'=>simp; cases i <;> simp
 | halt h w'=>simp
theorem cut_callFunc {n:FuncId} {f:Func} (h:off n=false) (hf:P.funcs[n]?=some f) (hb:f.body.isNone=false) (hn:(f.name == "runtime.NumGoroutine")=false) (a:Array Value) (w:World):(callFunc n a).run (cutProg P off alt) w=.ok (.enter n a) w:=by
 unfold callFunc
 have h1:¬ f.name= "runtime.NumGoroutine":=by simpa using hn
 have h2:¬ f.body=none:=fun e=>by rw [e] at hb; cases hb
 simp [cut_same (alt:=alt) h hf,h1,h2]
theorem cut_callAlt {n:FuncId} {f:Func} (h:off n=true) (hf:P.funcs[n]?=some f) (hb:(alt n f).body.isNone=false) (hn:((alt n f).name == "runtime.NumGoroutine")=false) (a:Array Value) (w:World):(callFunc n a).run (cutProg P off alt) w=.ok (.enter n a) w:=by
 unfold callFunc
 have h1:¬ (alt n f).name= "runtime.NumGoroutine":=by simpa using hn
 have h2:¬ (alt n f).body=none:=fun e=>by rw [e] at hb; cases hb
 simp [cut_alt0 (alt:=alt) h hf,h1,h2]
end
end
section
open Go
section
variable (T:Tables) (F1 F2:Array Func)
theorem tab_info (t:TypeId):(Program.mk T F1).info? t=(Program.mk T F2).info? t:=rfl
theorem tab_und (t:TypeId):(Program.mk T F1).underlying t=(Program.mk T F2).underlying t:=by unfold Program.underlying; rfl
theorem tab_depth:(Program.mk T F1).depth=(Program.mk T F2).depth:=by unfold Program.depth; rfl
theorem tab_uid (t:TypeId):(Program.mk T F1).underlyingId t=(Program.mk T F2).underlyingId t:=by unfold Program.underlyingId; rfl
theorem tab_alike:∀ (d:Nat) (t u:TypeId),(Program.mk T F1).alikeButTags d t u=(Program.mk T F2).alikeButTags d t u
 | 0,_,_=>rfl
 | d + 1,t,u=>by
  have ih:(Program.mk T F1).alikeButTags d=(Program.mk T F2).alikeButTags d:=funext fun x=>funext fun y=>tab_alike d x y
  unfold Program.alikeButTags
  rw [ih]
theorem tab_stoodAs (t:TypeId):(Program.mk T F1).stoodInAs t=(Program.mk T F2).stoodInAs t:=by
 unfold Program.stoodInAs
 have h:(Program.mk T F1).alikeButTags=(Program.mk T F2).alikeButTags:=funext fun d=>funext fun x=>funext fun y=>tab_alike T F1 F2 d x y
 have hu:(Program.mk T F1).underlyingId=(Program.mk T F2).underlyingId:=funext fun x=>tab_uid T F1 F2 x
 rw [h,hu,tab_und T F1 F2,tab_depth T F1 F2]
theorem tab_stood (t:TypeId):(Program.mk T F1).stoodInHeld t=(Program.mk T F2).stoodInHeld t:=by
 unfold Program.stoodInHeld
 rw [tab_stoodAs T F1 F2]
theorem tab_cells (t:TypeId):(Program.mk T F1).cellsOf t=(Program.mk T F2).cellsOf t:=by unfold Program.cellsOf; rfl
theorem tab_bytes (t:TypeId):(Program.mk T F1).bytesOf t=(Program.mk T F2).bytesOf t:=by unfold Program.bytesOf; rfl
theorem tab_byteOfCell:∀ (d:Nat) (t:TypeId) (off:Nat),byteOfCell (Program.mk T F1) d t off=byteOfCell (Program.mk T F2) d t off
 | 0,_,_=>rfl
 | d + 1,t,off=>by
  unfold byteOfCell
  simp only [tab_und T F1 F2,tab_cells T F1 F2,tab_bytes T F1 F2,tab_byteOfCell d]
theorem tab_cellOfByte:∀ (d:Nat) (t:TypeId) (off:Nat),cellOfByte (Program.mk T F1) d t off=cellOfByte (Program.mk T F2) d t off
 | 0,_,_=>rfl
 | d + 1,t,off=>by
  unfold cellOfByte
  simp only [tab_und T F1 F2,tab_cells T F1 F2,tab_bytes T F1 F2,tab_cellOfByte d]
theorem tab_cab (d:Nat) (e:TypeId) (c o:Nat) (n:Int):cellAtBytes (Program.mk T F1) d e c o n=cellAtBytes (Program.mk T F2) d e c o n:=by
 unfold cellAtBytes
 simp only [tab_cells T F1 F2,tab_bytes T F1 F2,tab_byteOfCell T F1 F2,tab_cellOfByte T F1 F2]
theorem tab_eqg:∀ (d:Nat) (t:TypeId),(Program.mk T F1).eqGuardType d t=(Program.mk T F2).eqGuardType d t
 | 0,_=>rfl
 | d + 1,t=>by
  unfold Program.eqGuardType
  simp only [tab_und T F1 F2,tab_eqg d]
end
end
section
open Go
def Sq.off (i:Nat):Bool:=([0,1,12,22,39,48,61,62,63,64,65,73,74,82,83,84,85,86,87,88,89,90,91,92,93,94,96,97,98,99,100,115,116,117,118,119,143,144,145,146,147,148,149,150,151,152,153,154,155,156,157,168]:List Nat).contains i
class SqAlt where
 alt:Nat->Func->Func
noncomputable def Sq.prog [A:SqAlt]:Program:=cutProg Tryz.prog Sq.off A.alt
section
variable [SqAlt]
@[simp] theorem Sq.tabs : Sq.prog.toTables = Tryz.prog.toTables := cut_tabs
@[simp] theorem Sq.underlying (n : TypeId) : Sq.prog.underlying n = Tryz.prog.underlying n := cut_underlying n
@[simp] theorem Sq.typeInfo (n : TypeId) (w : World) : (Go.typeInfo n).run Sq.prog w = (Go.typeInfo n).run Tryz.prog w := cut_typeInfo n w
@[simp] theorem Sq.sizeOf (n : TypeId) (w : World) : (Go.sizeOf n).run Sq.prog w = (Go.sizeOf n).run Tryz.prog w := cut_sizeOf n w
@[simp] theorem Sq.runUnderlying (n : TypeId) (w : World) : (Go.underlying n).run Sq.prog w = (Go.underlying n).run Tryz.prog w := cut_runUnderlying n w
@[simp] theorem Sq.zeroValue (n : TypeId) (w : World) : (Go.zeroValue n).run Sq.prog w = (Go.zeroValue n).run Tryz.prog w := cut_zeroValue n w
@[simp] theorem Sq.isAgg (n : TypeId) (w : World) : (Go.isAgg n).run Sq.prog w = (Go.isAgg n).run Tryz.prog w := cut_isAgg n w
end
end
section
open Go
abbrev opr (d:Option Tmp) (op:Op) (t:TypeId):Oper:={ dst:=d,op:=op,type:=t,pos:= "",after:=#[],guard:=none }
abbrev ckA:Code:=.region 0 #[opr (some 2) (.box 25 (.tmp 0)) 0,opr (some 3) (.fieldAddr 25 (.tmp 2) 0) 0,opr (some 4) (.load 3 (.tmp 3)) 3,opr (some 5) (.binOp .mul 3 (.tmp 4) (.const (.int .i64 0)) 3) 3,opr (some 6) (.fieldAddr 25 (.tmp 2) 1) 0,opr (some 7) (.load 23 (.tmp 6)) 23,opr (some 8) (.call { callee:=.builtin .len,args:=#[.tmp 7],argTypes:=#[23] }) 3,opr (some 9) (.move (.const (.int .i64 0))) 3,opr (some 10) (.binOp .lss 3 (.tmp 8) (.const (.int .i64 4611686018427387904)) 3) 4] false
abbrev ckL:Code:=.seq (.region 1 #[opr (some 10) (.binOp .lss 3 (.tmp 9) (.tmp 8) 3) 4] false) (.seq (.cond (.tmp 10) .skip (.exit 0)) (.region 2 #[opr (some 11) (.indexAddr 23 (.tmp 7) (.tmp 9)) 0,opr (some 12) (.fieldAddr 38 (.tmp 11) 0) 0,opr (some 13) (.load 3 (.tmp 12)) 3,opr (some 14) (.binOp .mul 3 (.tmp 13) (.const (.int .i64 0)) 3) 3,opr (some 15) (.fieldAddr 38 (.tmp 11) 1) 0,opr (some 16) (.load 3 (.tmp 15)) 3,opr (some 17) (.binOp .mul 3 (.tmp 16) (.const (.int .i64 0)) 3) 3,opr (some 18) (.binOp .add 3 (.tmp 9) (.const (.int .i64 1)) 3) 3,opr (some 9) (.move (.tmp 18)) 3] false))
abbrev ckS:Code:=.region 3 #[opr (none) (.store 25 (.tmp 2) (.tmp 0)) 0] false
abbrev ckAll (rest:Code):Code:=.seq ckA (.seq (.cond (.tmp 10) .skip (.refuse "too long")) (.seq (.block 0 (.loop ckL)) (.seq ckS rest)))
abbrev picL:Code:=.seq (.region 7 #[opr (some 7) (.binOp .lss 3 (.tmp 6) (.tmp 4) 3) 4] false) (.seq (.cond (.tmp 7) .skip (.exit 1)) (.region 8 #[opr (some 11) (.indexAddr 27 (.tmp 10) (.tmp 6)) 0,opr (some 8) (.load 3 (.tmp 11)) 3,opr (some 9) (.indexAddr 27 (.tmp 5) (.tmp 6)) 0,opr none (.store 3 (.tmp 9) (.tmp 8)) 0,opr (some 6) (.binOp .add 3 (.tmp 6) (.const (.int .i64 1)) 3) 3] false))
abbrev picRest:Code:=.seq (.region 4 #[opr (some 3) (.call { callee:=.value (.func 26),args:=#[.tmp 0],argTypes:=#[25] }) 4] false) (.seq (.cond (.tmp 3) .skip (.seq (.region 5 #[opr (some 2) (.move (.const (.slice none 0 0))) 27] false) .ret)) (.seq (.region 6 #[opr (some 10) (.call { callee:=.value (.func 14),args:=#[.tmp 0],argTypes:=#[25] }) 27,opr (some 4) (.call { callee:=.builtin .len,args:=#[.tmp 10],argTypes:=#[27] }) 3,opr (some 5) (.makeSlice 27 (.tmp 4) (.tmp 4)) 27,opr (some 6) (.move (.const (.int .i64 0))) 3] false) (.seq (.block 1 (.loop picL)) (.seq (.region 9 #[opr (some 2) (.move (.tmp 5)) 27] false) .ret))))
def picAlt (f:Func):Func:={ f with ntmps:=22,body:=some (ckAll picRest) }
abbrev toL:Code:=.seq (.region 7 #[opr (some 7) (.binOp .lss 3 (.tmp 6) (.tmp 4) 3) 4] false) (.seq (.cond (.tmp 7) .skip (.exit 1)) (.region 8 #[opr (some 11) (.indexAddr 34 (.tmp 10) (.tmp 6)) 0,opr (some 8) (.load 27 (.tmp 11)) 27,opr (some 9) (.indexAddr 34 (.tmp 5) (.tmp 6)) 0,opr none (.store 27 (.tmp 9) (.tmp 8)) 0,opr (some 6) (.binOp .add 3 (.tmp 6) (.const (.int .i64 1)) 3) 3] false))
abbrev toRest:Code:=.seq (.region 4 #[opr (some 3) (.call { callee:=.value (.func 26),args:=#[.tmp 0],argTypes:=#[25] }) 4] false) (.seq (.cond (.tmp 3) .skip (.seq (.region 5 #[opr (some 2) (.move (.const (.slice none 0 0))) 34] false) .ret)) (.seq (.region 6 #[opr (some 10) (.call { callee:=.value (.func 24),args:=#[.tmp 0],argTypes:=#[25] }) 34,opr (some 4) (.call { callee:=.builtin .len,args:=#[.tmp 10],argTypes:=#[34] }) 3,opr (some 5) (.makeSlice 34 (.tmp 4) (.tmp 4)) 34,opr (some 6) (.move (.const (.int .i64 0))) 3] false) (.seq (.block 1 (.loop toL)) (.seq (.region 9 #[opr (some 2) (.move (.tmp 5)) 34] false) .ret))))
def toAlt (f:Func):Func:={ f with ntmps:=22,body:=some (ckAll toRest) }
def Sq.altP (i:Nat) (f:Func):Func:=if i == 12 then picAlt f else if i == 22 then toAlt f else noBody f
def Sq.altN (_:Nat) (f:Func):Func:=noBody f
abbrev Sq.P:SqAlt:=⟨Sq.altP⟩
abbrev Sq.N:SqAlt:=⟨Sq.altN⟩
end
end Go.Proofs.YtdhopelplokehaaGreat
