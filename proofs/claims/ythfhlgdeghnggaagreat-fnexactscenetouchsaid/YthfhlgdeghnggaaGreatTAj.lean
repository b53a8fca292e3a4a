/- Part. -/
import Derived.Test.YthfhlgdeghnggaaGreatTZz
import Derived.Test.YthfhlgdeghnggaaGreatChecked
import Derived.Calls
import Derived.Laws.Sem
import Derived.Below
namespace Go.Proofs.YthfhlgdeghnggaaGreat
variable{f:Func}{n:FuncId}{i:Nat}
section
def zaA(P:Program)(off:Nat->Bool)(alt:Nat->Func->Func):Program:=⟨P.toTables,P.funcs.mapIdx fun i f=>if off i then alt i f else f⟩
def zcN(f:Func):Func:={ f with name:= "none",origin:= "none",body:=none }
section
variable{P:Program}{off:Nat->Bool}{alt:Nat->Func->Func}
theorem zah(h:off i=false)(hf:P.funcs[i]?=some f):(zaA P off alt).funcs[i]?=some f:=by
 show (P.funcs.mapIdx _)[i]?=some f
 rw[Array.getElem?_mapIdx,hf]
 simp[h]
theorem zkE(h:off i=true)(hf:P.funcs[i]?=some f):(zaA P off alt).funcs[i]?=some (alt i f):=by
 show (P.funcs.mapIdx _)[i]?=some _
 rw[Array.getElem?_mapIdx,hf]
 simp[h]
theorem ze6:(zaA P off alt).toTables=P.toTables:=id rfl
theorem zck(n:TypeId):(zaA P off alt).underlying n=P.underlying n:=by unfold Program.underlying;simp only[ze6]
theorem zeM(n:TypeId)(w:World):(typeInfo n).run (zaA P off alt) w=(typeInfo n).run P w:=by
 unfold typeInfo
 simp[ze6]
 cases P.info? n <;> simp
theorem zgJ(n:TypeId)(w:World):(sizeOf n).run (zaA P off alt) w=(sizeOf n).run P w:=by
 unfold Go.sizeOf
 simp[zeM]
theorem zbB(n:TypeId)(w:World):(underlying n).run (zaA P off alt) w=(underlying n).run P w:=by
 unfold underlying
 simp[zck]
 cases P.underlying n <;> simp
theorem zdU(n:TypeId)(w:World):(zeroValue n).run (zaA P off alt) w=(zeroValue n).run P w:=by
 unfold zeroValue
 simp[zeM]
 cases (typeInfo n).run P w with
 | ok i w'=>simp;cases i.zero <;> simp
 | halt h w'=>simp
theorem zih(n:TypeId)(w:World):(isAgg n).run (zaA P off alt) w=(isAgg n).run P w:=by
 unfold isAgg
 simp[zbB]
 cases (underlying n).run P w with
 | ok i w'=>simp;cases i <;> simp
 | halt h w'=>simp
theorem zad(h:off n=false)(hf:P.funcs[n]?=some f)(hb:f.body.isNone=false)(hn:(f.name == "runtime.NumGoroutine")=false)(a:Array Value)(w:World):(callFunc n a).run (zaA P off alt) w=.ok (.enter n a) w:=by
 unfold callFunc
 have h1:¬ f.name= "runtime.NumGoroutine":=by simpa using hn
 have h2:¬ f.body=none:=fun e=>by rw[e] at hb;cases hb
 simp[zah (alt:=alt) h hf,h1,h2]
theorem zjz(h:off n=true)(hf:P.funcs[n]?=some f)(hb:(alt n f).body.isNone=false)(hn:((alt n f).name == "runtime.NumGoroutine")=false)(a:Array Value)(w:World):(callFunc n a).run (zaA P off alt) w=.ok (.enter n a) w:=by
 unfold callFunc
 have h1:¬ (alt n f).name= "runtime.NumGoroutine":=by simpa using hn
 have h2:¬ (alt n f).body=none:=fun e=>by rw[e] at hb;cases hb
 simp[zkE (alt:=alt) h hf,h1,h2]
end
end
section
open Go
section
variable(T:Tables)(F1 F2:Array Func)
theorem zqC(t:TypeId):(Program.mk T F1).info? t=(Program.mk T F2).info? t:=rfl
theorem zgi(t:TypeId):(Program.mk T F1).underlying t=(Program.mk T F2).underlying t:=by unfold Program.underlying;rfl
theorem zja:(Program.mk T F1).depth=(Program.mk T F2).depth:=by unfold Program.depth;rfl
theorem zrW(t:TypeId):(Program.mk T F1).underlyingId t=(Program.mk T F2).underlyingId t:=by unfold Program.underlyingId;rfl
theorem zi9:∀(d:Nat) (t u:TypeId),(Program.mk T F1).alikeButTags d t u=(Program.mk T F2).alikeButTags d t u
 | 0,_,_=>rfl
 | d+1,t,u=>by
  have ih:(Program.mk T F1).alikeButTags d=(Program.mk T F2).alikeButTags d:=funext fun x=>funext fun y=>zi9 d x y
  unfold Program.alikeButTags
  rw[ih]
theorem zko(t:TypeId):(Program.mk T F1).stoodInAs t=(Program.mk T F2).stoodInAs t:=by
 unfold Program.stoodInAs
 have h:(Program.mk T F1).alikeButTags=(Program.mk T F2).alikeButTags:=funext fun d=>funext fun x=>funext fun y=>zi9 T F1 F2 d x y
 have hu:(Program.mk T F1).underlyingId=(Program.mk T F2).underlyingId:=funext fun x=>zrW T F1 F2 x
 rw[h,hu,zgi T F1 F2,zja T F1 F2]
theorem zoO(t:TypeId):(Program.mk T F1).stoodInHeld t=(Program.mk T F2).stoodInHeld t:=by
 unfold Program.stoodInHeld
 rw[zko T F1 F2]
theorem zgh(t:TypeId):(Program.mk T F1).cellsOf t=(Program.mk T F2).cellsOf t:=by unfold Program.cellsOf;rfl
theorem zgg(t:TypeId):(Program.mk T F1).bytesOf t=(Program.mk T F2).bytesOf t:=by unfold Program.bytesOf;rfl
theorem zcp:∀(d:Nat) (t:TypeId) (off:Nat),byteOfCell (Program.mk T F1) d t off=byteOfCell (Program.mk T F2) d t off
 | 0,_,_=>rfl
 | d+1,t,off=>by
  unfold byteOfCell
  simp only[zgi T F1 F2,zgh T F1 F2,zgg T F1 F2,zcp d]
theorem zdx:∀(d:Nat) (t:TypeId) (off:Nat),cellOfByte (Program.mk T F1) d t off=cellOfByte (Program.mk T F2) d t off
 | 0,_,_=>rfl
 | d+1,t,off=>by
  unfold cellOfByte
  simp only[zgi T F1 F2,zgh T F1 F2,zgg T F1 F2,zdx d]
theorem zrV(d:Nat)(e:TypeId)(c o:Nat)(n:Int):cellAtBytes (Program.mk T F1) d e c o n=cellAtBytes (Program.mk T F2) d e c o n:=by
 unfold cellAtBytes
 simp only[zgh T F1 F2,zgg T F1 F2,zcp T F1 F2,zdx T F1 F2]
theorem zoN:∀(d:Nat) (t:TypeId),(Program.mk T F1).eqGuardType d t=(Program.mk T F2).eqGuardType d t
 | 0,_=>rfl
 | d+1,t=>by
  unfold Program.eqGuardType
  simp only[zgi T F1 F2,zoN d]
end
def Sq.off(i:Nat):Bool:=([0,1,54,73,74,84,87,88,89,90,91,98,99,102,103,104,105,106,107,108,109,110,111,112,113,114,116,117,118,119,120,134,135,136,137,138,161,162,163,164,165,166,167,168,169,170,171,172,173,174,175,177,178,179,180,181,182,183,185,186]:List Nat).contains i
class zls where
 alt:Nat->Func->Func
noncomputable def Sq.prog[A:zls]:Program:=zaA Tryz.prog Sq.off A.alt
section
variable[zls]
@[simp] theorem Sq.tabs : Sq.prog.toTables = Tryz.prog.toTables := ze6
@[simp] theorem Sq.underlying(n : TypeId) : Sq.prog.underlying n = Tryz.prog.underlying n := zck n
@[simp] theorem Sq.sizeOf(n : TypeId)(w : World) : (Go.sizeOf n).run Sq.prog w = (Go.sizeOf n).run Tryz.prog w := zgJ n w
@[simp] theorem Sq.runUnderlying(n : TypeId)(w : World) : (Go.underlying n).run Sq.prog w = (Go.underlying n).run Tryz.prog w := zbB n w
@[simp] theorem Sq.zeroValue(n : TypeId)(w : World) : (Go.zeroValue n).run Sq.prog w = (Go.zeroValue n).run Tryz.prog w := zdU n w
@[simp] theorem Sq.isAgg(n : TypeId)(w : World) : (Go.isAgg n).run Sq.prog w = (Go.isAgg n).run Tryz.prog w := zih n w
end
abbrev opr(d:Option Tmp)(op:Op)(t:TypeId):Oper:={ dst:=d,op:=op,type:=t,pos:= "",after:=#[],guard:=none }
abbrev ckA:Code:=.region 0 #[opr (some 2) (.box 33 (.tmp 0)) 0,opr (some 3) (.fieldAddr 33 (.tmp 2) 0) 0,opr (some 4) (.load 3 (.tmp 3)) 3,opr (some 5) (.binOp .mul 3 (.tmp 4) (.const (.int .i64 0)) 3) 3,opr (some 6) (.fieldAddr 33 (.tmp 2) 1) 0,opr (some 7) (.load 31 (.tmp 6)) 31,opr (some 8) (.call { callee:=.builtin .len,args:=#[.tmp 7],argTypes:=#[31] }) 3,opr (some 9) (.move (.const (.int .i64 0))) 3,opr (some 10) (.binOp .lss 3 (.tmp 8) (.const (.int .i64 4611686018427387904)) 3) 4] false
abbrev ckL:Code:=.seq (.region 1 #[opr (some 10) (.binOp .lss 3 (.tmp 9) (.tmp 8) 3) 4] false) (.seq (.cond (.tmp 10) .skip (.exit 0)) (.region 2 #[opr (some 11) (.indexAddr 31 (.tmp 7) (.tmp 9)) 0,opr (some 12) (.fieldAddr 48 (.tmp 11) 0) 0,opr (some 13) (.load 3 (.tmp 12)) 3,opr (some 14) (.binOp .mul 3 (.tmp 13) (.const (.int .i64 0)) 3) 3,opr (some 15) (.fieldAddr 48 (.tmp 11) 1) 0,opr (some 16) (.load 3 (.tmp 15)) 3,opr (some 17) (.binOp .mul 3 (.tmp 16) (.const (.int .i64 0)) 3) 3,opr (some 18) (.binOp .add 3 (.tmp 9) (.const (.int .i64 1)) 3) 3,opr (some 9) (.move (.tmp 18)) 3] false))
abbrev ckS:Code:=.region 3 #[opr (none) (.store 33 (.tmp 2) (.tmp 0)) 0] false
abbrev zjx(rest:Code):Code:=.seq ckA (.seq (.cond (.tmp 10) .skip (.refuse "too long")) (.seq (.block 0 (.loop ckL)) (.seq ckS rest)))
abbrev scL:Code:=.seq (.region 7 #[opr (some 11) (.binOp .lss 3 (.tmp 10) (.tmp 7) 3) 4] false) (.seq (.cond (.tmp 11) .skip (.exit 1)) (.region 8 #[opr (some 12) (.call { callee:=.value (.func 66),args:=#[.tmp 0,.tmp 10],argTypes:=#[33,3] }) 3,opr (some 13) (.indexAddr 25 (.tmp 8) (.tmp 10)) 0,opr none (.store 3 (.tmp 13) (.tmp 12)) 0,opr (some 14) (.call { callee:=.value (.func 67),args:=#[.tmp 0,.tmp 10],argTypes:=#[33,3] }) 25,opr (some 15) (.indexAddr 26 (.tmp 9) (.tmp 10)) 0,opr none (.store 25 (.tmp 15) (.tmp 14)) 0,opr (some 10) (.binOp .add 3 (.tmp 10) (.const (.int .i64 1)) 3) 3] false))
abbrev scA:Code:=.region 6 #[opr (some 6) (.call { callee:=.value (.func 72),args:=#[.tmp 0],argTypes:=#[33] }) 33,opr (some 7) (.call { callee:=.value (.func 85),args:=#[.tmp 0],argTypes:=#[33] }) 3,opr (some 8) (.makeSlice 25 (.tmp 7) (.tmp 7)) 25,opr (some 9) (.makeSlice 26 (.tmp 7) (.tmp 7)) 26,opr (some 10) (.move (.const (.int .i64 0))) 3] false
abbrev scZ:Code:=.region 9 #[opr (some 16) (.build 35 #[(0,.tmp 6),(1,.tmp 8),(2,.tmp 9)]) 35,opr (some 2) (.alloc 35) 0,opr none (.store 35 (.tmp 2) (.tmp 16)) 0,opr (some 3) (.move (.const (.bool true))) 4] false
abbrev scG:Code:=.region 4 #[opr (some 3) (.call { callee:=.value (.func 69),args:=#[.tmp 0],argTypes:=#[33] }) 4] false
abbrev scN:Code:=.seq (.region 5 #[opr (some 2) (.alloc 35) 0,opr (some 3) (.move (.const (.bool false))) 4] false) .ret
abbrev zgW:Code:=.seq scG (.seq (.cond (.tmp 3) .skip scN) (.seq scA (.seq (.block 1 (.loop scL)) (.seq scZ .ret))))
abbrev zrr:Code:=.seq (zjx .skip) zgW
def zmc(f:Func):Func:={ f with ntmps:=22,body:=some zrr }
def Sq.altP(i:Nat)(f:Func):Func:=if i == 54 then zmc f else zcN f
def Sq.altN(_:Nat)(f:Func):Func:=zcN f
abbrev Sq.P:zls:=⟨Sq.altP⟩
abbrev Sq.N:zls:=⟨Sq.altN⟩
noncomputable def SqG.prog(aLt:Nat->Func->Func):Program:=zaA Tryz.prog Sq.off aLt
section
variable{aLt:Nat->Func->Func}
@[simp] theorem SqG.tabs : (SqG.prog aLt).toTables = Tryz.prog.toTables := ze6
@[simp] theorem SqG.underlying(n : TypeId) : (SqG.prog aLt).underlying n = Tryz.prog.underlying n := zck n
@[simp] theorem SqG.sizeOf(n : TypeId)(w : World) : (Go.sizeOf n).run (SqG.prog aLt) w = (Go.sizeOf n).run Tryz.prog w := zgJ n w
@[simp] theorem SqG.runUnderlying(n : TypeId)(w : World) : (Go.underlying n).run (SqG.prog aLt) w = (Go.underlying n).run Tryz.prog w := zbB n w
@[simp] theorem SqG.zeroValue(n : TypeId)(w : World) : (Go.zeroValue n).run (SqG.prog aLt) w = (Go.zeroValue n).run Tryz.prog w := zdU n w
@[simp] theorem SqG.isAgg(n : TypeId)(w : World) : (Go.isAgg n).run (SqG.prog aLt) w = (Go.isAgg n).run Tryz.prog w := zih n w
abbrev SqG.underlying3:=(SqG.underlying (aLt:=aLt) 3).trans Tryz.underlying3
abbrev SqG.underlying25:=(SqG.underlying (aLt:=aLt) 25).trans Tryz.underlying25
abbrev SqG.underlying26:=(SqG.underlying (aLt:=aLt) 26).trans Tryz.underlying26
abbrev SqG.underlying31:=(SqG.underlying (aLt:=aLt) 31).trans Tryz.underlying31
abbrev SqG.underlying67:=(SqG.underlying (aLt:=aLt) 67).trans Tryz.underlying67
abbrev SqG.underlying81:=(SqG.underlying (aLt:=aLt) 81).trans Tryz.underlying81
abbrev SqG.underlying108:=(SqG.underlying (aLt:=aLt) 108).trans Tryz.underlying108
abbrev SqG.underlying109:=(SqG.underlying (aLt:=aLt) 109).trans Tryz.underlying109
abbrev SqG.underlying114:=(SqG.underlying (aLt:=aLt) 114).trans Tryz.underlying114
abbrev SqG.underlying220:=(SqG.underlying (aLt:=aLt) 220).trans Tryz.underlying220
@[simp] theorem SqG.func3 : (SqG.prog aLt).funcs[3]? = some Tryz.f3 := zah rfl Tryz.func3
@[simp] theorem SqG.func6 : (SqG.prog aLt).funcs[6]? = some Tryz.f6 := zah rfl Tryz.func6
@[simp] theorem SqG.call6(a : Array Value)(w : World) : (callFunc 6 a).run (SqG.prog aLt) w = .ok (.enter 6 a) w := zad rfl Tryz.func6 rfl rfl a w
@[simp] theorem SqG.func7 : (SqG.prog aLt).funcs[7]? = some Tryz.f7 := zah rfl Tryz.func7
@[simp] theorem SqG.call7(a : Array Value)(w : World) : (callFunc 7 a).run (SqG.prog aLt) w = .ok (.enter 7 a) w := zad rfl Tryz.func7 rfl rfl a w
@[simp] theorem SqG.func8 : (SqG.prog aLt).funcs[8]? = some Tryz.f8 := zah rfl Tryz.func8
@[simp] theorem SqG.call8(a : Array Value)(w : World) : (callFunc 8 a).run (SqG.prog aLt) w = .ok (.enter 8 a) w := zad rfl Tryz.func8 rfl rfl a w
@[simp] theorem SqG.func9 : (SqG.prog aLt).funcs[9]? = some Tryz.f9 := zah rfl Tryz.func9
@[simp] theorem SqG.call9(a : Array Value)(w : World) : (callFunc 9 a).run (SqG.prog aLt) w = .ok (.enter 9 a) w := zad rfl Tryz.func9 rfl rfl a w
@[simp] theorem SqG.func10 : (SqG.prog aLt).funcs[10]? = some Tryz.f10 := zah rfl Tryz.func10
@[simp] theorem SqG.call10(a : Array Value)(w : World) : (callFunc 10 a).run (SqG.prog aLt) w = .ok (.enter 10 a) w := zad rfl Tryz.func10 rfl rfl a w
@[simp] theorem SqG.func11 : (SqG.prog aLt).funcs[11]? = some Tryz.f11 := zah rfl Tryz.func11
@[simp] theorem SqG.call11(a : Array Value)(w : World) : (callFunc 11 a).run (SqG.prog aLt) w = .ok (.enter 11 a) w := zad rfl Tryz.func11 rfl rfl a w
@[simp] theorem SqG.func12 : (SqG.prog aLt).funcs[12]? = some Tryz.f12 := zah rfl Tryz.func12
@[simp] theorem SqG.call12(a : Array Value)(w : World) : (callFunc 12 a).run (SqG.prog aLt) w = .ok (.enter 12 a) w := zad rfl Tryz.func12 rfl rfl a w
@[simp] theorem SqG.func13 : (SqG.prog aLt).funcs[13]? = some Tryz.f13 := zah rfl Tryz.func13
@[simp] theorem SqG.call13(a : Array Value)(w : World) : (callFunc 13 a).run (SqG.prog aLt) w = .ok (.enter 13 a) w := zad rfl Tryz.func13 rfl rfl a w
@[simp] theorem SqG.func14 : (SqG.prog aLt).funcs[14]? = some Tryz.f14 := zah rfl Tryz.func14
@[simp] theorem SqG.call14(a : Array Value)(w : World) : (callFunc 14 a).run (SqG.prog aLt) w = .ok (.enter 14 a) w := zad rfl Tryz.func14 rfl rfl a w
@[simp] theorem SqG.func25 : (SqG.prog aLt).funcs[25]? = some Tryz.f25 := zah rfl Tryz.func25
@[simp] theorem SqG.call25(a : Array Value)(w : World) : (callFunc 25 a).run (SqG.prog aLt) w = .ok (.enter 25 a) w := zad rfl Tryz.func25 rfl rfl a w
@[simp] theorem SqG.func26 : (SqG.prog aLt).funcs[26]? = some Tryz.f26 := zah rfl Tryz.func26
@[simp] theorem SqG.call26(a : Array Value)(w : World) : (callFunc 26 a).run (SqG.prog aLt) w = .ok (.enter 26 a) w := zad rfl Tryz.func26 rfl rfl a w
@[simp] theorem SqG.func27 : (SqG.prog aLt).funcs[27]? = some Tryz.f27 := zah rfl Tryz.func27
@[simp] theorem SqG.call27(a : Array Value)(w : World) : (callFunc 27 a).run (SqG.prog aLt) w = .ok (.enter 27 a) w := zad rfl Tryz.func27 rfl rfl a w
@[simp] theorem SqG.func28 : (SqG.prog aLt).funcs[28]? = some Tryz.f28 := zah rfl Tryz.func28
@[simp] theorem SqG.call28(a : Array Value)(w : World) : (callFunc 28 a).run (SqG.prog aLt) w = .ok (.enter 28 a) w := zad rfl Tryz.func28 rfl rfl a w
@[simp] theorem SqG.func29 : (SqG.prog aLt).funcs[29]? = some Tryz.f29 := zah rfl Tryz.func29
@[simp] theorem SqG.call29(a : Array Value)(w : World) : (callFunc 29 a).run (SqG.prog aLt) w = .ok (.enter 29 a) w := zad rfl Tryz.func29 rfl rfl a w
@[simp] theorem SqG.func30 : (SqG.prog aLt).funcs[30]? = some Tryz.f30 := zah rfl Tryz.func30
@[simp] theorem SqG.call30(a : Array Value)(w : World) : (callFunc 30 a).run (SqG.prog aLt) w = .ok (.enter 30 a) w := zad rfl Tryz.func30 rfl rfl a w
@[simp] theorem SqG.func31 : (SqG.prog aLt).funcs[31]? = some Tryz.f31 := zah rfl Tryz.func31
@[simp] theorem SqG.call31(a : Array Value)(w : World) : (callFunc 31 a).run (SqG.prog aLt) w = .ok (.enter 31 a) w := zad rfl Tryz.func31 rfl rfl a w
@[simp] theorem SqG.func32 : (SqG.prog aLt).funcs[32]? = some Tryz.f32 := zah rfl Tryz.func32
@[simp] theorem SqG.call32(a : Array Value)(w : World) : (callFunc 32 a).run (SqG.prog aLt) w = .ok (.enter 32 a) w := zad rfl Tryz.func32 rfl rfl a w
@[simp] theorem SqG.func33 : (SqG.prog aLt).funcs[33]? = some Tryz.f33 := zah rfl Tryz.func33
@[simp] theorem SqG.call33(a : Array Value)(w : World) : (callFunc 33 a).run (SqG.prog aLt) w = .ok (.enter 33 a) w := zad rfl Tryz.func33 rfl rfl a w
@[simp] theorem SqG.func34 : (SqG.prog aLt).funcs[34]? = some Tryz.f34 := zah rfl Tryz.func34
@[simp] theorem SqG.call34(a : Array Value)(w : World) : (callFunc 34 a).run (SqG.prog aLt) w = .ok (.enter 34 a) w := zad rfl Tryz.func34 rfl rfl a w
@[simp] theorem SqG.func35 : (SqG.prog aLt).funcs[35]? = some Tryz.f35 := zah rfl Tryz.func35
@[simp] theorem SqG.call35(a : Array Value)(w : World) : (callFunc 35 a).run (SqG.prog aLt) w = .ok (.enter 35 a) w := zad rfl Tryz.func35 rfl rfl a w
@[simp] theorem SqG.func36 : (SqG.prog aLt).funcs[36]? = some Tryz.f36 := zah rfl Tryz.func36
@[simp] theorem SqG.call36(a : Array Value)(w : World) : (callFunc 36 a).run (SqG.prog aLt) w = .ok (.enter 36 a) w := zad rfl Tryz.func36 rfl rfl a w
@[simp] theorem SqG.func37 : (SqG.prog aLt).funcs[37]? = some Tryz.f37 := zah rfl Tryz.func37
@[simp] theorem SqG.call37(a : Array Value)(w : World) : (callFunc 37 a).run (SqG.prog aLt) w = .ok (.enter 37 a) w := zad rfl Tryz.func37 rfl rfl a w
@[simp] theorem SqG.func38 : (SqG.prog aLt).funcs[38]? = some Tryz.f38 := zah rfl Tryz.func38
@[simp] theorem SqG.call38(a : Array Value)(w : World) : (callFunc 38 a).run (SqG.prog aLt) w = .ok (.enter 38 a) w := zad rfl Tryz.func38 rfl rfl a w
@[simp] theorem SqG.func39 : (SqG.prog aLt).funcs[39]? = some Tryz.f39 := zah rfl Tryz.func39
@[simp] theorem SqG.call39(a : Array Value)(w : World) : (callFunc 39 a).run (SqG.prog aLt) w = .ok (.enter 39 a) w := zad rfl Tryz.func39 rfl rfl a w
@[simp] theorem SqG.func49 : (SqG.prog aLt).funcs[49]? = some Tryz.f49 := zah rfl Tryz.func49
@[simp] theorem SqG.call49(a : Array Value)(w : World) : (callFunc 49 a).run (SqG.prog aLt) w = .ok (.enter 49 a) w := zad rfl Tryz.func49 rfl rfl a w
@[simp] theorem SqG.func50 : (SqG.prog aLt).funcs[50]? = some Tryz.f50 := zah rfl Tryz.func50
@[simp] theorem SqG.call50(a : Array Value)(w : World) : (callFunc 50 a).run (SqG.prog aLt) w = .ok (.enter 50 a) w := zad rfl Tryz.func50 rfl rfl a w
@[simp] theorem SqG.func51 : (SqG.prog aLt).funcs[51]? = some Tryz.f51 := zah rfl Tryz.func51
@[simp] theorem SqG.call51(a : Array Value)(w : World) : (callFunc 51 a).run (SqG.prog aLt) w = .ok (.enter 51 a) w := zad rfl Tryz.func51 rfl rfl a w
@[simp] theorem SqG.func52 : (SqG.prog aLt).funcs[52]? = some Tryz.f52 := zah rfl Tryz.func52
@[simp] theorem SqG.call52(a : Array Value)(w : World) : (callFunc 52 a).run (SqG.prog aLt) w = .ok (.enter 52 a) w := zad rfl Tryz.func52 rfl rfl a w
@[simp] theorem SqG.func53 : (SqG.prog aLt).funcs[53]? = some Tryz.f53 := zah rfl Tryz.func53
@[simp] theorem SqG.call53(a : Array Value)(w : World) : (callFunc 53 a).run (SqG.prog aLt) w = .ok (.enter 53 a) w := zad rfl Tryz.func53 rfl rfl a w
@[simp] theorem SqG.func55 : (SqG.prog aLt).funcs[55]? = some Tryz.f55 := zah rfl Tryz.func55
@[simp] theorem SqG.call55(a : Array Value)(w : World) : (callFunc 55 a).run (SqG.prog aLt) w = .ok (.enter 55 a) w := zad rfl Tryz.func55 rfl rfl a w
@[simp] theorem SqG.func56 : (SqG.prog aLt).funcs[56]? = some Tryz.f56 := zah rfl Tryz.func56
@[simp] theorem SqG.call56(a : Array Value)(w : World) : (callFunc 56 a).run (SqG.prog aLt) w = .ok (.enter 56 a) w := zad rfl Tryz.func56 rfl rfl a w
@[simp] theorem SqG.func57 : (SqG.prog aLt).funcs[57]? = some Tryz.f57 := zah rfl Tryz.func57
@[simp] theorem SqG.call57(a : Array Value)(w : World) : (callFunc 57 a).run (SqG.prog aLt) w = .ok (.enter 57 a) w := zad rfl Tryz.func57 rfl rfl a w
@[simp] theorem SqG.func58 : (SqG.prog aLt).funcs[58]? = some Tryz.f58 := zah rfl Tryz.func58
@[simp] theorem SqG.call58(a : Array Value)(w : World) : (callFunc 58 a).run (SqG.prog aLt) w = .ok (.enter 58 a) w := zad rfl Tryz.func58 rfl rfl a w
@[simp] theorem SqG.func60 : (SqG.prog aLt).funcs[60]? = some Tryz.f60 := zah rfl Tryz.func60
@[simp] theorem SqG.call60(a : Array Value)(w : World) : (callFunc 60 a).run (SqG.prog aLt) w = .ok (.enter 60 a) w := zad rfl Tryz.func60 rfl rfl a w
@[simp] theorem SqG.func61 : (SqG.prog aLt).funcs[61]? = some Tryz.f61 := zah rfl Tryz.func61
@[simp] theorem SqG.call61(a : Array Value)(w : World) : (callFunc 61 a).run (SqG.prog aLt) w = .ok (.enter 61 a) w := zad rfl Tryz.func61 rfl rfl a w
@[simp] theorem SqG.func62 : (SqG.prog aLt).funcs[62]? = some Tryz.f62 := zah rfl Tryz.func62
@[simp] theorem SqG.call62(a : Array Value)(w : World) : (callFunc 62 a).run (SqG.prog aLt) w = .ok (.enter 62 a) w := zad rfl Tryz.func62 rfl rfl a w
@[simp] theorem SqG.func63 : (SqG.prog aLt).funcs[63]? = some Tryz.f63 := zah rfl Tryz.func63
@[simp] theorem SqG.call63(a : Array Value)(w : World) : (callFunc 63 a).run (SqG.prog aLt) w = .ok (.enter 63 a) w := zad rfl Tryz.func63 rfl rfl a w
@[simp] theorem SqG.func66 : (SqG.prog aLt).funcs[66]? = some Tryz.f66 := zah rfl Tryz.func66
@[simp] theorem SqG.call66(a : Array Value)(w : World) : (callFunc 66 a).run (SqG.prog aLt) w = .ok (.enter 66 a) w := zad rfl Tryz.func66 rfl rfl a w
@[simp] theorem SqG.func67 : (SqG.prog aLt).funcs[67]? = some Tryz.f67 := zah rfl Tryz.func67
@[simp] theorem SqG.call67(a : Array Value)(w : World) : (callFunc 67 a).run (SqG.prog aLt) w = .ok (.enter 67 a) w := zad rfl Tryz.func67 rfl rfl a w
@[simp] theorem SqG.func68 : (SqG.prog aLt).funcs[68]? = some Tryz.f68 := zah rfl Tryz.func68
@[simp] theorem SqG.call68(a : Array Value)(w : World) : (callFunc 68 a).run (SqG.prog aLt) w = .ok (.enter 68 a) w := zad rfl Tryz.func68 rfl rfl a w
@[simp] theorem SqG.func69 : (SqG.prog aLt).funcs[69]? = some Tryz.f69 := zah rfl Tryz.func69
@[simp] theorem SqG.call69(a : Array Value)(w : World) : (callFunc 69 a).run (SqG.prog aLt) w = .ok (.enter 69 a) w := zad rfl Tryz.func69 rfl rfl a w
@[simp] theorem SqG.func70 : (SqG.prog aLt).funcs[70]? = some Tryz.f70 := zah rfl Tryz.func70
@[simp] theorem SqG.call70(a : Array Value)(w : World) : (callFunc 70 a).run (SqG.prog aLt) w = .ok (.enter 70 a) w := zad rfl Tryz.func70 rfl rfl a w
@[simp] theorem SqG.func71 : (SqG.prog aLt).funcs[71]? = some Tryz.f71 := zah rfl Tryz.func71
@[simp] theorem SqG.call71(a : Array Value)(w : World) : (callFunc 71 a).run (SqG.prog aLt) w = .ok (.enter 71 a) w := zad rfl Tryz.func71 rfl rfl a w
@[simp] theorem SqG.func72 : (SqG.prog aLt).funcs[72]? = some Tryz.f72 := zah rfl Tryz.func72
@[simp] theorem SqG.call72(a : Array Value)(w : World) : (callFunc 72 a).run (SqG.prog aLt) w = .ok (.enter 72 a) w := zad rfl Tryz.func72 rfl rfl a w
@[simp] theorem SqG.func75 : (SqG.prog aLt).funcs[75]? = some Tryz.f75 := zah rfl Tryz.func75
@[simp] theorem SqG.call75(a : Array Value)(w : World) : (callFunc 75 a).run (SqG.prog aLt) w = .ok (.enter 75 a) w := zad rfl Tryz.func75 rfl rfl a w
@[simp] theorem SqG.func76 : (SqG.prog aLt).funcs[76]? = some Tryz.f76 := zah rfl Tryz.func76
@[simp] theorem SqG.call76(a : Array Value)(w : World) : (callFunc 76 a).run (SqG.prog aLt) w = .ok (.enter 76 a) w := zad rfl Tryz.func76 rfl rfl a w
@[simp] theorem SqG.func77 : (SqG.prog aLt).funcs[77]? = some Tryz.f77 := zah rfl Tryz.func77
@[simp] theorem SqG.call77(a : Array Value)(w : World) : (callFunc 77 a).run (SqG.prog aLt) w = .ok (.enter 77 a) w := zad rfl Tryz.func77 rfl rfl a w
@[simp] theorem SqG.func79 : (SqG.prog aLt).funcs[79]? = some Tryz.f79 := zah rfl Tryz.func79
@[simp] theorem SqG.call79(a : Array Value)(w : World) : (callFunc 79 a).run (SqG.prog aLt) w = .ok (.enter 79 a) w := zad rfl Tryz.func79 rfl rfl a w
@[simp] theorem SqG.func80 : (SqG.prog aLt).funcs[80]? = some Tryz.f80 := zah rfl Tryz.func80
@[simp] theorem SqG.call80(a : Array Value)(w : World) : (callFunc 80 a).run (SqG.prog aLt) w = .ok (.enter 80 a) w := zad rfl Tryz.func80 rfl rfl a w
@[simp] theorem SqG.func81 : (SqG.prog aLt).funcs[81]? = some Tryz.f81 := zah rfl Tryz.func81
@[simp] theorem SqG.call81(a : Array Value)(w : World) : (callFunc 81 a).run (SqG.prog aLt) w = .ok (.enter 81 a) w := zad rfl Tryz.func81 rfl rfl a w
@[simp] theorem SqG.func82 : (SqG.prog aLt).funcs[82]? = some Tryz.f82 := zah rfl Tryz.func82
@[simp] theorem SqG.call82(a : Array Value)(w : World) : (callFunc 82 a).run (SqG.prog aLt) w = .ok (.enter 82 a) w := zad rfl Tryz.func82 rfl rfl a w
@[simp] theorem SqG.func83 : (SqG.prog aLt).funcs[83]? = some Tryz.f83 := zah rfl Tryz.func83
@[simp] theorem SqG.call83(a : Array Value)(w : World) : (callFunc 83 a).run (SqG.prog aLt) w = .ok (.enter 83 a) w := zad rfl Tryz.func83 rfl rfl a w
@[simp] theorem SqG.func85 : (SqG.prog aLt).funcs[85]? = some Tryz.f85 := zah rfl Tryz.func85
@[simp] theorem SqG.call85(a : Array Value)(w : World) : (callFunc 85 a).run (SqG.prog aLt) w = .ok (.enter 85 a) w := zad rfl Tryz.func85 rfl rfl a w
@[simp] theorem SqG.func86 : (SqG.prog aLt).funcs[86]? = some Tryz.f86 := zah rfl Tryz.func86
@[simp] theorem SqG.call86(a : Array Value)(w : World) : (callFunc 86 a).run (SqG.prog aLt) w = .ok (.enter 86 a) w := zad rfl Tryz.func86 rfl rfl a w
@[simp] theorem SqG.func92 : (SqG.prog aLt).funcs[92]? = some Tryz.f92 := zah rfl Tryz.func92
@[simp] theorem SqG.call92(a : Array Value)(w : World) : (callFunc 92 a).run (SqG.prog aLt) w = .ok (.enter 92 a) w := zad rfl Tryz.func92 rfl rfl a w
@[simp] theorem SqG.func93 : (SqG.prog aLt).funcs[93]? = some Tryz.f93 := zah rfl Tryz.func93
@[simp] theorem SqG.call93(a : Array Value)(w : World) : (callFunc 93 a).run (SqG.prog aLt) w = .ok (.enter 93 a) w := zad rfl Tryz.func93 rfl rfl a w
@[simp] theorem SqG.func94 : (SqG.prog aLt).funcs[94]? = some Tryz.f94 := zah rfl Tryz.func94
@[simp] theorem SqG.call94(a : Array Value)(w : World) : (callFunc 94 a).run (SqG.prog aLt) w = .ok (.enter 94 a) w := zad rfl Tryz.func94 rfl rfl a w
@[simp] theorem SqG.func95 : (SqG.prog aLt).funcs[95]? = some Tryz.f95 := zah rfl Tryz.func95
@[simp] theorem SqG.call95(a : Array Value)(w : World) : (callFunc 95 a).run (SqG.prog aLt) w = .ok (.enter 95 a) w := zad rfl Tryz.func95 rfl rfl a w
@[simp] theorem SqG.func96 : (SqG.prog aLt).funcs[96]? = some Tryz.f96 := zah rfl Tryz.func96
@[simp] theorem SqG.call96(a : Array Value)(w : World) : (callFunc 96 a).run (SqG.prog aLt) w = .ok (.enter 96 a) w := zad rfl Tryz.func96 rfl rfl a w
@[simp] theorem SqG.func97 : (SqG.prog aLt).funcs[97]? = some Tryz.f97 := zah rfl Tryz.func97
@[simp] theorem SqG.call97(a : Array Value)(w : World) : (callFunc 97 a).run (SqG.prog aLt) w = .ok (.enter 97 a) w := zad rfl Tryz.func97 rfl rfl a w
@[simp] theorem SqG.func100 : (SqG.prog aLt).funcs[100]? = some Tryz.f100 := zah rfl Tryz.func100
@[simp] theorem SqG.call100(a : Array Value)(w : World) : (callFunc 100 a).run (SqG.prog aLt) w = .ok (.enter 100 a) w := zad rfl Tryz.func100 rfl rfl a w
@[simp] theorem SqG.func101 : (SqG.prog aLt).funcs[101]? = some Tryz.f101 := zah rfl Tryz.func101
@[simp] theorem SqG.call101(a : Array Value)(w : World) : (callFunc 101 a).run (SqG.prog aLt) w = .ok (.enter 101 a) w := zad rfl Tryz.func101 rfl rfl a w
@[simp] theorem SqG.func115 : (SqG.prog aLt).funcs[115]? = some Tryz.f115 := zah rfl Tryz.func115
@[simp] theorem SqG.call115(a : Array Value)(w : World) : (callFunc 115 a).run (SqG.prog aLt) w = .ok (.enter 115 a) w := zad rfl Tryz.func115 rfl rfl a w
@[simp] theorem SqG.func121 : (SqG.prog aLt).funcs[121]? = some Tryz.f121 := zah rfl Tryz.func121
@[simp] theorem SqG.call121(a : Array Value)(w : World) : (callFunc 121 a).run (SqG.prog aLt) w = .ok (.enter 121 a) w := zad rfl Tryz.func121 rfl rfl a w
@[simp] theorem SqG.func122 : (SqG.prog aLt).funcs[122]? = some Tryz.f122 := zah rfl Tryz.func122
@[simp] theorem SqG.call122(a : Array Value)(w : World) : (callFunc 122 a).run (SqG.prog aLt) w = .ok (.enter 122 a) w := zad rfl Tryz.func122 rfl rfl a w
@[simp] theorem SqG.func123 : (SqG.prog aLt).funcs[123]? = some Tryz.f123 := zah rfl Tryz.func123
@[simp] theorem SqG.call123(a : Array Value)(w : World) : (callFunc 123 a).run (SqG.prog aLt) w = .ok (.enter 123 a) w := zad rfl Tryz.func123 rfl rfl a w
@[simp] theorem SqG.func124 : (SqG.prog aLt).funcs[124]? = some Tryz.f124 := zah rfl Tryz.func124
@[simp] theorem SqG.call124(a : Array Value)(w : World) : (callFunc 124 a).run (SqG.prog aLt) w = .ok (.enter 124 a) w := zad rfl Tryz.func124 rfl rfl a w
@[simp] theorem SqG.func125 : (SqG.prog aLt).funcs[125]? = some Tryz.f125 := zah rfl Tryz.func125
@[simp] theorem SqG.call125(a : Array Value)(w : World) : (callFunc 125 a).run (SqG.prog aLt) w = .ok (.enter 125 a) w := zad rfl Tryz.func125 rfl rfl a w
@[simp] theorem SqG.func126 : (SqG.prog aLt).funcs[126]? = some Tryz.f126 := zah rfl Tryz.func126
@[simp] theorem SqG.call126(a : Array Value)(w : World) : (callFunc 126 a).run (SqG.prog aLt) w = .ok (.enter 126 a) w := zad rfl Tryz.func126 rfl rfl a w
@[simp] theorem SqG.func127 : (SqG.prog aLt).funcs[127]? = some Tryz.f127 := zah rfl Tryz.func127
@[simp] theorem SqG.call127(a : Array Value)(w : World) : (callFunc 127 a).run (SqG.prog aLt) w = .ok (.enter 127 a) w := zad rfl Tryz.func127 rfl rfl a w
@[simp] theorem SqG.func128 : (SqG.prog aLt).funcs[128]? = some Tryz.f128 := zah rfl Tryz.func128
@[simp] theorem SqG.call128(a : Array Value)(w : World) : (callFunc 128 a).run (SqG.prog aLt) w = .ok (.enter 128 a) w := zad rfl Tryz.func128 rfl rfl a w
@[simp] theorem SqG.func129 : (SqG.prog aLt).funcs[129]? = some Tryz.f129 := zah rfl Tryz.func129
@[simp] theorem SqG.call129(a : Array Value)(w : World) : (callFunc 129 a).run (SqG.prog aLt) w = .ok (.enter 129 a) w := zad rfl Tryz.func129 rfl rfl a w
@[simp] theorem SqG.func130 : (SqG.prog aLt).funcs[130]? = some Tryz.f130 := zah rfl Tryz.func130
@[simp] theorem SqG.call130(a : Array Value)(w : World) : (callFunc 130 a).run (SqG.prog aLt) w = .ok (.enter 130 a) w := zad rfl Tryz.func130 rfl rfl a w
@[simp] theorem SqG.func131 : (SqG.prog aLt).funcs[131]? = some Tryz.f131 := zah rfl Tryz.func131
@[simp] theorem SqG.call131(a : Array Value)(w : World) : (callFunc 131 a).run (SqG.prog aLt) w = .ok (.enter 131 a) w := zad rfl Tryz.func131 rfl rfl a w
@[simp] theorem SqG.func132 : (SqG.prog aLt).funcs[132]? = some Tryz.f132 := zah rfl Tryz.func132
@[simp] theorem SqG.call132(a : Array Value)(w : World) : (callFunc 132 a).run (SqG.prog aLt) w = .ok (.enter 132 a) w := zad rfl Tryz.func132 rfl rfl a w
@[simp] theorem SqG.func133 : (SqG.prog aLt).funcs[133]? = some Tryz.f133 := zah rfl Tryz.func133
@[simp] theorem SqG.call133(a : Array Value)(w : World) : (callFunc 133 a).run (SqG.prog aLt) w = .ok (.enter 133 a) w := zad rfl Tryz.func133 rfl rfl a w
@[simp] theorem SqG.func139 : (SqG.prog aLt).funcs[139]? = some Tryz.f139 := zah rfl Tryz.func139
@[simp] theorem SqG.call139(a : Array Value)(w : World) : (callFunc 139 a).run (SqG.prog aLt) w = .ok (.enter 139 a) w := zad rfl Tryz.func139 rfl rfl a w
@[simp] theorem SqG.func140 : (SqG.prog aLt).funcs[140]? = some Tryz.f140 := zah rfl Tryz.func140
@[simp] theorem SqG.call140(a : Array Value)(w : World) : (callFunc 140 a).run (SqG.prog aLt) w = .ok (.enter 140 a) w := zad rfl Tryz.func140 rfl rfl a w
@[simp] theorem SqG.func141 : (SqG.prog aLt).funcs[141]? = some Tryz.f141 := zah rfl Tryz.func141
@[simp] theorem SqG.func142 : (SqG.prog aLt).funcs[142]? = some Tryz.f142 := zah rfl Tryz.func142
@[simp] theorem SqG.func143 : (SqG.prog aLt).funcs[143]? = some Tryz.f143 := zah rfl Tryz.func143
@[simp] theorem SqG.func144 : (SqG.prog aLt).funcs[144]? = some Tryz.f144 := zah rfl Tryz.func144
@[simp] theorem SqG.func145 : (SqG.prog aLt).funcs[145]? = some Tryz.f145 := zah rfl Tryz.func145
@[simp] theorem SqG.func146 : (SqG.prog aLt).funcs[146]? = some Tryz.f146 := zah rfl Tryz.func146
@[simp] theorem SqG.func147 : (SqG.prog aLt).funcs[147]? = some Tryz.f147 := zah rfl Tryz.func147
@[simp] theorem SqG.call147(a : Array Value)(w : World) : (callFunc 147 a).run (SqG.prog aLt) w = .ok (.enter 147 a) w := zad rfl Tryz.func147 rfl rfl a w
@[simp] theorem SqG.func148 : (SqG.prog aLt).funcs[148]? = some Tryz.f148 := zah rfl Tryz.func148
@[simp] theorem SqG.call148(a : Array Value)(w : World) : (callFunc 148 a).run (SqG.prog aLt) w = .ok (.enter 148 a) w := zad rfl Tryz.func148 rfl rfl a w
@[simp] theorem SqG.func149 : (SqG.prog aLt).funcs[149]? = some Tryz.f149 := zah rfl Tryz.func149
@[simp] theorem SqG.call149(a : Array Value)(w : World) : (callFunc 149 a).run (SqG.prog aLt) w = .ok (.enter 149 a) w := zad rfl Tryz.func149 rfl rfl a w
@[simp] theorem SqG.func150 : (SqG.prog aLt).funcs[150]? = some Tryz.f150 := zah rfl Tryz.func150
@[simp] theorem SqG.call150(a : Array Value)(w : World) : (callFunc 150 a).run (SqG.prog aLt) w = .ok (.enter 150 a) w := zad rfl Tryz.func150 rfl rfl a w
@[simp] theorem SqG.func151 : (SqG.prog aLt).funcs[151]? = some Tryz.f151 := zah rfl Tryz.func151
@[simp] theorem SqG.call151(a : Array Value)(w : World) : (callFunc 151 a).run (SqG.prog aLt) w = .ok (.enter 151 a) w := zad rfl Tryz.func151 rfl rfl a w
@[simp] theorem SqG.func152 : (SqG.prog aLt).funcs[152]? = some Tryz.f152 := zah rfl Tryz.func152
@[simp] theorem SqG.call152(a : Array Value)(w : World) : (callFunc 152 a).run (SqG.prog aLt) w = .ok (.enter 152 a) w := zad rfl Tryz.func152 rfl rfl a w
@[simp] theorem SqG.func153 : (SqG.prog aLt).funcs[153]? = some Tryz.f153 := zah rfl Tryz.func153
@[simp] theorem SqG.call153(a : Array Value)(w : World) : (callFunc 153 a).run (SqG.prog aLt) w = .ok (.enter 153 a) w := zad rfl Tryz.func153 rfl rfl a w
@[simp] theorem SqG.func154 : (SqG.prog aLt).funcs[154]? = some Tryz.f154 := zah rfl Tryz.func154
@[simp] theorem SqG.call154(a : Array Value)(w : World) : (callFunc 154 a).run (SqG.prog aLt) w = .ok (.enter 154 a) w := zad rfl Tryz.func154 rfl rfl a w
@[simp] theorem SqG.func155 : (SqG.prog aLt).funcs[155]? = some Tryz.f155 := zah rfl Tryz.func155
@[simp] theorem SqG.call155(a : Array Value)(w : World) : (callFunc 155 a).run (SqG.prog aLt) w = .ok (.enter 155 a) w := zad rfl Tryz.func155 rfl rfl a w
@[simp] theorem SqG.func156 : (SqG.prog aLt).funcs[156]? = some Tryz.f156 := zah rfl Tryz.func156
@[simp] theorem SqG.call156(a : Array Value)(w : World) : (callFunc 156 a).run (SqG.prog aLt) w = .ok (.enter 156 a) w := zad rfl Tryz.func156 rfl rfl a w
@[simp] theorem SqG.func157 : (SqG.prog aLt).funcs[157]? = some Tryz.f157 := zah rfl Tryz.func157
@[simp] theorem SqG.call157(a : Array Value)(w : World) : (callFunc 157 a).run (SqG.prog aLt) w = .ok (.enter 157 a) w := zad rfl Tryz.func157 rfl rfl a w
@[simp] theorem SqG.func158 : (SqG.prog aLt).funcs[158]? = some Tryz.f158 := zah rfl Tryz.func158
@[simp] theorem SqG.call158(a : Array Value)(w : World) : (callFunc 158 a).run (SqG.prog aLt) w = .ok (.enter 158 a) w := zad rfl Tryz.func158 rfl rfl a w
@[simp] theorem SqG.func159 : (SqG.prog aLt).funcs[159]? = some Tryz.f159 := zah rfl Tryz.func159
@[simp] theorem SqG.call159(a : Array Value)(w : World) : (callFunc 159 a).run (SqG.prog aLt) w = .ok (.enter 159 a) w := zad rfl Tryz.func159 rfl rfl a w
@[simp] theorem SqG.func160 : (SqG.prog aLt).funcs[160]? = some Tryz.f160 := zah rfl Tryz.func160
@[simp] theorem SqG.call160(a : Array Value)(w : World) : (callFunc 160 a).run (SqG.prog aLt) w = .ok (.enter 160 a) w := zad rfl Tryz.func160 rfl rfl a w
@[simp] theorem SqG.func176 : (SqG.prog aLt).funcs[176]? = some Tryz.f176 := zah rfl Tryz.func176
@[simp] theorem SqG.call176(a : Array Value)(w : World) : (callFunc 176 a).run (SqG.prog aLt) w = .ok (.enter 176 a) w := zad rfl Tryz.func176 rfl rfl a w
@[simp] theorem SqG.func184 : (SqG.prog aLt).funcs[184]? = some Tryz.f184 := zah rfl Tryz.func184
@[simp] theorem SqG.call184(a : Array Value)(w : World) : (callFunc 184 a).run (SqG.prog aLt) w = .ok (.enter 184 a) w := zad rfl Tryz.func184 rfl rfl a w
