/- Part. -/
import Derived.Test.YthfhlgdeghnggaaGreatEZz
import Derived.Test.YthfhlgdeghnggaaGreatChecked
import Derived.Calls
import Derived.Laws.Sem
import Derived.Below
namespace Go.Proofs.YthfhlgdeghnggaaGreat
variable{f:Func}{n:FuncId}{i:Nat}
section
def zaz(P:Program)(off:Nat->Bool)(alt:Nat->Func->Func):Program:=⟨P.toTables,P.funcs.mapIdx fun i f=>if off i then alt i f else f⟩
def zc2(f:Func):Func:={ f with name:= "none",origin:= "none",body:=none }
section
variable{P:Program}{off:Nat->Bool}{alt:Nat->Func->Func}
theorem zlt(h:off i=false)(hf:P.funcs[i]?=some f):(zaz P off alt).funcs[i]?=some f:=by
 show (P.funcs.mapIdx _)[i]?=some f
 rw[Array.getElem?_mapIdx,hf]
 simp[h]
theorem zls(h:off i=true)(hf:P.funcs[i]?=some f):(zaz P off alt).funcs[i]?=some (alt i f):=by
 show (P.funcs.mapIdx _)[i]?=some _
 rw[Array.getElem?_mapIdx,hf]
 simp[h]
theorem zfi:(zaz P off alt).toTables=P.toTables:=id rfl
theorem zcr(n:TypeId):(zaz P off alt).underlying n=P.underlying n:=by unfold Program.underlying;simp only[zfi]
theorem ze0(n:TypeId)(w:World):(typeInfo n).run (zaz P off alt) w=(typeInfo n).run P w:=by
 unfold typeInfo
 simp[zfi]
 cases P.info? n <;> simp
theorem zg3(n:TypeId)(w:World):(sizeOf n).run (zaz P off alt) w=(sizeOf n).run P w:=by
 unfold Go.sizeOf
 simp[ze0]
theorem zbH(n:TypeId)(w:World):(underlying n).run (zaz P off alt) w=(underlying n).run P w:=by
 unfold underlying
 simp[zcr]
 cases P.underlying n <;> simp
theorem zec(n:TypeId)(w:World):(zeroValue n).run (zaz P off alt) w=(zeroValue n).run P w:=by
 unfold zeroValue
 simp[ze0]
 cases (typeInfo n).run P w with
 | ok i w'=>simp;cases i.zero <;> simp
 | halt h w'=>simp
theorem ziO(n:TypeId)(w:World):(isAgg n).run (zaz P off alt) w=(isAgg n).run P w:=by
 unfold isAgg
 simp[zbH]
 cases (underlying n).run P w with
 | ok i w'=>simp;cases i <;> simp
 | halt h w'=>simp
theorem ziN(h:off n=false)(hf:P.funcs[n]?=some f)(hb:f.body.isNone=false)(hn:(f.name == "runtime.NumGoroutine")=false)(a:Array Value)(w:World):(callFunc n a).run (zaz P off alt) w=.ok (.enter n a) w:=by
 unfold callFunc
 have h1:¬ f.name= "runtime.NumGoroutine":=by simpa using hn
 have h2:¬ f.body=none:=fun e=>by rw[e] at hb;cases hb
 simp[zlt (alt:=alt) h hf,h1,h2]
theorem zj9(h:off n=true)(hf:P.funcs[n]?=some f)(hb:(alt n f).body.isNone=false)(hn:((alt n f).name == "runtime.NumGoroutine")=false)(a:Array Value)(w:World):(callFunc n a).run (zaz P off alt) w=.ok (.enter n a) w:=by
 unfold callFunc
 have h1:¬ (alt n f).name= "runtime.NumGoroutine":=by simpa using hn
 have h2:¬ (alt n f).body=none:=fun e=>by rw[e] at hb;cases hb
 simp[zls (alt:=alt) h hf,h1,h2]
end
end
section
open Go
section
variable(T:Tables)(F1 F2:Array Func)
theorem zrK(t:TypeId):(Program.mk T F1).info? t=(Program.mk T F2).info? t:=rfl
theorem zgz(t:TypeId):(Program.mk T F1).underlying t=(Program.mk T F2).underlying t:=by unfold Program.underlying;rfl
theorem zjR:(Program.mk T F1).depth=(Program.mk T F2).depth:=by unfold Program.depth;rfl
theorem zte(t:TypeId):(Program.mk T F1).underlyingId t=(Program.mk T F2).underlyingId t:=by unfold Program.underlyingId;rfl
theorem zjQ:∀(d:Nat) (t u:TypeId),(Program.mk T F1).alikeButTags d t u=(Program.mk T F2).alikeButTags d t u
 | 0,_,_=>rfl
 | d+1,t,u=>by
  have ih:(Program.mk T F1).alikeButTags d=(Program.mk T F2).alikeButTags d:=funext fun x=>funext fun y=>zjQ d x y
  unfold Program.alikeButTags
  rw[ih]
theorem zk4(t:TypeId):(Program.mk T F1).stoodInAs t=(Program.mk T F2).stoodInAs t:=by
 unfold Program.stoodInAs
 have h:(Program.mk T F1).alikeButTags=(Program.mk T F2).alikeButTags:=funext fun d=>funext fun x=>funext fun y=>zjQ T F1 F2 d x y
 have hu:(Program.mk T F1).underlyingId=(Program.mk T F2).underlyingId:=funext fun x=>zte T F1 F2 x
 rw[h,hu,zgz T F1 F2,zjR T F1 F2]
theorem zpV(t:TypeId):(Program.mk T F1).stoodInHeld t=(Program.mk T F2).stoodInHeld t:=by
 unfold Program.stoodInHeld
 rw[zk4 T F1 F2]
theorem zgy(t:TypeId):(Program.mk T F1).cellsOf t=(Program.mk T F2).cellsOf t:=by unfold Program.cellsOf;rfl
theorem zgx(t:TypeId):(Program.mk T F1).bytesOf t=(Program.mk T F2).bytesOf t:=by unfold Program.bytesOf;rfl
theorem zcy:∀(d:Nat) (t:TypeId) (off:Nat),byteOfCell (Program.mk T F1) d t off=byteOfCell (Program.mk T F2) d t off
 | 0,_,_=>rfl
 | d+1,t,off=>by
  unfold byteOfCell
  simp only[zgz T F1 F2,zgy T F1 F2,zgx T F1 F2,zcy d]
theorem zdS:∀(d:Nat) (t:TypeId) (off:Nat),cellOfByte (Program.mk T F1) d t off=cellOfByte (Program.mk T F2) d t off
 | 0,_,_=>rfl
 | d+1,t,off=>by
  unfold cellOfByte
  simp only[zgz T F1 F2,zgy T F1 F2,zgx T F1 F2,zdS d]
theorem ztd(d:Nat)(e:TypeId)(c o:Nat)(n:Int):cellAtBytes (Program.mk T F1) d e c o n=cellAtBytes (Program.mk T F2) d e c o n:=by
 unfold cellAtBytes
 simp only[zgy T F1 F2,zgx T F1 F2,zcy T F1 F2,zdS T F1 F2]
theorem zpU:∀(d:Nat) (t:TypeId),(Program.mk T F1).eqGuardType d t=(Program.mk T F2).eqGuardType d t
 | 0,_=>rfl
 | d+1,t=>by
  unfold Program.eqGuardType
  simp only[zgz T F1 F2,zpU d]
end
def Sq.off(i:Nat):Bool:=([0,1,54,73,74,84,87,88,89,90,91,98,99,102,103,104,105,106,107,108,109,110,111,112,113,114,116,117,118,119,120,134,135,136,137,138,161,162,163,164,165,166,167,168,169,170,171,172,173,174,175,177,178,179,180,181,182,183,185,186]:List Nat).contains i
class zmj where
 alt:Nat->Func->Func
noncomputable def Sq.prog[A:zmj]:Program:=zaz Tryz.prog Sq.off A.alt
section
variable[zmj]
@[simp] theorem Sq.tabs : Sq.prog.toTables = Tryz.prog.toTables := zfi
@[simp] theorem Sq.underlying(n : TypeId) : Sq.prog.underlying n = Tryz.prog.underlying n := zcr n
@[simp] theorem Sq.sizeOf(n : TypeId)(w : World) : (Go.sizeOf n).run Sq.prog w = (Go.sizeOf n).run Tryz.prog w := zg3 n w
@[simp] theorem Sq.runUnderlying(n : TypeId)(w : World) : (Go.underlying n).run Sq.prog w = (Go.underlying n).run Tryz.prog w := zbH n w
@[simp] theorem Sq.zeroValue(n : TypeId)(w : World) : (Go.zeroValue n).run Sq.prog w = (Go.zeroValue n).run Tryz.prog w := zec n w
@[simp] theorem Sq.isAgg(n : TypeId)(w : World) : (Go.isAgg n).run Sq.prog w = (Go.isAgg n).run Tryz.prog w := ziO n w
end
abbrev opr(d:Option Tmp)(op:Op)(t:TypeId):Oper:={ dst:=d,op:=op,type:=t,pos:= "",after:=#[],guard:=none }
abbrev ckA:Code:=.region 0 #[opr (some 2) (.box 33 (.tmp 0)) 0,opr (some 3) (.fieldAddr 33 (.tmp 2) 0) 0,opr (some 4) (.load 3 (.tmp 3)) 3,opr (some 5) (.binOp .mul 3 (.tmp 4) (.const (J 0)) 3) 3,opr (some 6) (.fieldAddr 33 (.tmp 2) 1) 0,opr (some 7) (.load 31 (.tmp 6)) 31,opr (some 8) (.call { callee:=.builtin .len,args:=#[.tmp 7],argTypes:=#[31] }) 3,opr (some 9) (.move (.const (J 0))) 3,opr (some 10) (.binOp .lss 3 (.tmp 8) (.const (J 4611686018427387904)) 3) 4] false
abbrev ckL:Code:=.seq (.region 1 #[opr (some 10) (.binOp .lss 3 (.tmp 9) (.tmp 8) 3) 4] false) (.seq (.cond (.tmp 10) .skip (.exit 0)) (.region 2 #[opr (some 11) (.indexAddr 31 (.tmp 7) (.tmp 9)) 0,opr (some 12) (.fieldAddr 48 (.tmp 11) 0) 0,opr (some 13) (.load 3 (.tmp 12)) 3,opr (some 14) (.binOp .mul 3 (.tmp 13) (.const (J 0)) 3) 3,opr (some 15) (.fieldAddr 48 (.tmp 11) 1) 0,opr (some 16) (.load 3 (.tmp 15)) 3,opr (some 17) (.binOp .mul 3 (.tmp 16) (.const (J 0)) 3) 3,opr (some 18) (.binOp .add 3 (.tmp 9) (.const (J 1)) 3) 3,opr (some 9) (.move (.tmp 18)) 3] false))
abbrev ckS:Code:=.region 3 #[opr (none) (.store 33 (.tmp 2) (.tmp 0)) 0] false
abbrev zj7(rest:Code):Code:=.seq ckA (.seq (.cond (.tmp 10) .skip (.refuse "too long")) (.seq (.block 0 (.loop ckL)) (.seq ckS rest)))
abbrev scL:Code:=.seq (.region 7 #[opr (some 11) (.binOp .lss 3 (.tmp 10) (.tmp 7) 3) 4] false) (.seq (.cond (.tmp 11) .skip (.exit 1)) (.region 8 #[opr (some 12) (.call { callee:=.value (.func 66),args:=#[.tmp 0,.tmp 10],argTypes:=#[33,3] }) 3,opr (some 13) (.indexAddr 25 (.tmp 8) (.tmp 10)) 0,opr none (.store 3 (.tmp 13) (.tmp 12)) 0,opr (some 14) (.call { callee:=.value (.func 67),args:=#[.tmp 0,.tmp 10],argTypes:=#[33,3] }) 25,opr (some 15) (.indexAddr 26 (.tmp 9) (.tmp 10)) 0,opr none (.store 25 (.tmp 15) (.tmp 14)) 0,opr (some 10) (.binOp .add 3 (.tmp 10) (.const (J 1)) 3) 3] false))
abbrev scA:Code:=.region 6 #[opr (some 6) (.call { callee:=.value (.func 72),args:=#[.tmp 0],argTypes:=#[33] }) 33,opr (some 7) (.call { callee:=.value (.func 85),args:=#[.tmp 0],argTypes:=#[33] }) 3,opr (some 8) (.makeSlice 25 (.tmp 7) (.tmp 7)) 25,opr (some 9) (.makeSlice 26 (.tmp 7) (.tmp 7)) 26,opr (some 10) (.move (.const (J 0))) 3] false
abbrev scZ:Code:=.region 9 #[opr (some 16) (.build 35 #[(0,.tmp 6),(1,.tmp 8),(2,.tmp 9)]) 35,opr (some 2) (.alloc 35) 0,opr none (.store 35 (.tmp 2) (.tmp 16)) 0,opr (some 3) (.move (.const (.bool true))) 4] false
abbrev scG:Code:=.region 4 #[opr (some 3) (.call { callee:=.value (.func 69),args:=#[.tmp 0],argTypes:=#[33] }) 4] false
abbrev scN:Code:=.seq (.region 5 #[opr (some 2) (.alloc 35) 0,opr (some 3) (.move (.const (.bool false))) 4] false) .ret
abbrev zhi:Code:=.seq scG (.seq (.cond (.tmp 3) .skip scN) (.seq scA (.seq (.block 1 (.loop scL)) (.seq scZ .ret))))
abbrev zsD:Code:=.seq (zj7 .skip) zhi
def zm5(f:Func):Func:={ f with ntmps:=22,body:=some zsD }
def Sq.altP(i:Nat)(f:Func):Func:=if i == 54 then zm5 f else zc2 f
def Sq.altN(_:Nat)(f:Func):Func:=zc2 f
abbrev Sq.P:zmj:=⟨Sq.altP⟩
abbrev Sq.N:zmj:=⟨Sq.altN⟩
noncomputable def SqG.prog(aLt:Nat->Func->Func):Program:=zaz Tryz.prog Sq.off aLt
section
variable{aLt:Nat->Func->Func}
@[simp] theorem SqG.tabs : (SqG.prog aLt).toTables = Tryz.prog.toTables := zfi
@[simp] theorem SqG.underlying(n : TypeId) : (SqG.prog aLt).underlying n = Tryz.prog.underlying n := zcr n
@[simp] theorem SqG.sizeOf(n : TypeId)(w : World) : (Go.sizeOf n).run (SqG.prog aLt) w = (Go.sizeOf n).run Tryz.prog w := zg3 n w
@[simp] theorem SqG.runUnderlying(n : TypeId)(w : World) : (Go.underlying n).run (SqG.prog aLt) w = (Go.underlying n).run Tryz.prog w := zbH n w
@[simp] theorem SqG.zeroValue(n : TypeId)(w : World) : (Go.zeroValue n).run (SqG.prog aLt) w = (Go.zeroValue n).run Tryz.prog w := zec n w
@[simp] theorem SqG.isAgg(n : TypeId)(w : World) : (Go.isAgg n).run (SqG.prog aLt) w = (Go.isAgg n).run Tryz.prog w := ziO n w
abbrev SqG.underlying3:=(SqG.underlying (aLt:=aLt) 3).trans Tryz.underlying3
abbrev SqG.underlying25:=(SqG.underlying (aLt:=aLt) 25).trans Tryz.underlying25
abbrev SqG.underlying26:=(SqG.underlying (aLt:=aLt) 26).trans Tryz.underlying26
abbrev SqG.underlying31:=(SqG.underlying (aLt:=aLt) 31).trans Tryz.underlying31
abbrev SqG.underlying67:=(SqG.underlying (aLt:=aLt) 67).trans Tryz.underlying67
abbrev SqG.underlying81:=(SqG.underlying (aLt:=aLt) 81).trans Tryz.underlying81
abbrev SqG.underlying108:=(SqG.underlying (aLt:=aLt) 108).trans Tryz.underlying108
abbrev SqG.underlying109:=(SqG.underlying (aLt:=aLt) 109).trans Tryz.underlying109
abbrev SqG.underlying114:=(SqG.underlying (aLt:=aLt) 114).trans Tryz.underlying114
abbrev SqG.underlying220:=(SqG.underlying (aLt:=aLt) 220).trans Tryz.underlying220
theorem zfx{n:Nat}(h:Tryz.prog.funcs[n]?=some f)(o:Sq.off n=false:=by rfl):(SqG.prog aLt).funcs[n]?=some f:=zlt o h
abbrev SqG.C(n:Nat):Prop:=∀(aLt:Nat->Func->Func) (a:Array Value) (w:World),(callFunc n a).run (SqG.prog aLt) w=.ok (.enter n a) w
theorem zcx{n:Nat}(h:Tryz.prog.funcs[n]?=some f)(o:Sq.off n=false:=by rfl)(b:f.body.isNone=false:=by rfl)(m:(f.name == "runtime.NumGoroutine")=false:=by rfl):SqG.C n:=fun _ a w=>ziN o h b m a w
@[simp] theorem SqG.c0 : SqG.C 6 /\ SqG.C 8 /\ SqG.C 10 /\ SqG.C 11 /\ SqG.C 12 /\ SqG.C 13 /\ SqG.C 14 /\ SqG.C 15 /\ SqG.C 16 /\ SqG.C 17 := ⟨zcx Tryz.func6, zcx Tryz.func8, zcx Tryz.func10, zcx Tryz.func11, zcx Tryz.func12, zcx Tryz.func13, zcx Tryz.func14, zcx Tryz.func15, zcx Tryz.func16, zcx Tryz.func17⟩
@[simp] theorem SqG.c1 : SqG.C 18 /\ SqG.C 20 /\ SqG.C 22 /\ SqG.C 25 /\ SqG.C 26 /\ SqG.C 27 /\ SqG.C 28 /\ SqG.C 29 /\ SqG.C 30 /\ SqG.C 31 := ⟨zcx Tryz.func18, zcx Tryz.func20, zcx Tryz.func22, zcx Tryz.func25, zcx Tryz.func26, zcx Tryz.func27, zcx Tryz.func28, zcx Tryz.func29, zcx Tryz.func30, zcx Tryz.func31⟩
@[simp] theorem SqG.c2 : SqG.C 32 /\ SqG.C 33 /\ SqG.C 34 /\ SqG.C 35 /\ SqG.C 36 /\ SqG.C 37 /\ SqG.C 38 /\ SqG.C 39 /\ SqG.C 40 /\ SqG.C 41 := ⟨zcx Tryz.func32, zcx Tryz.func33, zcx Tryz.func34, zcx Tryz.func35, zcx Tryz.func36, zcx Tryz.func37, zcx Tryz.func38, zcx Tryz.func39, zcx Tryz.func40, zcx Tryz.func41⟩
@[simp] theorem SqG.c3 : SqG.C 42 /\ SqG.C 43 /\ SqG.C 44 /\ SqG.C 45 /\ SqG.C 46 /\ SqG.C 47 /\ SqG.C 49 /\ SqG.C 50 /\ SqG.C 51 /\ SqG.C 52 := ⟨zcx Tryz.func42, zcx Tryz.func43, zcx Tryz.func44, zcx Tryz.func45, zcx Tryz.func46, zcx Tryz.func47, zcx Tryz.func49, zcx Tryz.func50, zcx Tryz.func51, zcx Tryz.func52⟩
@[simp] theorem SqG.c4 : SqG.C 53 /\ SqG.C 55 /\ SqG.C 56 /\ SqG.C 57 /\ SqG.C 58 /\ SqG.C 59 /\ SqG.C 60 /\ SqG.C 61 /\ SqG.C 62 /\ SqG.C 63 := ⟨zcx Tryz.func53, zcx Tryz.func55, zcx Tryz.func56, zcx Tryz.func57, zcx Tryz.func58, zcx Tryz.func59, zcx Tryz.func60, zcx Tryz.func61, zcx Tryz.func62, zcx Tryz.func63⟩
@[simp] theorem SqG.c5 : SqG.C 64 /\ SqG.C 65 /\ SqG.C 66 /\ SqG.C 67 /\ SqG.C 68 /\ SqG.C 69 /\ SqG.C 70 /\ SqG.C 71 /\ SqG.C 72 /\ SqG.C 75 := ⟨zcx Tryz.func64, zcx Tryz.func65, zcx Tryz.func66, zcx Tryz.func67, zcx Tryz.func68, zcx Tryz.func69, zcx Tryz.func70, zcx Tryz.func71, zcx Tryz.func72, zcx Tryz.func75⟩
@[simp] theorem SqG.c6 : SqG.C 76 /\ SqG.C 77 /\ SqG.C 78 /\ SqG.C 79 /\ SqG.C 80 /\ SqG.C 81 /\ SqG.C 82 /\ SqG.C 83 /\ SqG.C 85 /\ SqG.C 86 := ⟨zcx Tryz.func76, zcx Tryz.func77, zcx Tryz.func78, zcx Tryz.func79, zcx Tryz.func80, zcx Tryz.func81, zcx Tryz.func82, zcx Tryz.func83, zcx Tryz.func85, zcx Tryz.func86⟩
@[simp] theorem SqG.c7 : SqG.C 92 /\ SqG.C 93 /\ SqG.C 94 /\ SqG.C 95 /\ SqG.C 96 /\ SqG.C 97 /\ SqG.C 100 /\ SqG.C 101 /\ SqG.C 115 /\ SqG.C 121 := ⟨zcx Tryz.func92, zcx Tryz.func93, zcx Tryz.func94, zcx Tryz.func95, zcx Tryz.func96, zcx Tryz.func97, zcx Tryz.func100, zcx Tryz.func101, zcx Tryz.func115, zcx Tryz.func121⟩
@[simp] theorem SqG.c8 : SqG.C 122 /\ SqG.C 123 /\ SqG.C 124 /\ SqG.C 125 /\ SqG.C 126 /\ SqG.C 127 /\ SqG.C 128 /\ SqG.C 129 /\ SqG.C 130 /\ SqG.C 131 := ⟨zcx Tryz.func122, zcx Tryz.func123, zcx Tryz.func124, zcx Tryz.func125, zcx Tryz.func126, zcx Tryz.func127, zcx Tryz.func128, zcx Tryz.func129, zcx Tryz.func130, zcx Tryz.func131⟩
@[simp] theorem SqG.c9 : SqG.C 132 /\ SqG.C 133 /\ SqG.C 139 /\ SqG.C 140 /\ SqG.C 147 /\ SqG.C 148 /\ SqG.C 149 /\ SqG.C 150 /\ SqG.C 151 /\ SqG.C 152 := ⟨zcx Tryz.func132, zcx Tryz.func133, zcx Tryz.func139, zcx Tryz.func140, zcx Tryz.func147, zcx Tryz.func148, zcx Tryz.func149, zcx Tryz.func150, zcx Tryz.func151, zcx Tryz.func152⟩
@[simp] theorem SqG.c10 : SqG.C 153 /\ SqG.C 154 /\ SqG.C 155 /\ SqG.C 156 /\ SqG.C 157 /\ SqG.C 158 /\ SqG.C 159 /\ SqG.C 160 /\ SqG.C 176 /\ SqG.C 184 := ⟨zcx Tryz.func153, zcx Tryz.func154, zcx Tryz.func155, zcx Tryz.func156, zcx Tryz.func157, zcx Tryz.func158, zcx Tryz.func159, zcx Tryz.func160, zcx Tryz.func176, zcx Tryz.func184⟩
