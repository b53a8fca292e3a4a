/- Of the proof: SqP -/
import Derived.Below
import Derived.Test.YtmmeapmlfopleaaGreatBAa
namespace Go.Proofs.YtmmeapmlfopleaaGreat
section
open Go
noncomputable def SqP.prog:Program:=cutProg Tryz.prog Sq.off Sq.altP
@[simp] theorem SqP.tabs : SqP.prog.toTables = Tryz.prog.toTables := cut_tabs
@[simp] theorem SqP.underlying (n : TypeId) : SqP.prog.underlying n = Tryz.prog.underlying n := cut_underlying n
@[simp] theorem SqP.typeInfo (n : TypeId) (w : World) : (Go.typeInfo n).run SqP.prog w = (Go.typeInfo n).run Tryz.prog w := cut_typeInfo n w
@[simp] theorem SqP.sizeOf (n : TypeId) (w : World) : (Go.sizeOf n).run SqP.prog w = (Go.sizeOf n).run Tryz.prog w := cut_sizeOf n w
@[simp] theorem SqP.runUnderlying (n : TypeId) (w : World) : (Go.underlying n).run SqP.prog w = (Go.underlying n).run Tryz.prog w := cut_runUnderlying n w
@[simp] theorem SqP.zeroValue (n : TypeId) (w : World) : (Go.zeroValue n).run SqP.prog w = (Go.zeroValue n).run Tryz.prog w := cut_zeroValue n w
@[simp] theorem SqP.isAgg (n : TypeId) (w : World) : (Go.isAgg n).run SqP.prog w = (Go.isAgg n).run Tryz.prog w := cut_isAgg n w
@[simp] theorem SqP.depth : SqP.prog.depth = Tryz.prog.depth := tab_depth _ _ _
@[simp] theorem SqP.eqGuardType (n : TypeId) : SqP.prog.eqGuardType Tryz.prog.depth n = Tryz.prog.eqGuardType Tryz.prog.depth n := tab_eqg _ _ _ _ n
@[simp] theorem SqP.stoodInHeld (n : TypeId) : SqP.prog.stoodInHeld n = Tryz.prog.stoodInHeld n := tab_stood _ _ _ n
abbrev SqP.underlying3:=(SqP.underlying 3).trans Tryz.underlying3
abbrev SqP.underlying4:=(SqP.underlying 4).trans Tryz.underlying4
abbrev SqP.underlying5:=(SqP.underlying 5).trans Tryz.underlying5
abbrev SqP.underlying9:=(SqP.underlying 9).trans Tryz.underlying9
abbrev SqP.underlying22:=(SqP.underlying 22).trans Tryz.underlying22
abbrev SqP.underlying23:=(SqP.underlying 23).trans Tryz.underlying23
abbrev SqP.underlying27:=(SqP.underlying 27).trans Tryz.underlying27
abbrev SqP.underlying30:=(SqP.underlying 30).trans Tryz.underlying30
abbrev SqP.underlying50:=(SqP.underlying 50).trans Tryz.underlying50
abbrev SqP.underlying51:=(SqP.underlying 51).trans Tryz.underlying51
abbrev SqP.underlying58:=(SqP.underlying 58).trans Tryz.underlying58
abbrev SqP.underlying76:=(SqP.underlying 76).trans Tryz.underlying76
abbrev SqP.underlying81:=(SqP.underlying 81).trans Tryz.underlying81
abbrev SqP.underlying83:=(SqP.underlying 83).trans Tryz.underlying83
abbrev SqP.underlying84:=(SqP.underlying 84).trans Tryz.underlying84
abbrev SqP.underlying86:=(SqP.underlying 86).trans Tryz.underlying86
abbrev SqP.underlying109:=(SqP.underlying 109).trans Tryz.underlying109
abbrev SqP.underlying111:=(SqP.underlying 111).trans Tryz.underlying111
abbrev SqP.underlying113:=(SqP.underlying 113).trans Tryz.underlying113
abbrev SqP.underlying117:=(SqP.underlying 117).trans Tryz.underlying117
abbrev SqP.underlying118:=(SqP.underlying 118).trans Tryz.underlying118
abbrev SqP.underlying150:=(SqP.underlying 150).trans Tryz.underlying150
abbrev SqP.underlying152:=(SqP.underlying 152).trans Tryz.underlying152
abbrev SqP.underlying161:=(SqP.underlying 161).trans Tryz.underlying161
@[simp] theorem SqP.func3 : SqP.prog.funcs[3]? = some Tryz.f3 := cut_same rfl Tryz.func3
abbrev SqP.ntmps3:=Tryz.ntmps3
@[simp] theorem SqP.func5 : SqP.prog.funcs[5]? = some Tryz.f5 := cut_same rfl Tryz.func5
abbrev SqP.ntmps5:=Tryz.ntmps5
abbrev SqP.results5:=Tryz.results5
@[simp] theorem SqP.call5 (a : Array Value) (w : World) : (callFunc 5 a).run SqP.prog w = .ok (.enter 5 a) w := cut_callFunc rfl Tryz.func5 rfl rfl a w
theorem SqP.func6:SqP.prog.funcs[6]?=some (toAlt Tryz.f6):=cut_alt0 rfl Tryz.func6
theorem SqP.ntmps6:(toAlt Tryz.f6).ntmps=22:=rfl
theorem SqP.body6:(toAlt Tryz.f6).body=some (ckAll toRest):=rfl
theorem SqP.results6:(toAlt Tryz.f6).results=Tryz.f6.results:=rfl
@[simp] theorem SqP.call6 (a : Array Value) (w : World) : (callFunc 6 a).run SqP.prog w = .ok (.enter 6 a) w := cut_callAlt rfl Tryz.func6 rfl rfl a w
@[simp] theorem SqP.func7 : SqP.prog.funcs[7]? = some Tryz.f7 := cut_same rfl Tryz.func7
abbrev SqP.ntmps7:=Tryz.ntmps7
@[simp] theorem SqP.call7 (a : Array Value) (w : World) : (callFunc 7 a).run SqP.prog w = .ok (.enter 7 a) w := cut_callFunc rfl Tryz.func7 rfl rfl a w
@[simp] theorem SqP.func8 : SqP.prog.funcs[8]? = some Tryz.f8 := cut_same rfl Tryz.func8
abbrev SqP.ntmps8:=Tryz.ntmps8
@[simp] theorem SqP.call8 (a : Array Value) (w : World) : (callFunc 8 a).run SqP.prog w = .ok (.enter 8 a) w := cut_callFunc rfl Tryz.func8 rfl rfl a w
@[simp] theorem SqP.func9 : SqP.prog.funcs[9]? = some Tryz.f9 := cut_same rfl Tryz.func9
abbrev SqP.ntmps9:=Tryz.ntmps9
@[simp] theorem SqP.call9 (a : Array Value) (w : World) : (callFunc 9 a).run SqP.prog w = .ok (.enter 9 a) w := cut_callFunc rfl Tryz.func9 rfl rfl a w
@[simp] theorem SqP.func10 : SqP.prog.funcs[10]? = some Tryz.f10 := cut_same rfl Tryz.func10
abbrev SqP.ntmps10:=Tryz.ntmps10
@[simp] theorem SqP.call10 (a : Array Value) (w : World) : (callFunc 10 a).run SqP.prog w = .ok (.enter 10 a) w := cut_callFunc rfl Tryz.func10 rfl rfl a w
@[simp] theorem SqP.func18 : SqP.prog.funcs[18]? = some Tryz.f18 := cut_same rfl Tryz.func18
abbrev SqP.ntmps18:=Tryz.ntmps18
abbrev SqP.results18:=Tryz.results18
@[simp] theorem SqP.call18 (a : Array Value) (w : World) : (callFunc 18 a).run SqP.prog w = .ok (.enter 18 a) w := cut_callFunc rfl Tryz.func18 rfl rfl a w
@[simp] theorem SqP.func19 : SqP.prog.funcs[19]? = some Tryz.f19 := cut_same rfl Tryz.func19
abbrev SqP.ntmps19:=Tryz.ntmps19
@[simp] theorem SqP.call19 (a : Array Value) (w : World) : (callFunc 19 a).run SqP.prog w = .ok (.enter 19 a) w := cut_callFunc rfl Tryz.func19 rfl rfl a w
@[simp] theorem SqP.func21 : SqP.prog.funcs[21]? = some Tryz.f21 := cut_same rfl Tryz.func21
abbrev SqP.ntmps21:=Tryz.ntmps21
@[simp] theorem SqP.func22 : SqP.prog.funcs[22]? = some Tryz.f22 := cut_same rfl Tryz.func22
abbrev SqP.ntmps22:=Tryz.ntmps22
@[simp] theorem SqP.call22 (a : Array Value) (w : World) : (callFunc 22 a).run SqP.prog w = .ok (.enter 22 a) w := cut_callFunc rfl Tryz.func22 rfl rfl a w
@[simp] theorem SqP.func23 : SqP.prog.funcs[23]? = some Tryz.f23 := cut_same rfl Tryz.func23
abbrev SqP.ntmps23:=Tryz.ntmps23
@[simp] theorem SqP.call23 (a : Array Value) (w : World) : (callFunc 23 a).run SqP.prog w = .ok (.enter 23 a) w := cut_callFunc rfl Tryz.func23 rfl rfl a w
@[simp] theorem SqP.func24 : SqP.prog.funcs[24]? = some Tryz.f24 := cut_same rfl Tryz.func24
abbrev SqP.ntmps24:=Tryz.ntmps24
@[simp] theorem SqP.call24 (a : Array Value) (w : World) : (callFunc 24 a).run SqP.prog w = .ok (.enter 24 a) w := cut_callFunc rfl Tryz.func24 rfl rfl a w
@[simp] theorem SqP.func25 : SqP.prog.funcs[25]? = some Tryz.f25 := cut_same rfl Tryz.func25
abbrev SqP.ntmps25:=Tryz.ntmps25
@[simp] theorem SqP.call25 (a : Array Value) (w : World) : (callFunc 25 a).run SqP.prog w = .ok (.enter 25 a) w := cut_callFunc rfl Tryz.func25 rfl rfl a w
@[simp] theorem SqP.func26 : SqP.prog.funcs[26]? = some Tryz.f26 := cut_same rfl Tryz.func26
abbrev SqP.ntmps26:=Tryz.ntmps26
abbrev SqP.results26:=Tryz.results26
@[simp] theorem SqP.call26 (a : Array Value) (w : World) : (callFunc 26 a).run SqP.prog w = .ok (.enter 26 a) w := cut_callFunc rfl Tryz.func26 rfl rfl a w
@[simp] theorem SqP.func27 : SqP.prog.funcs[27]? = some Tryz.f27 := cut_same rfl Tryz.func27
abbrev SqP.ntmps27:=Tryz.ntmps27
@[simp] theorem SqP.call27 (a : Array Value) (w : World) : (callFunc 27 a).run SqP.prog w = .ok (.enter 27 a) w := cut_callFunc rfl Tryz.func27 rfl rfl a w
@[simp] theorem SqP.func28 : SqP.prog.funcs[28]? = some Tryz.f28 := cut_same rfl Tryz.func28
abbrev SqP.ntmps28:=Tryz.ntmps28
@[simp] theorem SqP.call28 (a : Array Value) (w : World) : (callFunc 28 a).run SqP.prog w = .ok (.enter 28 a) w := cut_callFunc rfl Tryz.func28 rfl rfl a w
@[simp] theorem SqP.func36 : SqP.prog.funcs[36]? = some Tryz.f36 := cut_same rfl Tryz.func36
abbrev SqP.ntmps36:=Tryz.ntmps36
abbrev SqP.results36:=Tryz.results36
@[simp] theorem SqP.call36 (a : Array Value) (w : World) : (callFunc 36 a).run SqP.prog w = .ok (.enter 36 a) w := cut_callFunc rfl Tryz.func36 rfl rfl a w
@[simp] theorem SqP.func37 : SqP.prog.funcs[37]? = some Tryz.f37 := cut_same rfl Tryz.func37
abbrev SqP.ntmps37:=Tryz.ntmps37
@[simp] theorem SqP.call37 (a : Array Value) (w : World) : (callFunc 37 a).run SqP.prog w = .ok (.enter 37 a) w := cut_callFunc rfl Tryz.func37 rfl rfl a w
@[simp] theorem SqP.func38 : SqP.prog.funcs[38]? = some Tryz.f38 := cut_same rfl Tryz.func38
abbrev SqP.ntmps38:=Tryz.ntmps38
@[simp] theorem SqP.call38 (a : Array Value) (w : World) : (callFunc 38 a).run SqP.prog w = .ok (.enter 38 a) w := cut_callFunc rfl Tryz.func38 rfl rfl a w
@[simp] theorem SqP.func39 : SqP.prog.funcs[39]? = some Tryz.f39 := cut_same rfl Tryz.func39
abbrev SqP.ntmps39:=Tryz.ntmps39
abbrev SqP.results39:=Tryz.results39
@[simp] theorem SqP.call39 (a : Array Value) (w : World) : (callFunc 39 a).run SqP.prog w = .ok (.enter 39 a) w := cut_callFunc rfl Tryz.func39 rfl rfl a w
@[simp] theorem SqP.func45 : SqP.prog.funcs[45]? = some Tryz.f45 := cut_same rfl Tryz.func45
abbrev SqP.ntmps45:=Tryz.ntmps45
@[simp] theorem SqP.call45 (a : Array Value) (w : World) : (callFunc 45 a).run SqP.prog w = .ok (.enter 45 a) w := cut_callFunc rfl Tryz.func45 rfl rfl a w
@[simp] theorem SqP.func46 : SqP.prog.funcs[46]? = some Tryz.f46 := cut_same rfl Tryz.func46
abbrev SqP.ntmps46:=Tryz.ntmps46
@[simp] theorem SqP.call46 (a : Array Value) (w : World) : (callFunc 46 a).run SqP.prog w = .ok (.enter 46 a) w := cut_callFunc rfl Tryz.func46 rfl rfl a w
@[simp] theorem SqP.func47 : SqP.prog.funcs[47]? = some Tryz.f47 := cut_same rfl Tryz.func47
abbrev SqP.ntmps47:=Tryz.ntmps47
@[simp] theorem SqP.call47 (a : Array Value) (w : World) : (callFunc 47 a).run SqP.prog w = .ok (.enter 47 a) w := cut_callFunc rfl Tryz.func47 rfl rfl a w
@[simp] theorem SqP.func48 : SqP.prog.funcs[48]? = some Tryz.f48 := cut_same rfl Tryz.func48
abbrev SqP.ntmps48:=Tryz.ntmps48
abbrev SqP.results48:=Tryz.results48
@[simp] theorem SqP.call48 (a : Array Value) (w : World) : (callFunc 48 a).run SqP.prog w = .ok (.enter 48 a) w := cut_callFunc rfl Tryz.func48 rfl rfl a w
@[simp] theorem SqP.func49 : SqP.prog.funcs[49]? = some Tryz.f49 := cut_same rfl Tryz.func49
abbrev SqP.ntmps49:=Tryz.ntmps49
abbrev SqP.results49:=Tryz.results49
@[simp] theorem SqP.call49 (a : Array Value) (w : World) : (callFunc 49 a).run SqP.prog w = .ok (.enter 49 a) w := cut_callFunc rfl Tryz.func49 rfl rfl a w
@[simp] theorem SqP.func50 : SqP.prog.funcs[50]? = some Tryz.f50 := cut_same rfl Tryz.func50
abbrev SqP.ntmps50:=Tryz.ntmps50
abbrev SqP.results50:=Tryz.results50
@[simp] theorem SqP.call50 (a : Array Value) (w : World) : (callFunc 50 a).run SqP.prog w = .ok (.enter 50 a) w := cut_callFunc rfl Tryz.func50 rfl rfl a w
@[simp] theorem SqP.func51 : SqP.prog.funcs[51]? = some Tryz.f51 := cut_same rfl Tryz.func51
abbrev SqP.ntmps51:=Tryz.ntmps51
abbrev SqP.results51:=Tryz.results51
@[simp] theorem SqP.call51 (a : Array Value) (w : World) : (callFunc 51 a).run SqP.prog w = .ok (.enter 51 a) w := cut_callFunc rfl Tryz.func51 rfl rfl a w
@[simp] theorem SqP.func52 : SqP.prog.funcs[52]? = some Tryz.f52 := cut_same rfl Tryz.func52
abbrev SqP.ntmps52:=Tryz.ntmps52
abbrev SqP.results52:=Tryz.results52
@[simp] theorem SqP.call52 (a : Array Value) (w : World) : (callFunc 52 a).run SqP.prog w = .ok (.enter 52 a) w := cut_callFunc rfl Tryz.func52 rfl rfl a w
@[simp] theorem SqP.func55 : SqP.prog.funcs[55]? = some Tryz.f55 := cut_same rfl Tryz.func55
abbrev SqP.ntmps55:=Tryz.ntmps55
abbrev SqP.results55:=Tryz.results55
@[simp] theorem SqP.call55 (a : Array Value) (w : World) : (callFunc 55 a).run SqP.prog w = .ok (.enter 55 a) w := cut_callFunc rfl Tryz.func55 rfl rfl a w
@[simp] theorem SqP.func56 : SqP.prog.funcs[56]? = some Tryz.f56 := cut_same rfl Tryz.func56
abbrev SqP.ntmps56:=Tryz.ntmps56
abbrev SqP.results56:=Tryz.results56
@[simp] theorem SqP.call56 (a : Array Value) (w : World) : (callFunc 56 a).run SqP.prog w = .ok (.enter 56 a) w := cut_callFunc rfl Tryz.func56 rfl rfl a w
@[simp] theorem SqP.func57 : SqP.prog.funcs[57]? = some Tryz.f57 := cut_same rfl Tryz.func57
abbrev SqP.ntmps57:=Tryz.ntmps57
@[simp] theorem SqP.call57 (a : Array Value) (w : World) : (callFunc 57 a).run SqP.prog w = .ok (.enter 57 a) w := cut_callFunc rfl Tryz.func57 rfl rfl a w
@[simp] theorem SqP.func58 : SqP.prog.funcs[58]? = some Tryz.f58 := cut_same rfl Tryz.func58
abbrev SqP.ntmps58:=Tryz.ntmps58
@[simp] theorem SqP.call58 (a : Array Value) (w : World) : (callFunc 58 a).run SqP.prog w = .ok (.enter 58 a) w := cut_callFunc rfl Tryz.func58 rfl rfl a w
@[simp] theorem SqP.func72 : SqP.prog.funcs[72]? = some Tryz.f72 := cut_same rfl Tryz.func72
abbrev SqP.ntmps72:=Tryz.ntmps72
@[simp] theorem SqP.call72 (a : Array Value) (w : World) : (callFunc 72 a).run SqP.prog w = .ok (.enter 72 a) w := cut_callFunc rfl Tryz.func72 rfl rfl a w
@[simp] theorem SqP.func78 : SqP.prog.funcs[78]? = some Tryz.f78 := cut_same rfl Tryz.func78
abbrev SqP.ntmps78:=Tryz.ntmps78
abbrev SqP.results78:=Tryz.results78
@[simp] theorem SqP.call78 (a : Array Value) (w : World) : (callFunc 78 a).run SqP.prog w = .ok (.enter 78 a) w := cut_callFunc rfl Tryz.func78 rfl rfl a w
@[simp] theorem SqP.func79 : SqP.prog.funcs[79]? = some Tryz.f79 := cut_same rfl Tryz.func79
abbrev SqP.ntmps79:=Tryz.ntmps79
abbrev SqP.results79:=Tryz.results79
@[simp] theorem SqP.call79 (a : Array Value) (w : World) : (callFunc 79 a).run SqP.prog w = .ok (.enter 79 a) w := cut_callFunc rfl Tryz.func79 rfl rfl a w
@[simp] theorem SqP.func80 : SqP.prog.funcs[80]? = some Tryz.f80 := cut_same rfl Tryz.func80
abbrev SqP.ntmps80:=Tryz.ntmps80
@[simp] theorem SqP.call80 (a : Array Value) (w : World) : (callFunc 80 a).run SqP.prog w = .ok (.enter 80 a) w := cut_callFunc rfl Tryz.func80 rfl rfl a w
@[simp] theorem SqP.func81 : SqP.prog.funcs[81]? = some Tryz.f81 := cut_same rfl Tryz.func81
abbrev SqP.ntmps81:=Tryz.ntmps81
abbrev SqP.results81:=Tryz.results81
@[simp] theorem SqP.call81 (a : Array Value) (w : World) : (callFunc 81 a).run SqP.prog w = .ok (.enter 81 a) w := cut_callFunc rfl Tryz.func81 rfl rfl a w
@[simp] theorem SqP.func82 : SqP.prog.funcs[82]? = some Tryz.f82 := cut_same rfl Tryz.func82
abbrev SqP.ntmps82:=Tryz.ntmps82
abbrev SqP.results82:=Tryz.results82
@[simp] theorem SqP.call82 (a : Array Value) (w : World) : (callFunc 82 a).run SqP.prog w = .ok (.enter 82 a) w := cut_callFunc rfl Tryz.func82 rfl rfl a w
@[simp] theorem SqP.func83 : SqP.prog.funcs[83]? = some Tryz.f83 := cut_same rfl Tryz.func83
abbrev SqP.ntmps83:=Tryz.ntmps83
abbrev SqP.results83:=Tryz.results83
@[simp] theorem SqP.call83 (a : Array Value) (w : World) : (callFunc 83 a).run SqP.prog w = .ok (.enter 83 a) w := cut_callFunc rfl Tryz.func83 rfl rfl a w
@[simp] theorem SqP.func84 : SqP.prog.funcs[84]? = some Tryz.f84 := cut_same rfl Tryz.func84
abbrev SqP.ntmps84:=Tryz.ntmps84
abbrev SqP.results84:=Tryz.results84
@[simp] theorem SqP.call84 (a : Array Value) (w : World) : (callFunc 84 a).run SqP.prog w = .ok (.enter 84 a) w := cut_callFunc rfl Tryz.func84 rfl rfl a w
@[simp] theorem SqP.func85 : SqP.prog.funcs[85]? = some Tryz.f85 := cut_same rfl Tryz.func85
abbrev SqP.ntmps85:=Tryz.ntmps85
abbrev SqP.results85:=Tryz.results85
@[simp] theorem SqP.call85 (a : Array Value) (w : World) : (callFunc 85 a).run SqP.prog w = .ok (.enter 85 a) w := cut_callFunc rfl Tryz.func85 rfl rfl a w
@[simp] theorem SqP.func86 : SqP.prog.funcs[86]? = some Tryz.f86 := cut_same rfl Tryz.func86
abbrev SqP.ntmps86:=Tryz.ntmps86
abbrev SqP.results86:=Tryz.results86
@[simp] theorem SqP.call86 (a : Array Value) (w : World) : (callFunc 86 a).run SqP.prog w = .ok (.enter 86 a) w := cut_callFunc rfl Tryz.func86 rfl rfl a w
@[simp] theorem SqP.func87 : SqP.prog.funcs[87]? = some Tryz.f87 := cut_same rfl Tryz.func87
abbrev SqP.ntmps87:=Tryz.ntmps87
abbrev SqP.results87:=Tryz.results87
@[simp] theorem SqP.call87 (a : Array Value) (w : World) : (callFunc 87 a).run SqP.prog w = .ok (.enter 87 a) w := cut_callFunc rfl Tryz.func87 rfl rfl a w
@[simp] theorem SqP.func88 : SqP.prog.funcs[88]? = some Tryz.f88 := cut_same rfl Tryz.func88
abbrev SqP.ntmps88:=Tryz.ntmps88
@[simp] theorem SqP.call88 (a : Array Value) (w : World) : (callFunc 88 a).run SqP.prog w = .ok (.enter 88 a) w := cut_callFunc rfl Tryz.func88 rfl rfl a w
@[simp] theorem SqP.func89 : SqP.prog.funcs[89]? = some Tryz.f89 := cut_same rfl Tryz.func89
abbrev SqP.ntmps89:=Tryz.ntmps89
abbrev SqP.results89:=Tryz.results89
@[simp] theorem SqP.call89 (a : Array Value) (w : World) : (callFunc 89 a).run SqP.prog w = .ok (.enter 89 a) w := cut_callFunc rfl Tryz.func89 rfl rfl a w
@[simp] theorem SqP.func90 : SqP.prog.funcs[90]? = some Tryz.f90 := cut_same rfl Tryz.func90
abbrev SqP.ntmps90:=Tryz.ntmps90
@[simp] theorem SqP.call90 (a : Array Value) (w : World) : (callFunc 90 a).run SqP.prog w = .ok (.enter 90 a) w := cut_callFunc rfl Tryz.func90 rfl rfl a w
@[simp] theorem SqP.func91 : SqP.prog.funcs[91]? = some Tryz.f91 := cut_same rfl Tryz.func91
abbrev SqP.ntmps91:=Tryz.ntmps91
abbrev SqP.results91:=Tryz.results91
@[simp] theorem SqP.func92 : SqP.prog.funcs[92]? = some Tryz.f92 := cut_same rfl Tryz.func92
abbrev SqP.ntmps92:=Tryz.ntmps92
@[simp] theorem SqP.call92 (a : Array Value) (w : World) : (callFunc 92 a).run SqP.prog w = .ok (.enter 92 a) w := cut_callFunc rfl Tryz.func92 rfl rfl a w
@[simp] theorem SqP.func98 : SqP.prog.funcs[98]? = some Tryz.f98 := cut_same rfl Tryz.func98
abbrev SqP.ntmps98:=Tryz.ntmps98
abbrev SqP.results98:=Tryz.results98
@[simp] theorem SqP.call98 (a : Array Value) (w : World) : (callFunc 98 a).run SqP.prog w = .ok (.enter 98 a) w := cut_callFunc rfl Tryz.func98 rfl rfl a w
@[simp] theorem SqP.func99 : SqP.prog.funcs[99]? = some Tryz.f99 := cut_same rfl Tryz.func99
abbrev SqP.ntmps99:=Tryz.ntmps99
@[simp] theorem SqP.call99 (a : Array Value) (w : World) : (callFunc 99 a).run SqP.prog w = .ok (.enter 99 a) w := cut_callFunc rfl Tryz.func99 rfl rfl a w
@[simp] theorem SqP.func100 : SqP.prog.funcs[100]? = some Tryz.f100 := cut_same rfl Tryz.func100
abbrev SqP.ntmps100:=Tryz.ntmps100
abbrev SqP.results100:=Tryz.results100
@[simp] theorem SqP.func101 : SqP.prog.funcs[101]? = some Tryz.f101 := cut_same rfl Tryz.func101
abbrev SqP.ntmps101:=Tryz.ntmps101
abbrev SqP.results101:=Tryz.results101
@[simp] theorem SqP.func102 : SqP.prog.funcs[102]? = some Tryz.f102 := cut_same rfl Tryz.func102
abbrev SqP.ntmps102:=Tryz.ntmps102
abbrev SqP.results102:=Tryz.results102
@[simp] theorem SqP.func103 : SqP.prog.funcs[103]? = some Tryz.f103 := cut_same rfl Tryz.func103
abbrev SqP.ntmps103:=Tryz.ntmps103
abbrev SqP.results103:=Tryz.results103
@[simp] theorem SqP.func104 : SqP.prog.funcs[104]? = some Tryz.f104 := cut_same rfl Tryz.func104
abbrev SqP.ntmps104:=Tryz.ntmps104
abbrev SqP.results104:=Tryz.results104
@[simp] theorem SqP.func105 : SqP.prog.funcs[105]? = some Tryz.f105 := cut_same rfl Tryz.func105
abbrev SqP.ntmps105:=Tryz.ntmps105
abbrev SqP.results105:=Tryz.results105
@[simp] theorem SqP.func106 : SqP.prog.funcs[106]? = some Tryz.f106 := cut_same rfl Tryz.func106
abbrev SqP.ntmps106:=Tryz.ntmps106
@[simp] theorem SqP.call106 (a : Array Value) (w : World) : (callFunc 106 a).run SqP.prog w = .ok (.enter 106 a) w := cut_callFunc rfl Tryz.func106 rfl rfl a w
@[simp] theorem SqP.func107 : SqP.prog.funcs[107]? = some Tryz.f107 := cut_same rfl Tryz.func107
abbrev SqP.ntmps107:=Tryz.ntmps107
@[simp] theorem SqP.call107 (a : Array Value) (w : World) : (callFunc 107 a).run SqP.prog w = .ok (.enter 107 a) w := cut_callFunc rfl Tryz.func107 rfl rfl a w
@[simp] theorem SqP.func108 : SqP.prog.funcs[108]? = some Tryz.f108 := cut_same rfl Tryz.func108
abbrev SqP.ntmps108:=Tryz.ntmps108
@[simp] theorem SqP.call108 (a : Array Value) (w : World) : (callFunc 108 a).run SqP.prog w = .ok (.enter 108 a) w := cut_callFunc rfl Tryz.func108 rfl rfl a w
@[simp] theorem SqP.func109 : SqP.prog.funcs[109]? = some Tryz.f109 := cut_same rfl Tryz.func109
abbrev SqP.ntmps109:=Tryz.ntmps109
abbrev SqP.results109:=Tryz.results109
@[simp] theorem SqP.call109 (a : Array Value) (w : World) : (callFunc 109 a).run SqP.prog w = .ok (.enter 109 a) w := cut_callFunc rfl Tryz.func109 rfl rfl a w
@[simp] theorem SqP.func110 : SqP.prog.funcs[110]? = some Tryz.f110 := cut_same rfl Tryz.func110
abbrev SqP.ntmps110:=Tryz.ntmps110
@[simp] theorem SqP.call110 (a : Array Value) (w : World) : (callFunc 110 a).run SqP.prog w = .ok (.enter 110 a) w := cut_callFunc rfl Tryz.func110 rfl rfl a w
@[simp] theorem SqP.func111 : SqP.prog.funcs[111]? = some Tryz.f111 := cut_same rfl Tryz.func111
abbrev SqP.ntmps111:=Tryz.ntmps111
@[simp] theorem SqP.call111 (a : Array Value) (w : World) : (callFunc 111 a).run SqP.prog w = .ok (.enter 111 a) w := cut_callFunc rfl Tryz.func111 rfl rfl a w
@[simp] theorem SqP.func112 : SqP.prog.funcs[112]? = some Tryz.f112 := cut_same rfl Tryz.func112
abbrev SqP.ntmps112:=Tryz.ntmps112
@[simp] theorem SqP.call112 (a : Array Value) (w : World) : (callFunc 112 a).run SqP.prog w = .ok (.enter 112 a) w := cut_callFunc rfl Tryz.func112 rfl rfl a w
@[simp] theorem SqP.func113 : SqP.prog.funcs[113]? = some Tryz.f113 := cut_same rfl Tryz.func113
abbrev SqP.ntmps113:=Tryz.ntmps113
@[simp] theorem SqP.call113 (a : Array Value) (w : World) : (callFunc 113 a).run SqP.prog w = .ok (.enter 113 a) w := cut_callFunc rfl Tryz.func113 rfl rfl a w
@[simp] theorem SqP.func114 : SqP.prog.funcs[114]? = some Tryz.f114 := cut_same rfl Tryz.func114
abbrev SqP.ntmps114:=Tryz.ntmps114
@[simp] theorem SqP.call114 (a : Array Value) (w : World) : (callFunc 114 a).run SqP.prog w = .ok (.enter 114 a) w := cut_callFunc rfl Tryz.func114 rfl rfl a w
@[simp] theorem SqP.func115 : SqP.prog.funcs[115]? = some Tryz.f115 := cut_same rfl Tryz.func115
abbrev SqP.ntmps115:=Tryz.ntmps115
@[simp] theorem SqP.call115 (a : Array Value) (w : World) : (callFunc 115 a).run SqP.prog w = .ok (.enter 115 a) w := cut_callFunc rfl Tryz.func115 rfl rfl a w
@[simp] theorem SqP.func116 : SqP.prog.funcs[116]? = some Tryz.f116 := cut_same rfl Tryz.func116
abbrev SqP.ntmps116:=Tryz.ntmps116
@[simp] theorem SqP.call116 (a : Array Value) (w : World) : (callFunc 116 a).run SqP.prog w = .ok (.enter 116 a) w := cut_callFunc rfl Tryz.func116 rfl rfl a w
@[simp] theorem SqP.func117 : SqP.prog.funcs[117]? = some Tryz.f117 := cut_same rfl Tryz.func117
abbrev SqP.ntmps117:=Tryz.ntmps117
abbrev SqP.results117:=Tryz.results117
@[simp] theorem SqP.call117 (a : Array Value) (w : World) : (callFunc 117 a).run SqP.prog w = .ok (.enter 117 a) w := cut_callFunc rfl Tryz.func117 rfl rfl a w
@[simp] theorem SqP.func118 : SqP.prog.funcs[118]? = some Tryz.f118 := cut_same rfl Tryz.func118
abbrev SqP.ntmps118:=Tryz.ntmps118
abbrev SqP.results118:=Tryz.results118
@[simp] theorem SqP.call118 (a : Array Value) (w : World) : (callFunc 118 a).run SqP.prog w = .ok (.enter 118 a) w := cut_callFunc rfl Tryz.func118 rfl rfl a w
@[simp] theorem SqP.func119 : SqP.prog.funcs[119]? = some Tryz.f119 := cut_same rfl Tryz.func119
abbrev SqP.ntmps119:=Tryz.ntmps119
abbrev SqP.results119:=Tryz.results119
@[simp] theorem SqP.call119 (a : Array Value) (w : World) : (callFunc 119 a).run SqP.prog w = .ok (.enter 119 a) w := cut_callFunc rfl Tryz.func119 rfl rfl a w
@[simp] theorem SqP.func120 : SqP.prog.funcs[120]? = some Tryz.f120 := cut_same rfl Tryz.func120
abbrev SqP.ntmps120:=Tryz.ntmps120
abbrev SqP.results120:=Tryz.results120
@[simp] theorem SqP.call120 (a : Array Value) (w : World) : (callFunc 120 a).run SqP.prog w = .ok (.enter 120 a) w := cut_callFunc rfl Tryz.func120 rfl rfl a w
@[simp] theorem SqP.func136 : SqP.prog.funcs[136]? = some Tryz.f136 := cut_same rfl Tryz.func136
abbrev SqP.ntmps136:=Tryz.ntmps136
@[simp] theorem SqP.call136 (a : Array Value) (w : World) : (callFunc 136 a).run SqP.prog w = .ok (.enter 136 a) w := cut_callFunc rfl Tryz.func136 rfl rfl a w
@[simp] theorem SqP.func144 : SqP.prog.funcs[144]? = some Tryz.f144 := cut_same rfl Tryz.func144
abbrev SqP.ntmps144:=Tryz.ntmps144
@[simp] theorem SqP.call144 (a : Array Value) (w : World) : (callFunc 144 a).run SqP.prog w = .ok (.enter 144 a) w := cut_callFunc rfl Tryz.func144 rfl rfl a w
theorem bel {B:Nat} {w w':World} (h:RowKit.Below B w w':=by repeat (first | exact RowKit.Below.refl _ _ | refine RowKit.Below.alloc ?_ (by first | exact Nat.le_refl _ | (simp; done) | (simp; omega)) _ | refine RowKit.Below.drew ?_ | refine RowKit.Below.setCell ?_ (by first | exact Nat.le_refl _ | (simp; done) | (simp; omega)) _)):RowKit.Below B w w':=h
end
end Go.Proofs.YtmmeapmlfopleaaGreat
