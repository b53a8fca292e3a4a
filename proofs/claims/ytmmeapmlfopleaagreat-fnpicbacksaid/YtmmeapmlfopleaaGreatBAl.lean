/- Of the proof: SqN -/
import Derived.Test.YtmmeapmlfopleaaGreatBAa
namespace Go.Proofs.YtmmeapmlfopleaaGreat
section
open Go
noncomputable def SqN.prog:Program:=cutProg Tryz.prog Sq.off Sq.altN
@[simp] theorem SqN.tabs : SqN.prog.toTables = Tryz.prog.toTables := cut_tabs
@[simp] theorem SqN.underlying (n : TypeId) : SqN.prog.underlying n = Tryz.prog.underlying n := cut_underlying n
@[simp] theorem SqN.typeInfo (n : TypeId) (w : World) : (Go.typeInfo n).run SqN.prog w = (Go.typeInfo n).run Tryz.prog w := cut_typeInfo n w
@[simp] theorem SqN.sizeOf (n : TypeId) (w : World) : (Go.sizeOf n).run SqN.prog w = (Go.sizeOf n).run Tryz.prog w := cut_sizeOf n w
@[simp] theorem SqN.runUnderlying (n : TypeId) (w : World) : (Go.underlying n).run SqN.prog w = (Go.underlying n).run Tryz.prog w := cut_runUnderlying n w
@[simp] theorem SqN.zeroValue (n : TypeId) (w : World) : (Go.zeroValue n).run SqN.prog w = (Go.zeroValue n).run Tryz.prog w := cut_zeroValue n w
@[simp] theorem SqN.isAgg (n : TypeId) (w : World) : (Go.isAgg n).run SqN.prog w = (Go.isAgg n).run Tryz.prog w := cut_isAgg n w
@[simp] theorem SqN.depth : SqN.prog.depth = Tryz.prog.depth := tab_depth _ _ _
@[simp] theorem SqN.eqGuardType (n : TypeId) : SqN.prog.eqGuardType Tryz.prog.depth n = Tryz.prog.eqGuardType Tryz.prog.depth n := tab_eqg _ _ _ _ n
@[simp] theorem SqN.stoodInHeld (n : TypeId) : SqN.prog.stoodInHeld n = Tryz.prog.stoodInHeld n := tab_stood _ _ _ n
abbrev SqN.underlying3:=(SqN.underlying 3).trans Tryz.underlying3
abbrev SqN.underlying4:=(SqN.underlying 4).trans Tryz.underlying4
abbrev SqN.underlying5:=(SqN.underlying 5).trans Tryz.underlying5
abbrev SqN.underlying9:=(SqN.underlying 9).trans Tryz.underlying9
abbrev SqN.underlying22:=(SqN.underlying 22).trans Tryz.underlying22
abbrev SqN.underlying23:=(SqN.underlying 23).trans Tryz.underlying23
abbrev SqN.underlying27:=(SqN.underlying 27).trans Tryz.underlying27
abbrev SqN.underlying30:=(SqN.underlying 30).trans Tryz.underlying30
abbrev SqN.underlying50:=(SqN.underlying 50).trans Tryz.underlying50
abbrev SqN.underlying51:=(SqN.underlying 51).trans Tryz.underlying51
abbrev SqN.underlying58:=(SqN.underlying 58).trans Tryz.underlying58
abbrev SqN.underlying76:=(SqN.underlying 76).trans Tryz.underlying76
abbrev SqN.underlying81:=(SqN.underlying 81).trans Tryz.underlying81
abbrev SqN.underlying83:=(SqN.underlying 83).trans Tryz.underlying83
abbrev SqN.underlying84:=(SqN.underlying 84).trans Tryz.underlying84
abbrev SqN.underlying86:=(SqN.underlying 86).trans Tryz.underlying86
abbrev SqN.underlying109:=(SqN.underlying 109).trans Tryz.underlying109
abbrev SqN.underlying111:=(SqN.underlying 111).trans Tryz.underlying111
abbrev SqN.underlying113:=(SqN.underlying 113).trans Tryz.underlying113
abbrev SqN.underlying117:=(SqN.underlying 117).trans Tryz.underlying117
abbrev SqN.underlying118:=(SqN.underlying 118).trans Tryz.underlying118
abbrev SqN.underlying150:=(SqN.underlying 150).trans Tryz.underlying150
abbrev SqN.underlying152:=(SqN.underlying 152).trans Tryz.underlying152
abbrev SqN.underlying161:=(SqN.underlying 161).trans Tryz.underlying161
@[simp] theorem SqN.func3 : SqN.prog.funcs[3]? = some Tryz.f3 := cut_same rfl Tryz.func3
abbrev SqN.ntmps3:=Tryz.ntmps3
@[simp] theorem SqN.func5 : SqN.prog.funcs[5]? = some Tryz.f5 := cut_same rfl Tryz.func5
abbrev SqN.ntmps5:=Tryz.ntmps5
abbrev SqN.results5:=Tryz.results5
@[simp] theorem SqN.call5 (a : Array Value) (w : World) : (callFunc 5 a).run SqN.prog w = .ok (.enter 5 a) w := cut_callFunc rfl Tryz.func5 rfl rfl a w
@[simp] theorem SqN.func7 : SqN.prog.funcs[7]? = some Tryz.f7 := cut_same rfl Tryz.func7
abbrev SqN.ntmps7:=Tryz.ntmps7
@[simp] theorem SqN.call7 (a : Array Value) (w : World) : (callFunc 7 a).run SqN.prog w = .ok (.enter 7 a) w := cut_callFunc rfl Tryz.func7 rfl rfl a w
@[simp] theorem SqN.func8 : SqN.prog.funcs[8]? = some Tryz.f8 := cut_same rfl Tryz.func8
abbrev SqN.ntmps8:=Tryz.ntmps8
@[simp] theorem SqN.call8 (a : Array Value) (w : World) : (callFunc 8 a).run SqN.prog w = .ok (.enter 8 a) w := cut_callFunc rfl Tryz.func8 rfl rfl a w
@[simp] theorem SqN.func9 : SqN.prog.funcs[9]? = some Tryz.f9 := cut_same rfl Tryz.func9
abbrev SqN.ntmps9:=Tryz.ntmps9
@[simp] theorem SqN.call9 (a : Array Value) (w : World) : (callFunc 9 a).run SqN.prog w = .ok (.enter 9 a) w := cut_callFunc rfl Tryz.func9 rfl rfl a w
@[simp] theorem SqN.func10 : SqN.prog.funcs[10]? = some Tryz.f10 := cut_same rfl Tryz.func10
abbrev SqN.ntmps10:=Tryz.ntmps10
@[simp] theorem SqN.call10 (a : Array Value) (w : World) : (callFunc 10 a).run SqN.prog w = .ok (.enter 10 a) w := cut_callFunc rfl Tryz.func10 rfl rfl a w
@[simp] theorem SqN.func18 : SqN.prog.funcs[18]? = some Tryz.f18 := cut_same rfl Tryz.func18
abbrev SqN.ntmps18:=Tryz.ntmps18
abbrev SqN.results18:=Tryz.results18
@[simp] theorem SqN.call18 (a : Array Value) (w : World) : (callFunc 18 a).run SqN.prog w = .ok (.enter 18 a) w := cut_callFunc rfl Tryz.func18 rfl rfl a w
@[simp] theorem SqN.func19 : SqN.prog.funcs[19]? = some Tryz.f19 := cut_same rfl Tryz.func19
abbrev SqN.ntmps19:=Tryz.ntmps19
@[simp] theorem SqN.call19 (a : Array Value) (w : World) : (callFunc 19 a).run SqN.prog w = .ok (.enter 19 a) w := cut_callFunc rfl Tryz.func19 rfl rfl a w
@[simp] theorem SqN.func21 : SqN.prog.funcs[21]? = some Tryz.f21 := cut_same rfl Tryz.func21
abbrev SqN.ntmps21:=Tryz.ntmps21
@[simp] theorem SqN.func22 : SqN.prog.funcs[22]? = some Tryz.f22 := cut_same rfl Tryz.func22
abbrev SqN.ntmps22:=Tryz.ntmps22
@[simp] theorem SqN.call22 (a : Array Value) (w : World) : (callFunc 22 a).run SqN.prog w = .ok (.enter 22 a) w := cut_callFunc rfl Tryz.func22 rfl rfl a w
@[simp] theorem SqN.func23 : SqN.prog.funcs[23]? = some Tryz.f23 := cut_same rfl Tryz.func23
abbrev SqN.ntmps23:=Tryz.ntmps23
@[simp] theorem SqN.call23 (a : Array Value) (w : World) : (callFunc 23 a).run SqN.prog w = .ok (.enter 23 a) w := cut_callFunc rfl Tryz.func23 rfl rfl a w
@[simp] theorem SqN.func24 : SqN.prog.funcs[24]? = some Tryz.f24 := cut_same rfl Tryz.func24
abbrev SqN.ntmps24:=Tryz.ntmps24
@[simp] theorem SqN.call24 (a : Array Value) (w : World) : (callFunc 24 a).run SqN.prog w = .ok (.enter 24 a) w := cut_callFunc rfl Tryz.func24 rfl rfl a w
@[simp] theorem SqN.func25 : SqN.prog.funcs[25]? = some Tryz.f25 := cut_same rfl Tryz.func25
abbrev SqN.ntmps25:=Tryz.ntmps25
@[simp] theorem SqN.call25 (a : Array Value) (w : World) : (callFunc 25 a).run SqN.prog w = .ok (.enter 25 a) w := cut_callFunc rfl Tryz.func25 rfl rfl a w
@[simp] theorem SqN.func26 : SqN.prog.funcs[26]? = some Tryz.f26 := cut_same rfl Tryz.func26
abbrev SqN.ntmps26:=Tryz.ntmps26
abbrev SqN.results26:=Tryz.results26
@[simp] theorem SqN.call26 (a : Array Value) (w : World) : (callFunc 26 a).run SqN.prog w = .ok (.enter 26 a) w := cut_callFunc rfl Tryz.func26 rfl rfl a w
@[simp] theorem SqN.func27 : SqN.prog.funcs[27]? = some Tryz.f27 := cut_same rfl Tryz.func27
abbrev SqN.ntmps27:=Tryz.ntmps27
@[simp] theorem SqN.call27 (a : Array Value) (w : World) : (callFunc 27 a).run SqN.prog w = .ok (.enter 27 a) w := cut_callFunc rfl Tryz.func27 rfl rfl a w
@[simp] theorem SqN.func28 : SqN.prog.funcs[28]? = some Tryz.f28 := cut_same rfl Tryz.func28
abbrev SqN.ntmps28:=Tryz.ntmps28
@[simp] theorem SqN.call28 (a : Array Value) (w : World) : (callFunc 28 a).run SqN.prog w = .ok (.enter 28 a) w := cut_callFunc rfl Tryz.func28 rfl rfl a w
@[simp] theorem SqN.func36 : SqN.prog.funcs[36]? = some Tryz.f36 := cut_same rfl Tryz.func36
abbrev SqN.ntmps36:=Tryz.ntmps36
abbrev SqN.results36:=Tryz.results36
@[simp] theorem SqN.call36 (a : Array Value) (w : World) : (callFunc 36 a).run SqN.prog w = .ok (.enter 36 a) w := cut_callFunc rfl Tryz.func36 rfl rfl a w
@[simp] theorem SqN.func37 : SqN.prog.funcs[37]? = some Tryz.f37 := cut_same rfl Tryz.func37
abbrev SqN.ntmps37:=Tryz.ntmps37
@[simp] theorem SqN.call37 (a : Array Value) (w : World) : (callFunc 37 a).run SqN.prog w = .ok (.enter 37 a) w := cut_callFunc rfl Tryz.func37 rfl rfl a w
@[simp] theorem SqN.func38 : SqN.prog.funcs[38]? = some Tryz.f38 := cut_same rfl Tryz.func38
abbrev SqN.ntmps38:=Tryz.ntmps38
@[simp] theorem SqN.call38 (a : Array Value) (w : World) : (callFunc 38 a).run SqN.prog w = .ok (.enter 38 a) w := cut_callFunc rfl Tryz.func38 rfl rfl a w
@[simp] theorem SqN.func39 : SqN.prog.funcs[39]? = some Tryz.f39 := cut_same rfl Tryz.func39
abbrev SqN.ntmps39:=Tryz.ntmps39
abbrev SqN.results39:=Tryz.results39
@[simp] theorem SqN.call39 (a : Array Value) (w : World) : (callFunc 39 a).run SqN.prog w = .ok (.enter 39 a) w := cut_callFunc rfl Tryz.func39 rfl rfl a w
@[simp] theorem SqN.func45 : SqN.prog.funcs[45]? = some Tryz.f45 := cut_same rfl Tryz.func45
abbrev SqN.ntmps45:=Tryz.ntmps45
@[simp] theorem SqN.call45 (a : Array Value) (w : World) : (callFunc 45 a).run SqN.prog w = .ok (.enter 45 a) w := cut_callFunc rfl Tryz.func45 rfl rfl a w
@[simp] theorem SqN.func46 : SqN.prog.funcs[46]? = some Tryz.f46 := cut_same rfl Tryz.func46
abbrev SqN.ntmps46:=Tryz.ntmps46
@[simp] theorem SqN.call46 (a : Array Value) (w : World) : (callFunc 46 a).run SqN.prog w = .ok (.enter 46 a) w := cut_callFunc rfl Tryz.func46 rfl rfl a w
@[simp] theorem SqN.func47 : SqN.prog.funcs[47]? = some Tryz.f47 := cut_same rfl Tryz.func47
abbrev SqN.ntmps47:=Tryz.ntmps47
@[simp] theorem SqN.call47 (a : Array Value) (w : World) : (callFunc 47 a).run SqN.prog w = .ok (.enter 47 a) w := cut_callFunc rfl Tryz.func47 rfl rfl a w
@[simp] theorem SqN.func48 : SqN.prog.funcs[48]? = some Tryz.f48 := cut_same rfl Tryz.func48
abbrev SqN.ntmps48:=Tryz.ntmps48
abbrev SqN.results48:=Tryz.results48
@[simp] theorem SqN.call48 (a : Array Value) (w : World) : (callFunc 48 a).run SqN.prog w = .ok (.enter 48 a) w := cut_callFunc rfl Tryz.func48 rfl rfl a w
@[simp] theorem SqN.func49 : SqN.prog.funcs[49]? = some Tryz.f49 := cut_same rfl Tryz.func49
abbrev SqN.ntmps49:=Tryz.ntmps49
abbrev SqN.results49:=Tryz.results49
@[simp] theorem SqN.call49 (a : Array Value) (w : World) : (callFunc 49 a).run SqN.prog w = .ok (.enter 49 a) w := cut_callFunc rfl Tryz.func49 rfl rfl a w
@[simp] theorem SqN.func50 : SqN.prog.funcs[50]? = some Tryz.f50 := cut_same rfl Tryz.func50
abbrev SqN.ntmps50:=Tryz.ntmps50
abbrev SqN.results50:=Tryz.results50
@[simp] theorem SqN.call50 (a : Array Value) (w : World) : (callFunc 50 a).run SqN.prog w = .ok (.enter 50 a) w := cut_callFunc rfl Tryz.func50 rfl rfl a w
@[simp] theorem SqN.func51 : SqN.prog.funcs[51]? = some Tryz.f51 := cut_same rfl Tryz.func51
abbrev SqN.ntmps51:=Tryz.ntmps51
abbrev SqN.results51:=Tryz.results51
@[simp] theorem SqN.call51 (a : Array Value) (w : World) : (callFunc 51 a).run SqN.prog w = .ok (.enter 51 a) w := cut_callFunc rfl Tryz.func51 rfl rfl a w
@[simp] theorem SqN.func52 : SqN.prog.funcs[52]? = some Tryz.f52 := cut_same rfl Tryz.func52
abbrev SqN.ntmps52:=Tryz.ntmps52
abbrev SqN.results52:=Tryz.results52
@[simp] theorem SqN.call52 (a : Array Value) (w : World) : (callFunc 52 a).run SqN.prog w = .ok (.enter 52 a) w := cut_callFunc rfl Tryz.func52 rfl rfl a w
@[simp] theorem SqN.func55 : SqN.prog.funcs[55]? = some Tryz.f55 := cut_same rfl Tryz.func55
abbrev SqN.ntmps55:=Tryz.ntmps55
abbrev SqN.results55:=Tryz.results55
@[simp] theorem SqN.call55 (a : Array Value) (w : World) : (callFunc 55 a).run SqN.prog w = .ok (.enter 55 a) w := cut_callFunc rfl Tryz.func55 rfl rfl a w
@[simp] theorem SqN.func56 : SqN.prog.funcs[56]? = some Tryz.f56 := cut_same rfl Tryz.func56
abbrev SqN.ntmps56:=Tryz.ntmps56
abbrev SqN.results56:=Tryz.results56
@[simp] theorem SqN.call56 (a : Array Value) (w : World) : (callFunc 56 a).run SqN.prog w = .ok (.enter 56 a) w := cut_callFunc rfl Tryz.func56 rfl rfl a w
@[simp] theorem SqN.func57 : SqN.prog.funcs[57]? = some Tryz.f57 := cut_same rfl Tryz.func57
abbrev SqN.ntmps57:=Tryz.ntmps57
@[simp] theorem SqN.call57 (a : Array Value) (w : World) : (callFunc 57 a).run SqN.prog w = .ok (.enter 57 a) w := cut_callFunc rfl Tryz.func57 rfl rfl a w
@[simp] theorem SqN.func58 : SqN.prog.funcs[58]? = some Tryz.f58 := cut_same rfl Tryz.func58
abbrev SqN.ntmps58:=Tryz.ntmps58
@[simp] theorem SqN.call58 (a : Array Value) (w : World) : (callFunc 58 a).run SqN.prog w = .ok (.enter 58 a) w := cut_callFunc rfl Tryz.func58 rfl rfl a w
@[simp] theorem SqN.func72 : SqN.prog.funcs[72]? = some Tryz.f72 := cut_same rfl Tryz.func72
abbrev SqN.ntmps72:=Tryz.ntmps72
@[simp] theorem SqN.call72 (a : Array Value) (w : World) : (callFunc 72 a).run SqN.prog w = .ok (.enter 72 a) w := cut_callFunc rfl Tryz.func72 rfl rfl a w
@[simp] theorem SqN.func78 : SqN.prog.funcs[78]? = some Tryz.f78 := cut_same rfl Tryz.func78
abbrev SqN.ntmps78:=Tryz.ntmps78
abbrev SqN.results78:=Tryz.results78
@[simp] theorem SqN.call78 (a : Array Value) (w : World) : (callFunc 78 a).run SqN.prog w = .ok (.enter 78 a) w := cut_callFunc rfl Tryz.func78 rfl rfl a w
@[simp] theorem SqN.func79 : SqN.prog.funcs[79]? = some Tryz.f79 := cut_same rfl Tryz.func79
abbrev SqN.ntmps79:=Tryz.ntmps79
abbrev SqN.results79:=Tryz.results79
@[simp] theorem SqN.call79 (a : Array Value) (w : World) : (callFunc 79 a).run SqN.prog w = .ok (.enter 79 a) w := cut_callFunc rfl Tryz.func79 rfl rfl a w
@[simp] theorem SqN.func80 : SqN.prog.funcs[80]? = some Tryz.f80 := cut_same rfl Tryz.func80
abbrev SqN.ntmps80:=Tryz.ntmps80
@[simp] theorem SqN.call80 (a : Array Value) (w : World) : (callFunc 80 a).run SqN.prog w = .ok (.enter 80 a) w := cut_callFunc rfl Tryz.func80 rfl rfl a w
@[simp] theorem SqN.func81 : SqN.prog.funcs[81]? = some Tryz.f81 := cut_same rfl Tryz.func81
abbrev SqN.ntmps81:=Tryz.ntmps81
abbrev SqN.results81:=Tryz.results81
@[simp] theorem SqN.call81 (a : Array Value) (w : World) : (callFunc 81 a).run SqN.prog w = .ok (.enter 81 a) w := cut_callFunc rfl Tryz.func81 rfl rfl a w
@[simp] theorem SqN.func82 : SqN.prog.funcs[82]? = some Tryz.f82 := cut_same rfl Tryz.func82
abbrev SqN.ntmps82:=Tryz.ntmps82
abbrev SqN.results82:=Tryz.results82
@[simp] theorem SqN.call82 (a : Array Value) (w : World) : (callFunc 82 a).run SqN.prog w = .ok (.enter 82 a) w := cut_callFunc rfl Tryz.func82 rfl rfl a w
@[simp] theorem SqN.func83 : SqN.prog.funcs[83]? = some Tryz.f83 := cut_same rfl Tryz.func83
abbrev SqN.ntmps83:=Tryz.ntmps83
abbrev SqN.results83:=Tryz.results83
@[simp] theorem SqN.call83 (a : Array Value) (w : World) : (callFunc 83 a).run SqN.prog w = .ok (.enter 83 a) w := cut_callFunc rfl Tryz.func83 rfl rfl a w
@[simp] theorem SqN.func84 : SqN.prog.funcs[84]? = some Tryz.f84 := cut_same rfl Tryz.func84
abbrev SqN.ntmps84:=Tryz.ntmps84
abbrev SqN.results84:=Tryz.results84
@[simp] theorem SqN.call84 (a : Array Value) (w : World) : (callFunc 84 a).run SqN.prog w = .ok (.enter 84 a) w := cut_callFunc rfl Tryz.func84 rfl rfl a w
@[simp] theorem SqN.func85 : SqN.prog.funcs[85]? = some Tryz.f85 := cut_same rfl Tryz.func85
abbrev SqN.ntmps85:=Tryz.ntmps85
abbrev SqN.results85:=Tryz.results85
@[simp] theorem SqN.call85 (a : Array Value) (w : World) : (callFunc 85 a).run SqN.prog w = .ok (.enter 85 a) w := cut_callFunc rfl Tryz.func85 rfl rfl a w
@[simp] theorem SqN.func86 : SqN.prog.funcs[86]? = some Tryz.f86 := cut_same rfl Tryz.func86
abbrev SqN.ntmps86:=Tryz.ntmps86
abbrev SqN.results86:=Tryz.results86
@[simp] theorem SqN.call86 (a : Array Value) (w : World) : (callFunc 86 a).run SqN.prog w = .ok (.enter 86 a) w := cut_callFunc rfl Tryz.func86 rfl rfl a w
@[simp] theorem SqN.func87 : SqN.prog.funcs[87]? = some Tryz.f87 := cut_same rfl Tryz.func87
abbrev SqN.ntmps87:=Tryz.ntmps87
abbrev SqN.results87:=Tryz.results87
@[simp] theorem SqN.call87 (a : Array Value) (w : World) : (callFunc 87 a).run SqN.prog w = .ok (.enter 87 a) w := cut_callFunc rfl Tryz.func87 rfl rfl a w
@[simp] theorem SqN.func88 : SqN.prog.funcs[88]? = some Tryz.f88 := cut_same rfl Tryz.func88
abbrev SqN.ntmps88:=Tryz.ntmps88
@[simp] theorem SqN.call88 (a : Array Value) (w : World) : (callFunc 88 a).run SqN.prog w = .ok (.enter 88 a) w := cut_callFunc rfl Tryz.func88 rfl rfl a w
@[simp] theorem SqN.func89 : SqN.prog.funcs[89]? = some Tryz.f89 := cut_same rfl Tryz.func89
abbrev SqN.ntmps89:=Tryz.ntmps89
abbrev SqN.results89:=Tryz.results89
@[simp] theorem SqN.call89 (a : Array Value) (w : World) : (callFunc 89 a).run SqN.prog w = .ok (.enter 89 a) w := cut_callFunc rfl Tryz.func89 rfl rfl a w
@[simp] theorem SqN.func90 : SqN.prog.funcs[90]? = some Tryz.f90 := cut_same rfl Tryz.func90
abbrev SqN.ntmps90:=Tryz.ntmps90
@[simp] theorem SqN.call90 (a : Array Value) (w : World) : (callFunc 90 a).run SqN.prog w = .ok (.enter 90 a) w := cut_callFunc rfl Tryz.func90 rfl rfl a w
@[simp] theorem SqN.func91 : SqN.prog.funcs[91]? = some Tryz.f91 := cut_same rfl Tryz.func91
abbrev SqN.ntmps91:=Tryz.ntmps91
abbrev SqN.results91:=Tryz.results91
@[simp] theorem SqN.func92 : SqN.prog.funcs[92]? = some Tryz.f92 := cut_same rfl Tryz.func92
abbrev SqN.ntmps92:=Tryz.ntmps92
@[simp] theorem SqN.call92 (a : Array Value) (w : World) : (callFunc 92 a).run SqN.prog w = .ok (.enter 92 a) w := cut_callFunc rfl Tryz.func92 rfl rfl a w
@[simp] theorem SqN.func98 : SqN.prog.funcs[98]? = some Tryz.f98 := cut_same rfl Tryz.func98
abbrev SqN.ntmps98:=Tryz.ntmps98
abbrev SqN.results98:=Tryz.results98
@[simp] theorem SqN.call98 (a : Array Value) (w : World) : (callFunc 98 a).run SqN.prog w = .ok (.enter 98 a) w := cut_callFunc rfl Tryz.func98 rfl rfl a w
@[simp] theorem SqN.func99 : SqN.prog.funcs[99]? = some Tryz.f99 := cut_same rfl Tryz.func99
abbrev SqN.ntmps99:=Tryz.ntmps99
@[simp] theorem SqN.call99 (a : Array Value) (w : World) : (callFunc 99 a).run SqN.prog w = .ok (.enter 99 a) w := cut_callFunc rfl Tryz.func99 rfl rfl a w
@[simp] theorem SqN.func100 : SqN.prog.funcs[100]? = some Tryz.f100 := cut_same rfl Tryz.func100
abbrev SqN.ntmps100:=Tryz.ntmps100
abbrev SqN.results100:=Tryz.results100
@[simp] theorem SqN.func101 : SqN.prog.funcs[101]? = some Tryz.f101 := cut_same rfl Tryz.func101
abbrev SqN.ntmps101:=Tryz.ntmps101
abbrev SqN.results101:=Tryz.results101
@[simp] theorem SqN.func102 : SqN.prog.funcs[102]? = some Tryz.f102 := cut_same rfl Tryz.func102
abbrev SqN.ntmps102:=Tryz.ntmps102
abbrev SqN.results102:=Tryz.results102
@[simp] theorem SqN.func103 : SqN.prog.funcs[103]? = some Tryz.f103 := cut_same rfl Tryz.func103
abbrev SqN.ntmps103:=Tryz.ntmps103
abbrev SqN.results103:=Tryz.results103
@[simp] theorem SqN.func104 : SqN.prog.funcs[104]? = some Tryz.f104 := cut_same rfl Tryz.func104
abbrev SqN.ntmps104:=Tryz.ntmps104
abbrev SqN.results104:=Tryz.results104
@[simp] theorem SqN.func105 : SqN.prog.funcs[105]? = some Tryz.f105 := cut_same rfl Tryz.func105
abbrev SqN.ntmps105:=Tryz.ntmps105
abbrev SqN.results105:=Tryz.results105
@[simp] theorem SqN.func106 : SqN.prog.funcs[106]? = some Tryz.f106 := cut_same rfl Tryz.func106
abbrev SqN.ntmps106:=Tryz.ntmps106
@[simp] theorem SqN.call106 (a : Array Value) (w : World) : (callFunc 106 a).run SqN.prog w = .ok (.enter 106 a) w := cut_callFunc rfl Tryz.func106 rfl rfl a w
@[simp] theorem SqN.func107 : SqN.prog.funcs[107]? = some Tryz.f107 := cut_same rfl Tryz.func107
abbrev SqN.ntmps107:=Tryz.ntmps107
@[simp] theorem SqN.call107 (a : Array Value) (w : World) : (callFunc 107 a).run SqN.prog w = .ok (.enter 107 a) w := cut_callFunc rfl Tryz.func107 rfl rfl a w
@[simp] theorem SqN.func108 : SqN.prog.funcs[108]? = some Tryz.f108 := cut_same rfl Tryz.func108
abbrev SqN.ntmps108:=Tryz.ntmps108
@[simp] theorem SqN.call108 (a : Array Value) (w : World) : (callFunc 108 a).run SqN.prog w = .ok (.enter 108 a) w := cut_callFunc rfl Tryz.func108 rfl rfl a w
@[simp] theorem SqN.func109 : SqN.prog.funcs[109]? = some Tryz.f109 := cut_same rfl Tryz.func109
abbrev SqN.ntmps109:=Tryz.ntmps109
abbrev SqN.results109:=Tryz.results109
@[simp] theorem SqN.call109 (a : Array Value) (w : World) : (callFunc 109 a).run SqN.prog w = .ok (.enter 109 a) w := cut_callFunc rfl Tryz.func109 rfl rfl a w
@[simp] theorem SqN.func110 : SqN.prog.funcs[110]? = some Tryz.f110 := cut_same rfl Tryz.func110
abbrev SqN.ntmps110:=Tryz.ntmps110
@[simp] theorem SqN.call110 (a : Array Value) (w : World) : (callFunc 110 a).run SqN.prog w = .ok (.enter 110 a) w := cut_callFunc rfl Tryz.func110 rfl rfl a w
@[simp] theorem SqN.func111 : SqN.prog.funcs[111]? = some Tryz.f111 := cut_same rfl Tryz.func111
abbrev SqN.ntmps111:=Tryz.ntmps111
@[simp] theorem SqN.call111 (a : Array Value) (w : World) : (callFunc 111 a).run SqN.prog w = .ok (.enter 111 a) w := cut_callFunc rfl Tryz.func111 rfl rfl a w
@[simp] theorem SqN.func112 : SqN.prog.funcs[112]? = some Tryz.f112 := cut_same rfl Tryz.func112
abbrev SqN.ntmps112:=Tryz.ntmps112
@[simp] theorem SqN.call112 (a : Array Value) (w : World) : (callFunc 112 a).run SqN.prog w = .ok (.enter 112 a) w := cut_callFunc rfl Tryz.func112 rfl rfl a w
@[simp] theorem SqN.func113 : SqN.prog.funcs[113]? = some Tryz.f113 := cut_same rfl Tryz.func113
abbrev SqN.ntmps113:=Tryz.ntmps113
@[simp] theorem SqN.call113 (a : Array Value) (w : World) : (callFunc 113 a).run SqN.prog w = .ok (.enter 113 a) w := cut_callFunc rfl Tryz.func113 rfl rfl a w
@[simp] theorem SqN.func114 : SqN.prog.funcs[114]? = some Tryz.f114 := cut_same rfl Tryz.func114
abbrev SqN.ntmps114:=Tryz.ntmps114
@[simp] theorem SqN.call114 (a : Array Value) (w : World) : (callFunc 114 a).run SqN.prog w = .ok (.enter 114 a) w := cut_callFunc rfl Tryz.func114 rfl rfl a w
@[simp] theorem SqN.func115 : SqN.prog.funcs[115]? = some Tryz.f115 := cut_same rfl Tryz.func115
abbrev SqN.ntmps115:=Tryz.ntmps115
@[simp] theorem SqN.call115 (a : Array Value) (w : World) : (callFunc 115 a).run SqN.prog w = .ok (.enter 115 a) w := cut_callFunc rfl Tryz.func115 rfl rfl a w
@[simp] theorem SqN.func116 : SqN.prog.funcs[116]? = some Tryz.f116 := cut_same rfl Tryz.func116
abbrev SqN.ntmps116:=Tryz.ntmps116
@[simp] theorem SqN.call116 (a : Array Value) (w : World) : (callFunc 116 a).run SqN.prog w = .ok (.enter 116 a) w := cut_callFunc rfl Tryz.func116 rfl rfl a w
@[simp] theorem SqN.func117 : SqN.prog.funcs[117]? = some Tryz.f117 := cut_same rfl Tryz.func117
abbrev SqN.ntmps117:=Tryz.ntmps117
abbrev SqN.results117:=Tryz.results117
@[simp] theorem SqN.call117 (a : Array Value) (w : World) : (callFunc 117 a).run SqN.prog w = .ok (.enter 117 a) w := cut_callFunc rfl Tryz.func117 rfl rfl a w
@[simp] theorem SqN.func118 : SqN.prog.funcs[118]? = some Tryz.f118 := cut_same rfl Tryz.func118
abbrev SqN.ntmps118:=Tryz.ntmps118
abbrev SqN.results118:=Tryz.results118
@[simp] theorem SqN.call118 (a : Array Value) (w : World) : (callFunc 118 a).run SqN.prog w = .ok (.enter 118 a) w := cut_callFunc rfl Tryz.func118 rfl rfl a w
@[simp] theorem SqN.func119 : SqN.prog.funcs[119]? = some Tryz.f119 := cut_same rfl Tryz.func119
abbrev SqN.ntmps119:=Tryz.ntmps119
abbrev SqN.results119:=Tryz.results119
@[simp] theorem SqN.call119 (a : Array Value) (w : World) : (callFunc 119 a).run SqN.prog w = .ok (.enter 119 a) w := cut_callFunc rfl Tryz.func119 rfl rfl a w
@[simp] theorem SqN.func120 : SqN.prog.funcs[120]? = some Tryz.f120 := cut_same rfl Tryz.func120
abbrev SqN.ntmps120:=Tryz.ntmps120
abbrev SqN.results120:=Tryz.results120
@[simp] theorem SqN.call120 (a : Array Value) (w : World) : (callFunc 120 a).run SqN.prog w = .ok (.enter 120 a) w := cut_callFunc rfl Tryz.func120 rfl rfl a w
@[simp] theorem SqN.func136 : SqN.prog.funcs[136]? = some Tryz.f136 := cut_same rfl Tryz.func136
abbrev SqN.ntmps136:=Tryz.ntmps136
@[simp] theorem SqN.call136 (a : Array Value) (w : World) : (callFunc 136 a).run SqN.prog w = .ok (.enter 136 a) w := cut_callFunc rfl Tryz.func136 rfl rfl a w
@[simp] theorem SqN.func144 : SqN.prog.funcs[144]? = some Tryz.f144 := cut_same rfl Tryz.func144
abbrev SqN.ntmps144:=Tryz.ntmps144
@[simp] theorem SqN.call144 (a : Array Value) (w : World) : (callFunc 144 a).run SqN.prog w = .ok (.enter 144 a) w := cut_callFunc rfl Tryz.func144 rfl rfl a w
end
end Go.Proofs.YtmmeapmlfopleaaGreat
