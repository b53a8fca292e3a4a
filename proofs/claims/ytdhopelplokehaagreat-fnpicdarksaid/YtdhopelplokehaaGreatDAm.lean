/- Of the proof: SqN -/
import Derived.Test.YtdhopelplokehaaGreatDAa
namespace Go.Proofs.YtdhopelplokehaaGreat
section
open Go
noncomputable def SqN.prog:Program:=cutProg Tryz.prog Sq.off Sq.altN
@[simp] theorem SqN.tabs : SqN.prog.toTables = Tryz.prog.toTables := cut_tabs
@[simp] theorem SqN.underlying (n : TypeId) : SqN.prog.underlying n = Tryz.prog.underlying n := cut_underlying n
@[simp] theorem SqN.typeInfo (n : TypeId) (w : World) : (Go.typeInfo n).run SqN.prog w = (Go.typeInfo n).run Tryz.prog w := cut_typeInfo n w
@[simp] theorem SqN.sizeOf (n : TypeId) (w : World) : (Go.sizeOf n).run SqN.prog w = (Go.sizeOf n).run Tryz.prog w := cut_sizeOf n w
@[simp] theorem SqN.runUnderlying (n : TypeId) (w : World) : (Go.underlying n).run SqN.prog w = (Go.underlying n).run Tryz.prog w := cut_runUnderlying n w
@[simp] theorem SqN.zeroValue (n : TypeId) (w : World) : (Go.zeroValue n).run SqN.prog w = (Go.zeroValue n).run Tryz.prog w := cut_zeroValue n w
@[simp] theorem SqN.isAgg (n : TypeId) (w : World) : (Go.isAgg n).run SqN.prog w = (Go.isAgg n).run Tryz.prog w := cut_isAgg n w
@[simp] theorem SqN.depth : SqN.prog.depth = Tryz.prog.depth := tab_depth _ _ _
@[simp] theorem SqN.eqGuardType (n : TypeId) : SqN.prog.eqGuardType Tryz.prog.depth n = Tryz.prog.eqGuardType Tryz.prog.depth n := tab_eqg _ _ _ _ n
@[simp] theorem SqN.stoodInHeld (n : TypeId) : SqN.prog.stoodInHeld n = Tryz.prog.stoodInHeld n := tab_stood _ _ _ n
abbrev SqN.underlying3:=(SqN.underlying 3).trans Tryz.underlying3
abbrev SqN.underlying4:=(SqN.underlying 4).trans Tryz.underlying4
abbrev SqN.underlying5:=(SqN.underlying 5).trans Tryz.underlying5
abbrev SqN.underlying9:=(SqN.underlying 9).trans Tryz.underlying9
abbrev SqN.underlying22:=(SqN.underlying 22).trans Tryz.underlying22
abbrev SqN.underlying23:=(SqN.underlying 23).trans Tryz.underlying23
abbrev SqN.underlying27:=(SqN.underlying 27).trans Tryz.underlying27
abbrev SqN.underlying34:=(SqN.underlying 34).trans Tryz.underlying34
abbrev SqN.underlying55:=(SqN.underlying 55).trans Tryz.underlying55
abbrev SqN.underlying56:=(SqN.underlying 56).trans Tryz.underlying56
abbrev SqN.underlying57:=(SqN.underlying 57).trans Tryz.underlying57
abbrev SqN.underlying84:=(SqN.underlying 84).trans Tryz.underlying84
abbrev SqN.underlying89:=(SqN.underlying 89).trans Tryz.underlying89
abbrev SqN.underlying91:=(SqN.underlying 91).trans Tryz.underlying91
abbrev SqN.underlying92:=(SqN.underlying 92).trans Tryz.underlying92
abbrev SqN.underlying94:=(SqN.underlying 94).trans Tryz.underlying94
abbrev SqN.underlying116:=(SqN.underlying 116).trans Tryz.underlying116
abbrev SqN.underlying126:=(SqN.underlying 126).trans Tryz.underlying126
abbrev SqN.underlying128:=(SqN.underlying 128).trans Tryz.underlying128
abbrev SqN.underlying130:=(SqN.underlying 130).trans Tryz.underlying130
abbrev SqN.underlying134:=(SqN.underlying 134).trans Tryz.underlying134
abbrev SqN.underlying135:=(SqN.underlying 135).trans Tryz.underlying135
abbrev SqN.underlying174:=(SqN.underlying 174).trans Tryz.underlying174
abbrev SqN.underlying176:=(SqN.underlying 176).trans Tryz.underlying176
abbrev SqN.underlying184:=(SqN.underlying 184).trans Tryz.underlying184
@[simp] theorem SqN.func5 : SqN.prog.funcs[5]? = some Tryz.f5 := cut_same rfl Tryz.func5
abbrev SqN.ntmps5:=Tryz.ntmps5
@[simp] theorem SqN.func13 : SqN.prog.funcs[13]? = some Tryz.f13 := cut_same rfl Tryz.func13
abbrev SqN.ntmps13:=Tryz.ntmps13
@[simp] theorem SqN.call13 (a : Array Value) (w : World) : (callFunc 13 a).run SqN.prog w = .ok (.enter 13 a) w := cut_callFunc rfl Tryz.func13 rfl rfl a w
@[simp] theorem SqN.func14 : SqN.prog.funcs[14]? = some Tryz.f14 := cut_same rfl Tryz.func14
abbrev SqN.ntmps14:=Tryz.ntmps14
@[simp] theorem SqN.call14 (a : Array Value) (w : World) : (callFunc 14 a).run SqN.prog w = .ok (.enter 14 a) w := cut_callFunc rfl Tryz.func14 rfl rfl a w
@[simp] theorem SqN.func15 : SqN.prog.funcs[15]? = some Tryz.f15 := cut_same rfl Tryz.func15
abbrev SqN.ntmps15:=Tryz.ntmps15
@[simp] theorem SqN.func16 : SqN.prog.funcs[16]? = some Tryz.f16 := cut_same rfl Tryz.func16
abbrev SqN.ntmps16:=Tryz.ntmps16
@[simp] theorem SqN.call16 (a : Array Value) (w : World) : (callFunc 16 a).run SqN.prog w = .ok (.enter 16 a) w := cut_callFunc rfl Tryz.func16 rfl rfl a w
@[simp] theorem SqN.func21 : SqN.prog.funcs[21]? = some Tryz.f21 := cut_same rfl Tryz.func21
abbrev SqN.ntmps21:=Tryz.ntmps21
abbrev SqN.results21:=Tryz.results21
@[simp] theorem SqN.call21 (a : Array Value) (w : World) : (callFunc 21 a).run SqN.prog w = .ok (.enter 21 a) w := cut_callFunc rfl Tryz.func21 rfl rfl a w
@[simp] theorem SqN.func23 : SqN.prog.funcs[23]? = some Tryz.f23 := cut_same rfl Tryz.func23
abbrev SqN.ntmps23:=Tryz.ntmps23
@[simp] theorem SqN.call23 (a : Array Value) (w : World) : (callFunc 23 a).run SqN.prog w = .ok (.enter 23 a) w := cut_callFunc rfl Tryz.func23 rfl rfl a w
@[simp] theorem SqN.func24 : SqN.prog.funcs[24]? = some Tryz.f24 := cut_same rfl Tryz.func24
abbrev SqN.ntmps24:=Tryz.ntmps24
@[simp] theorem SqN.call24 (a : Array Value) (w : World) : (callFunc 24 a).run SqN.prog w = .ok (.enter 24 a) w := cut_callFunc rfl Tryz.func24 rfl rfl a w
@[simp] theorem SqN.func26 : SqN.prog.funcs[26]? = some Tryz.f26 := cut_same rfl Tryz.func26
abbrev SqN.ntmps26:=Tryz.ntmps26
@[simp] theorem SqN.call26 (a : Array Value) (w : World) : (callFunc 26 a).run SqN.prog w = .ok (.enter 26 a) w := cut_callFunc rfl Tryz.func26 rfl rfl a w
@[simp] theorem SqN.func37 : SqN.prog.funcs[37]? = some Tryz.f37 := cut_same rfl Tryz.func37
abbrev SqN.ntmps37:=Tryz.ntmps37
abbrev SqN.results37:=Tryz.results37
@[simp] theorem SqN.call37 (a : Array Value) (w : World) : (callFunc 37 a).run SqN.prog w = .ok (.enter 37 a) w := cut_callFunc rfl Tryz.func37 rfl rfl a w
@[simp] theorem SqN.func38 : SqN.prog.funcs[38]? = some Tryz.f38 := cut_same rfl Tryz.func38
abbrev SqN.ntmps38:=Tryz.ntmps38
@[simp] theorem SqN.call38 (a : Array Value) (w : World) : (callFunc 38 a).run SqN.prog w = .ok (.enter 38 a) w := cut_callFunc rfl Tryz.func38 rfl rfl a w
@[simp] theorem SqN.func40 : SqN.prog.funcs[40]? = some Tryz.f40 := cut_same rfl Tryz.func40
abbrev SqN.ntmps40:=Tryz.ntmps40
@[simp] theorem SqN.call40 (a : Array Value) (w : World) : (callFunc 40 a).run SqN.prog w = .ok (.enter 40 a) w := cut_callFunc rfl Tryz.func40 rfl rfl a w
@[simp] theorem SqN.func41 : SqN.prog.funcs[41]? = some Tryz.f41 := cut_same rfl Tryz.func41
abbrev SqN.ntmps41:=Tryz.ntmps41
abbrev SqN.results41:=Tryz.results41
@[simp] theorem SqN.call41 (a : Array Value) (w : World) : (callFunc 41 a).run SqN.prog w = .ok (.enter 41 a) w := cut_callFunc rfl Tryz.func41 rfl rfl a w
@[simp] theorem SqN.func42 : SqN.prog.funcs[42]? = some Tryz.f42 := cut_same rfl Tryz.func42
abbrev SqN.ntmps42:=Tryz.ntmps42
@[simp] theorem SqN.call42 (a : Array Value) (w : World) : (callFunc 42 a).run SqN.prog w = .ok (.enter 42 a) w := cut_callFunc rfl Tryz.func42 rfl rfl a w
@[simp] theorem SqN.func43 : SqN.prog.funcs[43]? = some Tryz.f43 := cut_same rfl Tryz.func43
abbrev SqN.ntmps43:=Tryz.ntmps43
@[simp] theorem SqN.call43 (a : Array Value) (w : World) : (callFunc 43 a).run SqN.prog w = .ok (.enter 43 a) w := cut_callFunc rfl Tryz.func43 rfl rfl a w
@[simp] theorem SqN.func44 : SqN.prog.funcs[44]? = some Tryz.f44 := cut_same rfl Tryz.func44
abbrev SqN.ntmps44:=Tryz.ntmps44
@[simp] theorem SqN.call44 (a : Array Value) (w : World) : (callFunc 44 a).run SqN.prog w = .ok (.enter 44 a) w := cut_callFunc rfl Tryz.func44 rfl rfl a w
@[simp] theorem SqN.func45 : SqN.prog.funcs[45]? = some Tryz.f45 := cut_same rfl Tryz.func45
abbrev SqN.ntmps45:=Tryz.ntmps45
@[simp] theorem SqN.call45 (a : Array Value) (w : World) : (callFunc 45 a).run SqN.prog w = .ok (.enter 45 a) w := cut_callFunc rfl Tryz.func45 rfl rfl a w
@[simp] theorem SqN.func49 : SqN.prog.funcs[49]? = some Tryz.f49 := cut_same rfl Tryz.func49
abbrev SqN.ntmps49:=Tryz.ntmps49
@[simp] theorem SqN.func50 : SqN.prog.funcs[50]? = some Tryz.f50 := cut_same rfl Tryz.func50
abbrev SqN.ntmps50:=Tryz.ntmps50
@[simp] theorem SqN.call50 (a : Array Value) (w : World) : (callFunc 50 a).run SqN.prog w = .ok (.enter 50 a) w := cut_callFunc rfl Tryz.func50 rfl rfl a w
@[simp] theorem SqN.func51 : SqN.prog.funcs[51]? = some Tryz.f51 := cut_same rfl Tryz.func51
abbrev SqN.ntmps51:=Tryz.ntmps51
@[simp] theorem SqN.call51 (a : Array Value) (w : World) : (callFunc 51 a).run SqN.prog w = .ok (.enter 51 a) w := cut_callFunc rfl Tryz.func51 rfl rfl a w
@[simp] theorem SqN.func52 : SqN.prog.funcs[52]? = some Tryz.f52 := cut_same rfl Tryz.func52
abbrev SqN.ntmps52:=Tryz.ntmps52
@[simp] theorem SqN.call52 (a : Array Value) (w : World) : (callFunc 52 a).run SqN.prog w = .ok (.enter 52 a) w := cut_callFunc rfl Tryz.func52 rfl rfl a w
@[simp] theorem SqN.func53 : SqN.prog.funcs[53]? = some Tryz.f53 := cut_same rfl Tryz.func53
abbrev SqN.ntmps53:=Tryz.ntmps53
@[simp] theorem SqN.call53 (a : Array Value) (w : World) : (callFunc 53 a).run SqN.prog w = .ok (.enter 53 a) w := cut_callFunc rfl Tryz.func53 rfl rfl a w
@[simp] theorem SqN.func58 : SqN.prog.funcs[58]? = some Tryz.f58 := cut_same rfl Tryz.func58
abbrev SqN.ntmps58:=Tryz.ntmps58
abbrev SqN.results58:=Tryz.results58
@[simp] theorem SqN.call58 (a : Array Value) (w : World) : (callFunc 58 a).run SqN.prog w = .ok (.enter 58 a) w := cut_callFunc rfl Tryz.func58 rfl rfl a w
@[simp] theorem SqN.func59 : SqN.prog.funcs[59]? = some Tryz.f59 := cut_same rfl Tryz.func59
abbrev SqN.ntmps59:=Tryz.ntmps59
@[simp] theorem SqN.call59 (a : Array Value) (w : World) : (callFunc 59 a).run SqN.prog w = .ok (.enter 59 a) w := cut_callFunc rfl Tryz.func59 rfl rfl a w
@[simp] theorem SqN.func60 : SqN.prog.funcs[60]? = some Tryz.f60 := cut_same rfl Tryz.func60
abbrev SqN.ntmps60:=Tryz.ntmps60
abbrev SqN.results60:=Tryz.results60
@[simp] theorem SqN.call60 (a : Array Value) (w : World) : (callFunc 60 a).run SqN.prog w = .ok (.enter 60 a) w := cut_callFunc rfl Tryz.func60 rfl rfl a w
@[simp] theorem SqN.func66 : SqN.prog.funcs[66]? = some Tryz.f66 := cut_same rfl Tryz.func66
abbrev SqN.ntmps66:=Tryz.ntmps66
@[simp] theorem SqN.call66 (a : Array Value) (w : World) : (callFunc 66 a).run SqN.prog w = .ok (.enter 66 a) w := cut_callFunc rfl Tryz.func66 rfl rfl a w
@[simp] theorem SqN.func67 : SqN.prog.funcs[67]? = some Tryz.f67 := cut_same rfl Tryz.func67
abbrev SqN.ntmps67:=Tryz.ntmps67
abbrev SqN.results67:=Tryz.results67
@[simp] theorem SqN.call67 (a : Array Value) (w : World) : (callFunc 67 a).run SqN.prog w = .ok (.enter 67 a) w := cut_callFunc rfl Tryz.func67 rfl rfl a w
@[simp] theorem SqN.func68 : SqN.prog.funcs[68]? = some Tryz.f68 := cut_same rfl Tryz.func68
abbrev SqN.ntmps68:=Tryz.ntmps68
abbrev SqN.results68:=Tryz.results68
@[simp] theorem SqN.call68 (a : Array Value) (w : World) : (callFunc 68 a).run SqN.prog w = .ok (.enter 68 a) w := cut_callFunc rfl Tryz.func68 rfl rfl a w
@[simp] theorem SqN.func69 : SqN.prog.funcs[69]? = some Tryz.f69 := cut_same rfl Tryz.func69
abbrev SqN.ntmps69:=Tryz.ntmps69
abbrev SqN.results69:=Tryz.results69
@[simp] theorem SqN.call69 (a : Array Value) (w : World) : (callFunc 69 a).run SqN.prog w = .ok (.enter 69 a) w := cut_callFunc rfl Tryz.func69 rfl rfl a w
@[simp] theorem SqN.func70 : SqN.prog.funcs[70]? = some Tryz.f70 := cut_same rfl Tryz.func70
abbrev SqN.ntmps70:=Tryz.ntmps70
@[simp] theorem SqN.call70 (a : Array Value) (w : World) : (callFunc 70 a).run SqN.prog w = .ok (.enter 70 a) w := cut_callFunc rfl Tryz.func70 rfl rfl a w
@[simp] theorem SqN.func71 : SqN.prog.funcs[71]? = some Tryz.f71 := cut_same rfl Tryz.func71
abbrev SqN.ntmps71:=Tryz.ntmps71
@[simp] theorem SqN.call71 (a : Array Value) (w : World) : (callFunc 71 a).run SqN.prog w = .ok (.enter 71 a) w := cut_callFunc rfl Tryz.func71 rfl rfl a w
@[simp] theorem SqN.func75 : SqN.prog.funcs[75]? = some Tryz.f75 := cut_same rfl Tryz.func75
abbrev SqN.ntmps75:=Tryz.ntmps75
@[simp] theorem SqN.call75 (a : Array Value) (w : World) : (callFunc 75 a).run SqN.prog w = .ok (.enter 75 a) w := cut_callFunc rfl Tryz.func75 rfl rfl a w
@[simp] theorem SqN.func76 : SqN.prog.funcs[76]? = some Tryz.f76 := cut_same rfl Tryz.func76
abbrev SqN.ntmps76:=Tryz.ntmps76
abbrev SqN.results76:=Tryz.results76
@[simp] theorem SqN.call76 (a : Array Value) (w : World) : (callFunc 76 a).run SqN.prog w = .ok (.enter 76 a) w := cut_callFunc rfl Tryz.func76 rfl rfl a w
@[simp] theorem SqN.func77 : SqN.prog.funcs[77]? = some Tryz.f77 := cut_same rfl Tryz.func77
abbrev SqN.ntmps77:=Tryz.ntmps77
abbrev SqN.results77:=Tryz.results77
@[simp] theorem SqN.call77 (a : Array Value) (w : World) : (callFunc 77 a).run SqN.prog w = .ok (.enter 77 a) w := cut_callFunc rfl Tryz.func77 rfl rfl a w
@[simp] theorem SqN.func80 : SqN.prog.funcs[80]? = some Tryz.f80 := cut_same rfl Tryz.func80
abbrev SqN.ntmps80:=Tryz.ntmps80
abbrev SqN.results80:=Tryz.results80
@[simp] theorem SqN.call80 (a : Array Value) (w : World) : (callFunc 80 a).run SqN.prog w = .ok (.enter 80 a) w := cut_callFunc rfl Tryz.func80 rfl rfl a w
@[simp] theorem SqN.func81 : SqN.prog.funcs[81]? = some Tryz.f81 := cut_same rfl Tryz.func81
abbrev SqN.ntmps81:=Tryz.ntmps81
abbrev SqN.results81:=Tryz.results81
@[simp] theorem SqN.call81 (a : Array Value) (w : World) : (callFunc 81 a).run SqN.prog w = .ok (.enter 81 a) w := cut_callFunc rfl Tryz.func81 rfl rfl a w
@[simp] theorem SqN.func95 : SqN.prog.funcs[95]? = some Tryz.f95 := cut_same rfl Tryz.func95
abbrev SqN.ntmps95:=Tryz.ntmps95
@[simp] theorem SqN.call95 (a : Array Value) (w : World) : (callFunc 95 a).run SqN.prog w = .ok (.enter 95 a) w := cut_callFunc rfl Tryz.func95 rfl rfl a w
@[simp] theorem SqN.func101 : SqN.prog.funcs[101]? = some Tryz.f101 := cut_same rfl Tryz.func101
abbrev SqN.ntmps101:=Tryz.ntmps101
abbrev SqN.results101:=Tryz.results101
@[simp] theorem SqN.call101 (a : Array Value) (w : World) : (callFunc 101 a).run SqN.prog w = .ok (.enter 101 a) w := cut_callFunc rfl Tryz.func101 rfl rfl a w
@[simp] theorem SqN.func102 : SqN.prog.funcs[102]? = some Tryz.f102 := cut_same rfl Tryz.func102
abbrev SqN.ntmps102:=Tryz.ntmps102
abbrev SqN.results102:=Tryz.results102
@[simp] theorem SqN.call102 (a : Array Value) (w : World) : (callFunc 102 a).run SqN.prog w = .ok (.enter 102 a) w := cut_callFunc rfl Tryz.func102 rfl rfl a w
@[simp] theorem SqN.func103 : SqN.prog.funcs[103]? = some Tryz.f103 := cut_same rfl Tryz.func103
abbrev SqN.ntmps103:=Tryz.ntmps103
abbrev SqN.results103:=Tryz.results103
@[simp] theorem SqN.call103 (a : Array Value) (w : World) : (callFunc 103 a).run SqN.prog w = .ok (.enter 103 a) w := cut_callFunc rfl Tryz.func103 rfl rfl a w
@[simp] theorem SqN.func104 : SqN.prog.funcs[104]? = some Tryz.f104 := cut_same rfl Tryz.func104
abbrev SqN.ntmps104:=Tryz.ntmps104
abbrev SqN.results104:=Tryz.results104
@[simp] theorem SqN.call104 (a : Array Value) (w : World) : (callFunc 104 a).run SqN.prog w = .ok (.enter 104 a) w := cut_callFunc rfl Tryz.func104 rfl rfl a w
@[simp] theorem SqN.func105 : SqN.prog.funcs[105]? = some Tryz.f105 := cut_same rfl Tryz.func105
abbrev SqN.ntmps105:=Tryz.ntmps105
abbrev SqN.results105:=Tryz.results105
@[simp] theorem SqN.call105 (a : Array Value) (w : World) : (callFunc 105 a).run SqN.prog w = .ok (.enter 105 a) w := cut_callFunc rfl Tryz.func105 rfl rfl a w
@[simp] theorem SqN.func106 : SqN.prog.funcs[106]? = some Tryz.f106 := cut_same rfl Tryz.func106
abbrev SqN.ntmps106:=Tryz.ntmps106
abbrev SqN.results106:=Tryz.results106
@[simp] theorem SqN.call106 (a : Array Value) (w : World) : (callFunc 106 a).run SqN.prog w = .ok (.enter 106 a) w := cut_callFunc rfl Tryz.func106 rfl rfl a w
@[simp] theorem SqN.func107 : SqN.prog.funcs[107]? = some Tryz.f107 := cut_same rfl Tryz.func107
abbrev SqN.ntmps107:=Tryz.ntmps107
@[simp] theorem SqN.call107 (a : Array Value) (w : World) : (callFunc 107 a).run SqN.prog w = .ok (.enter 107 a) w := cut_callFunc rfl Tryz.func107 rfl rfl a w
@[simp] theorem SqN.func108 : SqN.prog.funcs[108]? = some Tryz.f108 := cut_same rfl Tryz.func108
abbrev SqN.ntmps108:=Tryz.ntmps108
abbrev SqN.results108:=Tryz.results108
@[simp] theorem SqN.call108 (a : Array Value) (w : World) : (callFunc 108 a).run SqN.prog w = .ok (.enter 108 a) w := cut_callFunc rfl Tryz.func108 rfl rfl a w
@[simp] theorem SqN.func109 : SqN.prog.funcs[109]? = some Tryz.f109 := cut_same rfl Tryz.func109
abbrev SqN.ntmps109:=Tryz.ntmps109
@[simp] theorem SqN.call109 (a : Array Value) (w : World) : (callFunc 109 a).run SqN.prog w = .ok (.enter 109 a) w := cut_callFunc rfl Tryz.func109 rfl rfl a w
@[simp] theorem SqN.func110 : SqN.prog.funcs[110]? = some Tryz.f110 := cut_same rfl Tryz.func110
abbrev SqN.ntmps110:=Tryz.ntmps110
abbrev SqN.results110:=Tryz.results110
@[simp] theorem SqN.call110 (a : Array Value) (w : World) : (callFunc 110 a).run SqN.prog w = .ok (.enter 110 a) w := cut_callFunc rfl Tryz.func110 rfl rfl a w
@[simp] theorem SqN.func111 : SqN.prog.funcs[111]? = some Tryz.f111 := cut_same rfl Tryz.func111
abbrev SqN.ntmps111:=Tryz.ntmps111
abbrev SqN.results111:=Tryz.results111
@[simp] theorem SqN.call111 (a : Array Value) (w : World) : (callFunc 111 a).run SqN.prog w = .ok (.enter 111 a) w := cut_callFunc rfl Tryz.func111 rfl rfl a w
@[simp] theorem SqN.func112 : SqN.prog.funcs[112]? = some Tryz.f112 := cut_same rfl Tryz.func112
abbrev SqN.ntmps112:=Tryz.ntmps112
@[simp] theorem SqN.call112 (a : Array Value) (w : World) : (callFunc 112 a).run SqN.prog w = .ok (.enter 112 a) w := cut_callFunc rfl Tryz.func112 rfl rfl a w
@[simp] theorem SqN.func113 : SqN.prog.funcs[113]? = some Tryz.f113 := cut_same rfl Tryz.func113
abbrev SqN.ntmps113:=Tryz.ntmps113
abbrev SqN.results113:=Tryz.results113
@[simp] theorem SqN.call113 (a : Array Value) (w : World) : (callFunc 113 a).run SqN.prog w = .ok (.enter 113 a) w := cut_callFunc rfl Tryz.func113 rfl rfl a w
@[simp] theorem SqN.func114 : SqN.prog.funcs[114]? = some Tryz.f114 := cut_same rfl Tryz.func114
abbrev SqN.ntmps114:=Tryz.ntmps114
abbrev SqN.results114:=Tryz.results114
@[simp] theorem SqN.func120 : SqN.prog.funcs[120]? = some Tryz.f120 := cut_same rfl Tryz.func120
abbrev SqN.ntmps120:=Tryz.ntmps120
abbrev SqN.results120:=Tryz.results120
@[simp] theorem SqN.func121 : SqN.prog.funcs[121]? = some Tryz.f121 := cut_same rfl Tryz.func121
abbrev SqN.ntmps121:=Tryz.ntmps121
abbrev SqN.results121:=Tryz.results121
@[simp] theorem SqN.func122 : SqN.prog.funcs[122]? = some Tryz.f122 := cut_same rfl Tryz.func122
abbrev SqN.ntmps122:=Tryz.ntmps122
abbrev SqN.results122:=Tryz.results122
@[simp] theorem SqN.func123 : SqN.prog.funcs[123]? = some Tryz.f123 := cut_same rfl Tryz.func123
abbrev SqN.ntmps123:=Tryz.ntmps123
abbrev SqN.results123:=Tryz.results123
@[simp] theorem SqN.func124 : SqN.prog.funcs[124]? = some Tryz.f124 := cut_same rfl Tryz.func124
abbrev SqN.ntmps124:=Tryz.ntmps124
abbrev SqN.results124:=Tryz.results124
@[simp] theorem SqN.func125 : SqN.prog.funcs[125]? = some Tryz.f125 := cut_same rfl Tryz.func125
abbrev SqN.ntmps125:=Tryz.ntmps125
abbrev SqN.results125:=Tryz.results125
@[simp] theorem SqN.func126 : SqN.prog.funcs[126]? = some Tryz.f126 := cut_same rfl Tryz.func126
abbrev SqN.ntmps126:=Tryz.ntmps126
@[simp] theorem SqN.call126 (a : Array Value) (w : World) : (callFunc 126 a).run SqN.prog w = .ok (.enter 126 a) w := cut_callFunc rfl Tryz.func126 rfl rfl a w
@[simp] theorem SqN.func127 : SqN.prog.funcs[127]? = some Tryz.f127 := cut_same rfl Tryz.func127
abbrev SqN.ntmps127:=Tryz.ntmps127
@[simp] theorem SqN.call127 (a : Array Value) (w : World) : (callFunc 127 a).run SqN.prog w = .ok (.enter 127 a) w := cut_callFunc rfl Tryz.func127 rfl rfl a w
@[simp] theorem SqN.func128 : SqN.prog.funcs[128]? = some Tryz.f128 := cut_same rfl Tryz.func128
abbrev SqN.ntmps128:=Tryz.ntmps128
@[simp] theorem SqN.call128 (a : Array Value) (w : World) : (callFunc 128 a).run SqN.prog w = .ok (.enter 128 a) w := cut_callFunc rfl Tryz.func128 rfl rfl a w
@[simp] theorem SqN.func129 : SqN.prog.funcs[129]? = some Tryz.f129 := cut_same rfl Tryz.func129
abbrev SqN.ntmps129:=Tryz.ntmps129
abbrev SqN.results129:=Tryz.results129
@[simp] theorem SqN.call129 (a : Array Value) (w : World) : (callFunc 129 a).run SqN.prog w = .ok (.enter 129 a) w := cut_callFunc rfl Tryz.func129 rfl rfl a w
@[simp] theorem SqN.func130 : SqN.prog.funcs[130]? = some Tryz.f130 := cut_same rfl Tryz.func130
abbrev SqN.ntmps130:=Tryz.ntmps130
@[simp] theorem SqN.call130 (a : Array Value) (w : World) : (callFunc 130 a).run SqN.prog w = .ok (.enter 130 a) w := cut_callFunc rfl Tryz.func130 rfl rfl a w
@[simp] theorem SqN.func131 : SqN.prog.funcs[131]? = some Tryz.f131 := cut_same rfl Tryz.func131
abbrev SqN.ntmps131:=Tryz.ntmps131
@[simp] theorem SqN.call131 (a : Array Value) (w : World) : (callFunc 131 a).run SqN.prog w = .ok (.enter 131 a) w := cut_callFunc rfl Tryz.func131 rfl rfl a w
@[simp] theorem SqN.func132 : SqN.prog.funcs[132]? = some Tryz.f132 := cut_same rfl Tryz.func132
abbrev SqN.ntmps132:=Tryz.ntmps132
@[simp] theorem SqN.call132 (a : Array Value) (w : World) : (callFunc 132 a).run SqN.prog w = .ok (.enter 132 a) w := cut_callFunc rfl Tryz.func132 rfl rfl a w
@[simp] theorem SqN.func133 : SqN.prog.funcs[133]? = some Tryz.f133 := cut_same rfl Tryz.func133
abbrev SqN.ntmps133:=Tryz.ntmps133
abbrev SqN.results133:=Tryz.results133
@[simp] theorem SqN.call133 (a : Array Value) (w : World) : (callFunc 133 a).run SqN.prog w = .ok (.enter 133 a) w := cut_callFunc rfl Tryz.func133 rfl rfl a w
@[simp] theorem SqN.func134 : SqN.prog.funcs[134]? = some Tryz.f134 := cut_same rfl Tryz.func134
abbrev SqN.ntmps134:=Tryz.ntmps134
@[simp] theorem SqN.call134 (a : Array Value) (w : World) : (callFunc 134 a).run SqN.prog w = .ok (.enter 134 a) w := cut_callFunc rfl Tryz.func134 rfl rfl a w
@[simp] theorem SqN.func135 : SqN.prog.funcs[135]? = some Tryz.f135 := cut_same rfl Tryz.func135
abbrev SqN.ntmps135:=Tryz.ntmps135
@[simp] theorem SqN.call135 (a : Array Value) (w : World) : (callFunc 135 a).run SqN.prog w = .ok (.enter 135 a) w := cut_callFunc rfl Tryz.func135 rfl rfl a w
@[simp] theorem SqN.func136 : SqN.prog.funcs[136]? = some Tryz.f136 := cut_same rfl Tryz.func136
abbrev SqN.ntmps136:=Tryz.ntmps136
@[simp] theorem SqN.call136 (a : Array Value) (w : World) : (callFunc 136 a).run SqN.prog w = .ok (.enter 136 a) w := cut_callFunc rfl Tryz.func136 rfl rfl a w
@[simp] theorem SqN.func137 : SqN.prog.funcs[137]? = some Tryz.f137 := cut_same rfl Tryz.func137
abbrev SqN.ntmps137:=Tryz.ntmps137
@[simp] theorem SqN.call137 (a : Array Value) (w : World) : (callFunc 137 a).run SqN.prog w = .ok (.enter 137 a) w := cut_callFunc rfl Tryz.func137 rfl rfl a w
@[simp] theorem SqN.func138 : SqN.prog.funcs[138]? = some Tryz.f138 := cut_same rfl Tryz.func138
abbrev SqN.ntmps138:=Tryz.ntmps138
abbrev SqN.results138:=Tryz.results138
@[simp] theorem SqN.call138 (a : Array Value) (w : World) : (callFunc 138 a).run SqN.prog w = .ok (.enter 138 a) w := cut_callFunc rfl Tryz.func138 rfl rfl a w
@[simp] theorem SqN.func139 : SqN.prog.funcs[139]? = some Tryz.f139 := cut_same rfl Tryz.func139
abbrev SqN.ntmps139:=Tryz.ntmps139
abbrev SqN.results139:=Tryz.results139
@[simp] theorem SqN.call139 (a : Array Value) (w : World) : (callFunc 139 a).run SqN.prog w = .ok (.enter 139 a) w := cut_callFunc rfl Tryz.func139 rfl rfl a w
@[simp] theorem SqN.func140 : SqN.prog.funcs[140]? = some Tryz.f140 := cut_same rfl Tryz.func140
abbrev SqN.ntmps140:=Tryz.ntmps140
abbrev SqN.results140:=Tryz.results140
@[simp] theorem SqN.call140 (a : Array Value) (w : World) : (callFunc 140 a).run SqN.prog w = .ok (.enter 140 a) w := cut_callFunc rfl Tryz.func140 rfl rfl a w
@[simp] theorem SqN.func141 : SqN.prog.funcs[141]? = some Tryz.f141 := cut_same rfl Tryz.func141
abbrev SqN.ntmps141:=Tryz.ntmps141
abbrev SqN.results141:=Tryz.results141
@[simp] theorem SqN.call141 (a : Array Value) (w : World) : (callFunc 141 a).run SqN.prog w = .ok (.enter 141 a) w := cut_callFunc rfl Tryz.func141 rfl rfl a w
@[simp] theorem SqN.func142 : SqN.prog.funcs[142]? = some Tryz.f142 := cut_same rfl Tryz.func142
abbrev SqN.ntmps142:=Tryz.ntmps142
@[simp] theorem SqN.call142 (a : Array Value) (w : World) : (callFunc 142 a).run SqN.prog w = .ok (.enter 142 a) w := cut_callFunc rfl Tryz.func142 rfl rfl a w
@[simp] theorem SqN.func158 : SqN.prog.funcs[158]? = some Tryz.f158 := cut_same rfl Tryz.func158
abbrev SqN.ntmps158:=Tryz.ntmps158
@[simp] theorem SqN.call158 (a : Array Value) (w : World) : (callFunc 158 a).run SqN.prog w = .ok (.enter 158 a) w := cut_callFunc rfl Tryz.func158 rfl rfl a w
@[simp] theorem SqN.func166 : SqN.prog.funcs[166]? = some Tryz.f166 := cut_same rfl Tryz.func166
abbrev SqN.ntmps166:=Tryz.ntmps166
@[simp] theorem SqN.call166 (a : Array Value) (w : World) : (callFunc 166 a).run SqN.prog w = .ok (.enter 166 a) w := cut_callFunc rfl Tryz.func166 rfl rfl a w
end
end Go.Proofs.YtdhopelplokehaaGreat
