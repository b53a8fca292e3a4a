/- Of the proof: SqP -/
import Derived.Below
import Derived.Test.YtdhopelplokehaaGreatDAa
namespace Go.Proofs.YtdhopelplokehaaGreat
section
open Go
noncomputable def SqP.prog:Program:=cutProg Tryz.prog Sq.off Sq.altP
@[simp] theorem SqP.tabs : SqP.prog.toTables = Tryz.prog.toTables := cut_tabs
@[simp] theorem SqP.underlying (n : TypeId) : SqP.prog.underlying n = Tryz.prog.underlying n := cut_underlying n
@[simp] theorem SqP.typeInfo (n : TypeId) (w : World) : (Go.typeInfo n).run SqP.prog w = (Go.typeInfo n).run Tryz.prog w := cut_typeInfo n w
@[simp] theorem SqP.sizeOf (n : TypeId) (w : World) : (Go.sizeOf n).run SqP.prog w = (Go.sizeOf n).run Tryz.prog w := cut_sizeOf n w
@[simp] theorem SqP.runUnderlying (n : TypeId) (w : World) : (Go.underlying n).run SqP.prog w = (Go.underlying n).run Tryz.prog w := cut_runUnderlying n w
@[simp] theorem SqP.zeroValue (n : TypeId) (w : World) : (Go.zeroValue n).run SqP.prog w = (Go.zeroValue n).run Tryz.prog w := cut_zeroValue n w
@[simp] theorem SqP.isAgg (n : TypeId) (w : World) : (Go.isAgg n).run SqP.prog w = (Go.isAgg n).run Tryz.prog w := cut_isAgg n w
@[simp] theorem SqP.depth : SqP.prog.depth = Tryz.prog.depth := tab_depth _ _ _
@[simp] theorem SqP.eqGuardType (n : TypeId) : SqP.prog.eqGuardType Tryz.prog.depth n = Tryz.prog.eqGuardType Tryz.prog.depth n := tab_eqg _ _ _ _ n
@[simp] theorem SqP.stoodInHeld (n : TypeId) : SqP.prog.stoodInHeld n = Tryz.prog.stoodInHeld n := tab_stood _ _ _ n
abbrev SqP.underlying3:=(SqP.underlying 3).trans Tryz.underlying3
abbrev SqP.underlying4:=(SqP.underlying 4).trans Tryz.underlying4
abbrev SqP.underlying5:=(SqP.underlying 5).trans Tryz.underlying5
abbrev SqP.underlying9:=(SqP.underlying 9).trans Tryz.underlying9
abbrev SqP.underlying22:=(SqP.underlying 22).trans Tryz.underlying22
abbrev SqP.underlying23:=(SqP.underlying 23).trans Tryz.underlying23
abbrev SqP.underlying27:=(SqP.underlying 27).trans Tryz.underlying27
abbrev SqP.underlying34:=(SqP.underlying 34).trans Tryz.underlying34
abbrev SqP.underlying55:=(SqP.underlying 55).trans Tryz.underlying55
abbrev SqP.underlying56:=(SqP.underlying 56).trans Tryz.underlying56
abbrev SqP.underlying57:=(SqP.underlying 57).trans Tryz.underlying57
abbrev SqP.underlying84:=(SqP.underlying 84).trans Tryz.underlying84
abbrev SqP.underlying89:=(SqP.underlying 89).trans Tryz.underlying89
abbrev SqP.underlying91:=(SqP.underlying 91).trans Tryz.underlying91
abbrev SqP.underlying92:=(SqP.underlying 92).trans Tryz.underlying92
abbrev SqP.underlying94:=(SqP.underlying 94).trans Tryz.underlying94
abbrev SqP.underlying116:=(SqP.underlying 116).trans Tryz.underlying116
abbrev SqP.underlying126:=(SqP.underlying 126).trans Tryz.underlying126
abbrev SqP.underlying128:=(SqP.underlying 128).trans Tryz.underlying128
abbrev SqP.underlying130:=(SqP.underlying 130).trans Tryz.underlying130
abbrev SqP.underlying134:=(SqP.underlying 134).trans Tryz.underlying134
abbrev SqP.underlying135:=(SqP.underlying 135).trans Tryz.underlying135
abbrev SqP.underlying174:=(SqP.underlying 174).trans Tryz.underlying174
abbrev SqP.underlying176:=(SqP.underlying 176).trans Tryz.underlying176
abbrev SqP.underlying184:=(SqP.underlying 184).trans Tryz.underlying184
@[simp] theorem SqP.func5 : SqP.prog.funcs[5]? = some Tryz.f5 := cut_same rfl Tryz.func5
abbrev SqP.ntmps5:=Tryz.ntmps5
theorem SqP.func12:SqP.prog.funcs[12]?=some (picAlt Tryz.f12):=cut_alt0 rfl Tryz.func12
theorem SqP.ntmps12:(picAlt Tryz.f12).ntmps=22:=rfl
theorem SqP.body12:(picAlt Tryz.f12).body=some (ckAll picRest):=rfl
theorem SqP.results12:(picAlt Tryz.f12).results=Tryz.f12.results:=rfl
@[simp] theorem SqP.call12 (a : Array Value) (w : World) : (callFunc 12 a).run SqP.prog w = .ok (.enter 12 a) w := cut_callAlt rfl Tryz.func12 rfl rfl a w
@[simp] theorem SqP.func13 : SqP.prog.funcs[13]? = some Tryz.f13 := cut_same rfl Tryz.func13
abbrev SqP.ntmps13:=Tryz.ntmps13
@[simp] theorem SqP.call13 (a : Array Value) (w : World) : (callFunc 13 a).run SqP.prog w = .ok (.enter 13 a) w := cut_callFunc rfl Tryz.func13 rfl rfl a w
@[simp] theorem SqP.func14 : SqP.prog.funcs[14]? = some Tryz.f14 := cut_same rfl Tryz.func14
abbrev SqP.ntmps14:=Tryz.ntmps14
@[simp] theorem SqP.call14 (a : Array Value) (w : World) : (callFunc 14 a).run SqP.prog w = .ok (.enter 14 a) w := cut_callFunc rfl Tryz.func14 rfl rfl a w
@[simp] theorem SqP.func15 : SqP.prog.funcs[15]? = some Tryz.f15 := cut_same rfl Tryz.func15
abbrev SqP.ntmps15:=Tryz.ntmps15
@[simp] theorem SqP.func16 : SqP.prog.funcs[16]? = some Tryz.f16 := cut_same rfl Tryz.func16
abbrev SqP.ntmps16:=Tryz.ntmps16
@[simp] theorem SqP.call16 (a : Array Value) (w : World) : (callFunc 16 a).run SqP.prog w = .ok (.enter 16 a) w := cut_callFunc rfl Tryz.func16 rfl rfl a w
@[simp] theorem SqP.func21 : SqP.prog.funcs[21]? = some Tryz.f21 := cut_same rfl Tryz.func21
abbrev SqP.ntmps21:=Tryz.ntmps21
abbrev SqP.results21:=Tryz.results21
@[simp] theorem SqP.call21 (a : Array Value) (w : World) : (callFunc 21 a).run SqP.prog w = .ok (.enter 21 a) w := cut_callFunc rfl Tryz.func21 rfl rfl a w
theorem SqP.func22:SqP.prog.funcs[22]?=some (toAlt Tryz.f22):=cut_alt0 rfl Tryz.func22
theorem SqP.ntmps22:(toAlt Tryz.f22).ntmps=22:=rfl
theorem SqP.body22:(toAlt Tryz.f22).body=some (ckAll toRest):=rfl
theorem SqP.results22:(toAlt Tryz.f22).results=Tryz.f22.results:=rfl
@[simp] theorem SqP.call22 (a : Array Value) (w : World) : (callFunc 22 a).run SqP.prog w = .ok (.enter 22 a) w := cut_callAlt rfl Tryz.func22 rfl rfl a w
@[simp] theorem SqP.func23 : SqP.prog.funcs[23]? = some Tryz.f23 := cut_same rfl Tryz.func23
abbrev SqP.ntmps23:=Tryz.ntmps23
@[simp] theorem SqP.call23 (a : Array Value) (w : World) : (callFunc 23 a).run SqP.prog w = .ok (.enter 23 a) w := cut_callFunc rfl Tryz.func23 rfl rfl a w
@[simp] theorem SqP.func24 : SqP.prog.funcs[24]? = some Tryz.f24 := cut_same rfl Tryz.func24
abbrev SqP.ntmps24:=Tryz.ntmps24
@[simp] theorem SqP.call24 (a : Array Value) (w : World) : (callFunc 24 a).run SqP.prog w = .ok (.enter 24 a) w := cut_callFunc rfl Tryz.func24 rfl rfl a w
@[simp] theorem SqP.func26 : SqP.prog.funcs[26]? = some Tryz.f26 := cut_same rfl Tryz.func26
abbrev SqP.ntmps26:=Tryz.ntmps26
@[simp] theorem SqP.call26 (a : Array Value) (w : World) : (callFunc 26 a).run SqP.prog w = .ok (.enter 26 a) w := cut_callFunc rfl Tryz.func26 rfl rfl a w
@[simp] theorem SqP.func37 : SqP.prog.funcs[37]? = some Tryz.f37 := cut_same rfl Tryz.func37
abbrev SqP.ntmps37:=Tryz.ntmps37
abbrev SqP.results37:=Tryz.results37
@[simp] theorem SqP.call37 (a : Array Value) (w : World) : (callFunc 37 a).run SqP.prog w = .ok (.enter 37 a) w := cut_callFunc rfl Tryz.func37 rfl rfl a w
@[simp] theorem SqP.func38 : SqP.prog.funcs[38]? = some Tryz.f38 := cut_same rfl Tryz.func38
abbrev SqP.ntmps38:=Tryz.ntmps38
@[simp] theorem SqP.call38 (a : Array Value) (w : World) : (callFunc 38 a).run SqP.prog w = .ok (.enter 38 a) w := cut_callFunc rfl Tryz.func38 rfl rfl a w
@[simp] theorem SqP.func40 : SqP.prog.funcs[40]? = some Tryz.f40 := cut_same rfl Tryz.func40
abbrev SqP.ntmps40:=Tryz.ntmps40
@[simp] theorem SqP.call40 (a : Array Value) (w : World) : (callFunc 40 a).run SqP.prog w = .ok (.enter 40 a) w := cut_callFunc rfl Tryz.func40 rfl rfl a w
@[simp] theorem SqP.func41 : SqP.prog.funcs[41]? = some Tryz.f41 := cut_same rfl Tryz.func41
abbrev SqP.ntmps41:=Tryz.ntmps41
abbrev SqP.results41:=Tryz.results41
@[simp] theorem SqP.call41 (a : Array Value) (w : World) : (callFunc 41 a).run SqP.prog w = .ok (.enter 41 a) w := cut_callFunc rfl Tryz.func41 rfl rfl a w
@[simp] theorem SqP.func42 : SqP.prog.funcs[42]? = some Tryz.f42 := cut_same rfl Tryz.func42
abbrev SqP.ntmps42:=Tryz.ntmps42
@[simp] theorem SqP.call42 (a : Array Value) (w : World) : (callFunc 42 a).run SqP.prog w = .ok (.enter 42 a) w := cut_callFunc rfl Tryz.func42 rfl rfl a w
@[simp] theorem SqP.func43 : SqP.prog.funcs[43]? = some Tryz.f43 := cut_same rfl Tryz.func43
abbrev SqP.ntmps43:=Tryz.ntmps43
@[simp] theorem SqP.call43 (a : Array Value) (w : World) : (callFunc 43 a).run SqP.prog w = .ok (.enter 43 a) w := cut_callFunc rfl Tryz.func43 rfl rfl a w
@[simp] theorem SqP.func44 : SqP.prog.funcs[44]? = some Tryz.f44 := cut_same rfl Tryz.func44
abbrev SqP.ntmps44:=Tryz.ntmps44
@[simp] theorem SqP.call44 (a : Array Value) (w : World) : (callFunc 44 a).run SqP.prog w = .ok (.enter 44 a) w := cut_callFunc rfl Tryz.func44 rfl rfl a w
@[simp] theorem SqP.func45 : SqP.prog.funcs[45]? = some Tryz.f45 := cut_same rfl Tryz.func45
abbrev SqP.ntmps45:=Tryz.ntmps45
@[simp] theorem SqP.call45 (a : Array Value) (w : World) : (callFunc 45 a).run SqP.prog w = .ok (.enter 45 a) w := cut_callFunc rfl Tryz.func45 rfl rfl a w
@[simp] theorem SqP.func49 : SqP.prog.funcs[49]? = some Tryz.f49 := cut_same rfl Tryz.func49
abbrev SqP.ntmps49:=Tryz.ntmps49
@[simp] theorem SqP.func50 : SqP.prog.funcs[50]? = some Tryz.f50 := cut_same rfl Tryz.func50
abbrev SqP.ntmps50:=Tryz.ntmps50
@[simp] theorem SqP.call50 (a : Array Value) (w : World) : (callFunc 50 a).run SqP.prog w = .ok (.enter 50 a) w := cut_callFunc rfl Tryz.func50 rfl rfl a w
@[simp] theorem SqP.func51 : SqP.prog.funcs[51]? = some Tryz.f51 := cut_same rfl Tryz.func51
abbrev SqP.ntmps51:=Tryz.ntmps51
@[simp] theorem SqP.call51 (a : Array Value) (w : World) : (callFunc 51 a).run SqP.prog w = .ok (.enter 51 a) w := cut_callFunc rfl Tryz.func51 rfl rfl a w
@[simp] theorem SqP.func52 : SqP.prog.funcs[52]? = some Tryz.f52 := cut_same rfl Tryz.func52
abbrev SqP.ntmps52:=Tryz.ntmps52
@[simp] theorem SqP.call52 (a : Array Value) (w : World) : (callFunc 52 a).run SqP.prog w = .ok (.enter 52 a) w := cut_callFunc rfl Tryz.func52 rfl rfl a w
@[simp] theorem SqP.func53 : SqP.prog.funcs[53]? = some Tryz.f53 := cut_same rfl Tryz.func53
abbrev SqP.ntmps53:=Tryz.ntmps53
@[simp] theorem SqP.call53 (a : Array Value) (w : World) : (callFunc 53 a).run SqP.prog w = .ok (.enter 53 a) w := cut_callFunc rfl Tryz.func53 rfl rfl a w
@[simp] theorem SqP.func58 : SqP.prog.funcs[58]? = some Tryz.f58 := cut_same rfl Tryz.func58
abbrev SqP.ntmps58:=Tryz.ntmps58
abbrev SqP.results58:=Tryz.results58
@[simp] theorem SqP.call58 (a : Array Value) (w : World) : (callFunc 58 a).run SqP.prog w = .ok (.enter 58 a) w := cut_callFunc rfl Tryz.func58 rfl rfl a w
@[simp] theorem SqP.func59 : SqP.prog.funcs[59]? = some Tryz.f59 := cut_same rfl Tryz.func59
abbrev SqP.ntmps59:=Tryz.ntmps59
@[simp] theorem SqP.call59 (a : Array Value) (w : World) : (callFunc 59 a).run SqP.prog w = .ok (.enter 59 a) w := cut_callFunc rfl Tryz.func59 rfl rfl a w
@[simp] theorem SqP.func60 : SqP.prog.funcs[60]? = some Tryz.f60 := cut_same rfl Tryz.func60
abbrev SqP.ntmps60:=Tryz.ntmps60
abbrev SqP.results60:=Tryz.results60
@[simp] theorem SqP.call60 (a : Array Value) (w : World) : (callFunc 60 a).run SqP.prog w = .ok (.enter 60 a) w := cut_callFunc rfl Tryz.func60 rfl rfl a w
@[simp] theorem SqP.func66 : SqP.prog.funcs[66]? = some Tryz.f66 := cut_same rfl Tryz.func66
abbrev SqP.ntmps66:=Tryz.ntmps66
@[simp] theorem SqP.call66 (a : Array Value) (w : World) : (callFunc 66 a).run SqP.prog w = .ok (.enter 66 a) w := cut_callFunc rfl Tryz.func66 rfl rfl a w
@[simp] theorem SqP.func67 : SqP.prog.funcs[67]? = some Tryz.f67 := cut_same rfl Tryz.func67
abbrev SqP.ntmps67:=Tryz.ntmps67
abbrev SqP.results67:=Tryz.results67
@[simp] theorem SqP.call67 (a : Array Value) (w : World) : (callFunc 67 a).run SqP.prog w = .ok (.enter 67 a) w := cut_callFunc rfl Tryz.func67 rfl rfl a w
@[simp] theorem SqP.func68 : SqP.prog.funcs[68]? = some Tryz.f68 := cut_same rfl Tryz.func68
abbrev SqP.ntmps68:=Tryz.ntmps68
abbrev SqP.results68:=Tryz.results68
@[simp] theorem SqP.call68 (a : Array Value) (w : World) : (callFunc 68 a).run SqP.prog w = .ok (.enter 68 a) w := cut_callFunc rfl Tryz.func68 rfl rfl a w
@[simp] theorem SqP.func69 : SqP.prog.funcs[69]? = some Tryz.f69 := cut_same rfl Tryz.func69
abbrev SqP.ntmps69:=Tryz.ntmps69
abbrev SqP.results69:=Tryz.results69
@[simp] theorem SqP.call69 (a : Array Value) (w : World) : (callFunc 69 a).run SqP.prog w = .ok (.enter 69 a) w := cut_callFunc rfl Tryz.func69 rfl rfl a w
@[simp] theorem SqP.func70 : SqP.prog.funcs[70]? = some Tryz.f70 := cut_same rfl Tryz.func70
abbrev SqP.ntmps70:=Tryz.ntmps70
@[simp] theorem SqP.call70 (a : Array Value) (w : World) : (callFunc 70 a).run SqP.prog w = .ok (.enter 70 a) w := cut_callFunc rfl Tryz.func70 rfl rfl a w
@[simp] theorem SqP.func71 : SqP.prog.funcs[71]? = some Tryz.f71 := cut_same rfl Tryz.func71
abbrev SqP.ntmps71:=Tryz.ntmps71
@[simp] theorem SqP.call71 (a : Array Value) (w : World) : (callFunc 71 a).run SqP.prog w = .ok (.enter 71 a) w := cut_callFunc rfl Tryz.func71 rfl rfl a w
@[simp] theorem SqP.func75 : SqP.prog.funcs[75]? = some Tryz.f75 := cut_same rfl Tryz.func75
abbrev SqP.ntmps75:=Tryz.ntmps75
@[simp] theorem SqP.call75 (a : Array Value) (w : World) : (callFunc 75 a).run SqP.prog w = .ok (.enter 75 a) w := cut_callFunc rfl Tryz.func75 rfl rfl a w
@[simp] theorem SqP.func76 : SqP.prog.funcs[76]? = some Tryz.f76 := cut_same rfl Tryz.func76
abbrev SqP.ntmps76:=Tryz.ntmps76
abbrev SqP.results76:=Tryz.results76
@[simp] theorem SqP.call76 (a : Array Value) (w : World) : (callFunc 76 a).run SqP.prog w = .ok (.enter 76 a) w := cut_callFunc rfl Tryz.func76 rfl rfl a w
@[simp] theorem SqP.func77 : SqP.prog.funcs[77]? = some Tryz.f77 := cut_same rfl Tryz.func77
abbrev SqP.ntmps77:=Tryz.ntmps77
abbrev SqP.results77:=Tryz.results77
@[simp] theorem SqP.call77 (a : Array Value) (w : World) : (callFunc 77 a).run SqP.prog w = .ok (.enter 77 a) w := cut_callFunc rfl Tryz.func77 rfl rfl a w
@[simp] theorem SqP.func80 : SqP.prog.funcs[80]? = some Tryz.f80 := cut_same rfl Tryz.func80
abbrev SqP.ntmps80:=Tryz.ntmps80
abbrev SqP.results80:=Tryz.results80
@[simp] theorem SqP.call80 (a : Array Value) (w : World) : (callFunc 80 a).run SqP.prog w = .ok (.enter 80 a) w := cut_callFunc rfl Tryz.func80 rfl rfl a w
@[simp] theorem SqP.func81 : SqP.prog.funcs[81]? = some Tryz.f81 := cut_same rfl Tryz.func81
abbrev SqP.ntmps81:=Tryz.ntmps81
abbrev SqP.results81:=Tryz.results81
@[simp] theorem SqP.call81 (a : Array Value) (w : World) : (callFunc 81 a).run SqP.prog w = .ok (.enter 81 a) w := cut_callFunc rfl Tryz.func81 rfl rfl a w
@[simp] theorem SqP.func95 : SqP.prog.funcs[95]? = some Tryz.f95 := cut_same rfl Tryz.func95
abbrev SqP.ntmps95:=Tryz.ntmps95
@[simp] theorem SqP.call95 (a : Array Value) (w : World) : (callFunc 95 a).run SqP.prog w = .ok (.enter 95 a) w := cut_callFunc rfl Tryz.func95 rfl rfl a w
@[simp] theorem SqP.func101 : SqP.prog.funcs[101]? = some Tryz.f101 := cut_same rfl Tryz.func101
abbrev SqP.ntmps101:=Tryz.ntmps101
abbrev SqP.results101:=Tryz.results101
@[simp] theorem SqP.call101 (a : Array Value) (w : World) : (callFunc 101 a).run SqP.prog w = .ok (.enter 101 a) w := cut_callFunc rfl Tryz.func101 rfl rfl a w
@[simp] theorem SqP.func102 : SqP.prog.funcs[102]? = some Tryz.f102 := cut_same rfl Tryz.func102
abbrev SqP.ntmps102:=Tryz.ntmps102
abbrev SqP.results102:=Tryz.results102
@[simp] theorem SqP.call102 (a : Array Value) (w : World) : (callFunc 102 a).run SqP.prog w = .ok (.enter 102 a) w := cut_callFunc rfl Tryz.func102 rfl rfl a w
@[simp] theorem SqP.func103 : SqP.prog.funcs[103]? = some Tryz.f103 := cut_same rfl Tryz.func103
abbrev SqP.ntmps103:=Tryz.ntmps103
abbrev SqP.results103:=Tryz.results103
@[simp] theorem SqP.call103 (a : Array Value) (w : World) : (callFunc 103 a).run SqP.prog w = .ok (.enter 103 a) w := cut_callFunc rfl Tryz.func103 rfl rfl a w
@[simp] theorem SqP.func104 : SqP.prog.funcs[104]? = some Tryz.f104 := cut_same rfl Tryz.func104
abbrev SqP.ntmps104:=Tryz.ntmps104
abbrev SqP.results104:=Tryz.results104
@[simp] theorem SqP.call104 (a : Array Value) (w : World) : (callFunc 104 a).run SqP.prog w = .ok (.enter 104 a) w := cut_callFunc rfl Tryz.func104 rfl rfl a w
@[simp] theorem SqP.func105 : SqP.prog.funcs[105]? = some Tryz.f105 := cut_same rfl Tryz.func105
abbrev SqP.ntmps105:=Tryz.ntmps105
abbrev SqP.results105:=Tryz.results105
@[simp] theorem SqP.call105 (a : Array Value) (w : World) : (callFunc 105 a).run SqP.prog w = .ok (.enter 105 a) w := cut_callFunc rfl Tryz.func105 rfl rfl a w
@[simp] theorem SqP.func106 : SqP.prog.funcs[106]? = some Tryz.f106 := cut_same rfl Tryz.func106
abbrev SqP.ntmps106:=Tryz.ntmps106
abbrev SqP.results106:=Tryz.results106
@[simp] theorem SqP.call106 (a : Array Value) (w : World) : (callFunc 106 a).run SqP.prog w = .ok (.enter 106 a) w := cut_callFunc rfl Tryz.func106 rfl rfl a w
@[simp] theorem SqP.func107 : SqP.prog.funcs[107]? = some Tryz.f107 := cut_same rfl Tryz.func107
abbrev SqP.ntmps107:=Tryz.ntmps107
@[simp] theorem SqP.call107 (a : Array Value) (w : World) : (callFunc 107 a).run SqP.prog w = .ok (.enter 107 a) w := cut_callFunc rfl Tryz.func107 rfl rfl a w
@[simp] theorem SqP.func108 : SqP.prog.funcs[108]? = some Tryz.f108 := cut_same rfl Tryz.func108
abbrev SqP.ntmps108:=Tryz.ntmps108
abbrev SqP.results108:=Tryz.results108
@[simp] theorem SqP.call108 (a : Array Value) (w : World) : (callFunc 108 a).run SqP.prog w = .ok (.enter 108 a) w := cut_callFunc rfl Tryz.func108 rfl rfl a w
@[simp] theorem SqP.func109 : SqP.prog.funcs[109]? = some Tryz.f109 := cut_same rfl Tryz.func109
abbrev SqP.ntmps109:=Tryz.ntmps109
@[simp] theorem SqP.call109 (a : Array Value) (w : World) : (callFunc 109 a).run SqP.prog w = .ok (.enter 109 a) w := cut_callFunc rfl Tryz.func109 rfl rfl a w
@[simp] theorem SqP.func110 : SqP.prog.funcs[110]? = some Tryz.f110 := cut_same rfl Tryz.func110
abbrev SqP.ntmps110:=Tryz.ntmps110
abbrev SqP.results110:=Tryz.results110
@[simp] theorem SqP.call110 (a : Array Value) (w : World) : (callFunc 110 a).run SqP.prog w = .ok (.enter 110 a) w := cut_callFunc rfl Tryz.func110 rfl rfl a w
@[simp] theorem SqP.func111 : SqP.prog.funcs[111]? = some Tryz.f111 := cut_same rfl Tryz.func111
abbrev SqP.ntmps111:=Tryz.ntmps111
abbrev SqP.results111:=Tryz.results111
@[simp] theorem SqP.call111 (a : Array Value) (w : World) : (callFunc 111 a).run SqP.prog w = .ok (.enter 111 a) w := cut_callFunc rfl Tryz.func111 rfl rfl a w
@[simp] theorem SqP.func112 : SqP.prog.funcs[112]? = some Tryz.f112 := cut_same rfl Tryz.func112
abbrev SqP.ntmps112:=Tryz.ntmps112
@[simp] theorem SqP.call112 (a : Array Value) (w : World) : (callFunc 112 a).run SqP.prog w = .ok (.enter 112 a) w := cut_callFunc rfl Tryz.func112 rfl rfl a w
@[simp] theorem SqP.func113 : SqP.prog.funcs[113]? = some Tryz.f113 := cut_same rfl Tryz.func113
abbrev SqP.ntmps113:=Tryz.ntmps113
abbrev SqP.results113:=Tryz.results113
@[simp] theorem SqP.call113 (a : Array Value) (w : World) : (callFunc 113 a).run SqP.prog w = .ok (.enter 113 a) w := cut_callFunc rfl Tryz.func113 rfl rfl a w
@[simp] theorem SqP.func114 : SqP.prog.funcs[114]? = some Tryz.f114 := cut_same rfl Tryz.func114
abbrev SqP.ntmps114:=Tryz.ntmps114
abbrev SqP.results114:=Tryz.results114
@[simp] theorem SqP.func120 : SqP.prog.funcs[120]? = some Tryz.f120 := cut_same rfl Tryz.func120
abbrev SqP.ntmps120:=Tryz.ntmps120
abbrev SqP.results120:=Tryz.results120
@[simp] theorem SqP.func121 : SqP.prog.funcs[121]? = some Tryz.f121 := cut_same rfl Tryz.func121
abbrev SqP.ntmps121:=Tryz.ntmps121
abbrev SqP.results121:=Tryz.results121
@[simp] theorem SqP.func122 : SqP.prog.funcs[122]? = some Tryz.f122 := cut_same rfl Tryz.func122
abbrev SqP.ntmps122:=Tryz.ntmps122
abbrev SqP.results122:=Tryz.results122
@[simp] theorem SqP.func123 : SqP.prog.funcs[123]? = some Tryz.f123 := cut_same rfl Tryz.func123
abbrev SqP.ntmps123:=Tryz.ntmps123
abbrev SqP.results123:=Tryz.results123
@[simp] theorem SqP.func124 : SqP.prog.funcs[124]? = some Tryz.f124 := cut_same rfl Tryz.func124
abbrev SqP.ntmps124:=Tryz.ntmps124
abbrev SqP.results124:=Tryz.results124
@[simp] theorem SqP.func125 : SqP.prog.funcs[125]? = some Tryz.f125 := cut_same rfl Tryz.func125
abbrev SqP.ntmps125:=Tryz.ntmps125
abbrev SqP.results125:=Tryz.results125
@[simp] theorem SqP.func126 : SqP.prog.funcs[126]? = some Tryz.f126 := cut_same rfl Tryz.func126
abbrev SqP.ntmps126:=Tryz.ntmps126
@[simp] theorem SqP.call126 (a : Array Value) (w : World) : (callFunc 126 a).run SqP.prog w = .ok (.enter 126 a) w := cut_callFunc rfl Tryz.func126 rfl rfl a w
@[simp] theorem SqP.func127 : SqP.prog.funcs[127]? = some Tryz.f127 := cut_same rfl Tryz.func127
abbrev SqP.ntmps127:=Tryz.ntmps127
@[simp] theorem SqP.call127 (a : Array Value) (w : World) : (callFunc 127 a).run SqP.prog w = .ok (.enter 127 a) w := cut_callFunc rfl Tryz.func127 rfl rfl a w
@[simp] theorem SqP.func128 : SqP.prog.funcs[128]? = some Tryz.f128 := cut_same rfl Tryz.func128
abbrev SqP.ntmps128:=Tryz.ntmps128
@[simp] theorem SqP.call128 (a : Array Value) (w : World) : (callFunc 128 a).run SqP.prog w = .ok (.enter 128 a) w := cut_callFunc rfl Tryz.func128 rfl rfl a w
@[simp] theorem SqP.func129 : SqP.prog.funcs[129]? = some Tryz.f129 := cut_same rfl Tryz.func129
abbrev SqP.ntmps129:=Tryz.ntmps129
abbrev SqP.results129:=Tryz.results129
@[simp] theorem SqP.call129 (a : Array Value) (w : World) : (callFunc 129 a).run SqP.prog w = .ok (.enter 129 a) w := cut_callFunc rfl Tryz.func129 rfl rfl a w
@[simp] theorem SqP.func130 : SqP.prog.funcs[130]? = some Tryz.f130 := cut_same rfl Tryz.func130
abbrev SqP.ntmps130:=Tryz.ntmps130
@[simp] theorem SqP.call130 (a : Array Value) (w : World) : (callFunc 130 a).run SqP.prog w = .ok (.enter 130 a) w := cut_callFunc rfl Tryz.func130 rfl rfl a w
@[simp] theorem SqP.func131 : SqP.prog.funcs[131]? = some Tryz.f131 := cut_same rfl Tryz.func131
abbrev SqP.ntmps131:=Tryz.ntmps131
@[simp] theorem SqP.call131 (a : Array Value) (w : World) : (callFunc 131 a).run SqP.prog w = .ok (.enter 131 a) w := cut_callFunc rfl Tryz.func131 rfl rfl a w
@[simp] theorem SqP.func132 : SqP.prog.funcs[132]? = some Tryz.f132 := cut_same rfl Tryz.func132
abbrev SqP.ntmps132:=Tryz.ntmps132
@[simp] theorem SqP.call132 (a : Array Value) (w : World) : (callFunc 132 a).run SqP.prog w = .ok (.enter 132 a) w := cut_callFunc rfl Tryz.func132 rfl rfl a w
@[simp] theorem SqP.func133 : SqP.prog.funcs[133]? = some Tryz.f133 := cut_same rfl Tryz.func133
abbrev SqP.ntmps133:=Tryz.ntmps133
abbrev SqP.results133:=Tryz.results133
@[simp] theorem SqP.call133 (a : Array Value) (w : World) : (callFunc 133 a).run SqP.prog w = .ok (.enter 133 a) w := cut_callFunc rfl Tryz.func133 rfl rfl a w
@[simp] theorem SqP.func134 : SqP.prog.funcs[134]? = some Tryz.f134 := cut_same rfl Tryz.func134
abbrev SqP.ntmps134:=Tryz.ntmps134
@[simp] theorem SqP.call134 (a : Array Value) (w : World) : (callFunc 134 a).run SqP.prog w = .ok (.enter 134 a) w := cut_callFunc rfl Tryz.func134 rfl rfl a w
@[simp] theorem SqP.func135 : SqP.prog.funcs[135]? = some Tryz.f135 := cut_same rfl Tryz.func135
abbrev SqP.ntmps135:=Tryz.ntmps135
@[simp] theorem SqP.call135 (a : Array Value) (w : World) : (callFunc 135 a).run SqP.prog w = .ok (.enter 135 a) w := cut_callFunc rfl Tryz.func135 rfl rfl a w
@[simp] theorem SqP.func136 : SqP.prog.funcs[136]? = some Tryz.f136 := cut_same rfl Tryz.func136
abbrev SqP.ntmps136:=Tryz.ntmps136
@[simp] theorem SqP.call136 (a : Array Value) (w : World) : (callFunc 136 a).run SqP.prog w = .ok (.enter 136 a) w := cut_callFunc rfl Tryz.func136 rfl rfl a w
@[simp] theorem SqP.func137 : SqP.prog.funcs[137]? = some Tryz.f137 := cut_same rfl Tryz.func137
abbrev SqP.ntmps137:=Tryz.ntmps137
@[simp] theorem SqP.call137 (a : Array Value) (w : World) : (callFunc 137 a).run SqP.prog w = .ok (.enter 137 a) w := cut_callFunc rfl Tryz.func137 rfl rfl a w
@[simp] theorem SqP.func138 : SqP.prog.funcs[138]? = some Tryz.f138 := cut_same rfl Tryz.func138
abbrev SqP.ntmps138:=Tryz.ntmps138
abbrev SqP.results138:=Tryz.results138
@[simp] theorem SqP.call138 (a : Array Value) (w : World) : (callFunc 138 a).run SqP.prog w = .ok (.enter 138 a) w := cut_callFunc rfl Tryz.func138 rfl rfl a w
@[simp] theorem SqP.func139 : SqP.prog.funcs[139]? = some Tryz.f139 := cut_same rfl Tryz.func139
abbrev SqP.ntmps139:=Tryz.ntmps139
abbrev SqP.results139:=Tryz.results139
@[simp] theorem SqP.call139 (a : Array Value) (w : World) : (callFunc 139 a).run SqP.prog w = .ok (.enter 139 a) w := cut_callFunc rfl Tryz.func139 rfl rfl a w
@[simp] theorem SqP.func140 : SqP.prog.funcs[140]? = some Tryz.f140 := cut_same rfl Tryz.func140
abbrev SqP.ntmps140:=Tryz.ntmps140
abbrev SqP.results140:=Tryz.results140
@[simp] theorem SqP.call140 (a : Array Value) (w : World) : (callFunc 140 a).run SqP.prog w = .ok (.enter 140 a) w := cut_callFunc rfl Tryz.func140 rfl rfl a w
@[simp] theorem SqP.func141 : SqP.prog.funcs[141]? = some Tryz.f141 := cut_same rfl Tryz.func141
abbrev SqP.ntmps141:=Tryz.ntmps141
abbrev SqP.results141:=Tryz.results141
@[simp] theorem SqP.call141 (a : Array Value) (w : World) : (callFunc 141 a).run SqP.prog w = .ok (.enter 141 a) w := cut_callFunc rfl Tryz.func141 rfl rfl a w
@[simp] theorem SqP.func142 : SqP.prog.funcs[142]? = some Tryz.f142 := cut_same rfl Tryz.func142
abbrev SqP.ntmps142:=Tryz.ntmps142
@[simp] theorem SqP.call142 (a : Array Value) (w : World) : (callFunc 142 a).run SqP.prog w = .ok (.enter 142 a) w := cut_callFunc rfl Tryz.func142 rfl rfl a w
@[simp] theorem SqP.func158 : SqP.prog.funcs[158]? = some Tryz.f158 := cut_same rfl Tryz.func158
abbrev SqP.ntmps158:=Tryz.ntmps158
@[simp] theorem SqP.call158 (a : Array Value) (w : World) : (callFunc 158 a).run SqP.prog w = .ok (.enter 158 a) w := cut_callFunc rfl Tryz.func158 rfl rfl a w
@[simp] theorem SqP.func166 : SqP.prog.funcs[166]? = some Tryz.f166 := cut_same rfl Tryz.func166
abbrev SqP.ntmps166:=Tryz.ntmps166
@[simp] theorem SqP.call166 (a : Array Value) (w : World) : (callFunc 166 a).run SqP.prog w = .ok (.enter 166 a) w := cut_callFunc rfl Tryz.func166 rfl rfl a w
theorem bel {B:Nat} {w w':World} (h:RowKit.Below B w w':=by repeat (first | exact RowKit.Below.refl _ _ | refine RowKit.Below.alloc ?_ (by first | exact Nat.le_refl _ | (simp; done) | (simp; omega)) _ | refine RowKit.Below.drew ?_ | refine RowKit.Below.setCell ?_ (by first | exact Nat.le_refl _ | (simp; done) | (simp; omega)) _)):RowKit.Below B w w':=h
end
end Go.Proofs.YtdhopelplokehaaGreat
