/- Of the proof: SqG -/
import Derived.Below
import Derived.Test.YtmekljoegndkkaaGreatLAa
namespace Go.Proofs.YtmekljoegndkkaaGreat
section
open Go
noncomputable def SqG.prog (aLt:Nat->Func->Func):Program:=zaB Tryz.prog Sq.off aLt
section
variable {aLt:Nat->Func->Func}
@[simp] theorem SqG.tabs : (SqG.prog aLt).toTables = Tryz.prog.toTables := zeS
@[simp] theorem SqG.underlying (n : TypeId) : (SqG.prog aLt).underlying n = Tryz.prog.underlying n := zck n
@[simp] theorem SqG.sizeOf (n : TypeId) (w : World) : (Go.sizeOf n).run (SqG.prog aLt) w = (Go.sizeOf n).run Tryz.prog w := zgn n w
@[simp] theorem SqG.runUnderlying (n : TypeId) (w : World) : (Go.underlying n).run (SqG.prog aLt) w = (Go.underlying n).run Tryz.prog w := zbD n w
@[simp] theorem SqG.zeroValue (n : TypeId) (w : World) : (Go.zeroValue n).run (SqG.prog aLt) w = (Go.zeroValue n).run Tryz.prog w := zdL n w
@[simp] theorem SqG.isAgg (n : TypeId) (w : World) : (Go.isAgg n).run (SqG.prog aLt) w = (Go.isAgg n).run Tryz.prog w := zhF n w
abbrev SqG.underlying26:=(SqG.underlying (aLt:=aLt) 26).trans Tryz.underlying26
abbrev SqG.underlying29:=(SqG.underlying (aLt:=aLt) 29).trans Tryz.underlying29
abbrev SqG.underlying30:=(SqG.underlying (aLt:=aLt) 30).trans Tryz.underlying30
abbrev SqG.underlying63:=(SqG.underlying (aLt:=aLt) 63).trans Tryz.underlying63
abbrev SqG.underlying64:=(SqG.underlying (aLt:=aLt) 64).trans Tryz.underlying64
abbrev SqG.underlying91:=(SqG.underlying (aLt:=aLt) 91).trans Tryz.underlying91
abbrev SqG.underlying104:=(SqG.underlying (aLt:=aLt) 104).trans Tryz.underlying104
abbrev SqG.underlying179:=(SqG.underlying (aLt:=aLt) 179).trans Tryz.underlying179
@[simp] theorem SqG.func3 : (SqG.prog aLt).funcs[3]? = some Tryz.f3 := zah rfl Tryz.func3
@[simp] theorem SqG.func4 : (SqG.prog aLt).funcs[4]? = some Tryz.f4 := zah rfl Tryz.func4
@[simp] theorem SqG.call4 (a : Array Value) (w : World) : (callFunc 4 a).run (SqG.prog aLt) w = .ok (.enter 4 a) w := zad rfl Tryz.func4 rfl rfl a w
@[simp] theorem SqG.func5 : (SqG.prog aLt).funcs[5]? = some Tryz.f5 := zah rfl Tryz.func5
@[simp] theorem SqG.call5 (a : Array Value) (w : World) : (callFunc 5 a).run (SqG.prog aLt) w = .ok (.enter 5 a) w := zad rfl Tryz.func5 rfl rfl a w
@[simp] theorem SqG.func6 : (SqG.prog aLt).funcs[6]? = some Tryz.f6 := zah rfl Tryz.func6
@[simp] theorem SqG.call6 (a : Array Value) (w : World) : (callFunc 6 a).run (SqG.prog aLt) w = .ok (.enter 6 a) w := zad rfl Tryz.func6 rfl rfl a w
@[simp] theorem SqG.func8 : (SqG.prog aLt).funcs[8]? = some Tryz.f8 := zah rfl Tryz.func8
@[simp] theorem SqG.call8 (a : Array Value) (w : World) : (callFunc 8 a).run (SqG.prog aLt) w = .ok (.enter 8 a) w := zad rfl Tryz.func8 rfl rfl a w
@[simp] theorem SqG.func9 : (SqG.prog aLt).funcs[9]? = some Tryz.f9 := zah rfl Tryz.func9
@[simp] theorem SqG.call9 (a : Array Value) (w : World) : (callFunc 9 a).run (SqG.prog aLt) w = .ok (.enter 9 a) w := zad rfl Tryz.func9 rfl rfl a w
@[simp] theorem SqG.func10 : (SqG.prog aLt).funcs[10]? = some Tryz.f10 := zah rfl Tryz.func10
@[simp] theorem SqG.call10 (a : Array Value) (w : World) : (callFunc 10 a).run (SqG.prog aLt) w = .ok (.enter 10 a) w := zad rfl Tryz.func10 rfl rfl a w
@[simp] theorem SqG.func11 : (SqG.prog aLt).funcs[11]? = some Tryz.f11 := zah rfl Tryz.func11
@[simp] theorem SqG.call11 (a : Array Value) (w : World) : (callFunc 11 a).run (SqG.prog aLt) w = .ok (.enter 11 a) w := zad rfl Tryz.func11 rfl rfl a w
@[simp] theorem SqG.func12 : (SqG.prog aLt).funcs[12]? = some Tryz.f12 := zah rfl Tryz.func12
@[simp] theorem SqG.call12 (a : Array Value) (w : World) : (callFunc 12 a).run (SqG.prog aLt) w = .ok (.enter 12 a) w := zad rfl Tryz.func12 rfl rfl a w
@[simp] theorem SqG.func13 : (SqG.prog aLt).funcs[13]? = some Tryz.f13 := zah rfl Tryz.func13
@[simp] theorem SqG.call13 (a : Array Value) (w : World) : (callFunc 13 a).run (SqG.prog aLt) w = .ok (.enter 13 a) w := zad rfl Tryz.func13 rfl rfl a w
@[simp] theorem SqG.func14 : (SqG.prog aLt).funcs[14]? = some Tryz.f14 := zah rfl Tryz.func14
@[simp] theorem SqG.call14 (a : Array Value) (w : World) : (callFunc 14 a).run (SqG.prog aLt) w = .ok (.enter 14 a) w := zad rfl Tryz.func14 rfl rfl a w
@[simp] theorem SqG.func15 : (SqG.prog aLt).funcs[15]? = some Tryz.f15 := zah rfl Tryz.func15
@[simp] theorem SqG.call15 (a : Array Value) (w : World) : (callFunc 15 a).run (SqG.prog aLt) w = .ok (.enter 15 a) w := zad rfl Tryz.func15 rfl rfl a w
@[simp] theorem SqG.func16 : (SqG.prog aLt).funcs[16]? = some Tryz.f16 := zah rfl Tryz.func16
@[simp] theorem SqG.call16 (a : Array Value) (w : World) : (callFunc 16 a).run (SqG.prog aLt) w = .ok (.enter 16 a) w := zad rfl Tryz.func16 rfl rfl a w
@[simp] theorem SqG.func17 : (SqG.prog aLt).funcs[17]? = some Tryz.f17 := zah rfl Tryz.func17
@[simp] theorem SqG.call17 (a : Array Value) (w : World) : (callFunc 17 a).run (SqG.prog aLt) w = .ok (.enter 17 a) w := zad rfl Tryz.func17 rfl rfl a w
@[simp] theorem SqG.func18 : (SqG.prog aLt).funcs[18]? = some Tryz.f18 := zah rfl Tryz.func18
@[simp] theorem SqG.call18 (a : Array Value) (w : World) : (callFunc 18 a).run (SqG.prog aLt) w = .ok (.enter 18 a) w := zad rfl Tryz.func18 rfl rfl a w
@[simp] theorem SqG.func19 : (SqG.prog aLt).funcs[19]? = some Tryz.f19 := zah rfl Tryz.func19
@[simp] theorem SqG.call19 (a : Array Value) (w : World) : (callFunc 19 a).run (SqG.prog aLt) w = .ok (.enter 19 a) w := zad rfl Tryz.func19 rfl rfl a w
@[simp] theorem SqG.func20 : (SqG.prog aLt).funcs[20]? = some Tryz.f20 := zah rfl Tryz.func20
@[simp] theorem SqG.call20 (a : Array Value) (w : World) : (callFunc 20 a).run (SqG.prog aLt) w = .ok (.enter 20 a) w := zad rfl Tryz.func20 rfl rfl a w
@[simp] theorem SqG.func23 : (SqG.prog aLt).funcs[23]? = some Tryz.f23 := zah rfl Tryz.func23
@[simp] theorem SqG.call23 (a : Array Value) (w : World) : (callFunc 23 a).run (SqG.prog aLt) w = .ok (.enter 23 a) w := zad rfl Tryz.func23 rfl rfl a w
@[simp] theorem SqG.func24 : (SqG.prog aLt).funcs[24]? = some Tryz.f24 := zah rfl Tryz.func24
@[simp] theorem SqG.call24 (a : Array Value) (w : World) : (callFunc 24 a).run (SqG.prog aLt) w = .ok (.enter 24 a) w := zad rfl Tryz.func24 rfl rfl a w
@[simp] theorem SqG.func25 : (SqG.prog aLt).funcs[25]? = some Tryz.f25 := zah rfl Tryz.func25
@[simp] theorem SqG.call25 (a : Array Value) (w : World) : (callFunc 25 a).run (SqG.prog aLt) w = .ok (.enter 25 a) w := zad rfl Tryz.func25 rfl rfl a w
@[simp] theorem SqG.func26 : (SqG.prog aLt).funcs[26]? = some Tryz.f26 := zah rfl Tryz.func26
@[simp] theorem SqG.call26 (a : Array Value) (w : World) : (callFunc 26 a).run (SqG.prog aLt) w = .ok (.enter 26 a) w := zad rfl Tryz.func26 rfl rfl a w
@[simp] theorem SqG.func27 : (SqG.prog aLt).funcs[27]? = some Tryz.f27 := zah rfl Tryz.func27
@[simp] theorem SqG.call27 (a : Array Value) (w : World) : (callFunc 27 a).run (SqG.prog aLt) w = .ok (.enter 27 a) w := zad rfl Tryz.func27 rfl rfl a w
@[simp] theorem SqG.func28 : (SqG.prog aLt).funcs[28]? = some Tryz.f28 := zah rfl Tryz.func28
@[simp] theorem SqG.call28 (a : Array Value) (w : World) : (callFunc 28 a).run (SqG.prog aLt) w = .ok (.enter 28 a) w := zad rfl Tryz.func28 rfl rfl a w
@[simp] theorem SqG.func29 : (SqG.prog aLt).funcs[29]? = some Tryz.f29 := zah rfl Tryz.func29
@[simp] theorem SqG.call29 (a : Array Value) (w : World) : (callFunc 29 a).run (SqG.prog aLt) w = .ok (.enter 29 a) w := zad rfl Tryz.func29 rfl rfl a w
@[simp] theorem SqG.func30 : (SqG.prog aLt).funcs[30]? = some Tryz.f30 := zah rfl Tryz.func30
@[simp] theorem SqG.call30 (a : Array Value) (w : World) : (callFunc 30 a).run (SqG.prog aLt) w = .ok (.enter 30 a) w := zad rfl Tryz.func30 rfl rfl a w
@[simp] theorem SqG.func31 : (SqG.prog aLt).funcs[31]? = some Tryz.f31 := zah rfl Tryz.func31
@[simp] theorem SqG.call31 (a : Array Value) (w : World) : (callFunc 31 a).run (SqG.prog aLt) w = .ok (.enter 31 a) w := zad rfl Tryz.func31 rfl rfl a w
@[simp] theorem SqG.func32 : (SqG.prog aLt).funcs[32]? = some Tryz.f32 := zah rfl Tryz.func32
@[simp] theorem SqG.call32 (a : Array Value) (w : World) : (callFunc 32 a).run (SqG.prog aLt) w = .ok (.enter 32 a) w := zad rfl Tryz.func32 rfl rfl a w
@[simp] theorem SqG.func33 : (SqG.prog aLt).funcs[33]? = some Tryz.f33 := zah rfl Tryz.func33
@[simp] theorem SqG.call33 (a : Array Value) (w : World) : (callFunc 33 a).run (SqG.prog aLt) w = .ok (.enter 33 a) w := zad rfl Tryz.func33 rfl rfl a w
@[simp] theorem SqG.func34 : (SqG.prog aLt).funcs[34]? = some Tryz.f34 := zah rfl Tryz.func34
@[simp] theorem SqG.call34 (a : Array Value) (w : World) : (callFunc 34 a).run (SqG.prog aLt) w = .ok (.enter 34 a) w := zad rfl Tryz.func34 rfl rfl a w
@[simp] theorem SqG.func35 : (SqG.prog aLt).funcs[35]? = some Tryz.f35 := zah rfl Tryz.func35
@[simp] theorem SqG.call35 (a : Array Value) (w : World) : (callFunc 35 a).run (SqG.prog aLt) w = .ok (.enter 35 a) w := zad rfl Tryz.func35 rfl rfl a w
@[simp] theorem SqG.func36 : (SqG.prog aLt).funcs[36]? = some Tryz.f36 := zah rfl Tryz.func36
@[simp] theorem SqG.call36 (a : Array Value) (w : World) : (callFunc 36 a).run (SqG.prog aLt) w = .ok (.enter 36 a) w := zad rfl Tryz.func36 rfl rfl a w
@[simp] theorem SqG.func37 : (SqG.prog aLt).funcs[37]? = some Tryz.f37 := zah rfl Tryz.func37
@[simp] theorem SqG.call37 (a : Array Value) (w : World) : (callFunc 37 a).run (SqG.prog aLt) w = .ok (.enter 37 a) w := zad rfl Tryz.func37 rfl rfl a w
@[simp] theorem SqG.func38 : (SqG.prog aLt).funcs[38]? = some Tryz.f38 := zah rfl Tryz.func38
@[simp] theorem SqG.call38 (a : Array Value) (w : World) : (callFunc 38 a).run (SqG.prog aLt) w = .ok (.enter 38 a) w := zad rfl Tryz.func38 rfl rfl a w
@[simp] theorem SqG.func39 : (SqG.prog aLt).funcs[39]? = some Tryz.f39 := zah rfl Tryz.func39
@[simp] theorem SqG.call39 (a : Array Value) (w : World) : (callFunc 39 a).run (SqG.prog aLt) w = .ok (.enter 39 a) w := zad rfl Tryz.func39 rfl rfl a w
@[simp] theorem SqG.func40 : (SqG.prog aLt).funcs[40]? = some Tryz.f40 := zah rfl Tryz.func40
@[simp] theorem SqG.call40 (a : Array Value) (w : World) : (callFunc 40 a).run (SqG.prog aLt) w = .ok (.enter 40 a) w := zad rfl Tryz.func40 rfl rfl a w
@[simp] theorem SqG.func41 : (SqG.prog aLt).funcs[41]? = some Tryz.f41 := zah rfl Tryz.func41
@[simp] theorem SqG.call41 (a : Array Value) (w : World) : (callFunc 41 a).run (SqG.prog aLt) w = .ok (.enter 41 a) w := zad rfl Tryz.func41 rfl rfl a w
@[simp] theorem SqG.func43 : (SqG.prog aLt).funcs[43]? = some Tryz.f43 := zah rfl Tryz.func43
@[simp] theorem SqG.call43 (a : Array Value) (w : World) : (callFunc 43 a).run (SqG.prog aLt) w = .ok (.enter 43 a) w := zad rfl Tryz.func43 rfl rfl a w
@[simp] theorem SqG.func44 : (SqG.prog aLt).funcs[44]? = some Tryz.f44 := zah rfl Tryz.func44
@[simp] theorem SqG.call44 (a : Array Value) (w : World) : (callFunc 44 a).run (SqG.prog aLt) w = .ok (.enter 44 a) w := zad rfl Tryz.func44 rfl rfl a w
@[simp] theorem SqG.func45 : (SqG.prog aLt).funcs[45]? = some Tryz.f45 := zah rfl Tryz.func45
@[simp] theorem SqG.call45 (a : Array Value) (w : World) : (callFunc 45 a).run (SqG.prog aLt) w = .ok (.enter 45 a) w := zad rfl Tryz.func45 rfl rfl a w
@[simp] theorem SqG.func51 : (SqG.prog aLt).funcs[51]? = some Tryz.f51 := zah rfl Tryz.func51
@[simp] theorem SqG.call51 (a : Array Value) (w : World) : (callFunc 51 a).run (SqG.prog aLt) w = .ok (.enter 51 a) w := zad rfl Tryz.func51 rfl rfl a w
@[simp] theorem SqG.func52 : (SqG.prog aLt).funcs[52]? = some Tryz.f52 := zah rfl Tryz.func52
@[simp] theorem SqG.call52 (a : Array Value) (w : World) : (callFunc 52 a).run (SqG.prog aLt) w = .ok (.enter 52 a) w := zad rfl Tryz.func52 rfl rfl a w
@[simp] theorem SqG.func53 : (SqG.prog aLt).funcs[53]? = some Tryz.f53 := zah rfl Tryz.func53
@[simp] theorem SqG.call53 (a : Array Value) (w : World) : (callFunc 53 a).run (SqG.prog aLt) w = .ok (.enter 53 a) w := zad rfl Tryz.func53 rfl rfl a w
@[simp] theorem SqG.func54 : (SqG.prog aLt).funcs[54]? = some Tryz.f54 := zah rfl Tryz.func54
@[simp] theorem SqG.call54 (a : Array Value) (w : World) : (callFunc 54 a).run (SqG.prog aLt) w = .ok (.enter 54 a) w := zad rfl Tryz.func54 rfl rfl a w
@[simp] theorem SqG.func55 : (SqG.prog aLt).funcs[55]? = some Tryz.f55 := zah rfl Tryz.func55
@[simp] theorem SqG.call55 (a : Array Value) (w : World) : (callFunc 55 a).run (SqG.prog aLt) w = .ok (.enter 55 a) w := zad rfl Tryz.func55 rfl rfl a w
@[simp] theorem SqG.func56 : (SqG.prog aLt).funcs[56]? = some Tryz.f56 := zah rfl Tryz.func56
@[simp] theorem SqG.call56 (a : Array Value) (w : World) : (callFunc 56 a).run (SqG.prog aLt) w = .ok (.enter 56 a) w := zad rfl Tryz.func56 rfl rfl a w
@[simp] theorem SqG.func59 : (SqG.prog aLt).funcs[59]? = some Tryz.f59 := zah rfl Tryz.func59
@[simp] theorem SqG.call59 (a : Array Value) (w : World) : (callFunc 59 a).run (SqG.prog aLt) w = .ok (.enter 59 a) w := zad rfl Tryz.func59 rfl rfl a w
@[simp] theorem SqG.func60 : (SqG.prog aLt).funcs[60]? = some Tryz.f60 := zah rfl Tryz.func60
@[simp] theorem SqG.call60 (a : Array Value) (w : World) : (callFunc 60 a).run (SqG.prog aLt) w = .ok (.enter 60 a) w := zad rfl Tryz.func60 rfl rfl a w
@[simp] theorem SqG.func74 : (SqG.prog aLt).funcs[74]? = some Tryz.f74 := zah rfl Tryz.func74
@[simp] theorem SqG.call74 (a : Array Value) (w : World) : (callFunc 74 a).run (SqG.prog aLt) w = .ok (.enter 74 a) w := zad rfl Tryz.func74 rfl rfl a w
@[simp] theorem SqG.func80 : (SqG.prog aLt).funcs[80]? = some Tryz.f80 := zah rfl Tryz.func80
@[simp] theorem SqG.call80 (a : Array Value) (w : World) : (callFunc 80 a).run (SqG.prog aLt) w = .ok (.enter 80 a) w := zad rfl Tryz.func80 rfl rfl a w
@[simp] theorem SqG.func81 : (SqG.prog aLt).funcs[81]? = some Tryz.f81 := zah rfl Tryz.func81
@[simp] theorem SqG.call81 (a : Array Value) (w : World) : (callFunc 81 a).run (SqG.prog aLt) w = .ok (.enter 81 a) w := zad rfl Tryz.func81 rfl rfl a w
@[simp] theorem SqG.func82 : (SqG.prog aLt).funcs[82]? = some Tryz.f82 := zah rfl Tryz.func82
@[simp] theorem SqG.call82 (a : Array Value) (w : World) : (callFunc 82 a).run (SqG.prog aLt) w = .ok (.enter 82 a) w := zad rfl Tryz.func82 rfl rfl a w
@[simp] theorem SqG.func83 : (SqG.prog aLt).funcs[83]? = some Tryz.f83 := zah rfl Tryz.func83
@[simp] theorem SqG.call83 (a : Array Value) (w : World) : (callFunc 83 a).run (SqG.prog aLt) w = .ok (.enter 83 a) w := zad rfl Tryz.func83 rfl rfl a w
@[simp] theorem SqG.func84 : (SqG.prog aLt).funcs[84]? = some Tryz.f84 := zah rfl Tryz.func84
@[simp] theorem SqG.call84 (a : Array Value) (w : World) : (callFunc 84 a).run (SqG.prog aLt) w = .ok (.enter 84 a) w := zad rfl Tryz.func84 rfl rfl a w
@[simp] theorem SqG.func85 : (SqG.prog aLt).funcs[85]? = some Tryz.f85 := zah rfl Tryz.func85
@[simp] theorem SqG.call85 (a : Array Value) (w : World) : (callFunc 85 a).run (SqG.prog aLt) w = .ok (.enter 85 a) w := zad rfl Tryz.func85 rfl rfl a w
@[simp] theorem SqG.func86 : (SqG.prog aLt).funcs[86]? = some Tryz.f86 := zah rfl Tryz.func86
@[simp] theorem SqG.call86 (a : Array Value) (w : World) : (callFunc 86 a).run (SqG.prog aLt) w = .ok (.enter 86 a) w := zad rfl Tryz.func86 rfl rfl a w
@[simp] theorem SqG.func92 : (SqG.prog aLt).funcs[92]? = some Tryz.f92 := zah rfl Tryz.func92
@[simp] theorem SqG.call92 (a : Array Value) (w : World) : (callFunc 92 a).run (SqG.prog aLt) w = .ok (.enter 92 a) w := zad rfl Tryz.func92 rfl rfl a w
@[simp] theorem SqG.func93 : (SqG.prog aLt).funcs[93]? = some Tryz.f93 := zah rfl Tryz.func93
@[simp] theorem SqG.call93 (a : Array Value) (w : World) : (callFunc 93 a).run (SqG.prog aLt) w = .ok (.enter 93 a) w := zad rfl Tryz.func93 rfl rfl a w
@[simp] theorem SqG.func94 : (SqG.prog aLt).funcs[94]? = some Tryz.f94 := zah rfl Tryz.func94
@[simp] theorem SqG.call94 (a : Array Value) (w : World) : (callFunc 94 a).run (SqG.prog aLt) w = .ok (.enter 94 a) w := zad rfl Tryz.func94 rfl rfl a w
@[simp] theorem SqG.func95 : (SqG.prog aLt).funcs[95]? = some Tryz.f95 := zah rfl Tryz.func95
@[simp] theorem SqG.call95 (a : Array Value) (w : World) : (callFunc 95 a).run (SqG.prog aLt) w = .ok (.enter 95 a) w := zad rfl Tryz.func95 rfl rfl a w
@[simp] theorem SqG.func96 : (SqG.prog aLt).funcs[96]? = some Tryz.f96 := zah rfl Tryz.func96
@[simp] theorem SqG.call96 (a : Array Value) (w : World) : (callFunc 96 a).run (SqG.prog aLt) w = .ok (.enter 96 a) w := zad rfl Tryz.func96 rfl rfl a w
@[simp] theorem SqG.func97 : (SqG.prog aLt).funcs[97]? = some Tryz.f97 := zah rfl Tryz.func97
@[simp] theorem SqG.call97 (a : Array Value) (w : World) : (callFunc 97 a).run (SqG.prog aLt) w = .ok (.enter 97 a) w := zad rfl Tryz.func97 rfl rfl a w
@[simp] theorem SqG.func98 : (SqG.prog aLt).funcs[98]? = some Tryz.f98 := zah rfl Tryz.func98
@[simp] theorem SqG.call98 (a : Array Value) (w : World) : (callFunc 98 a).run (SqG.prog aLt) w = .ok (.enter 98 a) w := zad rfl Tryz.func98 rfl rfl a w
@[simp] theorem SqG.func99 : (SqG.prog aLt).funcs[99]? = some Tryz.f99 := zah rfl Tryz.func99
@[simp] theorem SqG.call99 (a : Array Value) (w : World) : (callFunc 99 a).run (SqG.prog aLt) w = .ok (.enter 99 a) w := zad rfl Tryz.func99 rfl rfl a w
@[simp] theorem SqG.func100 : (SqG.prog aLt).funcs[100]? = some Tryz.f100 := zah rfl Tryz.func100
@[simp] theorem SqG.call100 (a : Array Value) (w : World) : (callFunc 100 a).run (SqG.prog aLt) w = .ok (.enter 100 a) w := zad rfl Tryz.func100 rfl rfl a w
@[simp] theorem SqG.func101 : (SqG.prog aLt).funcs[101]? = some Tryz.f101 := zah rfl Tryz.func101
@[simp] theorem SqG.call101 (a : Array Value) (w : World) : (callFunc 101 a).run (SqG.prog aLt) w = .ok (.enter 101 a) w := zad rfl Tryz.func101 rfl rfl a w
@[simp] theorem SqG.func102 : (SqG.prog aLt).funcs[102]? = some Tryz.f102 := zah rfl Tryz.func102
@[simp] theorem SqG.call102 (a : Array Value) (w : World) : (callFunc 102 a).run (SqG.prog aLt) w = .ok (.enter 102 a) w := zad rfl Tryz.func102 rfl rfl a w
@[simp] theorem SqG.func103 : (SqG.prog aLt).funcs[103]? = some Tryz.f103 := zah rfl Tryz.func103
@[simp] theorem SqG.func104 : (SqG.prog aLt).funcs[104]? = some Tryz.f104 := zah rfl Tryz.func104
@[simp] theorem SqG.func105 : (SqG.prog aLt).funcs[105]? = some Tryz.f105 := zah rfl Tryz.func105
@[simp] theorem SqG.func106 : (SqG.prog aLt).funcs[106]? = some Tryz.f106 := zah rfl Tryz.func106
@[simp] theorem SqG.func107 : (SqG.prog aLt).funcs[107]? = some Tryz.f107 := zah rfl Tryz.func107
@[simp] theorem SqG.func108 : (SqG.prog aLt).funcs[108]? = some Tryz.f108 := zah rfl Tryz.func108
@[simp] theorem SqG.func109 : (SqG.prog aLt).funcs[109]? = some Tryz.f109 := zah rfl Tryz.func109
@[simp] theorem SqG.call109 (a : Array Value) (w : World) : (callFunc 109 a).run (SqG.prog aLt) w = .ok (.enter 109 a) w := zad rfl Tryz.func109 rfl rfl a w
@[simp] theorem SqG.func110 : (SqG.prog aLt).funcs[110]? = some Tryz.f110 := zah rfl Tryz.func110
@[simp] theorem SqG.call110 (a : Array Value) (w : World) : (callFunc 110 a).run (SqG.prog aLt) w = .ok (.enter 110 a) w := zad rfl Tryz.func110 rfl rfl a w
@[simp] theorem SqG.func111 : (SqG.prog aLt).funcs[111]? = some Tryz.f111 := zah rfl Tryz.func111
@[simp] theorem SqG.call111 (a : Array Value) (w : World) : (callFunc 111 a).run (SqG.prog aLt) w = .ok (.enter 111 a) w := zad rfl Tryz.func111 rfl rfl a w
@[simp] theorem SqG.func112 : (SqG.prog aLt).funcs[112]? = some Tryz.f112 := zah rfl Tryz.func112
@[simp] theorem SqG.call112 (a : Array Value) (w : World) : (callFunc 112 a).run (SqG.prog aLt) w = .ok (.enter 112 a) w := zad rfl Tryz.func112 rfl rfl a w
@[simp] theorem SqG.func113 : (SqG.prog aLt).funcs[113]? = some Tryz.f113 := zah rfl Tryz.func113
@[simp] theorem SqG.call113 (a : Array Value) (w : World) : (callFunc 113 a).run (SqG.prog aLt) w = .ok (.enter 113 a) w := zad rfl Tryz.func113 rfl rfl a w
@[simp] theorem SqG.func114 : (SqG.prog aLt).funcs[114]? = some Tryz.f114 := zah rfl Tryz.func114
@[simp] theorem SqG.call114 (a : Array Value) (w : World) : (callFunc 114 a).run (SqG.prog aLt) w = .ok (.enter 114 a) w := zad rfl Tryz.func114 rfl rfl a w
@[simp] theorem SqG.func115 : (SqG.prog aLt).funcs[115]? = some Tryz.f115 := zah rfl Tryz.func115
@[simp] theorem SqG.call115 (a : Array Value) (w : World) : (callFunc 115 a).run (SqG.prog aLt) w = .ok (.enter 115 a) w := zad rfl Tryz.func115 rfl rfl a w
@[simp] theorem SqG.func116 : (SqG.prog aLt).funcs[116]? = some Tryz.f116 := zah rfl Tryz.func116
@[simp] theorem SqG.call116 (a : Array Value) (w : World) : (callFunc 116 a).run (SqG.prog aLt) w = .ok (.enter 116 a) w := zad rfl Tryz.func116 rfl rfl a w
@[simp] theorem SqG.func117 : (SqG.prog aLt).funcs[117]? = some Tryz.f117 := zah rfl Tryz.func117
@[simp] theorem SqG.call117 (a : Array Value) (w : World) : (callFunc 117 a).run (SqG.prog aLt) w = .ok (.enter 117 a) w := zad rfl Tryz.func117 rfl rfl a w
@[simp] theorem SqG.func118 : (SqG.prog aLt).funcs[118]? = some Tryz.f118 := zah rfl Tryz.func118
@[simp] theorem SqG.call118 (a : Array Value) (w : World) : (callFunc 118 a).run (SqG.prog aLt) w = .ok (.enter 118 a) w := zad rfl Tryz.func118 rfl rfl a w
@[simp] theorem SqG.func119 : (SqG.prog aLt).funcs[119]? = some Tryz.f119 := zah rfl Tryz.func119
@[simp] theorem SqG.call119 (a : Array Value) (w : World) : (callFunc 119 a).run (SqG.prog aLt) w = .ok (.enter 119 a) w := zad rfl Tryz.func119 rfl rfl a w
@[simp] theorem SqG.func120 : (SqG.prog aLt).funcs[120]? = some Tryz.f120 := zah rfl Tryz.func120
@[simp] theorem SqG.call120 (a : Array Value) (w : World) : (callFunc 120 a).run (SqG.prog aLt) w = .ok (.enter 120 a) w := zad rfl Tryz.func120 rfl rfl a w
@[simp] theorem SqG.func121 : (SqG.prog aLt).funcs[121]? = some Tryz.f121 := zah rfl Tryz.func121
@[simp] theorem SqG.call121 (a : Array Value) (w : World) : (callFunc 121 a).run (SqG.prog aLt) w = .ok (.enter 121 a) w := zad rfl Tryz.func121 rfl rfl a w
@[simp] theorem SqG.func122 : (SqG.prog aLt).funcs[122]? = some Tryz.f122 := zah rfl Tryz.func122
@[simp] theorem SqG.call122 (a : Array Value) (w : World) : (callFunc 122 a).run (SqG.prog aLt) w = .ok (.enter 122 a) w := zad rfl Tryz.func122 rfl rfl a w
@[simp] theorem SqG.func123 : (SqG.prog aLt).funcs[123]? = some Tryz.f123 := zah rfl Tryz.func123
@[simp] theorem SqG.call123 (a : Array Value) (w : World) : (callFunc 123 a).run (SqG.prog aLt) w = .ok (.enter 123 a) w := zad rfl Tryz.func123 rfl rfl a w
@[simp] theorem SqG.func139 : (SqG.prog aLt).funcs[139]? = some Tryz.f139 := zah rfl Tryz.func139
@[simp] theorem SqG.call139 (a : Array Value) (w : World) : (callFunc 139 a).run (SqG.prog aLt) w = .ok (.enter 139 a) w := zad rfl Tryz.func139 rfl rfl a w
@[simp] theorem SqG.func147 : (SqG.prog aLt).funcs[147]? = some Tryz.f147 := zah rfl Tryz.func147
@[simp] theorem SqG.call147 (a : Array Value) (w : World) : (callFunc 147 a).run (SqG.prog aLt) w = .ok (.enter 147 a) w := zad rfl Tryz.func147 rfl rfl a w
end
end
end Go.Proofs.YtmekljoegndkkaaGreat
