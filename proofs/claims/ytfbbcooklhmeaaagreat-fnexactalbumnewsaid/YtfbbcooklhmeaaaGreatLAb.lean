/- Of the proof: SqG -/
import Derived.Below
import Derived.Test.YtfbbcooklhmeaaaGreatLAa
namespace Go.Proofs.YtfbbcooklhmeaaaGreat
section
open Go
noncomputable def SqG.prog (aLt:Nat->Func->Func):Program:=zaA Tryz.prog Sq.off aLt
section
variable {aLt:Nat->Func->Func}
@[simp] theorem SqG.tabs : (SqG.prog aLt).toTables = Tryz.prog.toTables := zeL
@[simp] theorem SqG.underlying (n : TypeId) : (SqG.prog aLt).underlying n = Tryz.prog.underlying n := zcf n
@[simp] theorem SqG.sizeOf (n : TypeId) (w : World) : (Go.sizeOf n).run (SqG.prog aLt) w = (Go.sizeOf n).run Tryz.prog w := zgi n w
@[simp] theorem SqG.runUnderlying (n : TypeId) (w : World) : (Go.underlying n).run (SqG.prog aLt) w = (Go.underlying n).run Tryz.prog w := zbx n w
@[simp] theorem SqG.zeroValue (n : TypeId) (w : World) : (Go.zeroValue n).run (SqG.prog aLt) w = (Go.zeroValue n).run Tryz.prog w := zdE n w
@[simp] theorem SqG.isAgg (n : TypeId) (w : World) : (Go.isAgg n).run (SqG.prog aLt) w = (Go.isAgg n).run Tryz.prog w := zhJ n w
abbrev SqG.underlying26:=(SqG.underlying (aLt:=aLt) 26).trans Tryz.underlying26
abbrev SqG.underlying29:=(SqG.underlying (aLt:=aLt) 29).trans Tryz.underlying29
abbrev SqG.underlying30:=(SqG.underlying (aLt:=aLt) 30).trans Tryz.underlying30
abbrev SqG.underlying78:=(SqG.underlying (aLt:=aLt) 78).trans Tryz.underlying78
abbrev SqG.underlying79:=(SqG.underlying (aLt:=aLt) 79).trans Tryz.underlying79
abbrev SqG.underlying104:=(SqG.underlying (aLt:=aLt) 104).trans Tryz.underlying104
abbrev SqG.underlying116:=(SqG.underlying (aLt:=aLt) 116).trans Tryz.underlying116
abbrev SqG.underlying191:=(SqG.underlying (aLt:=aLt) 191).trans Tryz.underlying191
@[simp] theorem SqG.func3 : (SqG.prog aLt).funcs[3]? = some Tryz.f3 := zah rfl Tryz.func3
@[simp] theorem SqG.func4 : (SqG.prog aLt).funcs[4]? = some Tryz.f4 := zah rfl Tryz.func4
@[simp] theorem SqG.call4 (a : Array Value) (w : World) : (callFunc 4 a).run (SqG.prog aLt) w = .ok (.enter 4 a) w := zac rfl Tryz.func4 rfl rfl a w
@[simp] theorem SqG.func5 : (SqG.prog aLt).funcs[5]? = some Tryz.f5 := zah rfl Tryz.func5
@[simp] theorem SqG.call5 (a : Array Value) (w : World) : (callFunc 5 a).run (SqG.prog aLt) w = .ok (.enter 5 a) w := zac rfl Tryz.func5 rfl rfl a w
@[simp] theorem SqG.func6 : (SqG.prog aLt).funcs[6]? = some Tryz.f6 := zah rfl Tryz.func6
@[simp] theorem SqG.call6 (a : Array Value) (w : World) : (callFunc 6 a).run (SqG.prog aLt) w = .ok (.enter 6 a) w := zac rfl Tryz.func6 rfl rfl a w
@[simp] theorem SqG.func7 : (SqG.prog aLt).funcs[7]? = some Tryz.f7 := zah rfl Tryz.func7
@[simp] theorem SqG.call7 (a : Array Value) (w : World) : (callFunc 7 a).run (SqG.prog aLt) w = .ok (.enter 7 a) w := zac rfl Tryz.func7 rfl rfl a w
@[simp] theorem SqG.func8 : (SqG.prog aLt).funcs[8]? = some Tryz.f8 := zah rfl Tryz.func8
@[simp] theorem SqG.call8 (a : Array Value) (w : World) : (callFunc 8 a).run (SqG.prog aLt) w = .ok (.enter 8 a) w := zac rfl Tryz.func8 rfl rfl a w
@[simp] theorem SqG.func9 : (SqG.prog aLt).funcs[9]? = some Tryz.f9 := zah rfl Tryz.func9
@[simp] theorem SqG.call9 (a : Array Value) (w : World) : (callFunc 9 a).run (SqG.prog aLt) w = .ok (.enter 9 a) w := zac rfl Tryz.func9 rfl rfl a w
@[simp] theorem SqG.func10 : (SqG.prog aLt).funcs[10]? = some Tryz.f10 := zah rfl Tryz.func10
@[simp] theorem SqG.call10 (a : Array Value) (w : World) : (callFunc 10 a).run (SqG.prog aLt) w = .ok (.enter 10 a) w := zac rfl Tryz.func10 rfl rfl a w
@[simp] theorem SqG.func11 : (SqG.prog aLt).funcs[11]? = some Tryz.f11 := zah rfl Tryz.func11
@[simp] theorem SqG.call11 (a : Array Value) (w : World) : (callFunc 11 a).run (SqG.prog aLt) w = .ok (.enter 11 a) w := zac rfl Tryz.func11 rfl rfl a w
@[simp] theorem SqG.func12 : (SqG.prog aLt).funcs[12]? = some Tryz.f12 := zah rfl Tryz.func12
@[simp] theorem SqG.call12 (a : Array Value) (w : World) : (callFunc 12 a).run (SqG.prog aLt) w = .ok (.enter 12 a) w := zac rfl Tryz.func12 rfl rfl a w
@[simp] theorem SqG.func13 : (SqG.prog aLt).funcs[13]? = some Tryz.f13 := zah rfl Tryz.func13
@[simp] theorem SqG.call13 (a : Array Value) (w : World) : (callFunc 13 a).run (SqG.prog aLt) w = .ok (.enter 13 a) w := zac rfl Tryz.func13 rfl rfl a w
@[simp] theorem SqG.func14 : (SqG.prog aLt).funcs[14]? = some Tryz.f14 := zah rfl Tryz.func14
@[simp] theorem SqG.call14 (a : Array Value) (w : World) : (callFunc 14 a).run (SqG.prog aLt) w = .ok (.enter 14 a) w := zac rfl Tryz.func14 rfl rfl a w
@[simp] theorem SqG.func15 : (SqG.prog aLt).funcs[15]? = some Tryz.f15 := zah rfl Tryz.func15
@[simp] theorem SqG.call15 (a : Array Value) (w : World) : (callFunc 15 a).run (SqG.prog aLt) w = .ok (.enter 15 a) w := zac rfl Tryz.func15 rfl rfl a w
@[simp] theorem SqG.func17 : (SqG.prog aLt).funcs[17]? = some Tryz.f17 := zah rfl Tryz.func17
@[simp] theorem SqG.call17 (a : Array Value) (w : World) : (callFunc 17 a).run (SqG.prog aLt) w = .ok (.enter 17 a) w := zac rfl Tryz.func17 rfl rfl a w
@[simp] theorem SqG.func18 : (SqG.prog aLt).funcs[18]? = some Tryz.f18 := zah rfl Tryz.func18
@[simp] theorem SqG.call18 (a : Array Value) (w : World) : (callFunc 18 a).run (SqG.prog aLt) w = .ok (.enter 18 a) w := zac rfl Tryz.func18 rfl rfl a w
@[simp] theorem SqG.func19 : (SqG.prog aLt).funcs[19]? = some Tryz.f19 := zah rfl Tryz.func19
@[simp] theorem SqG.call19 (a : Array Value) (w : World) : (callFunc 19 a).run (SqG.prog aLt) w = .ok (.enter 19 a) w := zac rfl Tryz.func19 rfl rfl a w
@[simp] theorem SqG.func20 : (SqG.prog aLt).funcs[20]? = some Tryz.f20 := zah rfl Tryz.func20
@[simp] theorem SqG.call20 (a : Array Value) (w : World) : (callFunc 20 a).run (SqG.prog aLt) w = .ok (.enter 20 a) w := zac rfl Tryz.func20 rfl rfl a w
@[simp] theorem SqG.func21 : (SqG.prog aLt).funcs[21]? = some Tryz.f21 := zah rfl Tryz.func21
@[simp] theorem SqG.call21 (a : Array Value) (w : World) : (callFunc 21 a).run (SqG.prog aLt) w = .ok (.enter 21 a) w := zac rfl Tryz.func21 rfl rfl a w
@[simp] theorem SqG.func22 : (SqG.prog aLt).funcs[22]? = some Tryz.f22 := zah rfl Tryz.func22
@[simp] theorem SqG.call22 (a : Array Value) (w : World) : (callFunc 22 a).run (SqG.prog aLt) w = .ok (.enter 22 a) w := zac rfl Tryz.func22 rfl rfl a w
@[simp] theorem SqG.func23 : (SqG.prog aLt).funcs[23]? = some Tryz.f23 := zah rfl Tryz.func23
@[simp] theorem SqG.call23 (a : Array Value) (w : World) : (callFunc 23 a).run (SqG.prog aLt) w = .ok (.enter 23 a) w := zac rfl Tryz.func23 rfl rfl a w
@[simp] theorem SqG.func24 : (SqG.prog aLt).funcs[24]? = some Tryz.f24 := zah rfl Tryz.func24
@[simp] theorem SqG.call24 (a : Array Value) (w : World) : (callFunc 24 a).run (SqG.prog aLt) w = .ok (.enter 24 a) w := zac rfl Tryz.func24 rfl rfl a w
@[simp] theorem SqG.func25 : (SqG.prog aLt).funcs[25]? = some Tryz.f25 := zah rfl Tryz.func25
@[simp] theorem SqG.call25 (a : Array Value) (w : World) : (callFunc 25 a).run (SqG.prog aLt) w = .ok (.enter 25 a) w := zac rfl Tryz.func25 rfl rfl a w
@[simp] theorem SqG.func26 : (SqG.prog aLt).funcs[26]? = some Tryz.f26 := zah rfl Tryz.func26
@[simp] theorem SqG.call26 (a : Array Value) (w : World) : (callFunc 26 a).run (SqG.prog aLt) w = .ok (.enter 26 a) w := zac rfl Tryz.func26 rfl rfl a w
@[simp] theorem SqG.func27 : (SqG.prog aLt).funcs[27]? = some Tryz.f27 := zah rfl Tryz.func27
@[simp] theorem SqG.call27 (a : Array Value) (w : World) : (callFunc 27 a).run (SqG.prog aLt) w = .ok (.enter 27 a) w := zac rfl Tryz.func27 rfl rfl a w
@[simp] theorem SqG.func28 : (SqG.prog aLt).funcs[28]? = some Tryz.f28 := zah rfl Tryz.func28
@[simp] theorem SqG.call28 (a : Array Value) (w : World) : (callFunc 28 a).run (SqG.prog aLt) w = .ok (.enter 28 a) w := zac rfl Tryz.func28 rfl rfl a w
@[simp] theorem SqG.func29 : (SqG.prog aLt).funcs[29]? = some Tryz.f29 := zah rfl Tryz.func29
@[simp] theorem SqG.call29 (a : Array Value) (w : World) : (callFunc 29 a).run (SqG.prog aLt) w = .ok (.enter 29 a) w := zac rfl Tryz.func29 rfl rfl a w
@[simp] theorem SqG.func30 : (SqG.prog aLt).funcs[30]? = some Tryz.f30 := zah rfl Tryz.func30
@[simp] theorem SqG.call30 (a : Array Value) (w : World) : (callFunc 30 a).run (SqG.prog aLt) w = .ok (.enter 30 a) w := zac rfl Tryz.func30 rfl rfl a w
@[simp] theorem SqG.func31 : (SqG.prog aLt).funcs[31]? = some Tryz.f31 := zah rfl Tryz.func31
@[simp] theorem SqG.call31 (a : Array Value) (w : World) : (callFunc 31 a).run (SqG.prog aLt) w = .ok (.enter 31 a) w := zac rfl Tryz.func31 rfl rfl a w
@[simp] theorem SqG.func34 : (SqG.prog aLt).funcs[34]? = some Tryz.f34 := zah rfl Tryz.func34
@[simp] theorem SqG.call34 (a : Array Value) (w : World) : (callFunc 34 a).run (SqG.prog aLt) w = .ok (.enter 34 a) w := zac rfl Tryz.func34 rfl rfl a w
@[simp] theorem SqG.func35 : (SqG.prog aLt).funcs[35]? = some Tryz.f35 := zah rfl Tryz.func35
@[simp] theorem SqG.call35 (a : Array Value) (w : World) : (callFunc 35 a).run (SqG.prog aLt) w = .ok (.enter 35 a) w := zac rfl Tryz.func35 rfl rfl a w
@[simp] theorem SqG.func36 : (SqG.prog aLt).funcs[36]? = some Tryz.f36 := zah rfl Tryz.func36
@[simp] theorem SqG.call36 (a : Array Value) (w : World) : (callFunc 36 a).run (SqG.prog aLt) w = .ok (.enter 36 a) w := zac rfl Tryz.func36 rfl rfl a w
@[simp] theorem SqG.func38 : (SqG.prog aLt).funcs[38]? = some Tryz.f38 := zah rfl Tryz.func38
@[simp] theorem SqG.call38 (a : Array Value) (w : World) : (callFunc 38 a).run (SqG.prog aLt) w = .ok (.enter 38 a) w := zac rfl Tryz.func38 rfl rfl a w
@[simp] theorem SqG.func39 : (SqG.prog aLt).funcs[39]? = some Tryz.f39 := zah rfl Tryz.func39
@[simp] theorem SqG.call39 (a : Array Value) (w : World) : (callFunc 39 a).run (SqG.prog aLt) w = .ok (.enter 39 a) w := zac rfl Tryz.func39 rfl rfl a w
@[simp] theorem SqG.func40 : (SqG.prog aLt).funcs[40]? = some Tryz.f40 := zah rfl Tryz.func40
@[simp] theorem SqG.call40 (a : Array Value) (w : World) : (callFunc 40 a).run (SqG.prog aLt) w = .ok (.enter 40 a) w := zac rfl Tryz.func40 rfl rfl a w
@[simp] theorem SqG.func41 : (SqG.prog aLt).funcs[41]? = some Tryz.f41 := zah rfl Tryz.func41
@[simp] theorem SqG.call41 (a : Array Value) (w : World) : (callFunc 41 a).run (SqG.prog aLt) w = .ok (.enter 41 a) w := zac rfl Tryz.func41 rfl rfl a w
@[simp] theorem SqG.func42 : (SqG.prog aLt).funcs[42]? = some Tryz.f42 := zah rfl Tryz.func42
@[simp] theorem SqG.call42 (a : Array Value) (w : World) : (callFunc 42 a).run (SqG.prog aLt) w = .ok (.enter 42 a) w := zac rfl Tryz.func42 rfl rfl a w
@[simp] theorem SqG.func43 : (SqG.prog aLt).funcs[43]? = some Tryz.f43 := zah rfl Tryz.func43
@[simp] theorem SqG.call43 (a : Array Value) (w : World) : (callFunc 43 a).run (SqG.prog aLt) w = .ok (.enter 43 a) w := zac rfl Tryz.func43 rfl rfl a w
@[simp] theorem SqG.func44 : (SqG.prog aLt).funcs[44]? = some Tryz.f44 := zah rfl Tryz.func44
@[simp] theorem SqG.call44 (a : Array Value) (w : World) : (callFunc 44 a).run (SqG.prog aLt) w = .ok (.enter 44 a) w := zac rfl Tryz.func44 rfl rfl a w
@[simp] theorem SqG.func45 : (SqG.prog aLt).funcs[45]? = some Tryz.f45 := zah rfl Tryz.func45
@[simp] theorem SqG.call45 (a : Array Value) (w : World) : (callFunc 45 a).run (SqG.prog aLt) w = .ok (.enter 45 a) w := zac rfl Tryz.func45 rfl rfl a w
@[simp] theorem SqG.func46 : (SqG.prog aLt).funcs[46]? = some Tryz.f46 := zah rfl Tryz.func46
@[simp] theorem SqG.call46 (a : Array Value) (w : World) : (callFunc 46 a).run (SqG.prog aLt) w = .ok (.enter 46 a) w := zac rfl Tryz.func46 rfl rfl a w
@[simp] theorem SqG.func47 : (SqG.prog aLt).funcs[47]? = some Tryz.f47 := zah rfl Tryz.func47
@[simp] theorem SqG.call47 (a : Array Value) (w : World) : (callFunc 47 a).run (SqG.prog aLt) w = .ok (.enter 47 a) w := zac rfl Tryz.func47 rfl rfl a w
@[simp] theorem SqG.func48 : (SqG.prog aLt).funcs[48]? = some Tryz.f48 := zah rfl Tryz.func48
@[simp] theorem SqG.call48 (a : Array Value) (w : World) : (callFunc 48 a).run (SqG.prog aLt) w = .ok (.enter 48 a) w := zac rfl Tryz.func48 rfl rfl a w
@[simp] theorem SqG.func49 : (SqG.prog aLt).funcs[49]? = some Tryz.f49 := zah rfl Tryz.func49
@[simp] theorem SqG.call49 (a : Array Value) (w : World) : (callFunc 49 a).run (SqG.prog aLt) w = .ok (.enter 49 a) w := zac rfl Tryz.func49 rfl rfl a w
@[simp] theorem SqG.func50 : (SqG.prog aLt).funcs[50]? = some Tryz.f50 := zah rfl Tryz.func50
@[simp] theorem SqG.call50 (a : Array Value) (w : World) : (callFunc 50 a).run (SqG.prog aLt) w = .ok (.enter 50 a) w := zac rfl Tryz.func50 rfl rfl a w
@[simp] theorem SqG.func51 : (SqG.prog aLt).funcs[51]? = some Tryz.f51 := zah rfl Tryz.func51
@[simp] theorem SqG.call51 (a : Array Value) (w : World) : (callFunc 51 a).run (SqG.prog aLt) w = .ok (.enter 51 a) w := zac rfl Tryz.func51 rfl rfl a w
@[simp] theorem SqG.func53 : (SqG.prog aLt).funcs[53]? = some Tryz.f53 := zah rfl Tryz.func53
@[simp] theorem SqG.call53 (a : Array Value) (w : World) : (callFunc 53 a).run (SqG.prog aLt) w = .ok (.enter 53 a) w := zac rfl Tryz.func53 rfl rfl a w
@[simp] theorem SqG.func54 : (SqG.prog aLt).funcs[54]? = some Tryz.f54 := zah rfl Tryz.func54
@[simp] theorem SqG.call54 (a : Array Value) (w : World) : (callFunc 54 a).run (SqG.prog aLt) w = .ok (.enter 54 a) w := zac rfl Tryz.func54 rfl rfl a w
@[simp] theorem SqG.func55 : (SqG.prog aLt).funcs[55]? = some Tryz.f55 := zah rfl Tryz.func55
@[simp] theorem SqG.call55 (a : Array Value) (w : World) : (callFunc 55 a).run (SqG.prog aLt) w = .ok (.enter 55 a) w := zac rfl Tryz.func55 rfl rfl a w
@[simp] theorem SqG.func61 : (SqG.prog aLt).funcs[61]? = some Tryz.f61 := zah rfl Tryz.func61
@[simp] theorem SqG.call61 (a : Array Value) (w : World) : (callFunc 61 a).run (SqG.prog aLt) w = .ok (.enter 61 a) w := zac rfl Tryz.func61 rfl rfl a w
@[simp] theorem SqG.func62 : (SqG.prog aLt).funcs[62]? = some Tryz.f62 := zah rfl Tryz.func62
@[simp] theorem SqG.call62 (a : Array Value) (w : World) : (callFunc 62 a).run (SqG.prog aLt) w = .ok (.enter 62 a) w := zac rfl Tryz.func62 rfl rfl a w
@[simp] theorem SqG.func63 : (SqG.prog aLt).funcs[63]? = some Tryz.f63 := zah rfl Tryz.func63
@[simp] theorem SqG.call63 (a : Array Value) (w : World) : (callFunc 63 a).run (SqG.prog aLt) w = .ok (.enter 63 a) w := zac rfl Tryz.func63 rfl rfl a w
@[simp] theorem SqG.func64 : (SqG.prog aLt).funcs[64]? = some Tryz.f64 := zah rfl Tryz.func64
@[simp] theorem SqG.call64 (a : Array Value) (w : World) : (callFunc 64 a).run (SqG.prog aLt) w = .ok (.enter 64 a) w := zac rfl Tryz.func64 rfl rfl a w
@[simp] theorem SqG.func65 : (SqG.prog aLt).funcs[65]? = some Tryz.f65 := zah rfl Tryz.func65
@[simp] theorem SqG.call65 (a : Array Value) (w : World) : (callFunc 65 a).run (SqG.prog aLt) w = .ok (.enter 65 a) w := zac rfl Tryz.func65 rfl rfl a w
@[simp] theorem SqG.func68 : (SqG.prog aLt).funcs[68]? = some Tryz.f68 := zah rfl Tryz.func68
@[simp] theorem SqG.call68 (a : Array Value) (w : World) : (callFunc 68 a).run (SqG.prog aLt) w = .ok (.enter 68 a) w := zac rfl Tryz.func68 rfl rfl a w
@[simp] theorem SqG.func69 : (SqG.prog aLt).funcs[69]? = some Tryz.f69 := zah rfl Tryz.func69
@[simp] theorem SqG.call69 (a : Array Value) (w : World) : (callFunc 69 a).run (SqG.prog aLt) w = .ok (.enter 69 a) w := zac rfl Tryz.func69 rfl rfl a w
@[simp] theorem SqG.func83 : (SqG.prog aLt).funcs[83]? = some Tryz.f83 := zah rfl Tryz.func83
@[simp] theorem SqG.call83 (a : Array Value) (w : World) : (callFunc 83 a).run (SqG.prog aLt) w = .ok (.enter 83 a) w := zac rfl Tryz.func83 rfl rfl a w
@[simp] theorem SqG.func89 : (SqG.prog aLt).funcs[89]? = some Tryz.f89 := zah rfl Tryz.func89
@[simp] theorem SqG.call89 (a : Array Value) (w : World) : (callFunc 89 a).run (SqG.prog aLt) w = .ok (.enter 89 a) w := zac rfl Tryz.func89 rfl rfl a w
@[simp] theorem SqG.func90 : (SqG.prog aLt).funcs[90]? = some Tryz.f90 := zah rfl Tryz.func90
@[simp] theorem SqG.call90 (a : Array Value) (w : World) : (callFunc 90 a).run (SqG.prog aLt) w = .ok (.enter 90 a) w := zac rfl Tryz.func90 rfl rfl a w
@[simp] theorem SqG.func91 : (SqG.prog aLt).funcs[91]? = some Tryz.f91 := zah rfl Tryz.func91
@[simp] theorem SqG.call91 (a : Array Value) (w : World) : (callFunc 91 a).run (SqG.prog aLt) w = .ok (.enter 91 a) w := zac rfl Tryz.func91 rfl rfl a w
@[simp] theorem SqG.func92 : (SqG.prog aLt).funcs[92]? = some Tryz.f92 := zah rfl Tryz.func92
@[simp] theorem SqG.call92 (a : Array Value) (w : World) : (callFunc 92 a).run (SqG.prog aLt) w = .ok (.enter 92 a) w := zac rfl Tryz.func92 rfl rfl a w
@[simp] theorem SqG.func93 : (SqG.prog aLt).funcs[93]? = some Tryz.f93 := zah rfl Tryz.func93
@[simp] theorem SqG.call93 (a : Array Value) (w : World) : (callFunc 93 a).run (SqG.prog aLt) w = .ok (.enter 93 a) w := zac rfl Tryz.func93 rfl rfl a w
@[simp] theorem SqG.func94 : (SqG.prog aLt).funcs[94]? = some Tryz.f94 := zah rfl Tryz.func94
@[simp] theorem SqG.call94 (a : Array Value) (w : World) : (callFunc 94 a).run (SqG.prog aLt) w = .ok (.enter 94 a) w := zac rfl Tryz.func94 rfl rfl a w
@[simp] theorem SqG.func95 : (SqG.prog aLt).funcs[95]? = some Tryz.f95 := zah rfl Tryz.func95
@[simp] theorem SqG.call95 (a : Array Value) (w : World) : (callFunc 95 a).run (SqG.prog aLt) w = .ok (.enter 95 a) w := zac rfl Tryz.func95 rfl rfl a w
@[simp] theorem SqG.func101 : (SqG.prog aLt).funcs[101]? = some Tryz.f101 := zah rfl Tryz.func101
@[simp] theorem SqG.call101 (a : Array Value) (w : World) : (callFunc 101 a).run (SqG.prog aLt) w = .ok (.enter 101 a) w := zac rfl Tryz.func101 rfl rfl a w
@[simp] theorem SqG.func102 : (SqG.prog aLt).funcs[102]? = some Tryz.f102 := zah rfl Tryz.func102
@[simp] theorem SqG.call102 (a : Array Value) (w : World) : (callFunc 102 a).run (SqG.prog aLt) w = .ok (.enter 102 a) w := zac rfl Tryz.func102 rfl rfl a w
@[simp] theorem SqG.func103 : (SqG.prog aLt).funcs[103]? = some Tryz.f103 := zah rfl Tryz.func103
@[simp] theorem SqG.call103 (a : Array Value) (w : World) : (callFunc 103 a).run (SqG.prog aLt) w = .ok (.enter 103 a) w := zac rfl Tryz.func103 rfl rfl a w
@[simp] theorem SqG.func104 : (SqG.prog aLt).funcs[104]? = some Tryz.f104 := zah rfl Tryz.func104
@[simp] theorem SqG.call104 (a : Array Value) (w : World) : (callFunc 104 a).run (SqG.prog aLt) w = .ok (.enter 104 a) w := zac rfl Tryz.func104 rfl rfl a w
@[simp] theorem SqG.func105 : (SqG.prog aLt).funcs[105]? = some Tryz.f105 := zah rfl Tryz.func105
@[simp] theorem SqG.call105 (a : Array Value) (w : World) : (callFunc 105 a).run (SqG.prog aLt) w = .ok (.enter 105 a) w := zac rfl Tryz.func105 rfl rfl a w
@[simp] theorem SqG.func106 : (SqG.prog aLt).funcs[106]? = some Tryz.f106 := zah rfl Tryz.func106
@[simp] theorem SqG.call106 (a : Array Value) (w : World) : (callFunc 106 a).run (SqG.prog aLt) w = .ok (.enter 106 a) w := zac rfl Tryz.func106 rfl rfl a w
@[simp] theorem SqG.func107 : (SqG.prog aLt).funcs[107]? = some Tryz.f107 := zah rfl Tryz.func107
@[simp] theorem SqG.call107 (a : Array Value) (w : World) : (callFunc 107 a).run (SqG.prog aLt) w = .ok (.enter 107 a) w := zac rfl Tryz.func107 rfl rfl a w
@[simp] theorem SqG.func108 : (SqG.prog aLt).funcs[108]? = some Tryz.f108 := zah rfl Tryz.func108
@[simp] theorem SqG.call108 (a : Array Value) (w : World) : (callFunc 108 a).run (SqG.prog aLt) w = .ok (.enter 108 a) w := zac rfl Tryz.func108 rfl rfl a w
@[simp] theorem SqG.func109 : (SqG.prog aLt).funcs[109]? = some Tryz.f109 := zah rfl Tryz.func109
@[simp] theorem SqG.call109 (a : Array Value) (w : World) : (callFunc 109 a).run (SqG.prog aLt) w = .ok (.enter 109 a) w := zac rfl Tryz.func109 rfl rfl a w
@[simp] theorem SqG.func110 : (SqG.prog aLt).funcs[110]? = some Tryz.f110 := zah rfl Tryz.func110
@[simp] theorem SqG.call110 (a : Array Value) (w : World) : (callFunc 110 a).run (SqG.prog aLt) w = .ok (.enter 110 a) w := zac rfl Tryz.func110 rfl rfl a w
@[simp] theorem SqG.func111 : (SqG.prog aLt).funcs[111]? = some Tryz.f111 := zah rfl Tryz.func111
@[simp] theorem SqG.call111 (a : Array Value) (w : World) : (callFunc 111 a).run (SqG.prog aLt) w = .ok (.enter 111 a) w := zac rfl Tryz.func111 rfl rfl a w
@[simp] theorem SqG.func112 : (SqG.prog aLt).funcs[112]? = some Tryz.f112 := zah rfl Tryz.func112
@[simp] theorem SqG.func113 : (SqG.prog aLt).funcs[113]? = some Tryz.f113 := zah rfl Tryz.func113
@[simp] theorem SqG.func114 : (SqG.prog aLt).funcs[114]? = some Tryz.f114 := zah rfl Tryz.func114
@[simp] theorem SqG.func115 : (SqG.prog aLt).funcs[115]? = some Tryz.f115 := zah rfl Tryz.func115
@[simp] theorem SqG.func116 : (SqG.prog aLt).funcs[116]? = some Tryz.f116 := zah rfl Tryz.func116
@[simp] theorem SqG.func117 : (SqG.prog aLt).funcs[117]? = some Tryz.f117 := zah rfl Tryz.func117
@[simp] theorem SqG.func118 : (SqG.prog aLt).funcs[118]? = some Tryz.f118 := zah rfl Tryz.func118
@[simp] theorem SqG.call118 (a : Array Value) (w : World) : (callFunc 118 a).run (SqG.prog aLt) w = .ok (.enter 118 a) w := zac rfl Tryz.func118 rfl rfl a w
@[simp] theorem SqG.func119 : (SqG.prog aLt).funcs[119]? = some Tryz.f119 := zah rfl Tryz.func119
@[simp] theorem SqG.call119 (a : Array Value) (w : World) : (callFunc 119 a).run (SqG.prog aLt) w = .ok (.enter 119 a) w := zac rfl Tryz.func119 rfl rfl a w
@[simp] theorem SqG.func120 : (SqG.prog aLt).funcs[120]? = some Tryz.f120 := zah rfl Tryz.func120
@[simp] theorem SqG.call120 (a : Array Value) (w : World) : (callFunc 120 a).run (SqG.prog aLt) w = .ok (.enter 120 a) w := zac rfl Tryz.func120 rfl rfl a w
@[simp] theorem SqG.func121 : (SqG.prog aLt).funcs[121]? = some Tryz.f121 := zah rfl Tryz.func121
@[simp] theorem SqG.call121 (a : Array Value) (w : World) : (callFunc 121 a).run (SqG.prog aLt) w = .ok (.enter 121 a) w := zac rfl Tryz.func121 rfl rfl a w
@[simp] theorem SqG.func122 : (SqG.prog aLt).funcs[122]? = some Tryz.f122 := zah rfl Tryz.func122
@[simp] theorem SqG.call122 (a : Array Value) (w : World) : (callFunc 122 a).run (SqG.prog aLt) w = .ok (.enter 122 a) w := zac rfl Tryz.func122 rfl rfl a w
@[simp] theorem SqG.func123 : (SqG.prog aLt).funcs[123]? = some Tryz.f123 := zah rfl Tryz.func123
@[simp] theorem SqG.call123 (a : Array Value) (w : World) : (callFunc 123 a).run (SqG.prog aLt) w = .ok (.enter 123 a) w := zac rfl Tryz.func123 rfl rfl a w
@[simp] theorem SqG.func124 : (SqG.prog aLt).funcs[124]? = some Tryz.f124 := zah rfl Tryz.func124
@[simp] theorem SqG.call124 (a : Array Value) (w : World) : (callFunc 124 a).run (SqG.prog aLt) w = .ok (.enter 124 a) w := zac rfl Tryz.func124 rfl rfl a w
@[simp] theorem SqG.func125 : (SqG.prog aLt).funcs[125]? = some Tryz.f125 := zah rfl Tryz.func125
@[simp] theorem SqG.call125 (a : Array Value) (w : World) : (callFunc 125 a).run (SqG.prog aLt) w = .ok (.enter 125 a) w := zac rfl Tryz.func125 rfl rfl a w
@[simp] theorem SqG.func126 : (SqG.prog aLt).funcs[126]? = some Tryz.f126 := zah rfl Tryz.func126
@[simp] theorem SqG.call126 (a : Array Value) (w : World) : (callFunc 126 a).run (SqG.prog aLt) w = .ok (.enter 126 a) w := zac rfl Tryz.func126 rfl rfl a w
@[simp] theorem SqG.func127 : (SqG.prog aLt).funcs[127]? = some Tryz.f127 := zah rfl Tryz.func127
@[simp] theorem SqG.call127 (a : Array Value) (w : World) : (callFunc 127 a).run (SqG.prog aLt) w = .ok (.enter 127 a) w := zac rfl Tryz.func127 rfl rfl a w
@[simp] theorem SqG.func128 : (SqG.prog aLt).funcs[128]? = some Tryz.f128 := zah rfl Tryz.func128
@[simp] theorem SqG.call128 (a : Array Value) (w : World) : (callFunc 128 a).run (SqG.prog aLt) w = .ok (.enter 128 a) w := zac rfl Tryz.func128 rfl rfl a w
@[simp] theorem SqG.func129 : (SqG.prog aLt).funcs[129]? = some Tryz.f129 := zah rfl Tryz.func129
@[simp] theorem SqG.call129 (a : Array Value) (w : World) : (callFunc 129 a).run (SqG.prog aLt) w = .ok (.enter 129 a) w := zac rfl Tryz.func129 rfl rfl a w
@[simp] theorem SqG.func130 : (SqG.prog aLt).funcs[130]? = some Tryz.f130 := zah rfl Tryz.func130
@[simp] theorem SqG.call130 (a : Array Value) (w : World) : (callFunc 130 a).run (SqG.prog aLt) w = .ok (.enter 130 a) w := zac rfl Tryz.func130 rfl rfl a w
@[simp] theorem SqG.func131 : (SqG.prog aLt).funcs[131]? = some Tryz.f131 := zah rfl Tryz.func131
@[simp] theorem SqG.call131 (a : Array Value) (w : World) : (callFunc 131 a).run (SqG.prog aLt) w = .ok (.enter 131 a) w := zac rfl Tryz.func131 rfl rfl a w
@[simp] theorem SqG.func132 : (SqG.prog aLt).funcs[132]? = some Tryz.f132 := zah rfl Tryz.func132
@[simp] theorem SqG.call132 (a : Array Value) (w : World) : (callFunc 132 a).run (SqG.prog aLt) w = .ok (.enter 132 a) w := zac rfl Tryz.func132 rfl rfl a w
@[simp] theorem SqG.func148 : (SqG.prog aLt).funcs[148]? = some Tryz.f148 := zah rfl Tryz.func148
@[simp] theorem SqG.call148 (a : Array Value) (w : World) : (callFunc 148 a).run (SqG.prog aLt) w = .ok (.enter 148 a) w := zac rfl Tryz.func148 rfl rfl a w
@[simp] theorem SqG.func156 : (SqG.prog aLt).funcs[156]? = some Tryz.f156 := zah rfl Tryz.func156
@[simp] theorem SqG.call156 (a : Array Value) (w : World) : (callFunc 156 a).run (SqG.prog aLt) w = .ok (.enter 156 a) w := zac rfl Tryz.func156 rfl rfl a w
end
end
end Go.Proofs.YtfbbcooklhmeaaaGreat
