/- Part. -/
import Derived.Deep.RegionWith
import Derived.Test.YtbggojblgbeohaaGreatLAx
set_option maxHeartbeats 400000
namespace Go.Proofs.YtbggojblgbeohaaGreat
section
open Go
noncomputable abbrev SqP.prog:Program:=SqG.prog Sq.altP
abbrev SqP.underlying23:=@SqG.underlying23 Sq.altP
abbrev SqP.underlying28:=@SqG.underlying28 Sq.altP
abbrev SqP.func3:=@SqG.func3 Sq.altP
abbrev SqP.func4:=@SqG.func4 Sq.altP
abbrev SqP.func5:=@SqG.func5 Sq.altP
theorem SqP.func6:SqP.prog.funcs[6]?=some (zmQ Tryz.f6):=zlg rfl Tryz.func6
theorem SqP.ntmps6:(zmQ Tryz.f6).ntmps=22:=rfl
theorem SqP.body6:(zmQ Tryz.f6).body=some zrR:=rfl
theorem SqP.results6:(zmQ Tryz.f6).results=Tryz.f6.results:=rfl
@[simp] theorem SqP.call6(a : Array Value)(w : World) : (callFunc 6 a).run SqP.prog w = .ok (.enter 6 a) w := zke rfl Tryz.func6 rfl rfl a w
abbrev SqP.func7:=@SqG.func7 Sq.altP
abbrev SqP.func8:=@SqG.func8 Sq.altP
abbrev SqP.func9:=@SqG.func9 Sq.altP
abbrev SqP.func12:=@SqG.func12 Sq.altP
abbrev SqP.func13:=@SqG.func13 Sq.altP
abbrev SqP.func23:=@SqG.func23 Sq.altP
abbrev SqP.func24:=@SqG.func24 Sq.altP
abbrev SqP.func25:=@SqG.func25 Sq.altP
abbrev SqP.func26:=@SqG.func26 Sq.altP
abbrev SqP.func27:=@SqG.func27 Sq.altP
abbrev SqP.func30:=@SqG.func30 Sq.altP
abbrev SqP.func31:=@SqG.func31 Sq.altP
abbrev SqP.func48:=@SqG.func48 Sq.altP
abbrev SqP.ntmps48:=Tryz.ntmps48
abbrev SqP.func49:=@SqG.func49 Sq.altP
abbrev SqP.func52:=@SqG.func52 Sq.altP
abbrev SqP.func53:=@SqG.func53 Sq.altP
abbrev SqP.func80:=@SqG.func80 Sq.altP
abbrev SqP.func138:=@SqG.func138 Sq.altP
abbrev SqP.func139:=@SqG.func139 Sq.altP
abbrev SqP.func140:=@SqG.func140 Sq.altP
abbrev SqP.func141:=@SqG.func141 Sq.altP
abbrev SqP.func142:=@SqG.func142 Sq.altP
abbrev SqP.func143:=@SqG.func143 Sq.altP
abbrev SqP.func144:=@SqG.func144 Sq.altP
abbrev SqP.func146:=@SqG.func146 Sq.altP
end
namespace Sp
open Go.RowKit
theorem zkE(w:World):Sem.run SqP.prog (method 297 138 (Value.agg #[]) "loop.example/lucarne/impl.number") w=.ok (138,.agg #[]) w:=by kernel_rfl
theorem zkH(w:World):Sem.run SqP.prog (method 297 139 (Value.agg #[]) "loop.example/lucarne/impl.number") w=.ok (139,.agg #[]) w:=by kernel_rfl
theorem zjq(w:World):Sem.run SqP.prog (method 297 140 (Value.agg #[]) "loop.example/lucarne/impl.number") w=.ok (140,.agg #[]) w:=by kernel_rfl
theorem zkD(w:World):Sem.run SqP.prog (method 297 141 (Value.agg #[]) "loop.example/lucarne/impl.number") w=.ok (141,.agg #[]) w:=by kernel_rfl
theorem zjp(w:World):Sem.run SqP.prog (method 297 142 (Value.agg #[]) "loop.example/lucarne/impl.number") w=.ok (142,.agg #[]) w:=by kernel_rfl
theorem zkG(w:World):Sem.run SqP.prog (method 297 143 (Value.agg #[]) "loop.example/lucarne/impl.number") w=.ok (143,.agg #[]) w:=by kernel_rfl
theorem zmB(w:World):Sem.run SqP.prog (method 297 144 (Value.agg #[]) "loop.example/lucarne/impl.number") w=.ok (144,.agg #[]) w:=by kernel_rfl
theorem zkF(w:World):Sem.run SqP.prog (method 297 145 (Value.agg #[]) "loop.example/lucarne/impl.number") w=.ok (146,.agg #[]) w:=by kernel_rfl
theorem zdS(w:World):Sem.run SqP.prog (Instr.typeAssert (.iface 138 (.agg #[])) 94 140 true) w=.ok (.tuple #[.agg #[],.bool false]) w:=by kernel_rfl
theorem zeC(w:World):Sem.run SqP.prog (Instr.typeAssert (.iface 138 (.agg #[])) 94 141 true) w=.ok (.tuple #[.agg #[],.bool false]) w:=by kernel_rfl
theorem zdR(w:World):Sem.run SqP.prog (Instr.typeAssert (.iface 138 (.agg #[])) 94 142 true) w=.ok (.tuple #[.agg #[],.bool false]) w:=by kernel_rfl
theorem zeD(w:World):Sem.run SqP.prog (Instr.typeAssert (.iface 138 (.agg #[])) 94 143 true) w=.ok (.tuple #[.agg #[],.bool false]) w:=by kernel_rfl
theorem zdZ(w:World):Sem.run SqP.prog (Instr.typeAssert (.iface 139 (.agg #[])) 94 140 true) w=.ok (.tuple #[.agg #[],.bool false]) w:=by kernel_rfl
theorem zeI(w:World):Sem.run SqP.prog (Instr.typeAssert (.iface 139 (.agg #[])) 94 141 true) w=.ok (.tuple #[.agg #[],.bool false]) w:=by kernel_rfl
theorem zdY(w:World):Sem.run SqP.prog (Instr.typeAssert (.iface 139 (.agg #[])) 94 142 true) w=.ok (.tuple #[.agg #[],.bool false]) w:=by kernel_rfl
theorem zeJ(w:World):Sem.run SqP.prog (Instr.typeAssert (.iface 139 (.agg #[])) 94 143 true) w=.ok (.tuple #[.agg #[],.bool false]) w:=by kernel_rfl
theorem zdA(w:World):Sem.run SqP.prog (Instr.typeAssert (.iface 140 (.agg #[])) 94 140 true) w=.ok (.tuple #[.agg #[],.bool true]) w:=by kernel_rfl
theorem zdQ(w:World):Sem.run SqP.prog (Instr.typeAssert (.iface 141 (.agg #[])) 94 140 true) w=.ok (.tuple #[.agg #[],.bool false]) w:=by kernel_rfl
theorem zez(w:World):Sem.run SqP.prog (Instr.typeAssert (.iface 141 (.agg #[])) 94 141 true) w=.ok (.tuple #[.agg #[],.bool true]) w:=by kernel_rfl
theorem zdz(w:World):Sem.run SqP.prog (Instr.typeAssert (.iface 142 (.agg #[])) 94 140 true) w=.ok (.tuple #[.agg #[],.bool false]) w:=by kernel_rfl
theorem zdT(w:World):Sem.run SqP.prog (Instr.typeAssert (.iface 142 (.agg #[])) 94 141 true) w=.ok (.tuple #[.agg #[],.bool false]) w:=by kernel_rfl
theorem zdy(w:World):Sem.run SqP.prog (Instr.typeAssert (.iface 142 (.agg #[])) 94 142 true) w=.ok (.tuple #[.agg #[],.bool true]) w:=by kernel_rfl
theorem zdX(w:World):Sem.run SqP.prog (Instr.typeAssert (.iface 143 (.agg #[])) 94 140 true) w=.ok (.tuple #[.agg #[],.bool false]) w:=by kernel_rfl
theorem zeG(w:World):Sem.run SqP.prog (Instr.typeAssert (.iface 143 (.agg #[])) 94 141 true) w=.ok (.tuple #[.agg #[],.bool false]) w:=by kernel_rfl
theorem zdW(w:World):Sem.run SqP.prog (Instr.typeAssert (.iface 143 (.agg #[])) 94 142 true) w=.ok (.tuple #[.agg #[],.bool false]) w:=by kernel_rfl
theorem zeH(w:World):Sem.run SqP.prog (Instr.typeAssert (.iface 143 (.agg #[])) 94 143 true) w=.ok (.tuple #[.agg #[],.bool true]) w:=by kernel_rfl
theorem zeB(w:World):Sem.run SqP.prog (Instr.typeAssert (.iface 144 (.agg #[])) 94 140 true) w=.ok (.tuple #[.agg #[],.bool false]) w:=by kernel_rfl
theorem zfc(w:World):Sem.run SqP.prog (Instr.typeAssert (.iface 144 (.agg #[])) 94 141 true) w=.ok (.tuple #[.agg #[],.bool false]) w:=by kernel_rfl
theorem zeA(w:World):Sem.run SqP.prog (Instr.typeAssert (.iface 144 (.agg #[])) 94 142 true) w=.ok (.tuple #[.agg #[],.bool false]) w:=by kernel_rfl
theorem zfd(w:World):Sem.run SqP.prog (Instr.typeAssert (.iface 144 (.agg #[])) 94 143 true) w=.ok (.tuple #[.agg #[],.bool false]) w:=by kernel_rfl
theorem zdV(w:World):Sem.run SqP.prog (Instr.typeAssert (.iface 145 (.agg #[])) 94 140 true) w=.ok (.tuple #[.agg #[],.bool false]) w:=by kernel_rfl
theorem zeE(w:World):Sem.run SqP.prog (Instr.typeAssert (.iface 145 (.agg #[])) 94 141 true) w=.ok (.tuple #[.agg #[],.bool false]) w:=by kernel_rfl
theorem zdU(w:World):Sem.run SqP.prog (Instr.typeAssert (.iface 145 (.agg #[])) 94 142 true) w=.ok (.tuple #[.agg #[],.bool false]) w:=by kernel_rfl
theorem zeF(w:World):Sem.run SqP.prog (Instr.typeAssert (.iface 145 (.agg #[])) 94 143 true) w=.ok (.tuple #[.agg #[],.bool false]) w:=by kernel_rfl
theorem zgm(w:World):Calls SqP.prog 138 #[.agg #[]] w fun e w'=>e=.returned (.int .i64 0)/\Below w.heap.size w w':=by
 go_enter SqP.func138,Tryz.ntmps138
 go_wp2
 go_ret
 exact⟨rfl,bel⟩
theorem zib(w:World):Calls SqP.prog 49 #[.iface 138 (.agg #[])] w fun e w'=>e=.returned (.iface 138 (.agg #[]))/\w'=w:=by
 have h0:=zdS
 have h1:=zeC
 have h2:=zdR
 have h3:=zeD
 go_enter SqP.func49,Tryz.ntmps49
 go_wp2
 go_ret
 exact⟨rfl,rfl⟩
theorem zgp(w:World):Calls SqP.prog 139 #[.agg #[]] w fun e w'=>e=.returned (.int .i64 1)/\Below w.heap.size w w':=by
 go_enter SqP.func139,Tryz.ntmps139
 go_wp2
 go_ret
 exact⟨rfl,bel⟩
theorem zie(w:World):Calls SqP.prog 49 #[.iface 139 (.agg #[])] w fun e w'=>e=.returned (.iface 139 (.agg #[]))/\w'=w:=by
 have h0:=zdZ
 have h1:=zeI
 have h2:=zdY
 have h3:=zeJ
 go_enter SqP.func49,Tryz.ntmps49
 go_wp2
 go_ret
 exact⟨rfl,rfl⟩
theorem zfo(w:World):Calls SqP.prog 140 #[.agg #[]] w fun e w'=>e=.returned (.int .i64 2)/\Below w.heap.size w w':=by
 go_enter SqP.func140,Tryz.ntmps140
 go_wp2
 go_ret
 exact⟨rfl,bel⟩
theorem zg8(w:World):Calls SqP.prog 49 #[.iface 140 (.agg #[])] w fun e w'=>e=.returned (.iface 141 (.agg #[]))/\w'=w:=by
 have h0:=zdA
 go_enter SqP.func49,Tryz.ntmps49
 go_wp2
 go_ret
 exact⟨rfl,rfl⟩
theorem zgl(w:World):Calls SqP.prog 141 #[.agg #[]] w fun e w'=>e=.returned (.int .i64 3)/\Below w.heap.size w w':=by
 go_enter SqP.func141,Tryz.ntmps141
 go_wp2
 go_ret
 exact⟨rfl,bel⟩
theorem zia(w:World):Calls SqP.prog 49 #[.iface 141 (.agg #[])] w fun e w'=>e=.returned (.iface 140 (.agg #[]))/\w'=w:=by
 have h0:=zdQ
 have h1:=zez
 go_enter SqP.func49,Tryz.ntmps49
 go_wp2
 go_ret
 exact⟨rfl,rfl⟩
theorem zfn(w:World):Calls SqP.prog 142 #[.agg #[]] w fun e w'=>e=.returned (.int .i64 4)/\Below w.heap.size w w':=by
 go_enter SqP.func142,Tryz.ntmps142
 go_wp2
 go_ret
 exact⟨rfl,bel⟩
theorem zg7(w:World):Calls SqP.prog 49 #[.iface 142 (.agg #[])] w fun e w'=>e=.returned (.iface 143 (.agg #[]))/\w'=w:=by
 have h0:=zdz
 have h1:=zdT
 have h2:=zdy
 go_enter SqP.func49,Tryz.ntmps49
 go_wp2
 go_ret
 exact⟨rfl,rfl⟩
theorem zgo(w:World):Calls SqP.prog 143 #[.agg #[]] w fun e w'=>e=.returned (.int .i64 5)/\Below w.heap.size w w':=by
 go_enter SqP.func143,Tryz.ntmps143
 go_wp2
 go_ret
 exact⟨rfl,bel⟩
theorem zid(w:World):Calls SqP.prog 49 #[.iface 143 (.agg #[])] w fun e w'=>e=.returned (.iface 142 (.agg #[]))/\w'=w:=by
 have h0:=zdX
 have h1:=zeG
 have h2:=zdW
 have h3:=zeH
 go_enter SqP.func49,Tryz.ntmps49
 go_wp2
 go_ret
 exact⟨rfl,rfl⟩
theorem zg9(w:World):Calls SqP.prog 144 #[.agg #[]] w fun e w'=>e=.returned (.int .i64 6)/\Below w.heap.size w w':=by
 go_enter SqP.func144,Tryz.ntmps144
 go_wp2
 go_ret
 exact⟨rfl,bel⟩
theorem zjf(w:World):Calls SqP.prog 49 #[.iface 144 (.agg #[])] w fun e w'=>e=.returned (.iface 144 (.agg #[]))/\w'=w:=by
 have h0:=zeB
 have h1:=zfc
 have h2:=zeA
 have h3:=zfd
 go_enter SqP.func49,Tryz.ntmps49
 go_wp2
 go_ret
 exact⟨rfl,rfl⟩
theorem zgn(w:World):Calls SqP.prog 146 #[.agg #[]] w fun e w'=>e=.returned (.int .i64 7)/\Below w.heap.size w w':=by
 go_enter SqP.func146,Tryz.ntmps146
 go_wp2
 go_ret
 exact⟨rfl,bel⟩
theorem zic(w:World):Calls SqP.prog 49 #[.iface 145 (.agg #[])] w fun e w'=>e=.returned (.iface 145 (.agg #[]))/\w'=w:=by
 have h0:=zdV
 have h1:=zeE
 have h2:=zdU
 have h3:=zeF
 go_enter SqP.func49,Tryz.ntmps49
 go_wp2
 go_ret
 exact⟨rfl,rfl⟩
theorem zh6(l:Int)(w:World) :
  Calls SqP.prog 27 #[.agg #[.int .i64 0,.int .i64 l]] w fun e w'=>e=.returned (.agg #[.int .i64 0,.int .i64 l])/\Below w.heap.size w w':=by
 have hs:=zkE
 have hB:Below w.heap.size w ((w.alloc (.cells #[.int .i64 0,.int .i64 l] 50)).alloc (.cells #[.int .i64 0,.int .i64 0] 50)):=bel
 go_enter SqP.func27,Tryz.ntmps27
 go_wp2
 go_region_with (first|(go_at_call 49;refine(zib _).mono ?_;rintro e w1 ⟨rfl,rfl⟩)|(go_at_call 138;refine(zgm _).mono ?_;rintro e w2 ⟨rfl,hb2⟩;have q0:w2.cell? ⟨w.heap.size,1,none⟩=some (.int .i64 l):=zab hb2 (by simp[go_sem]);have q1:w2.cell? ⟨w.heap.size+1,0,none⟩=some (.int .i64 0):=zab hb2 (by simp[go_sem]);have q2:w2.cell? ⟨w.heap.size+1,1,none⟩=some (.int .i64 0):=zab hb2 (by simp[go_sem]);have f1:w2.frozen? ⟨w.heap.size+1,0,none⟩=false:=zaj hb2 (v:=.int .i64 0) (by simp[go_sem]) (by simp[go_sem]);have f2:w2.frozen? ⟨w.heap.size+1,1,none⟩=false:=zaj hb2 (v:=.int .i64 0) (by simp[go_sem]) (by simp[go_sem])))
 all_goals
  go_wp2
  refine bodyPost_ret (v:=.agg #[.int .i64 0,.int .i64 l]) (by simp[results,Tryz.results27,go_sem,q1,q2]) rfl ⟨rfl,?_⟩
  exact((zak hB (by simp;omega) (by first|exact hb2|exact zbw hb2)).setCell (by simp) _).setCell (by simp) _
theorem zh9(l:Int)(w:World) :
  Calls SqP.prog 27 #[.agg #[.int .i64 1,.int .i64 l]] w fun e w'=>e=.returned (.agg #[.int .i64 1,.int .i64 l])/\Below w.heap.size w w':=by
 have hs:=zkH
 have hB:Below w.heap.size w ((w.alloc (.cells #[.int .i64 1,.int .i64 l] 50)).alloc (.cells #[.int .i64 0,.int .i64 0] 50)):=bel
 go_enter SqP.func27,Tryz.ntmps27
 go_wp2
 go_region_with (first|(go_at_call 49;refine(zie _).mono ?_;rintro e w1 ⟨rfl,rfl⟩)|(go_at_call 139;refine(zgp _).mono ?_;rintro e w2 ⟨rfl,hb2⟩;have q0:w2.cell? ⟨w.heap.size,1,none⟩=some (.int .i64 l):=zab hb2 (by simp[go_sem]);have q1:w2.cell? ⟨w.heap.size+1,0,none⟩=some (.int .i64 0):=zab hb2 (by simp[go_sem]);have q2:w2.cell? ⟨w.heap.size+1,1,none⟩=some (.int .i64 0):=zab hb2 (by simp[go_sem]);have f1:w2.frozen? ⟨w.heap.size+1,0,none⟩=false:=zaj hb2 (v:=.int .i64 0) (by simp[go_sem]) (by simp[go_sem]);have f2:w2.frozen? ⟨w.heap.size+1,1,none⟩=false:=zaj hb2 (v:=.int .i64 0) (by simp[go_sem]) (by simp[go_sem])))
 all_goals
  go_wp2
  refine bodyPost_ret (v:=.agg #[.int .i64 1,.int .i64 l]) (by simp[results,Tryz.results27,go_sem,q1,q2]) rfl ⟨rfl,?_⟩
  exact((zak hB (by simp;omega) (by first|exact hb2|exact zbw hb2)).setCell (by simp) _).setCell (by simp) _
theorem zg6(l:Int)(w:World) :
  Calls SqP.prog 27 #[.agg #[.int .i64 2,.int .i64 l]] w fun e w'=>e=.returned (.agg #[.int .i64 3,.int .i64 l])/\Below w.heap.size w w':=by
 have hs:=zkD
 have hB:Below w.heap.size w ((w.alloc (.cells #[.int .i64 2,.int .i64 l] 50)).alloc (.cells #[.int .i64 0,.int .i64 0] 50)):=bel
 go_enter SqP.func27,Tryz.ntmps27
 go_wp2
 go_region_with (first|(go_at_call 49;refine(zg8 _).mono ?_;rintro e w1 ⟨rfl,rfl⟩)|(go_at_call 141;refine(zgl _).mono ?_;rintro e w2 ⟨rfl,hb2⟩;have q0:w2.cell? ⟨w.heap.size,1,none⟩=some (.int .i64 l):=zab hb2 (by simp[go_sem]);have q1:w2.cell? ⟨w.heap.size+1,0,none⟩=some (.int .i64 0):=zab hb2 (by simp[go_sem]);have q2:w2.cell? ⟨w.heap.size+1,1,none⟩=some (.int .i64 0):=zab hb2 (by simp[go_sem]);have f1:w2.frozen? ⟨w.heap.size+1,0,none⟩=false:=zaj hb2 (v:=.int .i64 0) (by simp[go_sem]) (by simp[go_sem]);have f2:w2.frozen? ⟨w.heap.size+1,1,none⟩=false:=zaj hb2 (v:=.int .i64 0) (by simp[go_sem]) (by simp[go_sem])))
 all_goals
  go_wp2
  refine bodyPost_ret (v:=.agg #[.int .i64 3,.int .i64 l]) (by simp[results,Tryz.results27,go_sem,q1,q2]) rfl ⟨rfl,?_⟩
  exact((zak hB (by simp;omega) (by first|exact hb2|exact zbw hb2)).setCell (by simp) _).setCell (by simp) _
theorem zh5(l:Int)(w:World) :
  Calls SqP.prog 27 #[.agg #[.int .i64 3,.int .i64 l]] w fun e w'=>e=.returned (.agg #[.int .i64 2,.int .i64 l])/\Below w.heap.size w w':=by
 have hs:=zjq
 have hB:Below w.heap.size w ((w.alloc (.cells #[.int .i64 3,.int .i64 l] 50)).alloc (.cells #[.int .i64 0,.int .i64 0] 50)):=bel
 go_enter SqP.func27,Tryz.ntmps27
 go_wp2
 go_region_with (first|(go_at_call 49;refine(zia _).mono ?_;rintro e w1 ⟨rfl,rfl⟩)|(go_at_call 140;refine(zfo _).mono ?_;rintro e w2 ⟨rfl,hb2⟩;have q0:w2.cell? ⟨w.heap.size,1,none⟩=some (.int .i64 l):=zab hb2 (by simp[go_sem]);have q1:w2.cell? ⟨w.heap.size+1,0,none⟩=some (.int .i64 0):=zab hb2 (by simp[go_sem]);have q2:w2.cell? ⟨w.heap.size+1,1,none⟩=some (.int .i64 0):=zab hb2 (by simp[go_sem]);have f1:w2.frozen? ⟨w.heap.size+1,0,none⟩=false:=zaj hb2 (v:=.int .i64 0) (by simp[go_sem]) (by simp[go_sem]);have f2:w2.frozen? ⟨w.heap.size+1,1,none⟩=false:=zaj hb2 (v:=.int .i64 0) (by simp[go_sem]) (by simp[go_sem])))
 all_goals
  go_wp2
  refine bodyPost_ret (v:=.agg #[.int .i64 2,.int .i64 l]) (by simp[results,Tryz.results27,go_sem,q1,q2]) rfl ⟨rfl,?_⟩
  exact((zak hB (by simp;omega) (by first|exact hb2|exact zbw hb2)).setCell (by simp) _).setCell (by simp) _
theorem zg5(l:Int)(w:World) :
  Calls SqP.prog 27 #[.agg #[.int .i64 4,.int .i64 l]] w fun e w'=>e=.returned (.agg #[.int .i64 5,.int .i64 l])/\Below w.heap.size w w':=by
 have hs:=zkG
 have hB:Below w.heap.size w ((w.alloc (.cells #[.int .i64 4,.int .i64 l] 50)).alloc (.cells #[.int .i64 0,.int .i64 0] 50)):=bel
 go_enter SqP.func27,Tryz.ntmps27
 go_wp2
 go_region_with (first|(go_at_call 49;refine(zg7 _).mono ?_;rintro e w1 ⟨rfl,rfl⟩)|(go_at_call 143;refine(zgo _).mono ?_;rintro e w2 ⟨rfl,hb2⟩;have q0:w2.cell? ⟨w.heap.size,1,none⟩=some (.int .i64 l):=zab hb2 (by simp[go_sem]);have q1:w2.cell? ⟨w.heap.size+1,0,none⟩=some (.int .i64 0):=zab hb2 (by simp[go_sem]);have q2:w2.cell? ⟨w.heap.size+1,1,none⟩=some (.int .i64 0):=zab hb2 (by simp[go_sem]);have f1:w2.frozen? ⟨w.heap.size+1,0,none⟩=false:=zaj hb2 (v:=.int .i64 0) (by simp[go_sem]) (by simp[go_sem]);have f2:w2.frozen? ⟨w.heap.size+1,1,none⟩=false:=zaj hb2 (v:=.int .i64 0) (by simp[go_sem]) (by simp[go_sem])))
 all_goals
  go_wp2
  refine bodyPost_ret (v:=.agg #[.int .i64 5,.int .i64 l]) (by simp[results,Tryz.results27,go_sem,q1,q2]) rfl ⟨rfl,?_⟩
  exact((zak hB (by simp;omega) (by first|exact hb2|exact zbw hb2)).setCell (by simp) _).setCell (by simp) _
theorem zh8(l:Int)(w:World) :
  Calls SqP.prog 27 #[.agg #[.int .i64 5,.int .i64 l]] w fun e w'=>e=.returned (.agg #[.int .i64 4,.int .i64 l])/\Below w.heap.size w w':=by
 have hs:=zjp
 have hB:Below w.heap.size w ((w.alloc (.cells #[.int .i64 5,.int .i64 l] 50)).alloc (.cells #[.int .i64 0,.int .i64 0] 50)):=bel
 go_enter SqP.func27,Tryz.ntmps27
 go_wp2
 go_region_with (first|(go_at_call 49;refine(zid _).mono ?_;rintro e w1 ⟨rfl,rfl⟩)|(go_at_call 142;refine(zfn _).mono ?_;rintro e w2 ⟨rfl,hb2⟩;have q0:w2.cell? ⟨w.heap.size,1,none⟩=some (.int .i64 l):=zab hb2 (by simp[go_sem]);have q1:w2.cell? ⟨w.heap.size+1,0,none⟩=some (.int .i64 0):=zab hb2 (by simp[go_sem]);have q2:w2.cell? ⟨w.heap.size+1,1,none⟩=some (.int .i64 0):=zab hb2 (by simp[go_sem]);have f1:w2.frozen? ⟨w.heap.size+1,0,none⟩=false:=zaj hb2 (v:=.int .i64 0) (by simp[go_sem]) (by simp[go_sem]);have f2:w2.frozen? ⟨w.heap.size+1,1,none⟩=false:=zaj hb2 (v:=.int .i64 0) (by simp[go_sem]) (by simp[go_sem])))
 all_goals
  go_wp2
  refine bodyPost_ret (v:=.agg #[.int .i64 4,.int .i64 l]) (by simp[results,Tryz.results27,go_sem,q1,q2]) rfl ⟨rfl,?_⟩
  exact((zak hB (by simp;omega) (by first|exact hb2|exact zbw hb2)).setCell (by simp) _).setCell (by simp) _
theorem zje(l:Int)(w:World) :
  Calls SqP.prog 27 #[.agg #[.int .i64 6,.int .i64 l]] w fun e w'=>e=.returned (.agg #[.int .i64 6,.int .i64 l])/\Below w.heap.size w w':=by
 have hs:=zmB
 have hB:Below w.heap.size w ((w.alloc (.cells #[.int .i64 6,.int .i64 l] 50)).alloc (.cells #[.int .i64 0,.int .i64 0] 50)):=bel
 go_enter SqP.func27,Tryz.ntmps27
 go_wp2
 go_region_with (first|(go_at_call 49;refine(zjf _).mono ?_;rintro e w1 ⟨rfl,rfl⟩)|(go_at_call 144;refine(zg9 _).mono ?_;rintro e w2 ⟨rfl,hb2⟩;have q0:w2.cell? ⟨w.heap.size,1,none⟩=some (.int .i64 l):=zab hb2 (by simp[go_sem]);have q1:w2.cell? ⟨w.heap.size+1,0,none⟩=some (.int .i64 0):=zab hb2 (by simp[go_sem]);have q2:w2.cell? ⟨w.heap.size+1,1,none⟩=some (.int .i64 0):=zab hb2 (by simp[go_sem]);have f1:w2.frozen? ⟨w.heap.size+1,0,none⟩=false:=zaj hb2 (v:=.int .i64 0) (by simp[go_sem]) (by simp[go_sem]);have f2:w2.frozen? ⟨w.heap.size+1,1,none⟩=false:=zaj hb2 (v:=.int .i64 0) (by simp[go_sem]) (by simp[go_sem])))
 all_goals
  go_wp2
  refine bodyPost_ret (v:=.agg #[.int .i64 6,.int .i64 l]) (by simp[results,Tryz.results27,go_sem,q1,q2]) rfl ⟨rfl,?_⟩
  exact((zak hB (by simp;omega) (by first|exact hb2|exact zbw hb2)).setCell (by simp) _).setCell (by simp) _
theorem zh7(l:Int)(w:World) :
  Calls SqP.prog 27 #[.agg #[.int .i64 7,.int .i64 l]] w fun e w'=>e=.returned (.agg #[.int .i64 7,.int .i64 l])/\Below w.heap.size w w':=by
 have hs:=zkF
 have hB:Below w.heap.size w ((w.alloc (.cells #[.int .i64 7,.int .i64 l] 50)).alloc (.cells #[.int .i64 0,.int .i64 0] 50)):=bel
 go_enter SqP.func27,Tryz.ntmps27
 go_wp2
 go_region_with (first|(go_at_call 49;refine(zic _).mono ?_;rintro e w1 ⟨rfl,rfl⟩)|(go_at_call 146;refine(zgn _).mono ?_;rintro e w2 ⟨rfl,hb2⟩;have q0:w2.cell? ⟨w.heap.size,1,none⟩=some (.int .i64 l):=zab hb2 (by simp[go_sem]);have q1:w2.cell? ⟨w.heap.size+1,0,none⟩=some (.int .i64 0):=zab hb2 (by simp[go_sem]);have q2:w2.cell? ⟨w.heap.size+1,1,none⟩=some (.int .i64 0):=zab hb2 (by simp[go_sem]);have f1:w2.frozen? ⟨w.heap.size+1,0,none⟩=false:=zaj hb2 (v:=.int .i64 0) (by simp[go_sem]) (by simp[go_sem]);have f2:w2.frozen? ⟨w.heap.size+1,1,none⟩=false:=zaj hb2 (v:=.int .i64 0) (by simp[go_sem]) (by simp[go_sem])))
 all_goals
  go_wp2
  refine bodyPost_ret (v:=.agg #[.int .i64 7,.int .i64 l]) (by simp[results,Tryz.results27,go_sem,q1,q2]) rfl ⟨rfl,?_⟩
  exact((zak hB (by simp;omega) (by first|exact hb2|exact zbw hb2)).setCell (by simp) _).setCell (by simp) _
theorem ze3(k l:Int)(w:World)(h:okC k l=true) :
  Calls SqP.prog 27 #[.agg #[.int .i64 k,.int .i64 l]] w fun e w'=>e=.returned (.agg #[.int .i64 (za0 k),.int .i64 l])/\Below w.heap.size w w':=by
 have hk:k=0\/k=1\/k=2\/k=3\/k=4\/k=5\/k=6\/k=7:=by
  unfold okC at h
  by_cases h7:k=7
  ·omega
  ·rw[if_neg h7] at h
   simp at h
   omega
 rcases hk with rfl|rfl|rfl|rfl|rfl|rfl|rfl|rfl
 ·exact zh6 l w
 ·exact zh9 l w
 ·exact zg6 l w
 ·exact zh5 l w
 ·exact zg5 l w
 ·exact zh8 l w
 ·exact zje l w
 ·exact zh7 l w
