/- Of the proof: PJu, PTa, PTb, PTc, PTd, PTf, PTh, PTg -/
import Derived.Deep.RegionWith
import Derived.Deep.QuietTactic
import Derived.Deep.DrawnRows
import Derived.Deep.RegionLaw
import Derived.Test.YtdhopelplokehaaGreatLBg
set_option maxHeartbeats 1000000
set_option linter.unusedVariables false
namespace Go.Proofs.YtdhopelplokehaaGreat
namespace Sp
open Go.RowKit
theorem number_free (w : World) : Sem.run SqP.prog (method 305 165 (Value.agg #[]) "loop.example/lucarne/impl.number") w = .ok (159, .agg #[]) w := by kernel_rfl
theorem number_wall (w : World) : Sem.run SqP.prog (method 305 166 (Value.agg #[]) "loop.example/lucarne/impl.number") w = .ok (160, .agg #[]) w := by kernel_rfl
theorem number_slash (w : World) : Sem.run SqP.prog (method 305 167 (Value.agg #[]) "loop.example/lucarne/impl.number") w = .ok (161, .agg #[]) w := by kernel_rfl
theorem number_back (w : World) : Sem.run SqP.prog (method 305 168 (Value.agg #[]) "loop.example/lucarne/impl.number") w = .ok (162, .agg #[]) w := by kernel_rfl
theorem number_glass (w : World) : Sem.run SqP.prog (method 305 169 (Value.agg #[]) "loop.example/lucarne/impl.number") w = .ok (163, .agg #[]) w := by kernel_rfl
theorem number_pane (w : World) : Sem.run SqP.prog (method 305 170 (Value.agg #[]) "loop.example/lucarne/impl.number") w = .ok (164, .agg #[]) w := by kernel_rfl
theorem number_dim (w : World) : Sem.run SqP.prog (method 305 171 (Value.agg #[]) "loop.example/lucarne/impl.number") w = .ok (165, .agg #[]) w := by kernel_rfl
theorem number_lamp (w : World) : Sem.run SqP.prog (method 305 172 (Value.agg #[]) "loop.example/lucarne/impl.number") w = .ok (167, .agg #[]) w := by kernel_rfl
theorem asserts_free_slash (w : World) : Sem.run SqP.prog (Instr.typeAssert (.iface 165 (.agg #[])) 111 167 true) w = .ok (.tuple #[.agg #[], .bool false]) w := by kernel_rfl
theorem asserts_free_back (w : World) : Sem.run SqP.prog (Instr.typeAssert (.iface 165 (.agg #[])) 111 168 true) w = .ok (.tuple #[.agg #[], .bool false]) w := by kernel_rfl
theorem asserts_free_glass (w : World) : Sem.run SqP.prog (Instr.typeAssert (.iface 165 (.agg #[])) 111 169 true) w = .ok (.tuple #[.agg #[], .bool false]) w := by kernel_rfl
theorem asserts_free_pane (w : World) : Sem.run SqP.prog (Instr.typeAssert (.iface 165 (.agg #[])) 111 170 true) w = .ok (.tuple #[.agg #[], .bool false]) w := by kernel_rfl
theorem asserts_wall_slash (w : World) : Sem.run SqP.prog (Instr.typeAssert (.iface 166 (.agg #[])) 111 167 true) w = .ok (.tuple #[.agg #[], .bool false]) w := by kernel_rfl
theorem asserts_wall_back (w : World) : Sem.run SqP.prog (Instr.typeAssert (.iface 166 (.agg #[])) 111 168 true) w = .ok (.tuple #[.agg #[], .bool false]) w := by kernel_rfl
theorem asserts_wall_glass (w : World) : Sem.run SqP.prog (Instr.typeAssert (.iface 166 (.agg #[])) 111 169 true) w = .ok (.tuple #[.agg #[], .bool false]) w := by kernel_rfl
theorem asserts_wall_pane (w : World) : Sem.run SqP.prog (Instr.typeAssert (.iface 166 (.agg #[])) 111 170 true) w = .ok (.tuple #[.agg #[], .bool false]) w := by kernel_rfl
theorem asserts_slash_slash (w : World) : Sem.run SqP.prog (Instr.typeAssert (.iface 167 (.agg #[])) 111 167 true) w = .ok (.tuple #[.agg #[], .bool true]) w := by kernel_rfl
theorem asserts_back_slash (w : World) : Sem.run SqP.prog (Instr.typeAssert (.iface 168 (.agg #[])) 111 167 true) w = .ok (.tuple #[.agg #[], .bool false]) w := by kernel_rfl
theorem asserts_back_back (w : World) : Sem.run SqP.prog (Instr.typeAssert (.iface 168 (.agg #[])) 111 168 true) w = .ok (.tuple #[.agg #[], .bool true]) w := by kernel_rfl
theorem asserts_glass_slash (w : World) : Sem.run SqP.prog (Instr.typeAssert (.iface 169 (.agg #[])) 111 167 true) w = .ok (.tuple #[.agg #[], .bool false]) w := by kernel_rfl
theorem asserts_glass_back (w : World) : Sem.run SqP.prog (Instr.typeAssert (.iface 169 (.agg #[])) 111 168 true) w = .ok (.tuple #[.agg #[], .bool false]) w := by kernel_rfl
theorem asserts_glass_glass (w : World) : Sem.run SqP.prog (Instr.typeAssert (.iface 169 (.agg #[])) 111 169 true) w = .ok (.tuple #[.agg #[], .bool true]) w := by kernel_rfl
theorem asserts_pane_slash (w : World) : Sem.run SqP.prog (Instr.typeAssert (.iface 170 (.agg #[])) 111 167 true) w = .ok (.tuple #[.agg #[], .bool false]) w := by kernel_rfl
theorem asserts_pane_back (w : World) : Sem.run SqP.prog (Instr.typeAssert (.iface 170 (.agg #[])) 111 168 true) w = .ok (.tuple #[.agg #[], .bool false]) w := by kernel_rfl
theorem asserts_pane_glass (w : World) : Sem.run SqP.prog (Instr.typeAssert (.iface 170 (.agg #[])) 111 169 true) w = .ok (.tuple #[.agg #[], .bool false]) w := by kernel_rfl
theorem asserts_pane_pane (w : World) : Sem.run SqP.prog (Instr.typeAssert (.iface 170 (.agg #[])) 111 170 true) w = .ok (.tuple #[.agg #[], .bool true]) w := by kernel_rfl
theorem asserts_dim_slash (w : World) : Sem.run SqP.prog (Instr.typeAssert (.iface 171 (.agg #[])) 111 167 true) w = .ok (.tuple #[.agg #[], .bool false]) w := by kernel_rfl
theorem asserts_dim_back (w : World) : Sem.run SqP.prog (Instr.typeAssert (.iface 171 (.agg #[])) 111 168 true) w = .ok (.tuple #[.agg #[], .bool false]) w := by kernel_rfl
theorem asserts_dim_glass (w : World) : Sem.run SqP.prog (Instr.typeAssert (.iface 171 (.agg #[])) 111 169 true) w = .ok (.tuple #[.agg #[], .bool false]) w := by kernel_rfl
theorem asserts_dim_pane (w : World) : Sem.run SqP.prog (Instr.typeAssert (.iface 171 (.agg #[])) 111 170 true) w = .ok (.tuple #[.agg #[], .bool false]) w := by kernel_rfl
theorem asserts_lamp_slash (w : World) : Sem.run SqP.prog (Instr.typeAssert (.iface 172 (.agg #[])) 111 167 true) w = .ok (.tuple #[.agg #[], .bool false]) w := by kernel_rfl
theorem asserts_lamp_back (w : World) : Sem.run SqP.prog (Instr.typeAssert (.iface 172 (.agg #[])) 111 168 true) w = .ok (.tuple #[.agg #[], .bool false]) w := by kernel_rfl
theorem asserts_lamp_glass (w : World) : Sem.run SqP.prog (Instr.typeAssert (.iface 172 (.agg #[])) 111 169 true) w = .ok (.tuple #[.agg #[], .bool false]) w := by kernel_rfl
theorem asserts_lamp_pane (w : World) : Sem.run SqP.prog (Instr.typeAssert (.iface 172 (.agg #[])) 111 170 true) w = .ok (.tuple #[.agg #[], .bool false]) w := by kernel_rfl
theorem numberCall_free (w : World) : Calls SqP.prog 159 #[.agg #[]] w fun e w' => e = .returned (.int .i64 0) /\ Below w.heap.size w w' := by
 go_enter SqP.func159, Tryz.ntmps159
 go_wp2
 go_ret
 exact ⟨rfl, bel⟩
theorem leanKind_free (w : World) : Calls SqP.prog 72 #[.iface 165 (.agg #[])] w fun e w' => e = .returned (.iface 165 (.agg #[])) /\ w' = w := by
 have h0 := asserts_free_slash
 have h1 := asserts_free_back
 have h2 := asserts_free_glass
 have h3 := asserts_free_pane
 go_enter SqP.func72, Tryz.ntmps72
 go_wp2
 go_ret
 exact ⟨rfl, rfl⟩
theorem numberCall_wall (w : World) : Calls SqP.prog 160 #[.agg #[]] w fun e w' => e = .returned (.int .i64 1) /\ Below w.heap.size w w' := by
 go_enter SqP.func160, Tryz.ntmps160
 go_wp2
 go_ret
 exact ⟨rfl, bel⟩
theorem leanKind_wall (w : World) : Calls SqP.prog 72 #[.iface 166 (.agg #[])] w fun e w' => e = .returned (.iface 166 (.agg #[])) /\ w' = w := by
 have h0 := asserts_wall_slash
 have h1 := asserts_wall_back
 have h2 := asserts_wall_glass
 have h3 := asserts_wall_pane
 go_enter SqP.func72, Tryz.ntmps72
 go_wp2
 go_ret
 exact ⟨rfl, rfl⟩
theorem numberCall_slash (w : World) : Calls SqP.prog 161 #[.agg #[]] w fun e w' => e = .returned (.int .i64 2) /\ Below w.heap.size w w' := by
 go_enter SqP.func161, Tryz.ntmps161
 go_wp2
 go_ret
 exact ⟨rfl, bel⟩
theorem leanKind_slash (w : World) : Calls SqP.prog 72 #[.iface 167 (.agg #[])] w fun e w' => e = .returned (.iface 168 (.agg #[])) /\ w' = w := by
 have h0 := asserts_slash_slash
 go_enter SqP.func72, Tryz.ntmps72
 go_wp2
 go_ret
 exact ⟨rfl, rfl⟩
theorem numberCall_back (w : World) : Calls SqP.prog 162 #[.agg #[]] w fun e w' => e = .returned (.int .i64 3) /\ Below w.heap.size w w' := by
 go_enter SqP.func162, Tryz.ntmps162
 go_wp2
 go_ret
 exact ⟨rfl, bel⟩
theorem leanKind_back (w : World) : Calls SqP.prog 72 #[.iface 168 (.agg #[])] w fun e w' => e = .returned (.iface 167 (.agg #[])) /\ w' = w := by
 have h0 := asserts_back_slash
 have h1 := asserts_back_back
 go_enter SqP.func72, Tryz.ntmps72
 go_wp2
 go_ret
 exact ⟨rfl, rfl⟩
theorem numberCall_glass (w : World) : Calls SqP.prog 163 #[.agg #[]] w fun e w' => e = .returned (.int .i64 4) /\ Below w.heap.size w w' := by
 go_enter SqP.func163, Tryz.ntmps163
 go_wp2
 go_ret
 exact ⟨rfl, bel⟩
theorem leanKind_glass (w : World) : Calls SqP.prog 72 #[.iface 169 (.agg #[])] w fun e w' => e = .returned (.iface 170 (.agg #[])) /\ w' = w := by
 have h0 := asserts_glass_slash
 have h1 := asserts_glass_back
 have h2 := asserts_glass_glass
 go_enter SqP.func72, Tryz.ntmps72
 go_wp2
 go_ret
 exact ⟨rfl, rfl⟩
theorem numberCall_pane (w : World) : Calls SqP.prog 164 #[.agg #[]] w fun e w' => e = .returned (.int .i64 5) /\ Below w.heap.size w w' := by
 go_enter SqP.func164, Tryz.ntmps164
 go_wp2
 go_ret
 exact ⟨rfl, bel⟩
theorem leanKind_pane (w : World) : Calls SqP.prog 72 #[.iface 170 (.agg #[])] w fun e w' => e = .returned (.iface 169 (.agg #[])) /\ w' = w := by
 have h0 := asserts_pane_slash
 have h1 := asserts_pane_back
 have h2 := asserts_pane_glass
 have h3 := asserts_pane_pane
 go_enter SqP.func72, Tryz.ntmps72
 go_wp2
 go_ret
 exact ⟨rfl, rfl⟩
theorem numberCall_dim (w : World) : Calls SqP.prog 165 #[.agg #[]] w fun e w' => e = .returned (.int .i64 6) /\ Below w.heap.size w w' := by
 go_enter SqP.func165, Tryz.ntmps165
 go_wp2
 go_ret
 exact ⟨rfl, bel⟩
theorem leanKind_dim (w : World) : Calls SqP.prog 72 #[.iface 171 (.agg #[])] w fun e w' => e = .returned (.iface 171 (.agg #[])) /\ w' = w := by
 have h0 := asserts_dim_slash
 have h1 := asserts_dim_back
 have h2 := asserts_dim_glass
 have h3 := asserts_dim_pane
 go_enter SqP.func72, Tryz.ntmps72
 go_wp2
 go_ret
 exact ⟨rfl, rfl⟩
theorem numberCall_lamp (w : World) : Calls SqP.prog 167 #[.agg #[]] w fun e w' => e = .returned (.int .i64 7) /\ Below w.heap.size w w' := by
 go_enter SqP.func167, Tryz.ntmps167
 go_wp2
 go_ret
 exact ⟨rfl, bel⟩
theorem leanKind_lamp (w : World) : Calls SqP.prog 72 #[.iface 172 (.agg #[])] w fun e w' => e = .returned (.iface 172 (.agg #[])) /\ w' = w := by
 have h0 := asserts_lamp_slash
 have h1 := asserts_lamp_back
 have h2 := asserts_lamp_glass
 have h3 := asserts_lamp_pane
 go_enter SqP.func72, Tryz.ntmps72
 go_wp2
 go_ret
 exact ⟨rfl, rfl⟩
end Sp
namespace Sp
open Go.RowKit
theorem leanCell_free (l : Int) (w : World) :
  Calls SqP.prog 46 #[.agg #[.int .i64 0, .int .i64 l]] w fun e w' => e = .returned (.agg #[.int .i64 0, .int .i64 l]) /\ Below w.heap.size w w' := by
 have hs := number_free
 have hB : Below w.heap.size w ((w.alloc (.cells #[.int .i64 0, .int .i64 l] 38)).alloc (.cells #[.int .i64 0, .int .i64 0] 38)) := bel
 go_enter SqP.func46, Tryz.ntmps46
 go_wp2
 go_region_with (first | (go_at_call 72; refine (leanKind_free _).mono ?_; rintro e w1 ⟨rfl, rfl⟩) | (go_at_call 159; refine (numberCall_free _).mono ?_; rintro e w2 ⟨rfl, hb2⟩; have q0 : w2.cell? ⟨w.heap.size, 1, none⟩ = some (.int .i64 l) := keepc hb2 (by simp [go_sem]); have q1 : w2.cell? ⟨w.heap.size + 1, 0, none⟩ = some (.int .i64 0) := keepc hb2 (by simp [go_sem]); have q2 : w2.cell? ⟨w.heap.size + 1, 1, none⟩ = some (.int .i64 0) := keepc hb2 (by simp [go_sem]); have f1 : w2.frozen? ⟨w.heap.size + 1, 0, none⟩ = false := keepf hb2 (v := .int .i64 0) (by simp [go_sem]) (by simp [go_sem]); have f2 : w2.frozen? ⟨w.heap.size + 1, 1, none⟩ = false := keepf hb2 (v := .int .i64 0) (by simp [go_sem]) (by simp [go_sem])))
 all_goals
  go_wp2
  refine bodyPost_ret (v := .agg #[.int .i64 0, .int .i64 l]) (by simp [results, Tryz.results46, go_sem, q1, q2]) rfl ⟨rfl, ?_⟩
  exact ((bcall hB (by simp; omega) (by first | exact hb2 | exact bdrew hb2)).setCell (by simp) _).setCell (by simp) _
theorem leanCell_wall (l : Int) (w : World) :
  Calls SqP.prog 46 #[.agg #[.int .i64 1, .int .i64 l]] w fun e w' => e = .returned (.agg #[.int .i64 1, .int .i64 l]) /\ Below w.heap.size w w' := by
 have hs := number_wall
 have hB : Below w.heap.size w ((w.alloc (.cells #[.int .i64 1, .int .i64 l] 38)).alloc (.cells #[.int .i64 0, .int .i64 0] 38)) := bel
 go_enter SqP.func46, Tryz.ntmps46
 go_wp2
 go_region_with (first | (go_at_call 72; refine (leanKind_wall _).mono ?_; rintro e w1 ⟨rfl, rfl⟩) | (go_at_call 160; refine (numberCall_wall _).mono ?_; rintro e w2 ⟨rfl, hb2⟩; have q0 : w2.cell? ⟨w.heap.size, 1, none⟩ = some (.int .i64 l) := keepc hb2 (by simp [go_sem]); have q1 : w2.cell? ⟨w.heap.size + 1, 0, none⟩ = some (.int .i64 0) := keepc hb2 (by simp [go_sem]); have q2 : w2.cell? ⟨w.heap.size + 1, 1, none⟩ = some (.int .i64 0) := keepc hb2 (by simp [go_sem]); have f1 : w2.frozen? ⟨w.heap.size + 1, 0, none⟩ = false := keepf hb2 (v := .int .i64 0) (by simp [go_sem]) (by simp [go_sem]); have f2 : w2.frozen? ⟨w.heap.size + 1, 1, none⟩ = false := keepf hb2 (v := .int .i64 0) (by simp [go_sem]) (by simp [go_sem])))
 all_goals
  go_wp2
  refine bodyPost_ret (v := .agg #[.int .i64 1, .int .i64 l]) (by simp [results, Tryz.results46, go_sem, q1, q2]) rfl ⟨rfl, ?_⟩
  exact ((bcall hB (by simp; omega) (by first | exact hb2 | exact bdrew hb2)).setCell (by simp) _).setCell (by simp) _
theorem leanCell_slash (l : Int) (w : World) :
  Calls SqP.prog 46 #[.agg #[.int .i64 2, .int .i64 l]] w fun e w' => e = .returned (.agg #[.int .i64 3, .int .i64 l]) /\ Below w.heap.size w w' := by
 have hs := number_back
 have hB : Below w.heap.size w ((w.alloc (.cells #[.int .i64 2, .int .i64 l] 38)).alloc (.cells #[.int .i64 0, .int .i64 0] 38)) := bel
 go_enter SqP.func46, Tryz.ntmps46
 go_wp2
 go_region_with (first | (go_at_call 72; refine (leanKind_slash _).mono ?_; rintro e w1 ⟨rfl, rfl⟩) | (go_at_call 162; refine (numberCall_back _).mono ?_; rintro e w2 ⟨rfl, hb2⟩; have q0 : w2.cell? ⟨w.heap.size, 1, none⟩ = some (.int .i64 l) := keepc hb2 (by simp [go_sem]); have q1 : w2.cell? ⟨w.heap.size + 1, 0, none⟩ = some (.int .i64 0) := keepc hb2 (by simp [go_sem]); have q2 : w2.cell? ⟨w.heap.size + 1, 1, none⟩ = some (.int .i64 0) := keepc hb2 (by simp [go_sem]); have f1 : w2.frozen? ⟨w.heap.size + 1, 0, none⟩ = false := keepf hb2 (v := .int .i64 0) (by simp [go_sem]) (by simp [go_sem]); have f2 : w2.frozen? ⟨w.heap.size + 1, 1, none⟩ = false := keepf hb2 (v := .int .i64 0) (by simp [go_sem]) (by simp [go_sem])))
 all_goals
  go_wp2
  refine bodyPost_ret (v := .agg #[.int .i64 3, .int .i64 l]) (by simp [results, Tryz.results46, go_sem, q1, q2]) rfl ⟨rfl, ?_⟩
  exact ((bcall hB (by simp; omega) (by first | exact hb2 | exact bdrew hb2)).setCell (by simp) _).setCell (by simp) _
theorem leanCell_back (l : Int) (w : World) :
  Calls SqP.prog 46 #[.agg #[.int .i64 3, .int .i64 l]] w fun e w' => e = .returned (.agg #[.int .i64 2, .int .i64 l]) /\ Below w.heap.size w w' := by
 have hs := number_slash
 have hB : Below w.heap.size w ((w.alloc (.cells #[.int .i64 3, .int .i64 l] 38)).alloc (.cells #[.int .i64 0, .int .i64 0] 38)) := bel
 go_enter SqP.func46, Tryz.ntmps46
 go_wp2
 go_region_with (first | (go_at_call 72; refine (leanKind_back _).mono ?_; rintro e w1 ⟨rfl, rfl⟩) | (go_at_call 161; refine (numberCall_slash _).mono ?_; rintro e w2 ⟨rfl, hb2⟩; have q0 : w2.cell? ⟨w.heap.size, 1, none⟩ = some (.int .i64 l) := keepc hb2 (by simp [go_sem]); have q1 : w2.cell? ⟨w.heap.size + 1, 0, none⟩ = some (.int .i64 0) := keepc hb2 (by simp [go_sem]); have q2 : w2.cell? ⟨w.heap.size + 1, 1, none⟩ = some (.int .i64 0) := keepc hb2 (by simp [go_sem]); have f1 : w2.frozen? ⟨w.heap.size + 1, 0, none⟩ = false := keepf hb2 (v := .int .i64 0) (by simp [go_sem]) (by simp [go_sem]); have f2 : w2.frozen? ⟨w.heap.size + 1, 1, none⟩ = false := keepf hb2 (v := .int .i64 0) (by simp [go_sem]) (by simp [go_sem])))
 all_goals
  go_wp2
  refine bodyPost_ret (v := .agg #[.int .i64 2, .int .i64 l]) (by simp [results, Tryz.results46, go_sem, q1, q2]) rfl ⟨rfl, ?_⟩
  exact ((bcall hB (by simp; omega) (by first | exact hb2 | exact bdrew hb2)).setCell (by simp) _).setCell (by simp) _
theorem leanCell_glass (l : Int) (w : World) :
  Calls SqP.prog 46 #[.agg #[.int .i64 4, .int .i64 l]] w fun e w' => e = .returned (.agg #[.int .i64 5, .int .i64 l]) /\ Below w.heap.size w w' := by
 have hs := number_pane
 have hB : Below w.heap.size w ((w.alloc (.cells #[.int .i64 4, .int .i64 l] 38)).alloc (.cells #[.int .i64 0, .int .i64 0] 38)) := bel
 go_enter SqP.func46, Tryz.ntmps46
 go_wp2
 go_region_with (first | (go_at_call 72; refine (leanKind_glass _).mono ?_; rintro e w1 ⟨rfl, rfl⟩) | (go_at_call 164; refine (numberCall_pane _).mono ?_; rintro e w2 ⟨rfl, hb2⟩; have q0 : w2.cell? ⟨w.heap.size, 1, none⟩ = some (.int .i64 l) := keepc hb2 (by simp [go_sem]); have q1 : w2.cell? ⟨w.heap.size + 1, 0, none⟩ = some (.int .i64 0) := keepc hb2 (by simp [go_sem]); have q2 : w2.cell? ⟨w.heap.size + 1, 1, none⟩ = some (.int .i64 0) := keepc hb2 (by simp [go_sem]); have f1 : w2.frozen? ⟨w.heap.size + 1, 0, none⟩ = false := keepf hb2 (v := .int .i64 0) (by simp [go_sem]) (by simp [go_sem]); have f2 : w2.frozen? ⟨w.heap.size + 1, 1, none⟩ = false := keepf hb2 (v := .int .i64 0) (by simp [go_sem]) (by simp [go_sem])))
 all_goals
  go_wp2
  refine bodyPost_ret (v := .agg #[.int .i64 5, .int .i64 l]) (by simp [results, Tryz.results46, go_sem, q1, q2]) rfl ⟨rfl, ?_⟩
  exact ((bcall hB (by simp; omega) (by first | exact hb2 | exact bdrew hb2)).setCell (by simp) _).setCell (by simp) _
theorem leanCell_pane (l : Int) (w : World) :
  Calls SqP.prog 46 #[.agg #[.int .i64 5, .int .i64 l]] w fun e w' => e = .returned (.agg #[.int .i64 4, .int .i64 l]) /\ Below w.heap.size w w' := by
 have hs := number_glass
 have hB : Below w.heap.size w ((w.alloc (.cells #[.int .i64 5, .int .i64 l] 38)).alloc (.cells #[.int .i64 0, .int .i64 0] 38)) := bel
 go_enter SqP.func46, Tryz.ntmps46
 go_wp2
 go_region_with (first | (go_at_call 72; refine (leanKind_pane _).mono ?_; rintro e w1 ⟨rfl, rfl⟩) | (go_at_call 163; refine (numberCall_glass _).mono ?_; rintro e w2 ⟨rfl, hb2⟩; have q0 : w2.cell? ⟨w.heap.size, 1, none⟩ = some (.int .i64 l) := keepc hb2 (by simp [go_sem]); have q1 : w2.cell? ⟨w.heap.size + 1, 0, none⟩ = some (.int .i64 0) := keepc hb2 (by simp [go_sem]); have q2 : w2.cell? ⟨w.heap.size + 1, 1, none⟩ = some (.int .i64 0) := keepc hb2 (by simp [go_sem]); have f1 : w2.frozen? ⟨w.heap.size + 1, 0, none⟩ = false := keepf hb2 (v := .int .i64 0) (by simp [go_sem]) (by simp [go_sem]); have f2 : w2.frozen? ⟨w.heap.size + 1, 1, none⟩ = false := keepf hb2 (v := .int .i64 0) (by simp [go_sem]) (by simp [go_sem])))
 all_goals
  go_wp2
  refine bodyPost_ret (v := .agg #[.int .i64 4, .int .i64 l]) (by simp [results, Tryz.results46, go_sem, q1, q2]) rfl ⟨rfl, ?_⟩
  exact ((bcall hB (by simp; omega) (by first | exact hb2 | exact bdrew hb2)).setCell (by simp) _).setCell (by simp) _
theorem leanCell_dim (l : Int) (w : World) :
  Calls SqP.prog 46 #[.agg #[.int .i64 6, .int .i64 l]] w fun e w' => e = .returned (.agg #[.int .i64 6, .int .i64 l]) /\ Below w.heap.size w w' := by
 have hs := number_dim
 have hB : Below w.heap.size w ((w.alloc (.cells #[.int .i64 6, .int .i64 l] 38)).alloc (.cells #[.int .i64 0, .int .i64 0] 38)) := bel
 go_enter SqP.func46, Tryz.ntmps46
 go_wp2
 go_region_with (first | (go_at_call 72; refine (leanKind_dim _).mono ?_; rintro e w1 ⟨rfl, rfl⟩) | (go_at_call 165; refine (numberCall_dim _).mono ?_; rintro e w2 ⟨rfl, hb2⟩; have q0 : w2.cell? ⟨w.heap.size, 1, none⟩ = some (.int .i64 l) := keepc hb2 (by simp [go_sem]); have q1 : w2.cell? ⟨w.heap.size + 1, 0, none⟩ = some (.int .i64 0) := keepc hb2 (by simp [go_sem]); have q2 : w2.cell? ⟨w.heap.size + 1, 1, none⟩ = some (.int .i64 0) := keepc hb2 (by simp [go_sem]); have f1 : w2.frozen? ⟨w.heap.size + 1, 0, none⟩ = false := keepf hb2 (v := .int .i64 0) (by simp [go_sem]) (by simp [go_sem]); have f2 : w2.frozen? ⟨w.heap.size + 1, 1, none⟩ = false := keepf hb2 (v := .int .i64 0) (by simp [go_sem]) (by simp [go_sem])))
 all_goals
  go_wp2
  refine bodyPost_ret (v := .agg #[.int .i64 6, .int .i64 l]) (by simp [results, Tryz.results46, go_sem, q1, q2]) rfl ⟨rfl, ?_⟩
  exact ((bcall hB (by simp; omega) (by first | exact hb2 | exact bdrew hb2)).setCell (by simp) _).setCell (by simp) _
theorem leanCell_lamp (l : Int) (w : World) :
  Calls SqP.prog 46 #[.agg #[.int .i64 7, .int .i64 l]] w fun e w' => e = .returned (.agg #[.int .i64 7, .int .i64 l]) /\ Below w.heap.size w w' := by
 have hs := number_lamp
 have hB : Below w.heap.size w ((w.alloc (.cells #[.int .i64 7, .int .i64 l] 38)).alloc (.cells #[.int .i64 0, .int .i64 0] 38)) := bel
 go_enter SqP.func46, Tryz.ntmps46
 go_wp2
 go_region_with (first | (go_at_call 72; refine (leanKind_lamp _).mono ?_; rintro e w1 ⟨rfl, rfl⟩) | (go_at_call 167; refine (numberCall_lamp _).mono ?_; rintro e w2 ⟨rfl, hb2⟩; have q0 : w2.cell? ⟨w.heap.size, 1, none⟩ = some (.int .i64 l) := keepc hb2 (by simp [go_sem]); have q1 : w2.cell? ⟨w.heap.size + 1, 0, none⟩ = some (.int .i64 0) := keepc hb2 (by simp [go_sem]); have q2 : w2.cell? ⟨w.heap.size + 1, 1, none⟩ = some (.int .i64 0) := keepc hb2 (by simp [go_sem]); have f1 : w2.frozen? ⟨w.heap.size + 1, 0, none⟩ = false := keepf hb2 (v := .int .i64 0) (by simp [go_sem]) (by simp [go_sem]); have f2 : w2.frozen? ⟨w.heap.size + 1, 1, none⟩ = false := keepf hb2 (v := .int .i64 0) (by simp [go_sem]) (by simp [go_sem])))
 all_goals
  go_wp2
  refine bodyPost_ret (v := .agg #[.int .i64 7, .int .i64 l]) (by simp [results, Tryz.results46, go_sem, q1, q2]) rfl ⟨rfl, ?_⟩
  exact ((bcall hB (by simp; omega) (by first | exact hb2 | exact bdrew hb2)).setCell (by simp) _).setCell (by simp) _
theorem leanCell_any (k l : Int) (w : World) (h : okC k l = true) :
  Calls SqP.prog 46 #[.agg #[.int .i64 k, .int .i64 l]] w fun e w' => e = .returned (.agg #[.int .i64 (otherK k), .int .i64 l]) /\ Below w.heap.size w w' := by
 have hk : k = 0 \/ k = 1 \/ k = 2 \/ k = 3 \/ k = 4 \/ k = 5 \/ k = 6 \/ k = 7 := by
  unfold okC at h
  by_cases h7 : k = 7
  ·omega
  ·rw [if_neg h7] at h
   simp at h
   omega
 rcases hk with rfl | rfl | rfl | rfl | rfl | rfl | rfl | rfl
 ·exact leanCell_free l w
 ·exact leanCell_wall l w
 ·exact leanCell_slash l w
 ·exact leanCell_back l w
 ·exact leanCell_glass l w
 ·exact leanCell_pane l w
 ·exact leanCell_dim l w
 ·exact leanCell_lamp l w
end Sp
namespace Sp
open Go.RowKit
end Sp
namespace Sp
open Go.RowKit
theorem Own.other {w : World} {B g n cap : Nat} {cs : List (Int × Int)} (h : Own w B (.slice (some ⟨g, 0, none⟩) n cap) cs) {p : Addr} (hne : g ≠ p.block) (u : Value) : Own (w.setCell p u) B (.slice (some ⟨g, 0, none⟩) n cap) cs := by
 obtain ⟨h1, h2⟩ := h
 refine ⟨h1, ?_⟩
 rcases h2 with ⟨h2, _⟩ | ⟨g', cap', cur, hv, hg, hh, r⟩
 ·simp at h2
 ·have hv' := hv
  simp only [Value.slice.injEq, Option.some.injEq, Addr.mk.injEq, and_true] at hv'
  exact Or.inr ⟨g', cap', cur, hv, hg, by rw [Below.heap_setCell _ _ _ _ (by rw [<- hv'.1]; exact hne)]; exact hh, r⟩
end Sp
namespace Sp
open Go.RowKit
theorem gridRows_any (W H : Nat) (a : Option Addr) (n cap : Nat) (w : World) (hW : 1 <= W) (hn : n <= 1048576) (hH : n / W = H) :
  Calls SqP.prog 45 #[.agg #[.int .i64 (W : Int), .slice a n cap]] w fun e w' => e = .returned (.int .i64 (H : Int)) /\ Below w.heap.size w w' := by
 have h0 : (0 : Int) <= (n : Int) / (W : Int) := Int.ediv_nonneg (by omega) (by omega)
 have h1 : (n : Int) / (W : Int) <= n := Int.ediv_le_self _ (by omega)
 have hw : (1 : Int) <= (W : Int) := by omega
 have HH : Hid ((n : Int) / (W : Int) = (H : Int)) := by show _ = _; rw [<- hH]; simp
 clear hH
 go_enter SqP.func45, Tryz.ntmps45
 go_wp2
 go_ret
 exact ⟨by rw [<- HH.out]; rfl, bel⟩
theorem implGridTurn_yes (W H : Nat) (b off cap : Nat) (cs : List (Int × Int)) (w : World) (hbl : b < w.heap.size)
  (hcell : ∀ i, i < cs.length -> w.cell? ⟨b, off + i * 2, none⟩ = some (.int .i64 (cs.getD i (0, 0)).1) /\ w.cell? ⟨b, off + i * 2 + 1, none⟩ = some (.int .i64 (cs.getD i (0, 0)).2))
  (hok : okG (W : Int) cs = true) (hW : 1 <= W /\ W <= 5) (hH : 1 <= H /\ H <= 5) (hn : cs.length = W * H) :
  Calls SqP.prog 17 #[.agg #[.int .i64 (W : Int), .slice (some ⟨b, off, none⟩) cs.length cap]] w fun e w' => ∃ g, e = .returned (.agg #[.int .i64 (H : Int), .slice (some ⟨g, 0, none⟩) cs.length cs.length]) /\ Own w' w.heap.size (.slice (some ⟨g, 0, none⟩) cs.length cs.length) (turnC W H cs) /\ Below w.heap.size w w' := by
 obtain ⟨i0, hi, iz0, iz1, iz2⟩ := info_parts infoCell
 have hlen : 1 <= cs.length /\ cs.length <= 25 := by
  obtain ⟨a1, a2⟩ := hW
  obtain ⟨a3, a4⟩ := hH
  rw [hn]
  rcases (show W = 1 \/ W = 2 \/ W = 3 \/ W = 4 \/ W = 5 by omega) with rfl | rfl | rfl | rfl | rfl <;> omega
 have hdiv : cs.length / W = H := by rw [hn]; exact Nat.mul_div_cancel_left H (by omega)
 have HN : Hid (cs.length = W * H) := hn
 have HD : Hid (cs.length / W = H) := hdiv
 clear hn hdiv
 go_enter SqP.func17, Tryz.ntmps17
 go_wp2_with fail
 refine (implGridOk_any _ _ _ cs _ (Or.inr ⟨b, off, rfl, by simp; omega, fun i hi => by rw [World.cell?_alloc_past _ _ _ (by simp; omega), World.cell?_alloc_past _ _ _ (by omega), World.cell?_alloc_past _ _ _ (by simp; omega), World.cell?_alloc_past _ _ _ (by omega)]; exact hcell i hi⟩) (by omega)).mono ?_
 rintro e w1 ⟨rfl, hb1⟩
 have hz1 := hb1.size
 simp at hz1
 have hB1 : Below w.heap.size w w1 := bcall bel (by simp; omega) hb1
 have p0 : w1.cell? ⟨w.heap.size, 0, none⟩ = some (.int .i64 (W : Int)) := keepc hb1 (by simp [go_sem])
 have p1 : w1.cell? ⟨w.heap.size, 1, none⟩ = some (.slice (some ⟨b, off, none⟩) cs.length cap) := keepc hb1 (by simp [go_sem])
 have p4 : w1.cell? ⟨w.heap.size + 1, 0, none⟩ = some (.int .i64 0) := keepc hb1 (by simp [go_sem])
 have p5 : w1.cell? ⟨w.heap.size + 1, 1, none⟩ = some (.slice none 0 0) := keepc hb1 (by simp [go_sem])
 have f4 : w1.frozen? ⟨w.heap.size + 1, 0, none⟩ = false := keepf hb1 (v := .int .i64 0) (by simp [go_sem]) (by simp [go_sem])
 have f5 : w1.frozen? ⟨w.heap.size + 1, 1, none⟩ = false := keepf hb1 (v := .slice none 0 0) (by simp [go_sem]) (by simp [go_sem])
 clear hb1
 go_wp2_with fail
 refine (gridRows_any W H _ _ _ _ (by omega) (by omega) HD.out).mono ?_
 rintro e w2 ⟨rfl, hb2⟩
 have hz2 := hb2.size
 have hB2 : Below w.heap.size w w2 := bcall hB1 (by omega) hb2
 replace f4 := keepf hb2 p4 f4; replace f5 := keepf hb2 p5 f5; replace p0 := keepc hb2 p0; replace p1 := keepc hb2 p1; replace p4 := keepc hb2 p4; replace p5 := keepc hb2 p5
 clear hb2
 go_wp2_with (at_make; refine wpList_make_full _ rfl _ _ 23 rfl w.heap.size 38 i0 (.agg #[.int .i64 0, .int .i64 0]) 2 SqP.underlying23 hi iz0 iz1 .i64 .i64 _ _ cs.length rfl rfl rfl rfl ?_ ?_ ?_ ?_)
 ·rw [iz2]; omega
 ·unfold maxLen; omega
 ·omega
 intro w3 hO3' hg3
 have hb3 : Below w2.heap.size w2 w3 := (Below.refl _ _).grown hg3 (Nat.le_refl _) (fun k hk => by cases hk)
 have hz3 := hb3.size
 have hB3 : Below w.heap.size w w3 := bcall hB2 (by omega) hb3
 replace f4 := keepf hb3 p4 f4; replace f5 := keepf hb3 p5 f5; replace p0 := keepc hb3 p0; replace p1 := keepc hb3 p1; replace p4 := keepc hb3 p4; replace p5 := keepc hb3 p5
 have hO3 : Own w3 w.heap.size (.slice (some ⟨w2.heap.size, 0, none⟩) cs.length cs.length) (List.replicate cs.length (0, 0)) := by
  unfold Own
  rw [List.length_replicate, <- made_two]
  exact hO3'
 clear hg3 hb3 hO3'
 go_wp2
 go_loopw [22] (fun i wr => ∃ k : Nat, k <= cs.length /\ i = .int .i64 k /\ Own wr w.heap.size (.slice (some ⟨w2.heap.size, 0, none⟩) cs.length cs.length) ((List.range cs.length).map fun j => if turnAt W H j < k then (fun m => other (cs.getD m (0, 0))) (turnAt W H j) else (0, 0)) /\ Below w.heap.size w wr /\ wr.cell? ⟨w.heap.size, 0, none⟩ = some (.int .i64 (W : Int)) /\ wr.cell? ⟨w.heap.size + 1, 0, none⟩ = some (.int .i64 0) /\ wr.cell? ⟨w.heap.size + 1, 1, none⟩ = some (.slice none 0 0) /\ wr.frozen? ⟨w.heap.size + 1, 0, none⟩ = false /\ wr.frozen? ⟨w.heap.size + 1, 1, none⟩ = false) (fun i _ => cs.length - (intOf i).toNat)
 case atStart => exact ⟨0, Nat.zero_le _, rfl, by simpa [List.map_const'] using hO3, hB3, p0, p4, p5, f4, f5⟩
 case round =>
  clear hO3 p0 p1 p4 p5 f4 f5
  obtain ⟨k, hk, rfl, hO, hb, p0, p4, p5, f4, f5⟩ := hrel
  by_cases hlt : k < cs.length
  ·obtain ⟨hx, hy⟩ := hcell k hlt
   rw [<- hb.cell (p := ⟨b, _, none⟩) hbl] at hx hy
   have s0 : w.heap.size < wr.heap.size := World.block_lt_of_cell? wr _ p0
   have s1 : w.heap.size + 1 < wr.heap.size := World.block_lt_of_cell? wr _ p4
   have s2 := hO.lt.2
   have hw1 : (1 : Int) <= (W : Int) := by omega
   have hk0 : (0 : Int) <= (k : Int) := by omega
   have ht := turn_lt W H k hW hH (by rw [<- HN.out]; exact hlt)
   have t1 : k / W < H := ht.2.2.1
   have t2 : k % W * H + H - 1 - k / W < cs.length := by have := ht.1; rw [HN.out]; exact this
   have d1 : (0 : Int) <= (k : Int) / (W : Int) := Int.ediv_nonneg hk0 (by omega)
   have d2 : (k : Int) / (W : Int) <= (H : Int) - 1 := by rw [show (k : Int) / (W : Int) = ((k / W : Nat) : Int) by simp]; omega
   have e0 : ((k % W * H : Nat) : Int) = (k : Int) % (W : Int) * (H : Int) := by simp
   have e1 : (0 : Int) <= (k : Int) % (W : Int) * (H : Int) := by omega
   have e2 : (k : Int) % (W : Int) * (H : Int) <= 25 := by omega
   have JJ : Hid (((k : Int) % (W : Int) * (H : Int) + (H : Int) - 1 - (k : Int) / (W : Int)) = ((k % W * H + H - 1 - k / W : Nat) : Int)) := by
    show _ = _
    have : ((k / W : Nat) : Int) = (k : Int) / (W : Int) := by simp
    omega
   have i2 : (k : Int) % (W : Int) * (H : Int) + (H : Int) - 1 - (k : Int) / (W : Int) < (cs.length : Int) := by have := JJ.out; omega
   clear ht e0
   go_wp2
   go_quiet (fail)
   go_wp2_with fail
   refine (leanCell_any _ _ _ (okG_cell _ _ hok k hlt)).mono ?_
   rintro e w4 ⟨rfl, hb4'⟩
   have hb4 : Below wr.heap.size wr w4 := bcall ((Below.refl _ _).alloc (Nat.le_refl _) _) (by simp) (bdrewN hb4')
   clear hb4'
   replace f4 := keepf hb4 p4 f4; replace f5 := keepf hb4 p5 f5; replace p0 := keepc hb4 p0; replace p4 := keepc hb4 p4; replace p5 := keepc hb4 p5
   have hO4 := hO.below hb4
   obtain ⟨c1, c2, g1, g2⟩ := hO4.cell (by simp) (k % W * H + H - 1 - k / W) t2
   have HS := hO4.set (by simp) (k % W * H + H - 1 - k / W) (otherK cs[k].1) cs[k].2 t2
   clear hO hO4
   have n1 : w.heap.size ≠ w2.heap.size := by omega
   have n2 : w.heap.size + 1 ≠ w2.heap.size := by omega
   have HT : Hid (((List.range cs.length).map fun j => if turnAt W H j < k then (fun m => other (cs.getD m (0, 0))) (turnAt W H j) else (0, 0)).set (k % W * H + H - 1 - k / W) (otherK cs[k].1, cs[k].2) = (List.range cs.length).map fun j => if turnAt W H j < k + 1 then (fun m => other (cs.getD m (0, 0))) (turnAt W H j) else (0, 0)) := by
    show _ = _
    rw [<- scatter cs.length k (turnAt W H) (fun k => k % W * H + H - 1 - k / W) (fun m => other (cs.getD m (0, 0))) (0, 0) hlt t2 (fun j hj => turn_inv W H j k hW hH (by rw [<- HN.out]; exact hj) (by rw [<- HN.out]; exact hlt))]
    simp [other, hlt]
   rw [HT.out] at HS
   have hbb := hb4.mono (B' := w.heap.size) (by omega)
   go_wp2
   go_roundw
   case rel => exact ⟨k + 1, by omega, by go_num, HS, ((hb.trans hbb).setCell (p := ⟨w2.heap.size, _, none⟩) (by show w.heap.size <= w2.heap.size; omega) _).setCell (p := ⟨w2.heap.size, _, none⟩) (by show w.heap.size <= w2.heap.size; omega) _, setc n1 (setc n1 p0), setc n2 (setc n2 p4), setc n2 (setc n2 p5), setf n2 (setf n2 f4), setf n2 (setf n2 f5)⟩
   case measure => simp [intOf]; omega
  ·have hkn : k = cs.length := by omega
   subst hkn
   have hT : ((List.range cs.length).map fun j => if turnAt W H j < cs.length then (fun m => other (cs.getD m (0, 0))) (turnAt W H j) else (0, 0)) = turnC W H cs := by
    unfold turnC
    apply List.map_congr_left
    intro j hj
    rw [if_pos (by rw [HN.out]; exact (turn_lt W H j hW hH (by rw [<- HN.out]; exact List.mem_range.1 hj)).2.1)]
   rw [hT] at hO
   have s2 := hO.lt.2
   have n2 : w2.heap.size ≠ w.heap.size + 1 := by omega
   clear hT
   go_wp2
   refine bodyPost_ret (v := .agg #[.int .i64 (H : Int), .slice (some ⟨w2.heap.size, 0, none⟩) cs.length cs.length]) (by simp [results, Tryz.results17, go_sem, p4, p5]) rfl ⟨_, rfl, ?_, ?_⟩
   ·exact (hO.other (p := ⟨w.heap.size + 1, 0, none⟩) n2 _).other (p := ⟨w.heap.size + 1, 1, none⟩) n2 _
   ·exact (hb.setCell (p := ⟨w.heap.size + 1, 0, none⟩) (by simp) _).setCell (p := ⟨w.heap.size + 1, 1, none⟩) (by simp) _
end Sp
namespace Sp
open Go.RowKit
theorem own_none (w : World) (B : Nat) : Own w B (.slice none 0 0) [] := World.ownsRow_nil w B 38 2
theorem implGridTurn_no (wd : Int) (a : Option Addr) (cap : Nat) (cs : List (Int × Int)) (w : World) (hC : CellsAt w a cs) (hm : cs.length <= 1048576) (hno : okG wd cs = false) :
  Calls SqP.prog 17 #[.agg #[.int .i64 wd, .slice a cs.length cap]] w fun e w' => e = .returned (.agg #[.int .i64 0, .slice none 0 0]) /\ Below w.heap.size w w' := by
 go_enter SqP.func17, Tryz.ntmps17
 go_wp2_with fail
 refine (implGridOk_any _ _ _ cs _ (hC.below bel) (by omega)).mono ?_
 rintro e w1 ⟨rfl, hb1⟩
 have hz1 := hb1.size
 simp at hz1
 have hB1 : Below w.heap.size w w1 := bcall bel (by simp; omega) hb1
 have p4 : w1.cell? ⟨w.heap.size + 1, 0, none⟩ = some (.int .i64 0) := keepc hb1 (by simp [go_sem])
 have p5 : w1.cell? ⟨w.heap.size + 1, 1, none⟩ = some (.slice none 0 0) := keepc hb1 (by simp [go_sem])
 have f4 : w1.frozen? ⟨w.heap.size + 1, 0, none⟩ = false := keepf hb1 (v := .int .i64 0) (by simp [go_sem]) (by simp [go_sem])
 have f5 : w1.frozen? ⟨w.heap.size + 1, 1, none⟩ = false := keepf hb1 (v := .slice none 0 0) (by simp [go_sem]) (by simp [go_sem])
 clear hb1
 go_wp2
 refine bodyPost_ret (v := .agg #[.int .i64 0, .slice none 0 0]) (by simp [results, Tryz.results17, go_sem, p4, p5]) rfl ⟨rfl, ?_⟩
 exact (hB1.setCell (p := ⟨w.heap.size + 1, 0, none⟩) (by simp) _).setCell (p := ⟨w.heap.size + 1, 1, none⟩) (by simp) _
theorem implGridTurn_any (wd : Int) (a : Option Addr) (cap : Nat) (cs : List (Int × Int)) (w : World) (hC : CellsAt w a cs) (hm : cs.length <= 1048576) :
  Calls SqP.prog 17 #[.agg #[.int .i64 wd, .slice a cs.length cap]] w fun e w' => ∃ v, e = .returned (.agg #[.int .i64 (turnG wd cs).1, v]) /\ Own w' w.heap.size v (turnG wd cs).2 /\ Below w.heap.size w w' := by
 by_cases hok : okG wd cs = true
 ·obtain ⟨W, H, rfl, h1, h2, h3, h4, h5, h6, h7⟩ := okG_nat wd cs hok
  rcases hC with h0 | ⟨b, off, rfl, hbl, hcell⟩
  ·rw [h0] at h5
   have : 1 * 1 <= W * H := Nat.mul_le_mul h1 h3
   simp at h5
   omega
  refine (implGridTurn_yes W H b off cap cs w hbl hcell hok ⟨h1, h2⟩ ⟨h3, h4⟩ h5).mono ?_
  rintro e w' ⟨g, rfl, hO, hb⟩
  have hl : (turnC W H cs).length = cs.length := by simp [turnC]
  refine ⟨.slice (some ⟨g, 0, none⟩) cs.length cs.length, ?_, ?_, hb⟩
  ·simp only [turnG, hok, if_true, h7]
  ·simp only [turnG, hok, if_true, Int.toNat_natCast]
   rw [h6]; exact hO
 ·have hno : okG wd cs = false := by simpa using hok
  refine (implGridTurn_no wd a cap cs w hC hm hno).mono ?_
  rintro e w' ⟨rfl, hb⟩
  refine ⟨.slice none 0 0, ?_, ?_, hb⟩
  ·simp [turnG, hno]
  ·simp only [turnG, hno]
   exact own_none w' w.heap.size
end Sp
namespace Sp
open Go.RowKit
set_option maxRecDepth 20000
attribute [local go_sem ↓] Go.wp_at_zero Go.wp_at_succ
structure TurnInv (w wr : World) (W H b off n cap ob : Nat) (xs : List (Int × Int)) (g c : Nat) : Prop where
 below : Below w.heap.size w wr
 p0 : wr.cell? ⟨w.heap.size, 0, none⟩ = some (.int .i64 (W : Int))
 p1 : wr.cell? ⟨w.heap.size, 1, none⟩ = some (.slice (some ⟨b, off, none⟩) n cap)
 p4 : wr.cell? ⟨w.heap.size + 1, 0, none⟩ = some (.int .i64 0)
 p5 : wr.cell? ⟨w.heap.size + 1, 1, none⟩ = some (.slice none 0 0)
 f4 : wr.frozen? ⟨w.heap.size + 1, 0, none⟩ = false
 f5 : wr.frozen? ⟨w.heap.size + 1, 1, none⟩ = false
 o0 : wr.cell? ⟨ob, 0, none⟩ = some (.int .i64 (H : Int))
 o1 : wr.cell? ⟨ob, 1, none⟩ = some (.slice (some ⟨g, 0, none⟩) xs.length c)
 fo : wr.frozen? ⟨ob, 1, none⟩ = false
 own : Own wr (w.heap.size + 1 + 1) (.slice (some ⟨g, 0, none⟩) xs.length c) xs
 ne : g ≠ ob
 bw : b < w.heap.size /\ w.heap.size + 1 < ob
 bo : w.heap.size <= ob
theorem TurnInv.call {w wr w2 : World} {W H b off n cap ob : Nat} {xs : List (Int × Int)} {g c : Nat} (h : TurnInv w wr W H b off n cap ob xs g c) (hb : Below wr.heap.size wr w2) : TurnInv w w2 W H b off n cap ob xs g c :=
 ⟨bcall h.below h.below.size hb, keepc hb h.p0, keepc hb h.p1, keepc hb h.p4, keepc hb h.p5, keepf hb h.p4 h.f4, keepf hb h.p5 h.f5, keepc hb h.o0, keepc hb h.o1, keepf hb h.o1 h.fo, h.own.below hb, h.ne, h.bw, h.bo⟩
theorem TurnInv.far {w w5 w6 : World} {W H b off n cap ob : Nat} {xs : List (Int × Int)} {g c : Nat} {o : Obj} (h : TurnInv w w5 W H b off n cap ob xs g c) (hg : (w5.alloc o).grownBy w6 (some g)) {bb oo : Nat} {v : Value}
  (hc : w5.cell? ⟨bb, oo, none⟩ = some v) (hn : bb < w.heap.size + 1 + 1 \/ bb = ob) : w6.cell? ⟨bb, oo, none⟩ = some v := by
 have sl := h.own.lt
 have hne := h.ne
 exact hg.cell ((World.cell?_alloc_past _ _ _ (World.block_lt_of_cell? w5 _ hc)).trans hc) (by simp only [ne_eq, Option.some.injEq]; omega)
end Sp
namespace Sp
open Go.RowKit
attribute [local go_sem ↓] Go.wp_at_zero Go.wp_at_succ
set_option maxRecDepth 100000 in
theorem implGridFlip_yes (W H : Nat) (b off cap : Nat) (cs : List (Int × Int)) (w : World) (hbl : b < w.heap.size)
  (hcell : ∀ i, i < cs.length -> w.cell? ⟨b, off + i * 2, none⟩ = some (.int .i64 (cs.getD i (0, 0)).1) /\ w.cell? ⟨b, off + i * 2 + 1, none⟩ = some (.int .i64 (cs.getD i (0, 0)).2))
  (hok : okG (W : Int) cs = true) (hW : 1 <= W /\ W <= 5) (hH : 1 <= H /\ H <= 5) (hn : cs.length = W * H) :
  Calls SqP.prog 18 #[.agg #[.int .i64 (W : Int), .slice (some ⟨b, off, none⟩) cs.length cap]] w fun e w' => ∃ g, e = .returned (.agg #[.int .i64 (W : Int), .slice (some ⟨g, 0, none⟩) cs.length cs.length]) /\ Own w' w.heap.size (.slice (some ⟨g, 0, none⟩) cs.length cs.length) (flipC W cs) /\ Below w.heap.size w w' := by
 obtain ⟨i0, hi, iz0, iz1, iz2⟩ := info_parts infoCell
 have hlen : 1 <= cs.length /\ cs.length <= 25 := by
  obtain ⟨a1, a2⟩ := hW
  obtain ⟨a3, a4⟩ := hH
  rw [hn]
  rcases (show W = 1 \/ W = 2 \/ W = 3 \/ W = 4 \/ W = 5 by omega) with rfl | rfl | rfl | rfl | rfl <;> omega
 have hdiv : cs.length / W = H := by rw [hn]; exact Nat.mul_div_cancel_left H (by omega)
 have HN : Hid (cs.length = W * H) := hn
 have HD : Hid (cs.length / W = H) := hdiv
 clear hn hdiv
 go_enter SqP.func18, Tryz.ntmps18
 go_wp2_with fail
 refine (implGridOk_any _ _ _ cs _ (Or.inr ⟨b, off, rfl, by simp; omega, fun i hi => by rw [World.cell?_alloc_past _ _ _ (by simp; omega), World.cell?_alloc_past _ _ _ (by omega), World.cell?_alloc_past _ _ _ (by simp; omega), World.cell?_alloc_past _ _ _ (by omega)]; exact hcell i hi⟩) (by omega)).mono ?_
 rintro e w1 ⟨rfl, hb1⟩
 have hz1 := hb1.size
 simp at hz1
 have hB1 : Below w.heap.size w w1 := bcall bel (by simp; omega) hb1
 have p0 : w1.cell? ⟨w.heap.size, 0, none⟩ = some (.int .i64 (W : Int)) := keepc hb1 (by simp [go_sem])
 have p1 : w1.cell? ⟨w.heap.size, 1, none⟩ = some (.slice (some ⟨b, off, none⟩) cs.length cap) := keepc hb1 (by simp [go_sem])
 have p4 : w1.cell? ⟨w.heap.size + 1, 0, none⟩ = some (.int .i64 0) := keepc hb1 (by simp [go_sem])
 have p5 : w1.cell? ⟨w.heap.size + 1, 1, none⟩ = some (.slice none 0 0) := keepc hb1 (by simp [go_sem])
 have f4 : w1.frozen? ⟨w.heap.size + 1, 0, none⟩ = false := keepf hb1 (v := .int .i64 0) (by simp [go_sem]) (by simp [go_sem])
 have f5 : w1.frozen? ⟨w.heap.size + 1, 1, none⟩ = false := keepf hb1 (v := .slice none 0 0) (by simp [go_sem]) (by simp [go_sem])
 clear hb1
 go_wp2_with (at_make; refine wpList_make_full _ rfl _ _ 23 rfl w.heap.size 38 i0 (.agg #[.int .i64 0, .int .i64 0]) 2 SqP.underlying23 hi iz0 iz1 .i64 .i64 _ _ cs.length rfl rfl rfl rfl ?_ ?_ ?_ ?_)
 ·rw [iz2]; omega
 ·unfold maxLen; omega
 ·omega
 intro w3 hO3' hg3
 have hb3 : Below w1.heap.size w1 w3 := (Below.refl _ _).grown hg3 (Nat.le_refl _) (fun k hk => by cases hk)
 have hz3 := hb3.size
 have hB3 : Below w.heap.size w w3 := bcall hB1 (by omega) hb3
 replace f4 := keepf hb3 p4 f4; replace f5 := keepf hb3 p5 f5; replace p0 := keepc hb3 p0; replace p1 := keepc hb3 p1; replace p4 := keepc hb3 p4; replace p5 := keepc hb3 p5
 have hO3 : Own w3 w.heap.size (.slice (some ⟨w1.heap.size, 0, none⟩) cs.length cs.length) (List.replicate cs.length (0, 0)) := by
  unfold Own
  rw [List.length_replicate, <- made_two]
  exact hO3'
 clear hg3 hb3 hO3'
 go_wp2
 go_loopw [19] (fun i wr => ∃ k : Nat, k <= cs.length /\ i = .int .i64 k /\ Own wr w.heap.size (.slice (some ⟨w1.heap.size, 0, none⟩) cs.length cs.length) ((List.range cs.length).map fun j => if flipAt W j < k then (fun m => other (cs.getD m (0, 0))) (flipAt W j) else (0, 0)) /\ Below w.heap.size w wr /\ wr.cell? ⟨w.heap.size, 0, none⟩ = some (.int .i64 (W : Int)) /\ wr.cell? ⟨w.heap.size + 1, 0, none⟩ = some (.int .i64 0) /\ wr.cell? ⟨w.heap.size + 1, 1, none⟩ = some (.slice none 0 0) /\ wr.frozen? ⟨w.heap.size + 1, 0, none⟩ = false /\ wr.frozen? ⟨w.heap.size + 1, 1, none⟩ = false) (fun i _ => cs.length - (intOf i).toNat)
 case atStart => exact ⟨0, Nat.zero_le _, rfl, by simpa [List.map_const'] using hO3, hB3, p0, p4, p5, f4, f5⟩
 case round =>
  clear hO3 p0 p1 p4 p5 f4 f5
  obtain ⟨k, hk, rfl, hO, hb, p0, p4, p5, f4, f5⟩ := hrel
  by_cases hlt : k < cs.length
  ·obtain ⟨hx, hy⟩ := hcell k hlt
   rw [<- hb.cell (p := ⟨b, _, none⟩) hbl] at hx hy
   have s0 : w.heap.size < wr.heap.size := World.block_lt_of_cell? wr _ p0
   have s1 : w.heap.size + 1 < wr.heap.size := World.block_lt_of_cell? wr _ p4
   have s2 := hO.lt.2
   have hw1 : (1 : Int) <= (W : Int) := by omega
   have hk0 : (0 : Int) <= (k : Int) := by omega
   have hnW : cs.length % W = 0 := by rw [HN.out]; exact Nat.mul_mod_right W H
   have ht := flip_lt W k cs.length hW hnW hlt
   have t2 : k / W * W + W - 1 - k % W < cs.length := ht.1
   have t3 : k % W < W := ht.2.2
   have d0 : ((k / W : Nat) : Int) = (k : Int) / (W : Int) := by simp
   have d3 : ((k % W : Nat) : Int) = (k : Int) % (W : Int) := by simp
   have d1 : (0 : Int) <= (k : Int) / (W : Int) := Int.ediv_nonneg hk0 (by omega)
   have d2 : (k : Int) / (W : Int) <= (k : Int) := Int.ediv_le_self _ hk0
   have m1 : (0 : Int) <= (k : Int) % (W : Int) := by omega
   have m2 : (k : Int) % (W : Int) <= 4 := by omega
   have e0 : ((k / W * W : Nat) : Int) = (k : Int) / (W : Int) * (W : Int) := by simp
   have e3 : k / W * W <= k := Nat.div_mul_le_self k W
   have e1 : (0 : Int) <= (k : Int) / (W : Int) * (W : Int) := by omega
   have e2 : (k : Int) / (W : Int) * (W : Int) <= 25 := by omega
   have JJ : ((k : Int) / (W : Int) * (W : Int) + (W : Int) - 1 - (k : Int) % (W : Int)) = ((k / W * W + W - 1 - k % W : Nat) : Int) := by omega
   have ib : (0 : Int) <= (k : Int) / (W : Int) * (W : Int) + (W : Int) - 1 - (k : Int) % (W : Int) := by omega
   have i2 : (k : Int) / (W : Int) * (W : Int) + (W : Int) - 1 - (k : Int) % (W : Int) < (cs.length : Int) := by omega
   have v1 : IntKind.i64.wrap ((k : Int) / (W : Int) * (W : Int)) = (k : Int) / (W : Int) * (W : Int) := IntWalk.i64_in _ (by omega)
   have v2 : IntKind.i64.wrap ((k : Int) / (W : Int) * (W : Int) + (W : Int)) = (k : Int) / (W : Int) * (W : Int) + (W : Int) := IntWalk.i64_in _ (by omega)
   have v3 : IntKind.i64.wrap ((k : Int) / (W : Int) * (W : Int) + (W : Int) - 1) = (k : Int) / (W : Int) * (W : Int) + (W : Int) - 1 := IntWalk.i64_in _ (by omega)
   have v4 : IntKind.i64.wrap ((k : Int) / (W : Int) * (W : Int) + (W : Int) - 1 - (k : Int) % (W : Int)) = (k : Int) / (W : Int) * (W : Int) + (W : Int) - 1 - (k : Int) % (W : Int) := IntWalk.i64_in _ (by omega)
   have v5 : ((k : Int) / (W : Int) * (W : Int) + (W : Int) - 1 - (k : Int) % (W : Int)).toNat = k / W * W + W - 1 - k % W := by omega
   obtain ⟨kx, lx, hkl⟩ : ∃ kx lx : Int, cs.getD k (0, 0) = (kx, lx) := ⟨_, _, rfl⟩
   rw [hkl] at hx hy
   have hokk : okC kx lx = true := by
    have := okG_cell _ _ hok k hlt
    rw [show cs[k] = cs.getD k (0, 0) by simp [hlt], hkl] at this
    exact this
   have HT : Hid (((List.range cs.length).map fun j => if flipAt W j < k then (fun m => other (cs.getD m (0, 0))) (flipAt W j) else (0, 0)).set (k / W * W + W - 1 - k % W) (otherK kx, lx) = (List.range cs.length).map fun j => if flipAt W j < k + 1 then (fun m => other (cs.getD m (0, 0))) (flipAt W j) else (0, 0)) := by
    show _ = _
    rw [<- scatter cs.length k (flipAt W) (fun k => k / W * W + W - 1 - k % W) (fun m => other (cs.getD m (0, 0))) (0, 0) hlt t2 (fun j hj => flip_inv W j k cs.length hW hnW hj hlt)]
    simp only [hkl, other]
   have n1 : w.heap.size ≠ w1.heap.size := by omega
   have n2 : w.heap.size + 1 ≠ w1.heap.size := by omega
   have nr : wr.heap.size ≠ w1.heap.size := by omega
   have JJ2 := JJ
   clear d0 d3 e0 e3 ht hkl hnW JJ JJ2
   go_wp2
   go_quiet (fail)
   go_wp2_with fail
   go_region_with (first
     | (go_at_call 46; refine (leanCell_any _ _ _ hokk).mono ?_; rintro e w4 ⟨rfl, hb4'⟩; have hb4 : Below wr.heap.size wr w4 := bcall ((Below.refl _ _).alloc (Nat.le_refl _) _) (by simp) (by first | exact bdrewN hb4' | exact bdrewN (bdrew hb4')); have b0' : w4.cell? ⟨wr.heap.size, 0, none⟩ = some (.int .i64 kx) := keepc hb4' (by simp [go_sem]); have b1' : w4.cell? ⟨wr.heap.size, 1, none⟩ = some (.int .i64 lx) := keepc hb4' (by simp [go_sem]); have p0' := keepc hb4 p0; have hO4 := hO.below hb4; obtain ⟨c1, c2, g1, g2⟩ := hO4.cell (by simp) (k / W * W + W - 1 - k % W) t2))
   all_goals
    have HS := hO4.set (by simp) (k / W * W + W - 1 - k % W) (otherK kx) lx t2
    rw [HT.out] at HS
    have hbb := hb4.mono (B' := w.heap.size) (by omega)
    replace f4 := keepf hb4 p4 f4; replace f5 := keepf hb4 p5 f5; replace p4 := keepc hb4 p4; replace p5 := keepc hb4 p5
    go_wp2
    go_roundw
    case rel => exact ⟨k + 1, by omega, by go_num, HS, ((hb.trans hbb).setCell (p := ⟨w1.heap.size, _, none⟩) (by show w.heap.size <= w1.heap.size; omega) _).setCell (p := ⟨w1.heap.size, _, none⟩) (by show w.heap.size <= w1.heap.size; omega) _, setc n1 (setc n1 p0'), setc n2 (setc n2 p4), setc n2 (setc n2 p5), setf n2 (setf n2 f4), setf n2 (setf n2 f5)⟩
    case measure => simp [intOf]; omega
  ·have hkn : k = cs.length := by omega
   subst hkn
   have hT : ((List.range cs.length).map fun j => if flipAt W j < cs.length then (fun m => other (cs.getD m (0, 0))) (flipAt W j) else (0, 0)) = flipC W cs := by
    unfold flipC
    apply List.map_congr_left
    intro j hj
    rw [if_pos (flip_lt W j cs.length hW (by rw [HN.out]; exact Nat.mul_mod_right W H) (List.mem_range.1 hj)).2.1]
   rw [hT] at hO
   have s2 := hO.lt.2
   have n2 : w1.heap.size ≠ w.heap.size + 1 := by omega
   clear hT
   go_wp2
   refine bodyPost_ret (v := .agg #[.int .i64 (W : Int), .slice (some ⟨w1.heap.size, 0, none⟩) cs.length cs.length]) (by simp [results, Tryz.results18, go_sem, p4, p5]) rfl ⟨_, rfl, ?_, ?_⟩
   ·exact (hO.other (p := ⟨w.heap.size + 1, 0, none⟩) n2 _).other (p := ⟨w.heap.size + 1, 1, none⟩) n2 _
   ·exact (hb.setCell (p := ⟨w.heap.size + 1, 0, none⟩) (by simp) _).setCell (p := ⟨w.heap.size + 1, 1, none⟩) (by simp) _
end Sp
namespace Sp
open Go.RowKit
set_option maxRecDepth 20000
theorem implGridFlip_no (wd : Int) (a : Option Addr) (cap : Nat) (cs : List (Int × Int)) (w : World) (hC : CellsAt w a cs) (hm : cs.length <= 1048576) (hno : okG wd cs = false) :
  Calls SqP.prog 18 #[.agg #[.int .i64 wd, .slice a cs.length cap]] w fun e w' => e = .returned (.agg #[.int .i64 0, .slice none 0 0]) /\ Below w.heap.size w w' := by
 go_enter SqP.func18, Tryz.ntmps18
 go_wp2_with fail
 refine (implGridOk_any _ _ _ cs _ (hC.below bel) (by omega)).mono ?_
 rintro e w1 ⟨rfl, hb1⟩
 have hz1 := hb1.size
 simp at hz1
 have hB1 : Below w.heap.size w w1 := bcall bel (by simp; omega) hb1
 have p4 : w1.cell? ⟨w.heap.size + 1, 0, none⟩ = some (.int .i64 0) := keepc hb1 (by simp [go_sem])
 have p5 : w1.cell? ⟨w.heap.size + 1, 1, none⟩ = some (.slice none 0 0) := keepc hb1 (by simp [go_sem])
 have f4 : w1.frozen? ⟨w.heap.size + 1, 0, none⟩ = false := keepf hb1 (v := .int .i64 0) (by simp [go_sem]) (by simp [go_sem])
 have f5 : w1.frozen? ⟨w.heap.size + 1, 1, none⟩ = false := keepf hb1 (v := .slice none 0 0) (by simp [go_sem]) (by simp [go_sem])
 clear hb1
 go_wp2
 refine bodyPost_ret (v := .agg #[.int .i64 0, .slice none 0 0]) (by simp [results, Tryz.results18, go_sem, p4, p5]) rfl ⟨rfl, ?_⟩
 exact (hB1.setCell (p := ⟨w.heap.size + 1, 0, none⟩) (by simp) _).setCell (p := ⟨w.heap.size + 1, 1, none⟩) (by simp) _
theorem implGridFlip_any (wd : Int) (a : Option Addr) (cap : Nat) (cs : List (Int × Int)) (w : World) (hC : CellsAt w a cs) (hm : cs.length <= 1048576) :
  Calls SqP.prog 18 #[.agg #[.int .i64 wd, .slice a cs.length cap]] w fun e w' => ∃ v, e = .returned (.agg #[.int .i64 (flipG wd cs).1, v]) /\ Own w' w.heap.size v (flipG wd cs).2 /\ Below w.heap.size w w' := by
 by_cases hok : okG wd cs = true
 ·obtain ⟨W, H, rfl, h1, h2, h3, h4, h5, h6, h7⟩ := okG_nat wd cs hok
  rcases hC with h0 | ⟨b, off, rfl, hbl, hcell⟩
  ·rw [h0] at h5
   have : 1 * 1 <= W * H := Nat.mul_le_mul h1 h3
   simp at h5
   omega
  refine (implGridFlip_yes W H b off cap cs w hbl hcell hok ⟨h1, h2⟩ ⟨h3, h4⟩ h5).mono ?_
  rintro e w' ⟨g, rfl, hO, hb⟩
  have hl : (flipC W cs).length = cs.length := by simp [flipC]
  refine ⟨.slice (some ⟨g, 0, none⟩) cs.length cs.length, ?_, ?_, hb⟩
  ·simp only [flipG, hok, if_true]
  ·simp only [flipG, hok, if_true, Int.toNat_natCast]
   exact hO
 ·have hno : okG wd cs = false := by simpa using hok
  refine (implGridFlip_no wd a cap cs w hC hm hno).mono ?_
  rintro e w' ⟨rfl, hb⟩
  refine ⟨.slice none 0 0, ?_, ?_, hb⟩
  ·simp [flipG, hno]
  ·simp only [flipG, hno]
   exact own_none w' w.heap.size
end Sp
end Go.Proofs.YtdhopelplokehaaGreat
