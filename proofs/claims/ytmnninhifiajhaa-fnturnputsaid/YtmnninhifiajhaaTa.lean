/-
  The contract of impl.leanKind, and what impl.leanCell stands on: a cell whose mirror or glass leans the other way, as the plain function 'other' says.
-/
import Derived.Test.YtmnninhifiajhaaJm
import Derived.Deep.RegionWith
namespace Go.Proofs.Ytmnninhifiajhaa
open Go.RowKit

theorem number_free (w : World) : Sem.run Try.prog (method 269 121 (Value.agg #[]) "loop.example/lucarne/impl.number") w = .ok (138, .agg #[]) w := by kernel_rfl
theorem number_wall (w : World) : Sem.run Try.prog (method 269 122 (Value.agg #[]) "loop.example/lucarne/impl.number") w = .ok (139, .agg #[]) w := by kernel_rfl
theorem number_slash (w : World) : Sem.run Try.prog (method 269 123 (Value.agg #[]) "loop.example/lucarne/impl.number") w = .ok (140, .agg #[]) w := by kernel_rfl
theorem number_back (w : World) : Sem.run Try.prog (method 269 124 (Value.agg #[]) "loop.example/lucarne/impl.number") w = .ok (141, .agg #[]) w := by kernel_rfl
theorem number_glass (w : World) : Sem.run Try.prog (method 269 125 (Value.agg #[]) "loop.example/lucarne/impl.number") w = .ok (142, .agg #[]) w := by kernel_rfl
theorem number_pane (w : World) : Sem.run Try.prog (method 269 126 (Value.agg #[]) "loop.example/lucarne/impl.number") w = .ok (143, .agg #[]) w := by kernel_rfl
theorem number_dim (w : World) : Sem.run Try.prog (method 269 127 (Value.agg #[]) "loop.example/lucarne/impl.number") w = .ok (144, .agg #[]) w := by kernel_rfl
theorem number_lamp (w : World) : Sem.run Try.prog (method 269 128 (Value.agg #[]) "loop.example/lucarne/impl.number") w = .ok (146, .agg #[]) w := by kernel_rfl
theorem asserts_free_slash (w : World) : Sem.run Try.prog (Instr.typeAssert (.iface 121 (.agg #[])) 106 123 true) w = .ok (.tuple #[.agg #[], .bool false]) w := by kernel_rfl
theorem asserts_free_back (w : World) : Sem.run Try.prog (Instr.typeAssert (.iface 121 (.agg #[])) 106 124 true) w = .ok (.tuple #[.agg #[], .bool false]) w := by kernel_rfl
theorem asserts_free_glass (w : World) : Sem.run Try.prog (Instr.typeAssert (.iface 121 (.agg #[])) 106 125 true) w = .ok (.tuple #[.agg #[], .bool false]) w := by kernel_rfl
theorem asserts_free_pane (w : World) : Sem.run Try.prog (Instr.typeAssert (.iface 121 (.agg #[])) 106 126 true) w = .ok (.tuple #[.agg #[], .bool false]) w := by kernel_rfl
theorem asserts_wall_slash (w : World) : Sem.run Try.prog (Instr.typeAssert (.iface 122 (.agg #[])) 106 123 true) w = .ok (.tuple #[.agg #[], .bool false]) w := by kernel_rfl
theorem asserts_wall_back (w : World) : Sem.run Try.prog (Instr.typeAssert (.iface 122 (.agg #[])) 106 124 true) w = .ok (.tuple #[.agg #[], .bool false]) w := by kernel_rfl
theorem asserts_wall_glass (w : World) : Sem.run Try.prog (Instr.typeAssert (.iface 122 (.agg #[])) 106 125 true) w = .ok (.tuple #[.agg #[], .bool false]) w := by kernel_rfl
theorem asserts_wall_pane (w : World) : Sem.run Try.prog (Instr.typeAssert (.iface 122 (.agg #[])) 106 126 true) w = .ok (.tuple #[.agg #[], .bool false]) w := by kernel_rfl
theorem asserts_slash_slash (w : World) : Sem.run Try.prog (Instr.typeAssert (.iface 123 (.agg #[])) 106 123 true) w = .ok (.tuple #[.agg #[], .bool true]) w := by kernel_rfl
theorem asserts_slash_back (w : World) : Sem.run Try.prog (Instr.typeAssert (.iface 123 (.agg #[])) 106 124 true) w = .ok (.tuple #[.agg #[], .bool false]) w := by kernel_rfl
theorem asserts_slash_glass (w : World) : Sem.run Try.prog (Instr.typeAssert (.iface 123 (.agg #[])) 106 125 true) w = .ok (.tuple #[.agg #[], .bool false]) w := by kernel_rfl
theorem asserts_slash_pane (w : World) : Sem.run Try.prog (Instr.typeAssert (.iface 123 (.agg #[])) 106 126 true) w = .ok (.tuple #[.agg #[], .bool false]) w := by kernel_rfl
theorem asserts_back_slash (w : World) : Sem.run Try.prog (Instr.typeAssert (.iface 124 (.agg #[])) 106 123 true) w = .ok (.tuple #[.agg #[], .bool false]) w := by kernel_rfl
theorem asserts_back_back (w : World) : Sem.run Try.prog (Instr.typeAssert (.iface 124 (.agg #[])) 106 124 true) w = .ok (.tuple #[.agg #[], .bool true]) w := by kernel_rfl
theorem asserts_back_glass (w : World) : Sem.run Try.prog (Instr.typeAssert (.iface 124 (.agg #[])) 106 125 true) w = .ok (.tuple #[.agg #[], .bool false]) w := by kernel_rfl
theorem asserts_back_pane (w : World) : Sem.run Try.prog (Instr.typeAssert (.iface 124 (.agg #[])) 106 126 true) w = .ok (.tuple #[.agg #[], .bool false]) w := by kernel_rfl
theorem asserts_glass_slash (w : World) : Sem.run Try.prog (Instr.typeAssert (.iface 125 (.agg #[])) 106 123 true) w = .ok (.tuple #[.agg #[], .bool false]) w := by kernel_rfl
theorem asserts_glass_back (w : World) : Sem.run Try.prog (Instr.typeAssert (.iface 125 (.agg #[])) 106 124 true) w = .ok (.tuple #[.agg #[], .bool false]) w := by kernel_rfl
theorem asserts_glass_glass (w : World) : Sem.run Try.prog (Instr.typeAssert (.iface 125 (.agg #[])) 106 125 true) w = .ok (.tuple #[.agg #[], .bool true]) w := by kernel_rfl
theorem asserts_glass_pane (w : World) : Sem.run Try.prog (Instr.typeAssert (.iface 125 (.agg #[])) 106 126 true) w = .ok (.tuple #[.agg #[], .bool false]) w := by kernel_rfl
theorem asserts_pane_slash (w : World) : Sem.run Try.prog (Instr.typeAssert (.iface 126 (.agg #[])) 106 123 true) w = .ok (.tuple #[.agg #[], .bool false]) w := by kernel_rfl
theorem asserts_pane_back (w : World) : Sem.run Try.prog (Instr.typeAssert (.iface 126 (.agg #[])) 106 124 true) w = .ok (.tuple #[.agg #[], .bool false]) w := by kernel_rfl
theorem asserts_pane_glass (w : World) : Sem.run Try.prog (Instr.typeAssert (.iface 126 (.agg #[])) 106 125 true) w = .ok (.tuple #[.agg #[], .bool false]) w := by kernel_rfl
theorem asserts_pane_pane (w : World) : Sem.run Try.prog (Instr.typeAssert (.iface 126 (.agg #[])) 106 126 true) w = .ok (.tuple #[.agg #[], .bool true]) w := by kernel_rfl
theorem asserts_dim_slash (w : World) : Sem.run Try.prog (Instr.typeAssert (.iface 127 (.agg #[])) 106 123 true) w = .ok (.tuple #[.agg #[], .bool false]) w := by kernel_rfl
theorem asserts_dim_back (w : World) : Sem.run Try.prog (Instr.typeAssert (.iface 127 (.agg #[])) 106 124 true) w = .ok (.tuple #[.agg #[], .bool false]) w := by kernel_rfl
theorem asserts_dim_glass (w : World) : Sem.run Try.prog (Instr.typeAssert (.iface 127 (.agg #[])) 106 125 true) w = .ok (.tuple #[.agg #[], .bool false]) w := by kernel_rfl
theorem asserts_dim_pane (w : World) : Sem.run Try.prog (Instr.typeAssert (.iface 127 (.agg #[])) 106 126 true) w = .ok (.tuple #[.agg #[], .bool false]) w := by kernel_rfl
theorem asserts_lamp_slash (w : World) : Sem.run Try.prog (Instr.typeAssert (.iface 128 (.agg #[])) 106 123 true) w = .ok (.tuple #[.agg #[], .bool false]) w := by kernel_rfl
theorem asserts_lamp_back (w : World) : Sem.run Try.prog (Instr.typeAssert (.iface 128 (.agg #[])) 106 124 true) w = .ok (.tuple #[.agg #[], .bool false]) w := by kernel_rfl
theorem asserts_lamp_glass (w : World) : Sem.run Try.prog (Instr.typeAssert (.iface 128 (.agg #[])) 106 125 true) w = .ok (.tuple #[.agg #[], .bool false]) w := by kernel_rfl
theorem asserts_lamp_pane (w : World) : Sem.run Try.prog (Instr.typeAssert (.iface 128 (.agg #[])) 106 126 true) w = .ok (.tuple #[.agg #[], .bool false]) w := by kernel_rfl

theorem numberCall_free (w : World) : Calls Try.prog 138 #[.agg #[]] w fun e w' => e = .returned (.int .i64 0) ∧ Below w.heap.size w w' := by
  go_enter Try.func138, Try.ntmps138
  go_wp2
  go_ret
  exact ⟨rfl, (by repeat (first | exact Below.refl _ _ | refine Below.alloc ?_ (by first | exact Nat.le_refl _ | (simp; done) | (simp; omega)) _ | refine Below.drew ?_ | refine Below.setCell ?_ (by first | exact Nat.le_refl _ | (simp; done) | (simp; omega)) _))⟩
theorem leanKind_free (w : World) : Calls Try.prog 82 #[.iface 121 (.agg #[])] w fun e w' => e = .returned (.iface 121 (.agg #[])) ∧ w' = w := by
  have h0 := asserts_free_slash
  have h1 := asserts_free_back
  have h2 := asserts_free_glass
  have h3 := asserts_free_pane
  go_enter Try.func82, Try.ntmps82
  go_wp2
  go_ret
  exact ⟨rfl, rfl⟩

theorem numberCall_wall (w : World) : Calls Try.prog 139 #[.agg #[]] w fun e w' => e = .returned (.int .i64 1) ∧ Below w.heap.size w w' := by
  go_enter Try.func139, Try.ntmps139
  go_wp2
  go_ret
  exact ⟨rfl, (by repeat (first | exact Below.refl _ _ | refine Below.alloc ?_ (by first | exact Nat.le_refl _ | (simp; done) | (simp; omega)) _ | refine Below.drew ?_ | refine Below.setCell ?_ (by first | exact Nat.le_refl _ | (simp; done) | (simp; omega)) _))⟩
theorem leanKind_wall (w : World) : Calls Try.prog 82 #[.iface 122 (.agg #[])] w fun e w' => e = .returned (.iface 122 (.agg #[])) ∧ w' = w := by
  have h0 := asserts_wall_slash
  have h1 := asserts_wall_back
  have h2 := asserts_wall_glass
  have h3 := asserts_wall_pane
  go_enter Try.func82, Try.ntmps82
  go_wp2
  go_ret
  exact ⟨rfl, rfl⟩

theorem numberCall_slash (w : World) : Calls Try.prog 140 #[.agg #[]] w fun e w' => e = .returned (.int .i64 2) ∧ Below w.heap.size w w' := by
  go_enter Try.func140, Try.ntmps140
  go_wp2
  go_ret
  exact ⟨rfl, (by repeat (first | exact Below.refl _ _ | refine Below.alloc ?_ (by first | exact Nat.le_refl _ | (simp; done) | (simp; omega)) _ | refine Below.drew ?_ | refine Below.setCell ?_ (by first | exact Nat.le_refl _ | (simp; done) | (simp; omega)) _))⟩
theorem leanKind_slash (w : World) : Calls Try.prog 82 #[.iface 123 (.agg #[])] w fun e w' => e = .returned (.iface 124 (.agg #[])) ∧ w' = w := by
  have h0 := asserts_slash_slash
  go_enter Try.func82, Try.ntmps82
  go_wp2
  go_ret
  exact ⟨rfl, rfl⟩

theorem numberCall_back (w : World) : Calls Try.prog 141 #[.agg #[]] w fun e w' => e = .returned (.int .i64 3) ∧ Below w.heap.size w w' := by
  go_enter Try.func141, Try.ntmps141
  go_wp2
  go_ret
  exact ⟨rfl, (by repeat (first | exact Below.refl _ _ | refine Below.alloc ?_ (by first | exact Nat.le_refl _ | (simp; done) | (simp; omega)) _ | refine Below.drew ?_ | refine Below.setCell ?_ (by first | exact Nat.le_refl _ | (simp; done) | (simp; omega)) _))⟩
theorem leanKind_back (w : World) : Calls Try.prog 82 #[.iface 124 (.agg #[])] w fun e w' => e = .returned (.iface 123 (.agg #[])) ∧ w' = w := by
  have h0 := asserts_back_slash
  have h1 := asserts_back_back
  go_enter Try.func82, Try.ntmps82
  go_wp2
  go_ret
  exact ⟨rfl, rfl⟩

theorem numberCall_glass (w : World) : Calls Try.prog 142 #[.agg #[]] w fun e w' => e = .returned (.int .i64 4) ∧ Below w.heap.size w w' := by
  go_enter Try.func142, Try.ntmps142
  go_wp2
  go_ret
  exact ⟨rfl, (by repeat (first | exact Below.refl _ _ | refine Below.alloc ?_ (by first | exact Nat.le_refl _ | (simp; done) | (simp; omega)) _ | refine Below.drew ?_ | refine Below.setCell ?_ (by first | exact Nat.le_refl _ | (simp; done) | (simp; omega)) _))⟩
theorem leanKind_glass (w : World) : Calls Try.prog 82 #[.iface 125 (.agg #[])] w fun e w' => e = .returned (.iface 126 (.agg #[])) ∧ w' = w := by
  have h0 := asserts_glass_slash
  have h1 := asserts_glass_back
  have h2 := asserts_glass_glass
  go_enter Try.func82, Try.ntmps82
  go_wp2
  go_ret
  exact ⟨rfl, rfl⟩

theorem numberCall_pane (w : World) : Calls Try.prog 143 #[.agg #[]] w fun e w' => e = .returned (.int .i64 5) ∧ Below w.heap.size w w' := by
  go_enter Try.func143, Try.ntmps143
  go_wp2
  go_ret
  exact ⟨rfl, (by repeat (first | exact Below.refl _ _ | refine Below.alloc ?_ (by first | exact Nat.le_refl _ | (simp; done) | (simp; omega)) _ | refine Below.drew ?_ | refine Below.setCell ?_ (by first | exact Nat.le_refl _ | (simp; done) | (simp; omega)) _))⟩
theorem leanKind_pane (w : World) : Calls Try.prog 82 #[.iface 126 (.agg #[])] w fun e w' => e = .returned (.iface 125 (.agg #[])) ∧ w' = w := by
  have h0 := asserts_pane_slash
  have h1 := asserts_pane_back
  have h2 := asserts_pane_glass
  have h3 := asserts_pane_pane
  go_enter Try.func82, Try.ntmps82
  go_wp2
  go_ret
  exact ⟨rfl, rfl⟩

theorem numberCall_dim (w : World) : Calls Try.prog 144 #[.agg #[]] w fun e w' => e = .returned (.int .i64 6) ∧ Below w.heap.size w w' := by
  go_enter Try.func144, Try.ntmps144
  go_wp2
  go_ret
  exact ⟨rfl, (by repeat (first | exact Below.refl _ _ | refine Below.alloc ?_ (by first | exact Nat.le_refl _ | (simp; done) | (simp; omega)) _ | refine Below.drew ?_ | refine Below.setCell ?_ (by first | exact Nat.le_refl _ | (simp; done) | (simp; omega)) _))⟩
theorem leanKind_dim (w : World) : Calls Try.prog 82 #[.iface 127 (.agg #[])] w fun e w' => e = .returned (.iface 127 (.agg #[])) ∧ w' = w := by
  have h0 := asserts_dim_slash
  have h1 := asserts_dim_back
  have h2 := asserts_dim_glass
  have h3 := asserts_dim_pane
  go_enter Try.func82, Try.ntmps82
  go_wp2
  go_ret
  exact ⟨rfl, rfl⟩

theorem numberCall_lamp (w : World) : Calls Try.prog 146 #[.agg #[]] w fun e w' => e = .returned (.int .i64 7) ∧ Below w.heap.size w w' := by
  go_enter Try.func146, Try.ntmps146
  go_wp2
  go_ret
  exact ⟨rfl, (by repeat (first | exact Below.refl _ _ | refine Below.alloc ?_ (by first | exact Nat.le_refl _ | (simp; done) | (simp; omega)) _ | refine Below.drew ?_ | refine Below.setCell ?_ (by first | exact Nat.le_refl _ | (simp; done) | (simp; omega)) _))⟩
theorem leanKind_lamp (w : World) : Calls Try.prog 82 #[.iface 128 (.agg #[])] w fun e w' => e = .returned (.iface 128 (.agg #[])) ∧ w' = w := by
  have h0 := asserts_lamp_slash
  have h1 := asserts_lamp_back
  have h2 := asserts_lamp_glass
  have h3 := asserts_lamp_pane
  go_enter Try.func82, Try.ntmps82
  go_wp2
  go_ret
  exact ⟨rfl, rfl⟩

end Go.Proofs.Ytmnninhifiajhaa
