/-
  The contract of impl.leanKind, and what impl.leanCell stands on: a cell whose mirror or glass leans the other way, as the plain function 'other' says.
-/
import Derived.Test.YtdlnmdmdoebecaaJm
import Derived.Deep.RegionWith
namespace Go.Proofs.Ytdlnmdmdoebecaa
open Go.RowKit

theorem number_free (w : World) : Sem.run Try.prog (method 245 119 (Value.agg #[]) "loop.example/lucarne/impl.number") w = .ok (105, .agg #[]) w := by kernel_rfl
theorem number_wall (w : World) : Sem.run Try.prog (method 245 120 (Value.agg #[]) "loop.example/lucarne/impl.number") w = .ok (106, .agg #[]) w := by kernel_rfl
theorem number_slash (w : World) : Sem.run Try.prog (method 245 121 (Value.agg #[]) "loop.example/lucarne/impl.number") w = .ok (107, .agg #[]) w := by kernel_rfl
theorem number_back (w : World) : Sem.run Try.prog (method 245 122 (Value.agg #[]) "loop.example/lucarne/impl.number") w = .ok (108, .agg #[]) w := by kernel_rfl
theorem number_glass (w : World) : Sem.run Try.prog (method 245 123 (Value.agg #[]) "loop.example/lucarne/impl.number") w = .ok (109, .agg #[]) w := by kernel_rfl
theorem number_pane (w : World) : Sem.run Try.prog (method 245 124 (Value.agg #[]) "loop.example/lucarne/impl.number") w = .ok (110, .agg #[]) w := by kernel_rfl
theorem number_dim (w : World) : Sem.run Try.prog (method 245 125 (Value.agg #[]) "loop.example/lucarne/impl.number") w = .ok (111, .agg #[]) w := by kernel_rfl
theorem number_lamp (w : World) : Sem.run Try.prog (method 245 126 (Value.agg #[]) "loop.example/lucarne/impl.number") w = .ok (113, .agg #[]) w := by kernel_rfl
theorem asserts_free_slash (w : World) : Sem.run Try.prog (Instr.typeAssert (.iface 119 (.agg #[])) 90 121 true) w = .ok (.tuple #[.agg #[], .bool false]) w := by kernel_rfl
theorem asserts_free_back (w : World) : Sem.run Try.prog (Instr.typeAssert (.iface 119 (.agg #[])) 90 122 true) w = .ok (.tuple #[.agg #[], .bool false]) w := by kernel_rfl
theorem asserts_free_glass (w : World) : Sem.run Try.prog (Instr.typeAssert (.iface 119 (.agg #[])) 90 123 true) w = .ok (.tuple #[.agg #[], .bool false]) w := by kernel_rfl
theorem asserts_free_pane (w : World) : Sem.run Try.prog (Instr.typeAssert (.iface 119 (.agg #[])) 90 124 true) w = .ok (.tuple #[.agg #[], .bool false]) w := by kernel_rfl
theorem asserts_wall_slash (w : World) : Sem.run Try.prog (Instr.typeAssert (.iface 120 (.agg #[])) 90 121 true) w = .ok (.tuple #[.agg #[], .bool false]) w := by kernel_rfl
theorem asserts_wall_back (w : World) : Sem.run Try.prog (Instr.typeAssert (.iface 120 (.agg #[])) 90 122 true) w = .ok (.tuple #[.agg #[], .bool false]) w := by kernel_rfl
theorem asserts_wall_glass (w : World) : Sem.run Try.prog (Instr.typeAssert (.iface 120 (.agg #[])) 90 123 true) w = .ok (.tuple #[.agg #[], .bool false]) w := by kernel_rfl
theorem asserts_wall_pane (w : World) : Sem.run Try.prog (Instr.typeAssert (.iface 120 (.agg #[])) 90 124 true) w = .ok (.tuple #[.agg #[], .bool false]) w := by kernel_rfl
theorem asserts_slash_slash (w : World) : Sem.run Try.prog (Instr.typeAssert (.iface 121 (.agg #[])) 90 121 true) w = .ok (.tuple #[.agg #[], .bool true]) w := by kernel_rfl
theorem asserts_slash_back (w : World) : Sem.run Try.prog (Instr.typeAssert (.iface 121 (.agg #[])) 90 122 true) w = .ok (.tuple #[.agg #[], .bool false]) w := by kernel_rfl
theorem asserts_slash_glass (w : World) : Sem.run Try.prog (Instr.typeAssert (.iface 121 (.agg #[])) 90 123 true) w = .ok (.tuple #[.agg #[], .bool false]) w := by kernel_rfl
theorem asserts_slash_pane (w : World) : Sem.run Try.prog (Instr.typeAssert (.iface 121 (.agg #[])) 90 124 true) w = .ok (.tuple #[.agg #[], .bool false]) w := by kernel_rfl
theorem asserts_back_slash (w : World) : Sem.run Try.prog (Instr.typeAssert (.iface 122 (.agg #[])) 90 121 true) w = .ok (.tuple #[.agg #[], .bool false]) w := by kernel_rfl
theorem asserts_back_back (w : World) : Sem.run Try.prog (Instr.typeAssert (.iface 122 (.agg #[])) 90 122 true) w = .ok (.tuple #[.agg #[], .bool true]) w := by kernel_rfl
theorem asserts_back_glass (w : World) : Sem.run Try.prog (Instr.typeAssert (.iface 122 (.agg #[])) 90 123 true) w = .ok (.tuple #[.agg #[], .bool false]) w := by kernel_rfl
theorem asserts_back_pane (w : World) : Sem.run Try.prog (Instr.typeAssert (.iface 122 (.agg #[])) 90 124 true) w = .ok (.tuple #[.agg #[], .bool false]) w := by kernel_rfl
theorem asserts_glass_slash (w : World) : Sem.run Try.prog (Instr.typeAssert (.iface 123 (.agg #[])) 90 121 true) w = .ok (.tuple #[.agg #[], .bool false]) w := by kernel_rfl
theorem asserts_glass_back (w : World) : Sem.run Try.prog (Instr.typeAssert (.iface 123 (.agg #[])) 90 122 true) w = .ok (.tuple #[.agg #[], .bool false]) w := by kernel_rfl
theorem asserts_glass_glass (w : World) : Sem.run Try.prog (Instr.typeAssert (.iface 123 (.agg #[])) 90 123 true) w = .ok (.tuple #[.agg #[], .bool true]) w := by kernel_rfl
theorem asserts_glass_pane (w : World) : Sem.run Try.prog (Instr.typeAssert (.iface 123 (.agg #[])) 90 124 true) w = .ok (.tuple #[.agg #[], .bool false]) w := by kernel_rfl
theorem asserts_pane_slash (w : World) : Sem.run Try.prog (Instr.typeAssert (.iface 124 (.agg #[])) 90 121 true) w = .ok (.tuple #[.agg #[], .bool false]) w := by kernel_rfl
theorem asserts_pane_back (w : World) : Sem.run Try.prog (Instr.typeAssert (.iface 124 (.agg #[])) 90 122 true) w = .ok (.tuple #[.agg #[], .bool false]) w := by kernel_rfl
theorem asserts_pane_glass (w : World) : Sem.run Try.prog (Instr.typeAssert (.iface 124 (.agg #[])) 90 123 true) w = .ok (.tuple #[.agg #[], .bool false]) w := by kernel_rfl
theorem asserts_pane_pane (w : World) : Sem.run Try.prog (Instr.typeAssert (.iface 124 (.agg #[])) 90 124 true) w = .ok (.tuple #[.agg #[], .bool true]) w := by kernel_rfl
theorem asserts_dim_slash (w : World) : Sem.run Try.prog (Instr.typeAssert (.iface 125 (.agg #[])) 90 121 true) w = .ok (.tuple #[.agg #[], .bool false]) w := by kernel_rfl
theorem asserts_dim_back (w : World) : Sem.run Try.prog (Instr.typeAssert (.iface 125 (.agg #[])) 90 122 true) w = .ok (.tuple #[.agg #[], .bool false]) w := by kernel_rfl
theorem asserts_dim_glass (w : World) : Sem.run Try.prog (Instr.typeAssert (.iface 125 (.agg #[])) 90 123 true) w = .ok (.tuple #[.agg #[], .bool false]) w := by kernel_rfl
theorem asserts_dim_pane (w : World) : Sem.run Try.prog (Instr.typeAssert (.iface 125 (.agg #[])) 90 124 true) w = .ok (.tuple #[.agg #[], .bool false]) w := by kernel_rfl
theorem asserts_lamp_slash (w : World) : Sem.run Try.prog (Instr.typeAssert (.iface 126 (.agg #[])) 90 121 true) w = .ok (.tuple #[.agg #[], .bool false]) w := by kernel_rfl
theorem asserts_lamp_back (w : World) : Sem.run Try.prog (Instr.typeAssert (.iface 126 (.agg #[])) 90 122 true) w = .ok (.tuple #[.agg #[], .bool false]) w := by kernel_rfl
theorem asserts_lamp_glass (w : World) : Sem.run Try.prog (Instr.typeAssert (.iface 126 (.agg #[])) 90 123 true) w = .ok (.tuple #[.agg #[], .bool false]) w := by kernel_rfl
theorem asserts_lamp_pane (w : World) : Sem.run Try.prog (Instr.typeAssert (.iface 126 (.agg #[])) 90 124 true) w = .ok (.tuple #[.agg #[], .bool false]) w := by kernel_rfl

theorem numberCall_free (w : World) : Calls Try.prog 105 #[.agg #[]] w fun e w' => e = .returned (.int .i64 0) ∧ Below w.heap.size w w' := by
  go_enter Try.func105, Try.ntmps105
  go_wp2
  go_ret
  exact ⟨rfl, (by repeat (first | exact Below.refl _ _ | refine Below.alloc ?_ (by first | exact Nat.le_refl _ | (simp; done) | (simp; omega)) _ | refine Below.drew ?_ | refine Below.setCell ?_ (by first | exact Nat.le_refl _ | (simp; done) | (simp; omega)) _))⟩
theorem leanKind_free (w : World) : Calls Try.prog 57 #[.iface 119 (.agg #[])] w fun e w' => e = .returned (.iface 119 (.agg #[])) ∧ w' = w := by
  have h0 := asserts_free_slash
  have h1 := asserts_free_back
  have h2 := asserts_free_glass
  have h3 := asserts_free_pane
  go_enter Try.func57, Try.ntmps57
  go_wp2
  go_ret
  exact ⟨rfl, rfl⟩

theorem numberCall_wall (w : World) : Calls Try.prog 106 #[.agg #[]] w fun e w' => e = .returned (.int .i64 1) ∧ Below w.heap.size w w' := by
  go_enter Try.func106, Try.ntmps106
  go_wp2
  go_ret
  exact ⟨rfl, (by repeat (first | exact Below.refl _ _ | refine Below.alloc ?_ (by first | exact Nat.le_refl _ | (simp; done) | (simp; omega)) _ | refine Below.drew ?_ | refine Below.setCell ?_ (by first | exact Nat.le_refl _ | (simp; done) | (simp; omega)) _))⟩
theorem leanKind_wall (w : World) : Calls Try.prog 57 #[.iface 120 (.agg #[])] w fun e w' => e = .returned (.iface 120 (.agg #[])) ∧ w' = w := by
  have h0 := asserts_wall_slash
  have h1 := asserts_wall_back
  have h2 := asserts_wall_glass
  have h3 := asserts_wall_pane
  go_enter Try.func57, Try.ntmps57
  go_wp2
  go_ret
  exact ⟨rfl, rfl⟩

theorem numberCall_slash (w : World) : Calls Try.prog 107 #[.agg #[]] w fun e w' => e = .returned (.int .i64 2) ∧ Below w.heap.size w w' := by
  go_enter Try.func107, Try.ntmps107
  go_wp2
  go_ret
  exact ⟨rfl, (by repeat (first | exact Below.refl _ _ | refine Below.alloc ?_ (by first | exact Nat.le_refl _ | (simp; done) | (simp; omega)) _ | refine Below.drew ?_ | refine Below.setCell ?_ (by first | exact Nat.le_refl _ | (simp; done) | (simp; omega)) _))⟩
theorem leanKind_slash (w : World) : Calls Try.prog 57 #[.iface 121 (.agg #[])] w fun e w' => e = .returned (.iface 122 (.agg #[])) ∧ w' = w := by
  have h0 := asserts_slash_slash
  go_enter Try.func57, Try.ntmps57
  go_wp2
  go_ret
  exact ⟨rfl, rfl⟩

theorem numberCall_back (w : World) : Calls Try.prog 108 #[.agg #[]] w fun e w' => e = .returned (.int .i64 3) ∧ Below w.heap.size w w' := by
  go_enter Try.func108, Try.ntmps108
  go_wp2
  go_ret
  exact ⟨rfl, (by repeat (first | exact Below.refl _ _ | refine Below.alloc ?_ (by first | exact Nat.le_refl _ | (simp; done) | (simp; omega)) _ | refine Below.drew ?_ | refine Below.setCell ?_ (by first | exact Nat.le_refl _ | (simp; done) | (simp; omega)) _))⟩
theorem leanKind_back (w : World) : Calls Try.prog 57 #[.iface 122 (.agg #[])] w fun e w' => e = .returned (.iface 121 (.agg #[])) ∧ w' = w := by
  have h0 := asserts_back_slash
  have h1 := asserts_back_back
  go_enter Try.func57, Try.ntmps57
  go_wp2
  go_ret
  exact ⟨rfl, rfl⟩

theorem numberCall_glass (w : World) : Calls Try.prog 109 #[.agg #[]] w fun e w' => e = .returned (.int .i64 4) ∧ Below w.heap.size w w' := by
  go_enter Try.func109, Try.ntmps109
  go_wp2
  go_ret
  exact ⟨rfl, (by repeat (first | exact Below.refl _ _ | refine Below.alloc ?_ (by first | exact Nat.le_refl _ | (simp; done) | (simp; omega)) _ | refine Below.drew ?_ | refine Below.setCell ?_ (by first | exact Nat.le_refl _ | (simp; done) | (simp; omega)) _))⟩
theorem leanKind_glass (w : World) : Calls Try.prog 57 #[.iface 123 (.agg #[])] w fun e w' => e = .returned (.iface 124 (.agg #[])) ∧ w' = w := by
  have h0 := asserts_glass_slash
  have h1 := asserts_glass_back
  have h2 := asserts_glass_glass
  go_enter Try.func57, Try.ntmps57
  go_wp2
  go_ret
  exact ⟨rfl, rfl⟩

theorem numberCall_pane (w : World) : Calls Try.prog 110 #[.agg #[]] w fun e w' => e = .returned (.int .i64 5) ∧ Below w.heap.size w w' := by
  go_enter Try.func110, Try.ntmps110
  go_wp2
  go_ret
  exact ⟨rfl, (by repeat (first | exact Below.refl _ _ | refine Below.alloc ?_ (by first | exact Nat.le_refl _ | (simp; done) | (simp; omega)) _ | refine Below.drew ?_ | refine Below.setCell ?_ (by first | exact Nat.le_refl _ | (simp; done) | (simp; omega)) _))⟩
theorem leanKind_pane (w : World) : Calls Try.prog 57 #[.iface 124 (.agg #[])] w fun e w' => e = .returned (.iface 123 (.agg #[])) ∧ w' = w := by
  have h0 := asserts_pane_slash
  have h1 := asserts_pane_back
  have h2 := asserts_pane_glass
  have h3 := asserts_pane_pane
  go_enter Try.func57, Try.ntmps57
  go_wp2
  go_ret
  exact ⟨rfl, rfl⟩

theorem numberCall_dim (w : World) : Calls Try.prog 111 #[.agg #[]] w fun e w' => e = .returned (.int .i64 6) ∧ Below w.heap.size w w' := by
  go_enter Try.func111, Try.ntmps111
  go_wp2
  go_ret
  exact ⟨rfl, (by repeat (first | exact Below.refl _ _ | refine Below.alloc ?_ (by first | exact Nat.le_refl _ | (simp; done) | (simp; omega)) _ | refine Below.drew ?_ | refine Below.setCell ?_ (by first | exact Nat.le_refl _ | (simp; done) | (simp; omega)) _))⟩
theorem leanKind_dim (w : World) : Calls Try.prog 57 #[.iface 125 (.agg #[])] w fun e w' => e = .returned (.iface 125 (.agg #[])) ∧ w' = w := by
  have h0 := asserts_dim_slash
  have h1 := asserts_dim_back
  have h2 := asserts_dim_glass
  have h3 := asserts_dim_pane
  go_enter Try.func57, Try.ntmps57
  go_wp2
  go_ret
  exact ⟨rfl, rfl⟩

theorem numberCall_lamp (w : World) : Calls Try.prog 113 #[.agg #[]] w fun e w' => e = .returned (.int .i64 7) ∧ Below w.heap.size w w' := by
  go_enter Try.func113, Try.ntmps113
  go_wp2
  go_ret
  exact ⟨rfl, (by repeat (first | exact Below.refl _ _ | refine Below.alloc ?_ (by first | exact Nat.le_refl _ | (simp; done) | (simp; omega)) _ | refine Below.drew ?_ | refine Below.setCell ?_ (by first | exact Nat.le_refl _ | (simp; done) | (simp; omega)) _))⟩
theorem leanKind_lamp (w : World) : Calls Try.prog 57 #[.iface 126 (.agg #[])] w fun e w' => e = .returned (.iface 126 (.agg #[])) ∧ w' = w := by
  have h0 := asserts_lamp_slash
  have h1 := asserts_lamp_back
  have h2 := asserts_lamp_glass
  have h3 := asserts_lamp_pane
  go_enter Try.func57, Try.ntmps57
  go_wp2
  go_ret
  exact ⟨rfl, rfl⟩

end Go.Proofs.Ytdlnmdmdoebecaa
