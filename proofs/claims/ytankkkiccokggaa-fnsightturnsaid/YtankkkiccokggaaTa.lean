/-
  The contract of impl.leanKind, and what impl.leanCell stands on: a cell whose mirror or glass leans the other way, as the plain function 'other' says.
-/
import Derived.Test.YtankkkiccokggaaOa
import Derived.Deep.RegionWith
namespace Go.Proofs.Ytankkkiccokggaa
open Go.RowKit

def otherK (k : Int) : Int := if k = 2 then 3 else if k = 3 then 2 else if k = 4 then 5 else if k = 5 then 4 else k
/-- A cell that leans the other way. -/
def other (c : Int × Int) : Int × Int := (otherK c.1, c.2)

theorem number_free (w : World) : Sem.run Try.prog (method 225 101 (Value.agg #[]) "loop.example/lucarne/impl.number") w = .ok (94, .agg #[]) w := by kernel_rfl
theorem number_wall (w : World) : Sem.run Try.prog (method 225 102 (Value.agg #[]) "loop.example/lucarne/impl.number") w = .ok (95, .agg #[]) w := by kernel_rfl
theorem number_slash (w : World) : Sem.run Try.prog (method 225 103 (Value.agg #[]) "loop.example/lucarne/impl.number") w = .ok (96, .agg #[]) w := by kernel_rfl
theorem number_back (w : World) : Sem.run Try.prog (method 225 104 (Value.agg #[]) "loop.example/lucarne/impl.number") w = .ok (97, .agg #[]) w := by kernel_rfl
theorem number_glass (w : World) : Sem.run Try.prog (method 225 105 (Value.agg #[]) "loop.example/lucarne/impl.number") w = .ok (98, .agg #[]) w := by kernel_rfl
theorem number_pane (w : World) : Sem.run Try.prog (method 225 106 (Value.agg #[]) "loop.example/lucarne/impl.number") w = .ok (99, .agg #[]) w := by kernel_rfl
theorem number_dim (w : World) : Sem.run Try.prog (method 225 107 (Value.agg #[]) "loop.example/lucarne/impl.number") w = .ok (100, .agg #[]) w := by kernel_rfl
theorem number_lamp (w : World) : Sem.run Try.prog (method 225 108 (Value.agg #[]) "loop.example/lucarne/impl.number") w = .ok (102, .agg #[]) w := by kernel_rfl
theorem asserts_free_slash (w : World) : Sem.run Try.prog (Instr.typeAssert (.iface 101 (.agg #[])) 90 103 true) w = .ok (.tuple #[.agg #[], .bool false]) w := by kernel_rfl
theorem asserts_free_back (w : World) : Sem.run Try.prog (Instr.typeAssert (.iface 101 (.agg #[])) 90 104 true) w = .ok (.tuple #[.agg #[], .bool false]) w := by kernel_rfl
theorem asserts_free_glass (w : World) : Sem.run Try.prog (Instr.typeAssert (.iface 101 (.agg #[])) 90 105 true) w = .ok (.tuple #[.agg #[], .bool false]) w := by kernel_rfl
theorem asserts_free_pane (w : World) : Sem.run Try.prog (Instr.typeAssert (.iface 101 (.agg #[])) 90 106 true) w = .ok (.tuple #[.agg #[], .bool false]) w := by kernel_rfl
theorem asserts_wall_slash (w : World) : Sem.run Try.prog (Instr.typeAssert (.iface 102 (.agg #[])) 90 103 true) w = .ok (.tuple #[.agg #[], .bool false]) w := by kernel_rfl
theorem asserts_wall_back (w : World) : Sem.run Try.prog (Instr.typeAssert (.iface 102 (.agg #[])) 90 104 true) w = .ok (.tuple #[.agg #[], .bool false]) w := by kernel_rfl
theorem asserts_wall_glass (w : World) : Sem.run Try.prog (Instr.typeAssert (.iface 102 (.agg #[])) 90 105 true) w = .ok (.tuple #[.agg #[], .bool false]) w := by kernel_rfl
theorem asserts_wall_pane (w : World) : Sem.run Try.prog (Instr.typeAssert (.iface 102 (.agg #[])) 90 106 true) w = .ok (.tuple #[.agg #[], .bool false]) w := by kernel_rfl
theorem asserts_slash_slash (w : World) : Sem.run Try.prog (Instr.typeAssert (.iface 103 (.agg #[])) 90 103 true) w = .ok (.tuple #[.agg #[], .bool true]) w := by kernel_rfl
theorem asserts_slash_back (w : World) : Sem.run Try.prog (Instr.typeAssert (.iface 103 (.agg #[])) 90 104 true) w = .ok (.tuple #[.agg #[], .bool false]) w := by kernel_rfl
theorem asserts_slash_glass (w : World) : Sem.run Try.prog (Instr.typeAssert (.iface 103 (.agg #[])) 90 105 true) w = .ok (.tuple #[.agg #[], .bool false]) w := by kernel_rfl
theorem asserts_slash_pane (w : World) : Sem.run Try.prog (Instr.typeAssert (.iface 103 (.agg #[])) 90 106 true) w = .ok (.tuple #[.agg #[], .bool false]) w := by kernel_rfl
theorem asserts_back_slash (w : World) : Sem.run Try.prog (Instr.typeAssert (.iface 104 (.agg #[])) 90 103 true) w = .ok (.tuple #[.agg #[], .bool false]) w := by kernel_rfl
theorem asserts_back_back (w : World) : Sem.run Try.prog (Instr.typeAssert (.iface 104 (.agg #[])) 90 104 true) w = .ok (.tuple #[.agg #[], .bool true]) w := by kernel_rfl
theorem asserts_back_glass (w : World) : Sem.run Try.prog (Instr.typeAssert (.iface 104 (.agg #[])) 90 105 true) w = .ok (.tuple #[.agg #[], .bool false]) w := by kernel_rfl
theorem asserts_back_pane (w : World) : Sem.run Try.prog (Instr.typeAssert (.iface 104 (.agg #[])) 90 106 true) w = .ok (.tuple #[.agg #[], .bool false]) w := by kernel_rfl
theorem asserts_glass_slash (w : World) : Sem.run Try.prog (Instr.typeAssert (.iface 105 (.agg #[])) 90 103 true) w = .ok (.tuple #[.agg #[], .bool false]) w := by kernel_rfl
theorem asserts_glass_back (w : World) : Sem.run Try.prog (Instr.typeAssert (.iface 105 (.agg #[])) 90 104 true) w = .ok (.tuple #[.agg #[], .bool false]) w := by kernel_rfl
theorem asserts_glass_glass (w : World) : Sem.run Try.prog (Instr.typeAssert (.iface 105 (.agg #[])) 90 105 true) w = .ok (.tuple #[.agg #[], .bool true]) w := by kernel_rfl
theorem asserts_glass_pane (w : World) : Sem.run Try.prog (Instr.typeAssert (.iface 105 (.agg #[])) 90 106 true) w = .ok (.tuple #[.agg #[], .bool false]) w := by kernel_rfl
theorem asserts_pane_slash (w : World) : Sem.run Try.prog (Instr.typeAssert (.iface 106 (.agg #[])) 90 103 true) w = .ok (.tuple #[.agg #[], .bool false]) w := by kernel_rfl
theorem asserts_pane_back (w : World) : Sem.run Try.prog (Instr.typeAssert (.iface 106 (.agg #[])) 90 104 true) w = .ok (.tuple #[.agg #[], .bool false]) w := by kernel_rfl
theorem asserts_pane_glass (w : World) : Sem.run Try.prog (Instr.typeAssert (.iface 106 (.agg #[])) 90 105 true) w = .ok (.tuple #[.agg #[], .bool false]) w := by kernel_rfl
theorem asserts_pane_pane (w : World) : Sem.run Try.prog (Instr.typeAssert (.iface 106 (.agg #[])) 90 106 true) w = .ok (.tuple #[.agg #[], .bool true]) w := by kernel_rfl
theorem asserts_dim_slash (w : World) : Sem.run Try.prog (Instr.typeAssert (.iface 107 (.agg #[])) 90 103 true) w = .ok (.tuple #[.agg #[], .bool false]) w := by kernel_rfl
theorem asserts_dim_back (w : World) : Sem.run Try.prog (Instr.typeAssert (.iface 107 (.agg #[])) 90 104 true) w = .ok (.tuple #[.agg #[], .bool false]) w := by kernel_rfl
theorem asserts_dim_glass (w : World) : Sem.run Try.prog (Instr.typeAssert (.iface 107 (.agg #[])) 90 105 true) w = .ok (.tuple #[.agg #[], .bool false]) w := by kernel_rfl
theorem asserts_dim_pane (w : World) : Sem.run Try.prog (Instr.typeAssert (.iface 107 (.agg #[])) 90 106 true) w = .ok (.tuple #[.agg #[], .bool false]) w := by kernel_rfl
theorem asserts_lamp_slash (w : World) : Sem.run Try.prog (Instr.typeAssert (.iface 108 (.agg #[])) 90 103 true) w = .ok (.tuple #[.agg #[], .bool false]) w := by kernel_rfl
theorem asserts_lamp_back (w : World) : Sem.run Try.prog (Instr.typeAssert (.iface 108 (.agg #[])) 90 104 true) w = .ok (.tuple #[.agg #[], .bool false]) w := by kernel_rfl
theorem asserts_lamp_glass (w : World) : Sem.run Try.prog (Instr.typeAssert (.iface 108 (.agg #[])) 90 105 true) w = .ok (.tuple #[.agg #[], .bool false]) w := by kernel_rfl
theorem asserts_lamp_pane (w : World) : Sem.run Try.prog (Instr.typeAssert (.iface 108 (.agg #[])) 90 106 true) w = .ok (.tuple #[.agg #[], .bool false]) w := by kernel_rfl

theorem numberCall_free (w : World) : Calls Try.prog 94 #[.agg #[]] w fun e w' => e = .returned (.int .i64 0) ∧ Below w.heap.size w w' := by
  go_enter Try.func94, Try.ntmps94
  go_wp2
  go_ret
  exact ⟨rfl, (by repeat (first | exact Below.refl _ _ | refine Below.alloc ?_ (by first | exact Nat.le_refl _ | (simp; done) | (simp; omega)) _ | refine Below.drew ?_ | refine Below.setCell ?_ (by first | exact Nat.le_refl _ | (simp; done) | (simp; omega)) _))⟩
theorem leanKind_free (w : World) : Calls Try.prog 74 #[.iface 101 (.agg #[])] w fun e w' => e = .returned (.iface 101 (.agg #[])) ∧ w' = w := by
  have h0 := asserts_free_slash
  have h1 := asserts_free_back
  have h2 := asserts_free_glass
  have h3 := asserts_free_pane
  go_enter Try.func74, Try.ntmps74
  go_wp2
  go_ret
  exact ⟨rfl, rfl⟩

theorem numberCall_wall (w : World) : Calls Try.prog 95 #[.agg #[]] w fun e w' => e = .returned (.int .i64 1) ∧ Below w.heap.size w w' := by
  go_enter Try.func95, Try.ntmps95
  go_wp2
  go_ret
  exact ⟨rfl, (by repeat (first | exact Below.refl _ _ | refine Below.alloc ?_ (by first | exact Nat.le_refl _ | (simp; done) | (simp; omega)) _ | refine Below.drew ?_ | refine Below.setCell ?_ (by first | exact Nat.le_refl _ | (simp; done) | (simp; omega)) _))⟩
theorem leanKind_wall (w : World) : Calls Try.prog 74 #[.iface 102 (.agg #[])] w fun e w' => e = .returned (.iface 102 (.agg #[])) ∧ w' = w := by
  have h0 := asserts_wall_slash
  have h1 := asserts_wall_back
  have h2 := asserts_wall_glass
  have h3 := asserts_wall_pane
  go_enter Try.func74, Try.ntmps74
  go_wp2
  go_ret
  exact ⟨rfl, rfl⟩

theorem numberCall_slash (w : World) : Calls Try.prog 96 #[.agg #[]] w fun e w' => e = .returned (.int .i64 2) ∧ Below w.heap.size w w' := by
  go_enter Try.func96, Try.ntmps96
  go_wp2
  go_ret
  exact ⟨rfl, (by repeat (first | exact Below.refl _ _ | refine Below.alloc ?_ (by first | exact Nat.le_refl _ | (simp; done) | (simp; omega)) _ | refine Below.drew ?_ | refine Below.setCell ?_ (by first | exact Nat.le_refl _ | (simp; done) | (simp; omega)) _))⟩
theorem leanKind_slash (w : World) : Calls Try.prog 74 #[.iface 103 (.agg #[])] w fun e w' => e = .returned (.iface 104 (.agg #[])) ∧ w' = w := by
  have h0 := asserts_slash_slash
  go_enter Try.func74, Try.ntmps74
  go_wp2
  go_ret
  exact ⟨rfl, rfl⟩

theorem numberCall_back (w : World) : Calls Try.prog 97 #[.agg #[]] w fun e w' => e = .returned (.int .i64 3) ∧ Below w.heap.size w w' := by
  go_enter Try.func97, Try.ntmps97
  go_wp2
  go_ret
  exact ⟨rfl, (by repeat (first | exact Below.refl _ _ | refine Below.alloc ?_ (by first | exact Nat.le_refl _ | (simp; done) | (simp; omega)) _ | refine Below.drew ?_ | refine Below.setCell ?_ (by first | exact Nat.le_refl _ | (simp; done) | (simp; omega)) _))⟩
theorem leanKind_back (w : World) : Calls Try.prog 74 #[.iface 104 (.agg #[])] w fun e w' => e = .returned (.iface 103 (.agg #[])) ∧ w' = w := by
  have h0 := asserts_back_slash
  have h1 := asserts_back_back
  go_enter Try.func74, Try.ntmps74
  go_wp2
  go_ret
  exact ⟨rfl, rfl⟩

theorem numberCall_glass (w : World) : Calls Try.prog 98 #[.agg #[]] w fun e w' => e = .returned (.int .i64 4) ∧ Below w.heap.size w w' := by
  go_enter Try.func98, Try.ntmps98
  go_wp2
  go_ret
  exact ⟨rfl, (by repeat (first | exact Below.refl _ _ | refine Below.alloc ?_ (by first | exact Nat.le_refl _ | (simp; done) | (simp; omega)) _ | refine Below.drew ?_ | refine Below.setCell ?_ (by first | exact Nat.le_refl _ | (simp; done) | (simp; omega)) _))⟩
theorem leanKind_glass (w : World) : Calls Try.prog 74 #[.iface 105 (.agg #[])] w fun e w' => e = .returned (.iface 106 (.agg #[])) ∧ w' = w := by
  have h0 := asserts_glass_slash
  have h1 := asserts_glass_back
  have h2 := asserts_glass_glass
  go_enter Try.func74, Try.ntmps74
  go_wp2
  go_ret
  exact ⟨rfl, rfl⟩

theorem numberCall_pane (w : World) : Calls Try.prog 99 #[.agg #[]] w fun e w' => e = .returned (.int .i64 5) ∧ Below w.heap.size w w' := by
  go_enter Try.func99, Try.ntmps99
  go_wp2
  go_ret
  exact ⟨rfl, (by repeat (first | exact Below.refl _ _ | refine Below.alloc ?_ (by first | exact Nat.le_refl _ | (simp; done) | (simp; omega)) _ | refine Below.drew ?_ | refine Below.setCell ?_ (by first | exact Nat.le_refl _ | (simp; done) | (simp; omega)) _))⟩
theorem leanKind_pane (w : World) : Calls Try.prog 74 #[.iface 106 (.agg #[])] w fun e w' => e = .returned (.iface 105 (.agg #[])) ∧ w' = w := by
  have h0 := asserts_pane_slash
  have h1 := asserts_pane_back
  have h2 := asserts_pane_glass
  have h3 := asserts_pane_pane
  go_enter Try.func74, Try.ntmps74
  go_wp2
  go_ret
  exact ⟨rfl, rfl⟩

theorem numberCall_dim (w : World) : Calls Try.prog 100 #[.agg #[]] w fun e w' => e = .returned (.int .i64 6) ∧ Below w.heap.size w w' := by
  go_enter Try.func100, Try.ntmps100
  go_wp2
  go_ret
  exact ⟨rfl, (by repeat (first | exact Below.refl _ _ | refine Below.alloc ?_ (by first | exact Nat.le_refl _ | (simp; done) | (simp; omega)) _ | refine Below.drew ?_ | refine Below.setCell ?_ (by first | exact Nat.le_refl _ | (simp; done) | (simp; omega)) _))⟩
theorem leanKind_dim (w : World) : Calls Try.prog 74 #[.iface 107 (.agg #[])] w fun e w' => e = .returned (.iface 107 (.agg #[])) ∧ w' = w := by
  have h0 := asserts_dim_slash
  have h1 := asserts_dim_back
  have h2 := asserts_dim_glass
  have h3 := asserts_dim_pane
  go_enter Try.func74, Try.ntmps74
  go_wp2
  go_ret
  exact ⟨rfl, rfl⟩

theorem numberCall_lamp (w : World) : Calls Try.prog 102 #[.agg #[]] w fun e w' => e = .returned (.int .i64 7) ∧ Below w.heap.size w w' := by
  go_enter Try.func102, Try.ntmps102
  go_wp2
  go_ret
  exact ⟨rfl, (by repeat (first | exact Below.refl _ _ | refine Below.alloc ?_ (by first | exact Nat.le_refl _ | (simp; done) | (simp; omega)) _ | refine Below.drew ?_ | refine Below.setCell ?_ (by first | exact Nat.le_refl _ | (simp; done) | (simp; omega)) _))⟩
theorem leanKind_lamp (w : World) : Calls Try.prog 74 #[.iface 108 (.agg #[])] w fun e w' => e = .returned (.iface 108 (.agg #[])) ∧ w' = w := by
  have h0 := asserts_lamp_slash
  have h1 := asserts_lamp_back
  have h2 := asserts_lamp_glass
  have h3 := asserts_lamp_pane
  go_enter Try.func74, Try.ntmps74
  go_wp2
  go_ret
  exact ⟨rfl, rfl⟩

end Go.Proofs.Ytankkkiccokggaa
