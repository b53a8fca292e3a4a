/-
  The contracts of spec.l1Other and impl.leanCell: a cell whose mirror or glass leans the other way; each returns what the plain function 'other' says, and turns no memory that was there.
-/
import Derived.Test.YtoegofbmdcdifaaOa
import Derived.Deep.RegionWith
namespace Go.Proofs.Ytoegofbmdcdifaa
open Go.RowKit

def otherK (k : Int) : Int := if k = 2 then 3 else if k = 3 then 2 else if k = 4 then 5 else if k = 5 then 4 else k
/-- A cell that leans the other way. -/
def other (c : Int × Int) : Int × Int := (otherK c.1, c.2)

set_option maxHeartbeats 400000 in
theorem l1Other_any (k l : Int) (w : World) :
    Calls Try.prog 36 #[.agg #[.int .i64 k, .int .i64 l]] w fun e w' => e = .returned (.agg #[.int .i64 (otherK k), .int .i64 l]) ∧ Below w.heap.size w w' := by
  by_cases h2 : k = 2
  · subst h2
    go_enter Try.func36, Try.ntmps36
    go_wp2
    exact bodyPost_ret (v := .agg #[.int .i64 3, .int .i64 l]) (by simp [results, Try.results36, go_sem]) rfl ⟨rfl, (by repeat (first | exact Below.refl _ _ | refine Below.alloc ?_ (by first | exact Nat.le_refl _ | (simp; done) | (simp; omega)) _ | refine Below.drew ?_ | refine Below.setCell ?_ (by first | exact Nat.le_refl _ | (simp; done) | (simp; omega)) _))⟩
  by_cases h3 : k = 3
  · subst h3
    go_enter Try.func36, Try.ntmps36
    go_wp2
    exact bodyPost_ret (v := .agg #[.int .i64 2, .int .i64 l]) (by simp [results, Try.results36, go_sem]) rfl ⟨rfl, (by repeat (first | exact Below.refl _ _ | refine Below.alloc ?_ (by first | exact Nat.le_refl _ | (simp; done) | (simp; omega)) _ | refine Below.drew ?_ | refine Below.setCell ?_ (by first | exact Nat.le_refl _ | (simp; done) | (simp; omega)) _))⟩
  by_cases h4 : k = 4
  · subst h4
    go_enter Try.func36, Try.ntmps36
    go_wp2
    exact bodyPost_ret (v := .agg #[.int .i64 5, .int .i64 l]) (by simp [results, Try.results36, go_sem]) rfl ⟨rfl, (by repeat (first | exact Below.refl _ _ | refine Below.alloc ?_ (by first | exact Nat.le_refl _ | (simp; done) | (simp; omega)) _ | refine Below.drew ?_ | refine Below.setCell ?_ (by first | exact Nat.le_refl _ | (simp; done) | (simp; omega)) _))⟩
  by_cases h5 : k = 5
  · subst h5
    go_enter Try.func36, Try.ntmps36
    go_wp2
    exact bodyPost_ret (v := .agg #[.int .i64 4, .int .i64 l]) (by simp [results, Try.results36, go_sem]) rfl ⟨rfl, (by repeat (first | exact Below.refl _ _ | refine Below.alloc ?_ (by first | exact Nat.le_refl _ | (simp; done) | (simp; omega)) _ | refine Below.drew ?_ | refine Below.setCell ?_ (by first | exact Nat.le_refl _ | (simp; done) | (simp; omega)) _))⟩
  have hk : otherK k = k := by simp [otherK, h2, h3, h4, h5]
  go_enter Try.func36, Try.ntmps36
  go_wp2
  exact bodyPost_ret (v := .agg #[.int .i64 k, .int .i64 l]) (by simp [results, Try.results36, go_sem]) rfl ⟨by rw [hk], (by repeat (first | exact Below.refl _ _ | refine Below.alloc ?_ (by first | exact Nat.le_refl _ | (simp; done) | (simp; omega)) _ | refine Below.drew ?_ | refine Below.setCell ?_ (by first | exact Nat.le_refl _ | (simp; done) | (simp; omega)) _))⟩

theorem number_free (w : World) : Sem.run Try.prog (method 187 63 (Value.agg #[]) "loop.example/lucarne/impl.number") w = .ok (56, .agg #[]) w := by kernel_rfl
theorem number_wall (w : World) : Sem.run Try.prog (method 187 64 (Value.agg #[]) "loop.example/lucarne/impl.number") w = .ok (57, .agg #[]) w := by kernel_rfl
theorem number_slash (w : World) : Sem.run Try.prog (method 187 65 (Value.agg #[]) "loop.example/lucarne/impl.number") w = .ok (58, .agg #[]) w := by kernel_rfl
theorem number_back (w : World) : Sem.run Try.prog (method 187 66 (Value.agg #[]) "loop.example/lucarne/impl.number") w = .ok (59, .agg #[]) w := by kernel_rfl
theorem number_glass (w : World) : Sem.run Try.prog (method 187 67 (Value.agg #[]) "loop.example/lucarne/impl.number") w = .ok (60, .agg #[]) w := by kernel_rfl
theorem number_pane (w : World) : Sem.run Try.prog (method 187 68 (Value.agg #[]) "loop.example/lucarne/impl.number") w = .ok (61, .agg #[]) w := by kernel_rfl
theorem number_dim (w : World) : Sem.run Try.prog (method 187 69 (Value.agg #[]) "loop.example/lucarne/impl.number") w = .ok (62, .agg #[]) w := by kernel_rfl
theorem number_lamp (w : World) : Sem.run Try.prog (method 187 70 (Value.agg #[]) "loop.example/lucarne/impl.number") w = .ok (64, .agg #[]) w := by kernel_rfl
theorem asserts_free_slash (w : World) : Sem.run Try.prog (Instr.typeAssert (.iface 63 (.agg #[])) 54 65 true) w = .ok (.tuple #[.agg #[], .bool false]) w := by kernel_rfl
theorem asserts_free_back (w : World) : Sem.run Try.prog (Instr.typeAssert (.iface 63 (.agg #[])) 54 66 true) w = .ok (.tuple #[.agg #[], .bool false]) w := by kernel_rfl
theorem asserts_free_glass (w : World) : Sem.run Try.prog (Instr.typeAssert (.iface 63 (.agg #[])) 54 67 true) w = .ok (.tuple #[.agg #[], .bool false]) w := by kernel_rfl
theorem asserts_free_pane (w : World) : Sem.run Try.prog (Instr.typeAssert (.iface 63 (.agg #[])) 54 68 true) w = .ok (.tuple #[.agg #[], .bool false]) w := by kernel_rfl
theorem asserts_wall_slash (w : World) : Sem.run Try.prog (Instr.typeAssert (.iface 64 (.agg #[])) 54 65 true) w = .ok (.tuple #[.agg #[], .bool false]) w := by kernel_rfl
theorem asserts_wall_back (w : World) : Sem.run Try.prog (Instr.typeAssert (.iface 64 (.agg #[])) 54 66 true) w = .ok (.tuple #[.agg #[], .bool false]) w := by kernel_rfl
theorem asserts_wall_glass (w : World) : Sem.run Try.prog (Instr.typeAssert (.iface 64 (.agg #[])) 54 67 true) w = .ok (.tuple #[.agg #[], .bool false]) w := by kernel_rfl
theorem asserts_wall_pane (w : World) : Sem.run Try.prog (Instr.typeAssert (.iface 64 (.agg #[])) 54 68 true) w = .ok (.tuple #[.agg #[], .bool false]) w := by kernel_rfl
theorem asserts_slash_slash (w : World) : Sem.run Try.prog (Instr.typeAssert (.iface 65 (.agg #[])) 54 65 true) w = .ok (.tuple #[.agg #[], .bool true]) w := by kernel_rfl
theorem asserts_slash_back (w : World) : Sem.run Try.prog (Instr.typeAssert (.iface 65 (.agg #[])) 54 66 true) w = .ok (.tuple #[.agg #[], .bool false]) w := by kernel_rfl
theorem asserts_slash_glass (w : World) : Sem.run Try.prog (Instr.typeAssert (.iface 65 (.agg #[])) 54 67 true) w = .ok (.tuple #[.agg #[], .bool false]) w := by kernel_rfl
theorem asserts_slash_pane (w : World) : Sem.run Try.prog (Instr.typeAssert (.iface 65 (.agg #[])) 54 68 true) w = .ok (.tuple #[.agg #[], .bool false]) w := by kernel_rfl
theorem asserts_back_slash (w : World) : Sem.run Try.prog (Instr.typeAssert (.iface 66 (.agg #[])) 54 65 true) w = .ok (.tuple #[.agg #[], .bool false]) w := by kernel_rfl
theorem asserts_back_back (w : World) : Sem.run Try.prog (Instr.typeAssert (.iface 66 (.agg #[])) 54 66 true) w = .ok (.tuple #[.agg #[], .bool true]) w := by kernel_rfl
theorem asserts_back_glass (w : World) : Sem.run Try.prog (Instr.typeAssert (.iface 66 (.agg #[])) 54 67 true) w = .ok (.tuple #[.agg #[], .bool false]) w := by kernel_rfl
theorem asserts_back_pane (w : World) : Sem.run Try.prog (Instr.typeAssert (.iface 66 (.agg #[])) 54 68 true) w = .ok (.tuple #[.agg #[], .bool false]) w := by kernel_rfl
theorem asserts_glass_slash (w : World) : Sem.run Try.prog (Instr.typeAssert (.iface 67 (.agg #[])) 54 65 true) w = .ok (.tuple #[.agg #[], .bool false]) w := by kernel_rfl
theorem asserts_glass_back (w : World) : Sem.run Try.prog (Instr.typeAssert (.iface 67 (.agg #[])) 54 66 true) w = .ok (.tuple #[.agg #[], .bool false]) w := by kernel_rfl
theorem asserts_glass_glass (w : World) : Sem.run Try.prog (Instr.typeAssert (.iface 67 (.agg #[])) 54 67 true) w = .ok (.tuple #[.agg #[], .bool true]) w := by kernel_rfl
theorem asserts_glass_pane (w : World) : Sem.run Try.prog (Instr.typeAssert (.iface 67 (.agg #[])) 54 68 true) w = .ok (.tuple #[.agg #[], .bool false]) w := by kernel_rfl
theorem asserts_pane_slash (w : World) : Sem.run Try.prog (Instr.typeAssert (.iface 68 (.agg #[])) 54 65 true) w = .ok (.tuple #[.agg #[], .bool false]) w := by kernel_rfl
theorem asserts_pane_back (w : World) : Sem.run Try.prog (Instr.typeAssert (.iface 68 (.agg #[])) 54 66 true) w = .ok (.tuple #[.agg #[], .bool false]) w := by kernel_rfl
theorem asserts_pane_glass (w : World) : Sem.run Try.prog (Instr.typeAssert (.iface 68 (.agg #[])) 54 67 true) w = .ok (.tuple #[.agg #[], .bool false]) w := by kernel_rfl
theorem asserts_pane_pane (w : World) : Sem.run Try.prog (Instr.typeAssert (.iface 68 (.agg #[])) 54 68 true) w = .ok (.tuple #[.agg #[], .bool true]) w := by kernel_rfl
theorem asserts_dim_slash (w : World) : Sem.run Try.prog (Instr.typeAssert (.iface 69 (.agg #[])) 54 65 true) w = .ok (.tuple #[.agg #[], .bool false]) w := by kernel_rfl
theorem asserts_dim_back (w : World) : Sem.run Try.prog (Instr.typeAssert (.iface 69 (.agg #[])) 54 66 true) w = .ok (.tuple #[.agg #[], .bool false]) w := by kernel_rfl
theorem asserts_dim_glass (w : World) : Sem.run Try.prog (Instr.typeAssert (.iface 69 (.agg #[])) 54 67 true) w = .ok (.tuple #[.agg #[], .bool false]) w := by kernel_rfl
theorem asserts_dim_pane (w : World) : Sem.run Try.prog (Instr.typeAssert (.iface 69 (.agg #[])) 54 68 true) w = .ok (.tuple #[.agg #[], .bool false]) w := by kernel_rfl
theorem asserts_lamp_slash (w : World) : Sem.run Try.prog (Instr.typeAssert (.iface 70 (.agg #[])) 54 65 true) w = .ok (.tuple #[.agg #[], .bool false]) w := by kernel_rfl
theorem asserts_lamp_back (w : World) : Sem.run Try.prog (Instr.typeAssert (.iface 70 (.agg #[])) 54 66 true) w = .ok (.tuple #[.agg #[], .bool false]) w := by kernel_rfl
theorem asserts_lamp_glass (w : World) : Sem.run Try.prog (Instr.typeAssert (.iface 70 (.agg #[])) 54 67 true) w = .ok (.tuple #[.agg #[], .bool false]) w := by kernel_rfl
theorem asserts_lamp_pane (w : World) : Sem.run Try.prog (Instr.typeAssert (.iface 70 (.agg #[])) 54 68 true) w = .ok (.tuple #[.agg #[], .bool false]) w := by kernel_rfl

theorem numberCall_free (w : World) : Calls Try.prog 56 #[.agg #[]] w fun e w' => e = .returned (.int .i64 0) ∧ Below w.heap.size w w' := by
  go_enter Try.func56, Try.ntmps56
  go_wp2
  go_ret
  exact ⟨rfl, (by repeat (first | exact Below.refl _ _ | refine Below.alloc ?_ (by first | exact Nat.le_refl _ | (simp; done) | (simp; omega)) _ | refine Below.drew ?_ | refine Below.setCell ?_ (by first | exact Nat.le_refl _ | (simp; done) | (simp; omega)) _))⟩
theorem leanKind_free (w : World) : Calls Try.prog 39 #[.iface 63 (.agg #[])] w fun e w' => e = .returned (.iface 63 (.agg #[])) ∧ w' = w := by
  have h0 := asserts_free_slash
  have h1 := asserts_free_back
  have h2 := asserts_free_glass
  have h3 := asserts_free_pane
  go_enter Try.func39, Try.ntmps39
  go_wp2
  go_ret
  exact ⟨rfl, rfl⟩

theorem numberCall_wall (w : World) : Calls Try.prog 57 #[.agg #[]] w fun e w' => e = .returned (.int .i64 1) ∧ Below w.heap.size w w' := by
  go_enter Try.func57, Try.ntmps57
  go_wp2
  go_ret
  exact ⟨rfl, (by repeat (first | exact Below.refl _ _ | refine Below.alloc ?_ (by first | exact Nat.le_refl _ | (simp; done) | (simp; omega)) _ | refine Below.drew ?_ | refine Below.setCell ?_ (by first | exact Nat.le_refl _ | (simp; done) | (simp; omega)) _))⟩
theorem leanKind_wall (w : World) : Calls Try.prog 39 #[.iface 64 (.agg #[])] w fun e w' => e = .returned (.iface 64 (.agg #[])) ∧ w' = w := by
  have h0 := asserts_wall_slash
  have h1 := asserts_wall_back
  have h2 := asserts_wall_glass
  have h3 := asserts_wall_pane
  go_enter Try.func39, Try.ntmps39
  go_wp2
  go_ret
  exact ⟨rfl, rfl⟩

theorem numberCall_slash (w : World) : Calls Try.prog 58 #[.agg #[]] w fun e w' => e = .returned (.int .i64 2) ∧ Below w.heap.size w w' := by
  go_enter Try.func58, Try.ntmps58
  go_wp2
  go_ret
  exact ⟨rfl, (by repeat (first | exact Below.refl _ _ | refine Below.alloc ?_ (by first | exact Nat.le_refl _ | (simp; done) | (simp; omega)) _ | refine Below.drew ?_ | refine Below.setCell ?_ (by first | exact Nat.le_refl _ | (simp; done) | (simp; omega)) _))⟩
theorem leanKind_slash (w : World) : Calls Try.prog 39 #[.iface 65 (.agg #[])] w fun e w' => e = .returned (.iface 66 (.agg #[])) ∧ w' = w := by
  have h0 := asserts_slash_slash
  go_enter Try.func39, Try.ntmps39
  go_wp2
  go_ret
  exact ⟨rfl, rfl⟩

theorem numberCall_back (w : World) : Calls Try.prog 59 #[.agg #[]] w fun e w' => e = .returned (.int .i64 3) ∧ Below w.heap.size w w' := by
  go_enter Try.func59, Try.ntmps59
  go_wp2
  go_ret
  exact ⟨rfl, (by repeat (first | exact Below.refl _ _ | refine Below.alloc ?_ (by first | exact Nat.le_refl _ | (simp; done) | (simp; omega)) _ | refine Below.drew ?_ | refine Below.setCell ?_ (by first | exact Nat.le_refl _ | (simp; done) | (simp; omega)) _))⟩
theorem leanKind_back (w : World) : Calls Try.prog 39 #[.iface 66 (.agg #[])] w fun e w' => e = .returned (.iface 65 (.agg #[])) ∧ w' = w := by
  have h0 := asserts_back_slash
  have h1 := asserts_back_back
  go_enter Try.func39, Try.ntmps39
  go_wp2
  go_ret
  exact ⟨rfl, rfl⟩

theorem numberCall_glass (w : World) : Calls Try.prog 60 #[.agg #[]] w fun e w' => e = .returned (.int .i64 4) ∧ Below w.heap.size w w' := by
  go_enter Try.func60, Try.ntmps60
  go_wp2
  go_ret
  exact ⟨rfl, (by repeat (first | exact Below.refl _ _ | refine Below.alloc ?_ (by first | exact Nat.le_refl _ | (simp; done) | (simp; omega)) _ | refine Below.drew ?_ | refine Below.setCell ?_ (by first | exact Nat.le_refl _ | (simp; done) | (simp; omega)) _))⟩
theorem leanKind_glass (w : World) : Calls Try.prog 39 #[.iface 67 (.agg #[])] w fun e w' => e = .returned (.iface 68 (.agg #[])) ∧ w' = w := by
  have h0 := asserts_glass_slash
  have h1 := asserts_glass_back
  have h2 := asserts_glass_glass
  go_enter Try.func39, Try.ntmps39
  go_wp2
  go_ret
  exact ⟨rfl, rfl⟩

theorem numberCall_pane (w : World) : Calls Try.prog 61 #[.agg #[]] w fun e w' => e = .returned (.int .i64 5) ∧ Below w.heap.size w w' := by
  go_enter Try.func61, Try.ntmps61
  go_wp2
  go_ret
  exact ⟨rfl, (by repeat (first | exact Below.refl _ _ | refine Below.alloc ?_ (by first | exact Nat.le_refl _ | (simp; done) | (simp; omega)) _ | refine Below.drew ?_ | refine Below.setCell ?_ (by first | exact Nat.le_refl _ | (simp; done) | (simp; omega)) _))⟩
theorem leanKind_pane (w : World) : Calls Try.prog 39 #[.iface 68 (.agg #[])] w fun e w' => e = .returned (.iface 67 (.agg #[])) ∧ w' = w := by
  have h0 := asserts_pane_slash
  have h1 := asserts_pane_back
  have h2 := asserts_pane_glass
  have h3 := asserts_pane_pane
  go_enter Try.func39, Try.ntmps39
  go_wp2
  go_ret
  exact ⟨rfl, rfl⟩

theorem numberCall_dim (w : World) : Calls Try.prog 62 #[.agg #[]] w fun e w' => e = .returned (.int .i64 6) ∧ Below w.heap.size w w' := by
  go_enter Try.func62, Try.ntmps62
  go_wp2
  go_ret
  exact ⟨rfl, (by repeat (first | exact Below.refl _ _ | refine Below.alloc ?_ (by first | exact Nat.le_refl _ | (simp; done) | (simp; omega)) _ | refine Below.drew ?_ | refine Below.setCell ?_ (by first | exact Nat.le_refl _ | (simp; done) | (simp; omega)) _))⟩
theorem leanKind_dim (w : World) : Calls Try.prog 39 #[.iface 69 (.agg #[])] w fun e w' => e = .returned (.iface 69 (.agg #[])) ∧ w' = w := by
  have h0 := asserts_dim_slash
  have h1 := asserts_dim_back
  have h2 := asserts_dim_glass
  have h3 := asserts_dim_pane
  go_enter Try.func39, Try.ntmps39
  go_wp2
  go_ret
  exact ⟨rfl, rfl⟩

theorem numberCall_lamp (w : World) : Calls Try.prog 64 #[.agg #[]] w fun e w' => e = .returned (.int .i64 7) ∧ Below w.heap.size w w' := by
  go_enter Try.func64, Try.ntmps64
  go_wp2
  go_ret
  exact ⟨rfl, (by repeat (first | exact Below.refl _ _ | refine Below.alloc ?_ (by first | exact Nat.le_refl _ | (simp; done) | (simp; omega)) _ | refine Below.drew ?_ | refine Below.setCell ?_ (by first | exact Nat.le_refl _ | (simp; done) | (simp; omega)) _))⟩
theorem leanKind_lamp (w : World) : Calls Try.prog 39 #[.iface 70 (.agg #[])] w fun e w' => e = .returned (.iface 70 (.agg #[])) ∧ w' = w := by
  have h0 := asserts_lamp_slash
  have h1 := asserts_lamp_back
  have h2 := asserts_lamp_glass
  have h3 := asserts_lamp_pane
  go_enter Try.func39, Try.ntmps39
  go_wp2
  go_ret
  exact ⟨rfl, rfl⟩

end Go.Proofs.Ytoegofbmdcdifaa
