/-
  What can be, by errors.As: a keeper at its beginning.
-/
import Derived.Test.YtjmdlppakinboaaDoorKf
import Derived.Test.YtjmdlppakinboaaDoorKe
namespace Go.Proofs.YtjmdlppakinboaaDoor
open Go.RowKit
set_option linter.unusedVariables false
set_option linter.unusedSimpArgs false

def startOk (wd : Int) (cs : List (Int × Int)) (many : Int) : Bool := okG wd cs && decide (1 ≤ many ∧ many ≤ 3)

set_option maxHeartbeats 1000000 in
theorem checkStart_any (wd : Int) (a : Option Addr) (cap : Nat) (cs : List (Int × Int)) (many : Int) (w : World) (hC : CellsAt w a cs) (hm : cs.length ≤ 1048576) :
    Calls Tryd.prog 47 #[.agg #[.int .i64 wd, .slice a cs.length cap], .int .i64 many] w fun e w' => (∃ v, e = .returned v ∧ ((startOk wd cs many = true ∧ v = .nilIface) ∨ (startOk wd cs many = false ∧ ∃ s, v = .iface 86 (.agg #[.string s])))) ∧ Below w.heap.size w w' := by
  obtain ⟨ok, eok⟩ : ∃ ok, okG wd cs = ok := ⟨_, rfl⟩
  have hs : startOk wd cs many = (ok && decide (1 ≤ many ∧ many ≤ 3)) := by unfold startOk; rw [eok]
  have HI := implGridOk_any wd a cap cs (w.alloc (.cells #[.int .i64 wd, .slice a cs.length cap] 28)) (hC.below (by repeat (first | exact Below.refl _ _ | refine Below.alloc ?_ (by first | exact Nat.le_refl _ | (simp; done) | (simp; omega)) _ | refine Below.drew ?_ | refine Below.setCell ?_ (by first | exact Nat.le_refl _ | (simp; done) | (simp; omega)) _))) (by omega)
  rw [eok] at HI
  clear eok
  rw [hs]
  clear hs
  cases ok with
  | false =>
    go_enter Tryd.func47, Tryd.ntmps47
    go_wp2_with fail
    refine HI.mono ?_
    rintro e w1 ⟨rfl, hb1⟩
    go_wp2
    go_ret
    exact ⟨⟨_, rfl, Or.inr ⟨by simp, _, rfl⟩⟩, bcall (by repeat (first | exact Below.refl _ _ | refine Below.alloc ?_ (by first | exact Nat.le_refl _ | (simp; done) | (simp; omega)) _ | refine Below.drew ?_ | refine Below.setCell ?_ (by first | exact Nat.le_refl _ | (simp; done) | (simp; omega)) _)) (by simp) hb1⟩
  | true =>
    by_cases h1 : many < 1
    · go_enter Tryd.func47, Tryd.ntmps47
      go_wp2_with fail
      refine HI.mono ?_
      rintro e w1 ⟨rfl, hb1⟩
      go_wp2
      go_ret
      exact ⟨⟨_, rfl, Or.inr ⟨by simp; omega, _, rfl⟩⟩, bcall (by repeat (first | exact Below.refl _ _ | refine Below.alloc ?_ (by first | exact Nat.le_refl _ | (simp; done) | (simp; omega)) _ | refine Below.drew ?_ | refine Below.setCell ?_ (by first | exact Nat.le_refl _ | (simp; done) | (simp; omega)) _)) (by simp) hb1⟩
    · by_cases h2 : many > 3
      · go_enter Tryd.func47, Tryd.ntmps47
        go_wp2_with fail
        refine HI.mono ?_
        rintro e w1 ⟨rfl, hb1⟩
        go_wp2
        go_ret
        exact ⟨⟨_, rfl, Or.inr ⟨by simp; omega, _, rfl⟩⟩, bcall (by repeat (first | exact Below.refl _ _ | refine Below.alloc ?_ (by first | exact Nat.le_refl _ | (simp; done) | (simp; omega)) _ | refine Below.drew ?_ | refine Below.setCell ?_ (by first | exact Nat.le_refl _ | (simp; done) | (simp; omega)) _)) (by simp) hb1⟩
      · go_enter Tryd.func47, Tryd.ntmps47
        go_wp2_with fail
        refine HI.mono ?_
        rintro e w1 ⟨rfl, hb1⟩
        go_wp2
        go_ret
        exact ⟨⟨_, rfl, Or.inl ⟨by simp; omega, rfl⟩⟩, bcall (by repeat (first | exact Below.refl _ _ | refine Below.alloc ?_ (by first | exact Nat.le_refl _ | (simp; done) | (simp; omega)) _ | refine Below.drew ?_ | refine Below.setCell ?_ (by first | exact Nat.le_refl _ | (simp; done) | (simp; omega)) _)) (by simp) hb1⟩

set_option maxHeartbeats 1000000 in
theorem canBe_nil (wd : Int) (a1 a2 a3 a4 : Option Addr) (n1 n2 n3 n4 k1 k2 k3 k4 : Nat) (w : World) :
    Calls Tryd.prog 24 #[.agg #[.int .i64 wd, .slice a1 n1 k1, .slice a2 n2 k2, .slice a3 n3 k3, .slice a4 n4 k4], .nilIface] w fun e w' => e = .returned (.tuple #[.agg #[.int .i64 wd, .slice a1 n1 k1, .slice a2 n2 k2, .slice a3 n3 k3, .slice a4 n4 k4], .bool true]) ∧ Below w.heap.size w w' := by
  go_enter Tryd.func24, Tryd.ntmps24
  go_wp2_with fail
  refine (as_nil _ _).mono ?_
  rintro e w1 ⟨rfl, rfl⟩
  go_wp2
  refine bodyPost_ret (v := .tuple #[.agg #[.int .i64 wd, .slice a1 n1 k1, .slice a2 n2 k2, .slice a3 n3 k3, .slice a4 n4 k4], .bool true]) (by simp [results, Tryd.results24, go_sem]) rfl ⟨rfl, (by repeat (first | exact Below.refl _ _ | refine Below.alloc ?_ (by first | exact Nat.le_refl _ | (simp; done) | (simp; omega)) _ | refine Below.drew ?_ | refine Below.setCell ?_ (by first | exact Nat.le_refl _ | (simp; done) | (simp; omega)) _))⟩

/-- The variable that errors.As looks at. -/
def ErrV (w : World) : Prop := w.cell? ⟨0, 0, none⟩ = some (.iface 120 (.agg #[.pointer (some ⟨1, 60, none⟩)]))
theorem ErrV.lt {w : World} (h : ErrV w) : 0 < w.heap.size := World.block_lt_of_cell? w _ h
theorem ErrV.below {w w' : World} {B : Nat} (h : ErrV w) (hb : Below B w w') (hB : 0 < B) : ErrV w' := by
  unfold ErrV
  rw [hb.cell (p := ⟨0, 0, none⟩) hB]
  exact h
theorem ErrV.below' {w w' : World} (h : ErrV w) (hb : Below w.heap.size w w') : ErrV w' := h.below hb h.lt

set_option maxHeartbeats 1000000 in
theorem canBe_hit (wd : Int) (a1 a2 a3 a4 : Option Addr) (n1 n2 n3 n4 k1 k2 k3 k4 : Nat) (s : ByteArray) (w : World) (hE : ErrV w) :
    Calls Tryd.prog 24 #[.agg #[.int .i64 wd, .slice a1 n1 k1, .slice a2 n2 k2, .slice a3 n3 k3, .slice a4 n4 k4], .iface 86 (.agg #[.string s])] w fun e w' => e = .returned (.tuple #[.agg #[.int .i64 0, .slice none 0 0, .slice none 0 0, .slice none 0 0, .slice none 0 0], .bool false]) ∧ Below w.heap.size w w' := by
  have hB : Below w.heap.size w (((w.alloc (.cells #[.int .i64 wd, .slice a1 n1 k1, .slice a2 n2 k2, .slice a3 n3 k3, .slice a4 n4 k4] 33)).alloc (.cells #[.int .i64 0, .slice none 0 0, .slice none 0 0, .slice none 0 0, .slice none 0 0] 33)).alloc (.cells #[.string ⟨#[]⟩] 86)) := (by repeat (first | exact Below.refl _ _ | refine Below.alloc ?_ (by first | exact Nat.le_refl _ | (simp; done) | (simp; omega)) _ | refine Below.drew ?_ | refine Below.setCell ?_ (by first | exact Nat.le_refl _ | (simp; done) | (simp; omega)) _))
  have hE' := hE.below' hB
  clear hE
  go_enter Tryd.func24, Tryd.ntmps24
  go_wp2_with fail
  refine (as_hit (.string s) (.string ⟨#[]⟩) ⟨w.heap.size + 1 + 1, 0, none⟩ _ rfl hE' (by simp [go_sem]) (by simp [go_sem])).mono ?_
  rintro e w1 ⟨rfl, rfl⟩
  go_wp2
  refine bodyPost_ret (v := .tuple #[.agg #[.int .i64 0, .slice none 0 0, .slice none 0 0, .slice none 0 0, .slice none 0 0], .bool false]) (by simp [results, Tryd.results24, go_sem]) rfl ⟨rfl, (by repeat (first | exact Below.refl _ _ | refine Below.alloc ?_ (by first | exact Nat.le_refl _ | (simp; done) | (simp; omega)) _ | refine Below.drew ?_ | refine Below.setCell ?_ (by first | exact Nat.le_refl _ | (simp; done) | (simp; omega)) _))⟩
end Go.Proofs.YtjmdlppakinboaaDoor
