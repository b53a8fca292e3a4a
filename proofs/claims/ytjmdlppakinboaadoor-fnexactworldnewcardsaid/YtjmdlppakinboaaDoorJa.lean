/-
  Several texts in one: Ba, Ca, Ga, Gb, Oa, Na, Yk, Yr, Yq, Pk, Dx.
-/
import Derived.WalkKit
import Derived.WalkLawsBesides
import Derived.Below
import Derived.Deep.Draws
import Derived.Test.YtjmdlppakinboaaDoorChecked

/-
  Small facts on worlds: what lies below a number of blocks stays, through one call and the next.
-/
namespace Go.Proofs.YtjmdlppakinboaaDoor
open Go.RowKit

/-- Behind a call that turned nothing old: old cells and old marks read as before. -/
theorem bcell {W w1 : World} (hb : Below W.heap.size W w1) : (∀ b o, b < W.heap.size → w1.cell? ⟨b, o, none⟩ = W.cell? ⟨b, o, none⟩) ∧ (∀ b o, b < W.heap.size → w1.frozen? ⟨b, o, none⟩ = W.frozen? ⟨b, o, none⟩) :=
  ⟨fun b o h => hb.cell (p := ⟨b, o, none⟩) h, fun b o h => hb.frozen (p := ⟨b, o, none⟩) h⟩

/-- One step, and then a call. -/
theorem bcall {B : Nat} {w w1 w2 : World} (h : Below B w w1) (hB : B ≤ w1.heap.size) (h2 : Below w1.heap.size w1 w2) : Below B w w2 :=
  h.trans (h2.mono hB)

/-- A cell that is there stays, and so does its mark. -/
theorem keepc {W w1 : World} (hb : Below W.heap.size W w1) {b o : Nat} {v : Value} (h : W.cell? ⟨b, o, none⟩ = some v) : w1.cell? ⟨b, o, none⟩ = some v :=
  (hb.cell (World.block_lt_of_cell? W _ h)).trans h
theorem keepf {W w1 : World} (hb : Below W.heap.size W w1) {b o : Nat} {v : Value} {c : Bool} (h : W.cell? ⟨b, o, none⟩ = some v) (hf : W.frozen? ⟨b, o, none⟩ = c) : w1.frozen? ⟨b, o, none⟩ = c :=
  (hb.frozen (World.block_lt_of_cell? W _ h)).trans hf

/-- A draw ahead of a call. -/
theorem bdrew {w w' : World} (h : Below w.drew.heap.size w.drew w') : Below w.heap.size w w' := ⟨h.os, h.tape, h.output, h.size, h.block⟩

theorem setc {w : World} {g j b o : Nat} {u v : Value} (hne : b ≠ g) (h : w.cell? ⟨b, o, none⟩ = some v) : (w.setCell ⟨g, j, none⟩ u).cell? ⟨b, o, none⟩ = some v := by
  rw [World.cell?_of_block (w := w) (Below.heap_setCell w ⟨g, j, none⟩ u b hne)]
  exact h
theorem setf {w : World} {g j b o : Nat} {u : Value} {c : Bool} (hne : b ≠ g) (h : w.frozen? ⟨b, o, none⟩ = c) : (w.setCell ⟨g, j, none⟩ u).frozen? ⟨b, o, none⟩ = c := by
  rw [World.frozen?_of_block (w := w) (Below.heap_setCell w ⟨g, j, none⟩ u b hne)]
  exact h
theorem bdrewN {w w' : World} {n : Nat} (h : Below (w.drewN n).heap.size (w.drewN n) w') : Below w.heap.size w w' := ⟨h.os, h.tape, h.output, h.size, h.block⟩

theorem valI {k : IntKind} {a b : Int} (h : a = b) : Value.int k a = Value.int k b := by rw [h]

end Go.Proofs.YtjmdlppakinboaaDoor

/-
  The contracts of the functions on single cells: each returns what the plain function 'okC' says of a cell's kind and light, whatever the two numbers, and turns no memory that was there.
-/
namespace Go.Proofs.YtjmdlppakinboaaDoor
open Go.RowKit

/-- Whether a cell is ok: its kind and its light. -/
def okC (k l : Int) : Bool := if k = 7 then decide (1 ≤ l ∧ l ≤ 9) else decide (0 ≤ k ∧ k ≤ 6 ∧ l = 0)

theorem okC_none (k l : Int) (h : k < 0 ∨ 7 < k) : okC k l = false := by
  unfold okC
  rw [if_neg (by omega)]
  simp
  omega

def inB (n a b : Int) : Bool := decide (a ≤ n ∧ n ≤ b)

set_option maxHeartbeats 400000 in
theorem l6In_any (n a b : Int) (w : World) :
    Calls Tryd.prog 21 #[.int .i64 n, .int .i64 a, .int .i64 b] w fun e w' => e = .returned (.bool (inB n a b)) ∧ w' = w := by
  by_cases h1 : a ≤ n
  · by_cases h2 : n ≤ b
    · go_enter Tryd.func21, Tryd.ntmps21
      go_wp2
      go_ret
      exact ⟨by simp [inB, h1, h2], rfl⟩
    · go_enter Tryd.func21, Tryd.ntmps21
      go_wp2
      go_ret
      exact ⟨by simp [inB, h1, h2], rfl⟩
  · go_enter Tryd.func21, Tryd.ntmps21
    go_wp2
    go_ret
    exact ⟨by simp [inB]; omega, rfl⟩

set_option maxHeartbeats 400000 in
theorem specCellOk_any (k l : Int) (w : World) :
    Calls Tryd.prog 44 #[.agg #[.int .i64 k, .int .i64 l]] w fun e w' => e = .returned (.bool (okC k l)) ∧ Below w.heap.size w w' := by
  by_cases h7 : k = 7
  · subst h7
    go_enter Tryd.func44, Tryd.ntmps44
    go_wp2_with (go_at_call 21; refine (l6In_any _ _ _ _).mono ?_; rintro e w' ⟨rfl, rfl⟩)
    go_ret
    exact ⟨by simp [okC, inB], (by repeat (first | exact Below.refl _ _ | refine Below.alloc ?_ (by first | exact Nat.le_refl _ | (simp; done) | (simp; omega)) _ | refine Below.drew ?_ | refine Below.setCell ?_ (by first | exact Nat.le_refl _ | (simp; done) | (simp; omega)) _))⟩
  · by_cases h1 : 0 ≤ k ∧ k ≤ 6
    · have hi : inB k 0 6 = true := by simp [inB, h1]
      by_cases hl : l = 0
      all_goals
        go_enter Tryd.func44, Tryd.ntmps44
        go_wp2_with (go_at_call 21; refine (l6In_any _ _ _ _).mono ?_; rintro e w' ⟨rfl, rfl⟩)
        go_ret
        exact ⟨by simp [okC, h7, h1, hl], (by repeat (first | exact Below.refl _ _ | refine Below.alloc ?_ (by first | exact Nat.le_refl _ | (simp; done) | (simp; omega)) _ | refine Below.drew ?_ | refine Below.setCell ?_ (by first | exact Nat.le_refl _ | (simp; done) | (simp; omega)) _))⟩
    · have hi : inB k 0 6 = false := by simp [inB]; omega
      go_enter Tryd.func44, Tryd.ntmps44
      go_wp2_with (go_at_call 21; refine (l6In_any _ _ _ _).mono ?_; rintro e w' ⟨rfl, rfl⟩)
      go_ret
      exact ⟨by simp [okC, h7]; omega, (by repeat (first | exact Below.refl _ _ | refine Below.alloc ?_ (by first | exact Nat.le_refl _ | (simp; done) | (simp; omega)) _ | refine Below.drew ?_ | refine Below.setCell ?_ (by first | exact Nat.le_refl _ | (simp; done) | (simp; omega)) _))⟩

theorem shine_free (w : World) : Sem.run Tryd.prog (method 281 143 (Value.agg #[]) "loop.example/lucarne/impl.mayShine") w = .ok (106, .agg #[]) w := by kernel_rfl
theorem shine_wall (w : World) : Sem.run Tryd.prog (method 281 144 (Value.agg #[]) "loop.example/lucarne/impl.mayShine") w = .ok (106, .agg #[]) w := by kernel_rfl
theorem shine_slash (w : World) : Sem.run Tryd.prog (method 281 145 (Value.agg #[]) "loop.example/lucarne/impl.mayShine") w = .ok (106, .agg #[]) w := by kernel_rfl
theorem shine_back (w : World) : Sem.run Tryd.prog (method 281 146 (Value.agg #[]) "loop.example/lucarne/impl.mayShine") w = .ok (106, .agg #[]) w := by kernel_rfl
theorem shine_glass (w : World) : Sem.run Tryd.prog (method 281 147 (Value.agg #[]) "loop.example/lucarne/impl.mayShine") w = .ok (106, .agg #[]) w := by kernel_rfl
theorem shine_pane (w : World) : Sem.run Tryd.prog (method 281 148 (Value.agg #[]) "loop.example/lucarne/impl.mayShine") w = .ok (106, .agg #[]) w := by kernel_rfl
theorem shine_dim (w : World) : Sem.run Tryd.prog (method 281 149 (Value.agg #[]) "loop.example/lucarne/impl.mayShine") w = .ok (106, .agg #[]) w := by kernel_rfl
theorem shine_lamp (w : World) : Sem.run Tryd.prog (method 281 150 (Value.agg #[]) "loop.example/lucarne/impl.mayShine") w = .ok (114, .agg #[]) w := by kernel_rfl
set_option maxHeartbeats 400000 in
theorem implCellOk_free (l : Int) (w : World) :
    Calls Tryd.prog 71 #[.agg #[.int .i64 0, .int .i64 l]] w fun e w' => e = .returned (.bool (okC 0 l)) ∧ Below w.heap.size w w' := by
  have hs := shine_free
  go_enter Tryd.func71, Tryd.ntmps71
  go_wp2
  go_ret
  exact ⟨by simp [okC]; rfl, (by repeat (first | exact Below.refl _ _ | refine Below.alloc ?_ (by first | exact Nat.le_refl _ | (simp; done) | (simp; omega)) _ | refine Below.drew ?_ | refine Below.setCell ?_ (by first | exact Nat.le_refl _ | (simp; done) | (simp; omega)) _))⟩
set_option maxHeartbeats 400000 in
theorem implCellOk_wall (l : Int) (w : World) :
    Calls Tryd.prog 71 #[.agg #[.int .i64 1, .int .i64 l]] w fun e w' => e = .returned (.bool (okC 1 l)) ∧ Below w.heap.size w w' := by
  have hs := shine_wall
  go_enter Tryd.func71, Tryd.ntmps71
  go_wp2
  go_ret
  exact ⟨by simp [okC]; rfl, (by repeat (first | exact Below.refl _ _ | refine Below.alloc ?_ (by first | exact Nat.le_refl _ | (simp; done) | (simp; omega)) _ | refine Below.drew ?_ | refine Below.setCell ?_ (by first | exact Nat.le_refl _ | (simp; done) | (simp; omega)) _))⟩
set_option maxHeartbeats 400000 in
theorem implCellOk_slash (l : Int) (w : World) :
    Calls Tryd.prog 71 #[.agg #[.int .i64 2, .int .i64 l]] w fun e w' => e = .returned (.bool (okC 2 l)) ∧ Below w.heap.size w w' := by
  have hs := shine_slash
  go_enter Tryd.func71, Tryd.ntmps71
  go_wp2
  go_ret
  exact ⟨by simp [okC]; rfl, (by repeat (first | exact Below.refl _ _ | refine Below.alloc ?_ (by first | exact Nat.le_refl _ | (simp; done) | (simp; omega)) _ | refine Below.drew ?_ | refine Below.setCell ?_ (by first | exact Nat.le_refl _ | (simp; done) | (simp; omega)) _))⟩
set_option maxHeartbeats 400000 in
theorem implCellOk_back (l : Int) (w : World) :
    Calls Tryd.prog 71 #[.agg #[.int .i64 3, .int .i64 l]] w fun e w' => e = .returned (.bool (okC 3 l)) ∧ Below w.heap.size w w' := by
  have hs := shine_back
  go_enter Tryd.func71, Tryd.ntmps71
  go_wp2
  go_ret
  exact ⟨by simp [okC]; rfl, (by repeat (first | exact Below.refl _ _ | refine Below.alloc ?_ (by first | exact Nat.le_refl _ | (simp; done) | (simp; omega)) _ | refine Below.drew ?_ | refine Below.setCell ?_ (by first | exact Nat.le_refl _ | (simp; done) | (simp; omega)) _))⟩
set_option maxHeartbeats 400000 in
theorem implCellOk_glass (l : Int) (w : World) :
    Calls Tryd.prog 71 #[.agg #[.int .i64 4, .int .i64 l]] w fun e w' => e = .returned (.bool (okC 4 l)) ∧ Below w.heap.size w w' := by
  have hs := shine_glass
  go_enter Tryd.func71, Tryd.ntmps71
  go_wp2
  go_ret
  exact ⟨by simp [okC]; rfl, (by repeat (first | exact Below.refl _ _ | refine Below.alloc ?_ (by first | exact Nat.le_refl _ | (simp; done) | (simp; omega)) _ | refine Below.drew ?_ | refine Below.setCell ?_ (by first | exact Nat.le_refl _ | (simp; done) | (simp; omega)) _))⟩
set_option maxHeartbeats 400000 in
theorem implCellOk_pane (l : Int) (w : World) :
    Calls Tryd.prog 71 #[.agg #[.int .i64 5, .int .i64 l]] w fun e w' => e = .returned (.bool (okC 5 l)) ∧ Below w.heap.size w w' := by
  have hs := shine_pane
  go_enter Tryd.func71, Tryd.ntmps71
  go_wp2
  go_ret
  exact ⟨by simp [okC]; rfl, (by repeat (first | exact Below.refl _ _ | refine Below.alloc ?_ (by first | exact Nat.le_refl _ | (simp; done) | (simp; omega)) _ | refine Below.drew ?_ | refine Below.setCell ?_ (by first | exact Nat.le_refl _ | (simp; done) | (simp; omega)) _))⟩
set_option maxHeartbeats 400000 in
theorem implCellOk_dim (l : Int) (w : World) :
    Calls Tryd.prog 71 #[.agg #[.int .i64 6, .int .i64 l]] w fun e w' => e = .returned (.bool (okC 6 l)) ∧ Below w.heap.size w w' := by
  have hs := shine_dim
  go_enter Tryd.func71, Tryd.ntmps71
  go_wp2
  go_ret
  exact ⟨by simp [okC]; rfl, (by repeat (first | exact Below.refl _ _ | refine Below.alloc ?_ (by first | exact Nat.le_refl _ | (simp; done) | (simp; omega)) _ | refine Below.drew ?_ | refine Below.setCell ?_ (by first | exact Nat.le_refl _ | (simp; done) | (simp; omega)) _))⟩
set_option maxHeartbeats 400000 in
theorem implCellOk_lamp (l : Int) (w : World) :
    Calls Tryd.prog 71 #[.agg #[.int .i64 7, .int .i64 l]] w fun e w' => e = .returned (.bool (okC 7 l)) ∧ Below w.heap.size w w' := by
  have hs := shine_lamp
  by_cases h1 : 1 ≤ l
  · by_cases h2 : l ≤ 9
    all_goals
      go_enter Tryd.func71, Tryd.ntmps71
      go_wp2
      go_ret
      exact ⟨by simp [okC, h1, h2], (by repeat (first | exact Below.refl _ _ | refine Below.alloc ?_ (by first | exact Nat.le_refl _ | (simp; done) | (simp; omega)) _ | refine Below.drew ?_ | refine Below.setCell ?_ (by first | exact Nat.le_refl _ | (simp; done) | (simp; omega)) _))⟩
  · go_enter Tryd.func71, Tryd.ntmps71
    go_wp2
    go_ret
    exact ⟨by simp [okC]; omega, (by repeat (first | exact Below.refl _ _ | refine Below.alloc ?_ (by first | exact Nat.le_refl _ | (simp; done) | (simp; omega)) _ | refine Below.drew ?_ | refine Below.setCell ?_ (by first | exact Nat.le_refl _ | (simp; done) | (simp; omega)) _))⟩
set_option maxHeartbeats 400000 in
theorem implCellOk_none (k l : Int) (h : k < 0 ∨ 7 < k) (w : World) :
    Calls Tryd.prog 71 #[.agg #[.int .i64 k, .int .i64 l]] w fun e w' => e = .returned (.bool (okC k l)) ∧ Below w.heap.size w w' := by
  go_enter Tryd.func71, Tryd.ntmps71
  go_wp2
  go_ret
  exact ⟨by rw [okC_none k l h]; rfl, (by repeat (first | exact Below.refl _ _ | refine Below.alloc ?_ (by first | exact Nat.le_refl _ | (simp; done) | (simp; omega)) _ | refine Below.drew ?_ | refine Below.setCell ?_ (by first | exact Nat.le_refl _ | (simp; done) | (simp; omega)) _))⟩

theorem implCellOk_any (k l : Int) (w : World) :
    Calls Tryd.prog 71 #[.agg #[.int .i64 k, .int .i64 l]] w fun e w' => e = .returned (.bool (okC k l)) ∧ Below w.heap.size w w' := by
  by_cases h : k < 0 ∨ 7 < k
  · exact implCellOk_none k l h w
  · rcases (show k = 0 ∨ k = 1 ∨ k = 2 ∨ k = 3 ∨ k = 4 ∨ k = 5 ∨ k = 6 ∨ k = 7 by omega) with rfl | rfl | rfl | rfl | rfl | rfl | rfl | rfl
    · exact implCellOk_free l w
    · exact implCellOk_wall l w
    · exact implCellOk_slash l w
    · exact implCellOk_back l w
    · exact implCellOk_glass l w
    · exact implCellOk_pane l w
    · exact implCellOk_dim l w
    · exact implCellOk_lamp l w

end Go.Proofs.YtjmdlppakinboaaDoor

/-
  The contracts of impl.GridOk and spec.GridOk: each returns what the plain function 'okG' says of a grid's width and cells, whatever they are, and turns no memory that was there.
-/
namespace Go.Proofs.YtjmdlppakinboaaDoor
open Go.RowKit

/-- Cells that lie in a row, two words each: at 'b' from 'off' on (where there is one at all). -/
def CellsAt (w : World) (a : Option Addr) (cs : List (Int × Int)) : Prop :=
  cs = [] ∨ ∃ b off, a = some ⟨b, off, none⟩ ∧ b < w.heap.size ∧ ∀ i, i < cs.length →
    w.cell? ⟨b, off + i * 2, none⟩ = some (.int .i64 (cs.getD i (0, 0)).1) ∧ w.cell? ⟨b, off + i * 2 + 1, none⟩ = some (.int .i64 (cs.getD i (0, 0)).2)

def sizeG (wd : Int) (n : Int) : Bool := decide (1 ≤ wd ∧ wd ≤ 5 ∧ n % wd = 0 ∧ 1 ≤ n / wd ∧ n / wd ≤ 5)
def okG (wd : Int) (cs : List (Int × Int)) : Bool := sizeG wd cs.length && cs.all fun c => okC c.1 c.2

theorem all_snoc (cs : List (Int × Int)) (k : Nat) (h : k < cs.length) (p : Int × Int → Bool) : (cs.take (k + 1)).all p = ((cs.take k).all p && p cs[k]) := by
  rw [List.take_succ_eq_append_getElem h, List.all_append]
  simp only [List.all_cons, List.all_nil, Bool.and_true]
theorem okG_size (wd : Int) (cs : List (Int × Int)) (h : sizeG wd cs.length = false) : okG wd cs = false := by simp [okG, h]
theorem okG_no (wd : Int) (cs : List (Int × Int)) (k : Nat) (h : k < cs.length) (hk : okC cs[k].1 cs[k].2 = false) : okG wd cs = false := by
  have : (cs.all fun c => okC c.1 c.2) = false := by
    rw [List.all_eq_false]
    exact ⟨cs[k], List.getElem_mem _, by simp [hk]⟩
  simp [okG, this]
theorem okG_yes (wd : Int) (cs : List (Int × Int)) (h : sizeG wd cs.length = true) (hk : (cs.all fun c => okC c.1 c.2) = true) : okG wd cs = true := by simp only [okG, h, hk, Bool.and_self]

set_option maxHeartbeats 400000 in
theorem implGridOk_any (wd : Int) (a : Option Addr) (cap : Nat) (cs : List (Int × Int)) (w : World) (h : CellsAt w a cs) (hm : cs.length ≤ 4611686018427387904) :
    Calls Tryd.prog 64 #[.agg #[.int .i64 wd, .slice a cs.length cap]] w fun e w' => e = .returned (.bool (okG wd cs)) ∧ Below w.heap.size w w' := by
  by_cases h1 : 1 ≤ wd
  · have hq0 : 0 ≤ (cs.length : Int) / wd := Int.ediv_nonneg (by omega) (by omega)
    have hq1 : (cs.length : Int) / wd ≤ cs.length := Int.ediv_le_self _ (by omega)
    by_cases h2 : wd ≤ 5
    · by_cases h3 : (cs.length : Int) % wd = 0
      · by_cases h4 : 1 ≤ (cs.length : Int) / wd
        · by_cases h5 : (cs.length : Int) / wd ≤ 5
          · have hne : cs ≠ [] := by intro hx; subst hx; simp at h4
            have HS : Hid (sizeG wd cs.length = true) := by show sizeG wd cs.length = true; simp [sizeG, h1, h2, h3, h4, h5]
            rcases h with h | ⟨b, off, rfl, hbl, hcell⟩
            · exact absurd h hne
            go_enter Tryd.func64, Tryd.ntmps64
            go_wp2
            go_loopw [33] (fun i wr => ∃ k : Nat, k ≤ cs.length ∧ i = .int .i64 k ∧ ((cs.take k).all fun c => okC c.1 c.2) = true ∧ Below w.heap.size w wr) (fun i _ => cs.length - (intOf i).toNat)
            case atStart => exact ⟨0, Nat.zero_le _, rfl, by simp, (by repeat (first | exact Below.refl _ _ | refine Below.alloc ?_ (by first | exact Nat.le_refl _ | (simp; done) | (simp; omega)) _ | refine Below.drew ?_ | refine Below.setCell ?_ (by first | exact Nat.le_refl _ | (simp; done) | (simp; omega)) _))⟩
            case round =>
              obtain ⟨k, hk, rfl, hall, hb⟩ := hrel
              by_cases hlt : k < cs.length
              · obtain ⟨hx, hy⟩ := hcell k hlt
                rw [← hb.cell (p := ⟨b, _, none⟩) hbl] at hx hy
                have HA : Hid (((cs.take (k + 1)).all fun c => okC c.1 c.2) = okC cs[k].1 cs[k].2) := by show _ = _; rw [all_snoc cs k hlt, hall]; simp
                clear hall
                have hzr := hb.size
                by_cases hok : okC cs[k].1 cs[k].2 = true
                · go_wp2_with fail
                  refine (implCellOk_any _ _ _).mono ?_
                  rintro e w2 ⟨rfl, hb2⟩
                  go_wp2
                  go_roundw
                  case rel => exact ⟨k + 1, by omega, by go_num, by rw [HA.out]; exact hok, bcall (hb.alloc hzr _) (by simp; omega) hb2⟩
                  case measure => simp [intOf]; omega
                · have hok' : okC cs[k].1 cs[k].2 = false := by simpa using hok
                  clear hok
                  go_wp2_with fail
                  refine (implCellOk_any _ _ _).mono ?_
                  rintro e w2 ⟨rfl, hb2⟩
                  go_wp2
                  go_ret
                  exact ⟨by rw [okG_no wd cs k hlt hok']; rfl, bcall (hb.alloc hzr _) (by simp; omega) hb2⟩
              · go_wp2
                go_ret
                exact ⟨by rw [okG_yes wd cs HS.out (by rw [List.take_of_length_le (by omega)] at hall; exact hall)]; rfl, hb⟩
          · go_enter Tryd.func64, Tryd.ntmps64
            go_wp2
            go_ret
            exact ⟨by rw [okG_size wd cs (by simp [sizeG]; omega)]; rfl, (by repeat (first | exact Below.refl _ _ | refine Below.alloc ?_ (by first | exact Nat.le_refl _ | (simp; done) | (simp; omega)) _ | refine Below.drew ?_ | refine Below.setCell ?_ (by first | exact Nat.le_refl _ | (simp; done) | (simp; omega)) _))⟩
        · go_enter Tryd.func64, Tryd.ntmps64
          go_wp2
          go_ret
          exact ⟨by rw [okG_size wd cs (by simp [sizeG]; omega)]; rfl, (by repeat (first | exact Below.refl _ _ | refine Below.alloc ?_ (by first | exact Nat.le_refl _ | (simp; done) | (simp; omega)) _ | refine Below.drew ?_ | refine Below.setCell ?_ (by first | exact Nat.le_refl _ | (simp; done) | (simp; omega)) _))⟩
      · go_enter Tryd.func64, Tryd.ntmps64
        go_wp2
        go_ret
        exact ⟨by rw [okG_size wd cs (by simp [sizeG]; omega)]; rfl, (by repeat (first | exact Below.refl _ _ | refine Below.alloc ?_ (by first | exact Nat.le_refl _ | (simp; done) | (simp; omega)) _ | refine Below.drew ?_ | refine Below.setCell ?_ (by first | exact Nat.le_refl _ | (simp; done) | (simp; omega)) _))⟩
    · go_enter Tryd.func64, Tryd.ntmps64
      go_wp2
      go_ret
      exact ⟨by rw [okG_size wd cs (by simp [sizeG]; omega)]; rfl, (by repeat (first | exact Below.refl _ _ | refine Below.alloc ?_ (by first | exact Nat.le_refl _ | (simp; done) | (simp; omega)) _ | refine Below.drew ?_ | refine Below.setCell ?_ (by first | exact Nat.le_refl _ | (simp; done) | (simp; omega)) _))⟩
  · go_enter Tryd.func64, Tryd.ntmps64
    go_wp2
    go_ret
    exact ⟨by rw [okG_size wd cs (by simp [sizeG]; omega)]; rfl, (by repeat (first | exact Below.refl _ _ | refine Below.alloc ?_ (by first | exact Nat.le_refl _ | (simp; done) | (simp; omega)) _ | refine Below.drew ?_ | refine Below.setCell ?_ (by first | exact Nat.le_refl _ | (simp; done) | (simp; omega)) _))⟩

end Go.Proofs.YtjmdlppakinboaaDoor

/-
  The contract of spec.GridOk: it returns what the plain function 'okG' says of a grid's width and cells, whatever they are, and turns no memory that was there.
-/
namespace Go.Proofs.YtjmdlppakinboaaDoor
open Go.RowKit

set_option maxHeartbeats 800000 in
theorem specGridOk_any (wd : Int) (a : Option Addr) (cap : Nat) (cs : List (Int × Int)) (w : World) (h : CellsAt w a cs) (hm : cs.length ≤ 4611686018427387904) :
    Calls Tryd.prog 20 #[.agg #[.int .i64 wd, .slice a cs.length cap]] w fun e w' => e = .returned (.bool (okG wd cs)) ∧ Below w.heap.size w w' := by
  by_cases h1 : 1 ≤ wd ∧ wd ≤ 5
  · obtain ⟨h1, h2⟩ := h1
    have hq0 : 0 ≤ (cs.length : Int) / wd := Int.ediv_nonneg (by omega) (by omega)
    have hq1 : (cs.length : Int) / wd ≤ cs.length := Int.ediv_le_self _ (by omega)
    have hi1 : inB wd 1 5 = true := by simp [inB, h1, h2]
    by_cases h3 : (cs.length : Int) % wd = 0
    · by_cases h4 : 1 ≤ (cs.length : Int) / wd ∧ (cs.length : Int) / wd ≤ 5
      · obtain ⟨h4, h5⟩ := h4
        have hi2 : inB ((cs.length : Int) / wd) 1 5 = true := by simp [inB, h4, h5]
        have hne : cs ≠ [] := by intro hx; subst hx; simp at h4
        have HS : Hid (sizeG wd cs.length = true) := by show sizeG wd cs.length = true; simp [sizeG, h1, h2, h3, h4, h5]
        rcases h with h | ⟨b, off, rfl, hbl, hcell⟩
        · exact absurd h hne
        go_enter Tryd.func20, Tryd.ntmps20
        go_wp2_with (go_at_call 21; refine (l6In_any _ _ _ _).mono ?_; rintro e w' ⟨rfl, rfl⟩)
        go_loopw [3] (fun i wr => ∃ k : Nat, k ≤ cs.length ∧ i = .int .i64 k ∧ ((cs.take k).all fun c => okC c.1 c.2) = true ∧ Below w.heap.size w wr ∧ w.heap.size < wr.heap.size ∧ wr.cell? ⟨w.heap.size, 1, none⟩ = some (.slice (some ⟨b, off, none⟩) cs.length cap)) (fun i _ => cs.length - (intOf i).toNat)
        case atStart => exact ⟨0, Nat.zero_le _, rfl, by simp, (by repeat (first | exact Below.refl _ _ | refine Below.alloc ?_ (by first | exact Nat.le_refl _ | (simp; done) | (simp; omega)) _ | refine Below.drew ?_ | refine Below.setCell ?_ (by first | exact Nat.le_refl _ | (simp; done) | (simp; omega)) _)), by simp, by simp⟩
        case round =>
          obtain ⟨k, hk, rfl, hall, hb, hzr, hbox⟩ := hrel
          by_cases hlt : k < cs.length
          · obtain ⟨hx, hy⟩ := hcell k hlt
            rw [← hb.cell (p := ⟨b, _, none⟩) hbl] at hx hy
            have HA : Hid (((cs.take (k + 1)).all fun c => okC c.1 c.2) = okC cs[k].1 cs[k].2) := by show _ = _; rw [all_snoc cs k hlt, hall]; simp
            clear hall
            by_cases hok : okC cs[k].1 cs[k].2 = true
            · go_wp2_with fail
              refine (specCellOk_any _ _ _).mono ?_
              rintro e w2 ⟨rfl, hb2⟩
              have hz2 := hb2.size
              go_wp2
              go_roundw
              case rel => exact ⟨k + 1, by omega, by go_num, by rw [HA.out]; exact hok, bcall hb (by omega) hb2, by omega, by rw [hb2.cell (p := ⟨w.heap.size, 1, none⟩) hzr]; exact hbox⟩
              case measure => simp [intOf]; omega
            · have hok' : okC cs[k].1 cs[k].2 = false := by simpa using hok
              clear hok
              go_wp2_with fail
              refine (specCellOk_any _ _ _).mono ?_
              rintro e w2 ⟨rfl, hb2⟩
              go_wp2
              go_ret
              exact ⟨by rw [okG_no wd cs k hlt hok']; rfl, bcall hb (by omega) hb2⟩
          · go_wp2
            go_ret
            exact ⟨by rw [okG_yes wd cs HS.out (by rw [List.take_of_length_le (by omega)] at hall; exact hall)]; rfl, hb⟩
      · have hi2 : inB ((cs.length : Int) / wd) 1 5 = false := by simp [inB]; omega
        go_enter Tryd.func20, Tryd.ntmps20
        go_wp2_with (go_at_call 21; refine (l6In_any _ _ _ _).mono ?_; rintro e w' ⟨rfl, rfl⟩)
        go_ret
        exact ⟨by rw [okG_size wd cs (by simp [sizeG]; omega)]; rfl, (by repeat (first | exact Below.refl _ _ | refine Below.alloc ?_ (by first | exact Nat.le_refl _ | (simp; done) | (simp; omega)) _ | refine Below.drew ?_ | refine Below.setCell ?_ (by first | exact Nat.le_refl _ | (simp; done) | (simp; omega)) _))⟩
    · go_enter Tryd.func20, Tryd.ntmps20
      go_wp2_with (go_at_call 21; refine (l6In_any _ _ _ _).mono ?_; rintro e w' ⟨rfl, rfl⟩)
      go_ret
      exact ⟨by rw [okG_size wd cs (by simp [sizeG]; omega)]; rfl, (by repeat (first | exact Below.refl _ _ | refine Below.alloc ?_ (by first | exact Nat.le_refl _ | (simp; done) | (simp; omega)) _ | refine Below.drew ?_ | refine Below.setCell ?_ (by first | exact Nat.le_refl _ | (simp; done) | (simp; omega)) _))⟩
  · have hi1 : inB wd 1 5 = false := by simp [inB]; omega
    go_enter Tryd.func20, Tryd.ntmps20
    go_wp2_with (go_at_call 21; refine (l6In_any _ _ _ _).mono ?_; rintro e w' ⟨rfl, rfl⟩)
    go_ret
    exact ⟨by rw [okG_size wd cs (by simp [sizeG]; omega)]; rfl, (by repeat (first | exact Below.refl _ _ | refine Below.alloc ?_ (by first | exact Nat.le_refl _ | (simp; done) | (simp; omega)) _ | refine Below.drew ?_ | refine Below.setCell ?_ (by first | exact Nat.le_refl _ | (simp; done) | (simp; omega)) _))⟩

end Go.Proofs.YtjmdlppakinboaaDoor

/-
  Rows of cells that a call owns: what lies in them, that they stay behind other calls, and what a store makes of them.
-/
namespace Go.Proofs.YtjmdlppakinboaaDoor
open Go.RowKit

theorem infoCell : (Tryd.prog.info? 82).map (fun i => (i.zero, i.size, i.bytes)) = some (some (.agg #[.int .i64 0, .int .i64 0]), 2, 16) := by kernel_rfl

/-- Cells as words, two each. -/
def flat (cs : List (Int × Int)) : List Value := cs.flatMap fun c => [.int .i64 c.1, .int .i64 c.2]

/-- The slice value v owns the cells cs, in a block from B on. -/
def Own (w : World) (B : Nat) (v : Value) (cs : List (Int × Int)) : Prop := w.ownsRow B 82 2 v cs.length (flat cs)

theorem flat_len (cs : List (Int × Int)) : (flat cs).length = cs.length * 2 := by
  induction cs with
  | nil => rfl
  | cons c r ih => simp only [flat, List.flatMap_cons, List.length_append, List.length_cons, List.length_nil] at ih ⊢; omega
theorem flat_cons (c : Int × Int) (r : List (Int × Int)) : flat (c :: r) = .int .i64 c.1 :: .int .i64 c.2 :: flat r := rfl
theorem flat_append (a b : List (Int × Int)) : flat (a ++ b) = flat a ++ flat b := by simp [flat]
theorem flat_at (cs : List (Int × Int)) : ∀ i, i < cs.length → (flat cs)[i * 2]? = some (.int .i64 (cs.getD i (0, 0)).1) ∧ (flat cs)[i * 2 + 1]? = some (.int .i64 (cs.getD i (0, 0)).2) := by
  induction cs with
  | nil => intro i h; simp at h
  | cons c r ih =>
    intro i h
    cases i with
    | zero => exact ⟨rfl, rfl⟩
    | succ i =>
      have := ih i (by simpa using h)
      rw [flat_cons]
      refine ⟨?_, ?_⟩
      · rw [show (i + 1) * 2 = i * 2 + 1 + 1 by omega]; simpa using this.1
      · rw [show (i + 1) * 2 + 1 = i * 2 + 1 + 1 + 1 by omega]; simpa using this.2
theorem flat_set (cs : List (Int × Int)) : ∀ i (x y : Int), i < cs.length → ((flat cs).set (i * 2) (.int .i64 x)).set (i * 2 + 1) (.int .i64 y) = flat (cs.set i (x, y)) := by
  induction cs with
  | nil => intro i x y h; simp at h
  | cons c r ih =>
    intro i x y h
    cases i with
    | zero => rfl
    | succ i =>
      have := ih i x y (by simpa using h)
      rw [flat_cons, show (i + 1) * 2 = i * 2 + 1 + 1 by omega]
      simp only [List.set_cons_succ, flat_cons]
      rw [this]

theorem Own.below {w w' : World} {B : Nat} {v : Value} {cs : List (Int × Int)} (h : Own w B v cs) (hb : Below w.heap.size w w') : Own w' B v cs := by
  obtain ⟨h1, h2⟩ := h
  refine ⟨h1, ?_⟩
  rcases h2 with h2 | ⟨g, cap, cur, hv, hg, hh, r⟩
  · exact Or.inl h2
  · exact Or.inr ⟨g, cap, cur, hv, hg, by rw [hb.block g (Array.getElem?_eq_some_iff.1 hh).1]; exact hh, r⟩

/-- A slice value and its cells: where they lie, and that they fit. -/
theorem Own.slice {w : World} {B : Nat} {v : Value} {cs : List (Int × Int)} (h : Own w B v cs) : ∃ a cap, v = .slice a cs.length cap ∧ CellsAt w a cs := by
  obtain ⟨h1, h2⟩ := h
  rcases h2 with ⟨rfl, h2⟩ | ⟨g, cap, cur, rfl, hg, hh, r⟩
  · exact ⟨none, 0, by rw [h2], Or.inl (List.length_eq_zero_iff.1 h2)⟩
  · have hO : w.ownsRow B 82 2 (.slice (some ⟨g, 0, none⟩) cs.length cap) cs.length (flat cs) := ⟨h1, Or.inr ⟨g, cap, cur, rfl, hg, hh, r⟩⟩
    refine ⟨_, cap, rfl, Or.inr ⟨g, 0, rfl, (Array.getElem?_eq_some_iff.1 hh).1, fun i hi => ?_⟩⟩
    have := flat_at cs i hi
    rw [hO.cellAt _ (by omega), hO.cellAt _ (by omega), Nat.zero_add]
    exact this

theorem Own.lt {w : World} {B g n cap : Nat} {cs : List (Int × Int)} (h : Own w B (.slice (some ⟨g, 0, none⟩) n cap) cs) : B ≤ g ∧ g < w.heap.size :=
  World.ownsRow.lt h g rfl

theorem Own.cell {w : World} {B g n cap : Nat} {cs : List (Int × Int)} (h : Own w B (.slice (some ⟨g, 0, none⟩) n cap) cs) (hn : cs.length = n) (i : Nat) (hi : i < n) :
    w.cell? ⟨g, i * 2, none⟩ = some (.int .i64 (cs.getD i (0, 0)).1) ∧ w.cell? ⟨g, i * 2 + 1, none⟩ = some (.int .i64 (cs.getD i (0, 0)).2) ∧ w.frozen? ⟨g, i * 2, none⟩ = false ∧ w.frozen? ⟨g, i * 2 + 1, none⟩ = false := by
  subst hn
  have hO : w.ownsRow B 82 2 (.slice (some ⟨g, 0, none⟩) cs.length cap) cs.length (flat cs) := h
  have := flat_at cs i hi
  exact ⟨by rw [hO.cellAt _ (by omega)]; exact this.1, by rw [hO.cellAt _ (by omega)]; exact this.2, hO.frozenAt _, hO.frozenAt _⟩

/-- A store of both words. -/
theorem Own.set {w : World} {B g n cap : Nat} {cs : List (Int × Int)} (h : Own w B (.slice (some ⟨g, 0, none⟩) n cap) cs) (hn : cs.length = n) (i : Nat) (x y : Int) (hi : i < n) :
    Own ((w.setCell ⟨g, i * 2, none⟩ (.int .i64 x)).setCell ⟨g, i * 2 + 1, none⟩ (.int .i64 y)) B (.slice (some ⟨g, 0, none⟩) n cap) (cs.set i (x, y)) := by
  subst hn
  have hO : w.ownsRow B 82 2 (.slice (some ⟨g, 0, none⟩) cs.length cap) cs.length (flat cs) := h
  have h2 := ((hO.stored (i * 2) (.int .i64 x)).1.stored (i * 2 + 1) (.int .i64 y)).1
  rw [flat_set cs i x y hi] at h2
  unfold Own
  rw [List.length_set]
  exact h2

/-- Rows of nought. -/
theorem made_two (n : Nat) : (madeCells #[Value.int .i64 0, Value.int .i64 0] (n * 2)).toList = flat (List.replicate n (0, 0)) := by
  have h : ∀ m, flat (List.replicate m (0, 0)) = List.replicate (m * 2) (Value.int .i64 0) := by
    intro m
    induction m with
    | zero => rfl
    | succ m ih => rw [List.replicate_succ, flat_cons, ih, show (m + 1) * 2 = m * 2 + 1 + 1 by omega]; rfl
  rw [h]
  apply List.ext_getElem?
  intro j
  by_cases hj : j < n * 2
  · have : j % 2 = 0 ∨ j % 2 = 1 := by omega
    rcases this with e | e <;> simp [madeCells, hj, e]
  · simp [madeCells, hj]

theorem Own.alloc {w : World} {B : Nat} {v : Value} {cs : List (Int × Int)} (h : Own w B v cs) (o : Obj) : Own (w.alloc o) B v cs := World.ownsRow.alloc h o
theorem Own.drew {w : World} {B : Nat} {v : Value} {cs : List (Int × Int)} (h : Own w B v cs) : Own w.drew B v cs := h
theorem Own.mono {w : World} {B B' : Nat} {v : Value} {cs : List (Int × Int)} (h : Own w B v cs) (hB : B' ≤ B) : Own w B' v cs := by
  obtain ⟨h1, h2⟩ := h
  refine ⟨h1, ?_⟩
  rcases h2 with h2 | ⟨g, cap, cur, hv, hg, r⟩
  · exact Or.inl h2
  · exact Or.inr ⟨g, cap, cur, hv, by omega, r⟩

theorem CellsAt.below {w w' : World} {a : Option Addr} {cs : List (Int × Int)} (h : CellsAt w a cs) (hb : Below w.heap.size w w') : CellsAt w' a cs := by
  rcases h with h | ⟨b, off, rfl, hbl, hc⟩
  · exact Or.inl h
  · refine Or.inr ⟨b, off, rfl, Nat.lt_of_lt_of_le hbl hb.size, fun i hi => ?_⟩
    rw [hb.cell (p := ⟨b, _, none⟩) hbl, hb.cell (p := ⟨b, _, none⟩) hbl]
    exact hc i hi

theorem set_step (cs : List (Int × Int)) (k : Nat) (h : k < cs.length) : (cs.take k ++ List.replicate (cs.length - k) (0, 0)).set k (cs[k].1, cs[k].2) = cs.take (k + 1) ++ List.replicate (cs.length - (k + 1)) (0, 0) := by
  rw [List.set_append_right _ _ (by simp; omega), List.take_succ_eq_append_getElem h]
  have : (List.take k cs).length = k := by simp; omega
  rw [this, Nat.sub_self, show cs.length - k = (cs.length - (k + 1)) + 1 by omega, List.replicate_succ]
  simp only [List.set_cons_zero, List.append_assoc, List.cons_append, List.nil_append]

end Go.Proofs.YtjmdlppakinboaaDoor

/-
  Plain facts on ok grids.
-/
namespace Go.Proofs.YtjmdlppakinboaaDoor
set_option linter.unusedVariables false

theorem okG_nat (wd : Int) (cs : List (Int × Int)) (h : okG wd cs = true) : ∃ W H : Nat, wd = W ∧ 1 ≤ W ∧ W ≤ 5 ∧ 1 ≤ H ∧ H ≤ 5 ∧ cs.length = W * H ∧ cs.length / W = H ∧ (cs.length : Int) / wd = H := by
  simp only [okG, sizeG, Bool.and_eq_true, decide_eq_true_eq] at h
  obtain ⟨⟨h1, h2, h3, h4, h5⟩, _⟩ := h
  obtain ⟨W, rfl⟩ := Int.eq_ofNat_of_zero_le (show 0 ≤ wd by omega)
  refine ⟨W, cs.length / W, rfl, by omega, by omega, ?_, ?_, ?_, rfl, by simp⟩
  all_goals
    rcases (show W = 1 ∨ W = 2 ∨ W = 3 ∨ W = 4 ∨ W = 5 by omega) with rfl | rfl | rfl | rfl | rfl <;> omega

theorem okG_cell (wd : Int) (cs : List (Int × Int)) (h : okG wd cs = true) (k : Nat) (hk : k < cs.length) : okC cs[k].1 cs[k].2 = true := by
  simp only [okG, Bool.and_eq_true, List.all_eq_true] at h
  exact h.2 cs[k] (List.getElem_mem hk)

end Go.Proofs.YtjmdlppakinboaaDoor

/-
  impl.dirOk: whether light can go that way.
-/
namespace Go.Proofs.YtjmdlppakinboaaDoor
open Go.RowKit
set_option linter.unusedVariables false

end Go.Proofs.YtjmdlppakinboaaDoor

/-
  How many rows a grid has: impl.gridRows.
-/
namespace Go.Proofs.YtjmdlppakinboaaDoor
open Go.RowKit
set_option linter.unusedVariables false

theorem rowsI_any (W H : Nat) (a : Option Addr) (n cap : Nat) (w : World) (hW : 1 ≤ W) (hn : n ≤ 1048576) (hH : n / W = H) :
    Calls Tryd.prog 70 #[.agg #[.int .i64 (W : Int), .slice a n cap]] w fun e w' => e = .returned (.int .i64 (H : Int)) ∧ Below w.heap.size w w' := by
  have h0 : (0 : Int) ≤ (n : Int) / (W : Int) := Int.ediv_nonneg (by omega) (by omega)
  have h1 : (n : Int) / (W : Int) ≤ n := Int.ediv_le_self _ (by omega)
  have hw : (1 : Int) ≤ (W : Int) := by omega
  have HH : Hid ((n : Int) / (W : Int) = (H : Int)) := by show _ = _; rw [← hH]; simp
  clear hH
  go_enter Tryd.func70, Tryd.ntmps70
  go_wp2
  go_ret
  exact ⟨by rw [← HH.out]; rfl, (by repeat (first | exact Below.refl _ _ | refine Below.alloc ?_ (by first | exact Nat.le_refl _ | (simp; done) | (simp; omega)) _ | refine Below.drew ?_ | refine Below.setCell ?_ (by first | exact Nat.le_refl _ | (simp; done) | (simp; omega)) _))⟩

end Go.Proofs.YtjmdlppakinboaaDoor

/-
  How many rows a grid has: spec.l1High.
-/
namespace Go.Proofs.YtjmdlppakinboaaDoor
open Go.RowKit
set_option linter.unusedVariables false

end Go.Proofs.YtjmdlppakinboaaDoor

/-
  impl.placeOk: whether a grid has such a place.
-/
namespace Go.Proofs.YtjmdlppakinboaaDoor
open Go.RowKit
set_option linter.unusedVariables false

/-- Whether there is such a place. -/
def inP (x : Int) (n : Nat) : Bool := decide (0 ≤ x ∧ x < n)

end Go.Proofs.YtjmdlppakinboaaDoor

/-
  Cells stay where another block is written.
-/
namespace Go.Proofs.YtjmdlppakinboaaDoor
open Go.RowKit

theorem CellsAt.set {w : World} {a : Option Addr} {cs : List (Int × Int)} (h : CellsAt w a cs) {bb j : Nat} (hne : ∀ b off, a = some ⟨b, off, none⟩ → b ≠ bb) (u : Value) : CellsAt (w.setCell ⟨bb, j, none⟩ u) a cs := by
  rcases h with h | ⟨b, off, rfl, hbl, hc⟩
  · exact Or.inl h
  · refine Or.inr ⟨b, off, rfl, by simpa [World.setCell] using hbl, fun i hi => ?_⟩
    have := hne b off rfl
    exact ⟨setc this (hc i hi).1, setc this (hc i hi).2⟩

end Go.Proofs.YtjmdlppakinboaaDoor
