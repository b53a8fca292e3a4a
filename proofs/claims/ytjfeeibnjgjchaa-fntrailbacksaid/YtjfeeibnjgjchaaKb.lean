/-
  How many cells of a kind there are, mirrors and glass that lean either way taken as one: llKinds counts it.
-/
import Derived.Test.YtjfeeibnjgjchaaJa
namespace Go.Proofs.Ytjfeeibnjgjchaa
open Go.RowKit
set_option linter.unusedVariables false

def backK (k : Int) : Int := if k = 3 then 2 else k
def normK (k : Int) : Int := if backK k = 5 then 4 else backK k
def isK (kind : Int) (c : Int × Int) : Bool := normK c.1 == kind
def cntK (kind : Int) (cs : List (Int × Int)) : Nat := cs.countP (isK kind)

theorem cntK_take (kind : Int) (cs : List (Int × Int)) (k : Nat) (hk : k < cs.length) (c : Int × Int) (hc : cs.getD k (0, 0) = c) : cntK kind (cs.take (k + 1)) = cntK kind (cs.take k) + (if isK kind c then 1 else 0) := by
  have : cs[k] = c := by rw [← hc]; simp [hk]
  unfold cntK
  rw [List.take_succ_eq_append_getElem hk, List.countP_append, this]
  simp [List.countP_cons]
theorem cntK_le (kind : Int) (cs : List (Int × Int)) (k : Nat) : cntK kind (cs.take k) ≤ k := Nat.le_trans List.countP_le_length (by simp; omega)

set_option maxHeartbeats 1000000 in
theorem llKinds_any (wd : Int) (a : Option Addr) (cap : Nat) (cs : List (Int × Int)) (kind : Int) (w : World) (h : CellsAt w a cs) (hm : cs.length ≤ 1048576) :
    Calls Try.prog 54 #[.agg #[.int .i64 wd, .slice a cs.length cap], .int .i64 kind] w fun e w' => e = .returned (.int .i64 (cntK kind cs)) ∧ Below w.heap.size w w' := by
  have hbX : Below w.heap.size w (w.alloc (.cells #[.int .i64 wd, .slice a cs.length cap] 25)) := (by repeat (first | exact Below.refl _ _ | refine Below.alloc ?_ (by first | exact Nat.le_refl _ | (simp; done) | (simp; omega)) _ | refine Below.drew ?_ | refine Below.setCell ?_ (by first | exact Nat.le_refl _ | (simp; done) | (simp; omega)) _))
  go_enter Try.func54, Try.ntmps54
  go_wp2
  go_loopw [5, 6] (fun n i wr => ∃ k : Nat, k ≤ cs.length ∧ i = .int .i64 k ∧ n = .int .i64 (cntK kind (cs.take k)) ∧ Below w.heap.size w wr ∧ wr.cell? ⟨w.heap.size, 1, none⟩ = some (.slice a cs.length cap)) (fun _ i _ => cs.length - (intOf i).toNat)
  case atStart => exact ⟨0, Nat.zero_le _, rfl, by simp [cntK], hbX, by simp [go_sem]⟩
  case round =>
    clear hbX
    obtain ⟨k, hk, rfl, rfl, hb, b1⟩ := hrel
    by_cases hlt : k < cs.length
    · rcases h with h | ⟨b, off, rfl, hbl, hcell⟩
      · subst h; simp at hlt
      obtain ⟨hx, hy⟩ := hcell k hlt
      rw [← hb.cell (p := ⟨b, _, none⟩) hbl] at hx hy
      clear hcell
      obtain ⟨kx, lx, hkl⟩ : ∃ kx lx : Int, cs.getD k (0, 0) = (kx, lx) := ⟨_, _, rfl⟩
      rw [hkl] at hx hy
      have hc := cntK_take kind cs k hlt (kx, lx) hkl
      have hle := cntK_le kind cs k
      have HC : Hid (cntK kind (cs.take (k + 1)) = cntK kind (cs.take k) + (if isK kind (kx, lx) then 1 else 0)) := hc
      clear hc hkl
      obtain ⟨m, hmm⟩ : ∃ m, m = cntK kind (cs.take k) := ⟨_, rfl⟩
      rw [← hmm] at hle HC ⊢
      have hz := hb.size
      have hkind : (isK kind (kx, lx) = true ↔ normK kx = kind) := by simp [isK]
      by_cases h3 : kx = 3
      · subst h3
        by_cases hq : (2 : Int) = kind
        · subst hq
          go_wp2
          go_roundw
          case rel => exact ⟨k + 1, by omega, by go_num, by rw [HC.out]; simp [isK, normK, backK, hmm], ⟨hb.os, hb.tape, hb.output, hb.size, hb.block⟩, b1⟩
          case measure => simp [intOf]; omega
        · go_wp2
          go_roundw
          case rel => exact ⟨k + 1, by omega, by go_num, by rw [HC.out]; simp [isK, normK, backK, hmm, hq], ⟨hb.os, hb.tape, hb.output, hb.size, hb.block⟩, b1⟩
          case measure => simp [intOf]; omega
      by_cases h5 : kx = 5
      · subst h5
        by_cases hq : (4 : Int) = kind
        · subst hq
          go_wp2
          go_roundw
          case rel => exact ⟨k + 1, by omega, by go_num, by rw [HC.out]; simp [isK, normK, backK, hmm], ⟨hb.os, hb.tape, hb.output, hb.size, hb.block⟩, b1⟩
          case measure => simp [intOf]; omega
        · go_wp2
          go_roundw
          case rel => exact ⟨k + 1, by omega, by go_num, by rw [HC.out]; simp [isK, normK, backK, hmm, hq], ⟨hb.os, hb.tape, hb.output, hb.size, hb.block⟩, b1⟩
          case measure => simp [intOf]; omega
      by_cases hq : kx = kind
      · subst hq
        go_wp2
        go_roundw
        case rel => exact ⟨k + 1, by omega, by go_num, by rw [HC.out]; simp [isK, normK, backK, hmm, h3, h5], ⟨hb.os, hb.tape, hb.output, hb.size, hb.block⟩, b1⟩
        case measure => simp [intOf]; omega
      · go_wp2
        go_roundw
        case rel => exact ⟨k + 1, by omega, by go_num, by rw [HC.out]; simp [isK, normK, backK, hmm, h3, h5, hq], ⟨hb.os, hb.tape, hb.output, hb.size, hb.block⟩, b1⟩
        case measure => simp [intOf]; omega
    · have e : cs.take k = cs := List.take_of_length_le (by omega)
      rw [e]
      go_wp2
      go_ret
      exact ⟨rfl, hb⟩

end Go.Proofs.Ytjfeeibnjgjchaa
