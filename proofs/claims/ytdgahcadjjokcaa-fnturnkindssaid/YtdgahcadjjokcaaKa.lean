/-
  How many cells of a kind there are, mirrors and glass that lean either way taken as one: llKinds counts it; turned, or in a mirror, it stays.
-/
import Derived.Test.YtdgahcadjjokcaaDf
import Derived.Test.YtdgahcadjjokcaaMb
namespace Go.Proofs.Ytdgahcadjjokcaa
open Go.RowKit
set_option linter.unusedVariables false
attribute [local go_sem ↓] Go.wp_at_zero Go.wp_at_succ

def backK (k : Int) : Int := if k = 3 then 2 else k
def normK (k : Int) : Int := if backK k = 5 then 4 else backK k
def isK (kind : Int) (c : Int × Int) : Bool := normK c.1 == kind
def cntK (kind : Int) (cs : List (Int × Int)) : Nat := cs.countP (isK kind)

theorem isK_other (kind : Int) (c : Int × Int) : isK kind (other c) = isK kind c := by
  obtain ⟨k, l⟩ := c
  simp only [isK, other, otherK, normK, backK]
  by_cases h2 : k = 2
  · subst h2; simp
  by_cases h3 : k = 3
  · subst h3; simp
  by_cases h4 : k = 4
  · subst h4; simp
  by_cases h5 : k = 5
  · subst h5; simp
  simp [h2, h3, h4, h5]

theorem cntK_perm (kind : Int) (s : Nat → Nat) (cs : List (Int × Int)) (h : ((List.range cs.length).map s).isPerm (List.range cs.length) = true) : cntK kind (perm s other cs) = cntK kind cs := by
  have hp := List.isPerm_iff.1 h
  have e1 : cntK kind (perm s other cs) = ((List.range cs.length).map s).countP (fun j => isK kind (cs.getD j (0, 0))) := by
    unfold cntK perm
    rw [List.countP_map, List.countP_map]
    congr 1
    funext j
    simp only [Function.comp]
    exact isK_other _ _
  have e2 : cntK kind cs = (List.range cs.length).countP (fun j => isK kind (cs.getD j (0, 0))) := by
    have e := perm_id cs
    unfold perm at e
    unfold cntK
    rw [← e]
    simp only [List.countP_map, List.length_map, List.length_range]
    rw [e]
    rfl
  rw [e1, e2]
  exact hp.countP_eq _

def pmOk (W H : Nat) : Bool := !(decide (1 ≤ W) && decide (1 ≤ H)) || (((List.range (W * H)).map (turnAt W H)).isPerm (List.range (W * H)) && ((List.range (W * H)).map (flipAt W)).isPerm (List.range (W * H)))
theorem pm_run : ((List.range 6).all fun W => (List.range 6).all fun H => pmOk W H) = true := by decide +kernel
theorem pm_all (W H : Nat) (hW : 1 ≤ W ∧ W ≤ 5) (hH : 1 ≤ H ∧ H ≤ 5) : ((List.range (W * H)).map (turnAt W H)).isPerm (List.range (W * H)) = true ∧ ((List.range (W * H)).map (flipAt W)).isPerm (List.range (W * H)) = true := by
  have h := pm_run
  simp only [List.all_eq_true, List.mem_range] at h
  have := h W (by omega) H (by omega)
  simp only [pmOk, Bool.or_eq_true, Bool.not_eq_true', Bool.and_eq_true, Bool.and_eq_false_iff, decide_eq_false_iff_not] at this
  rcases this with (h1 | h1) | h1
  · omega
  · omega
  · exact h1

/-- Of an ok grid: turned, and in a mirror, what it has. -/
theorem kinds_ok (wd : Int) (cs : List (Int × Int)) (hok : okG wd cs = true) : ∃ xc yc : List (Int × Int), turnG wd cs = ((cs.length : Int) / wd, xc) ∧ flipG wd cs = (wd, yc) ∧ xc.length = cs.length ∧ yc.length = cs.length ∧ (∀ k, cntK k xc = cntK k cs) ∧ (∀ k, cntK k yc = cntK k cs) := by
  obtain ⟨W, H, rfl, h1, h2, h3, h4, h5, h6, h7⟩ := okG_nat wd cs hok
  have t1 := turnG_ok W H cs hok ⟨h1, h2⟩ ⟨h3, h4⟩ h5
  have t2 := flipG_ok W H cs hok ⟨h1, h2⟩ ⟨h3, h4⟩ h5
  have hp := pm_all W H ⟨h1, h2⟩ ⟨h3, h4⟩
  refine ⟨_, _, by rw [t1.1, h7], t2.1, perm_len _ _ _, perm_len _ _ _, fun k => cntK_perm k _ _ ?_, fun k => cntK_perm k _ _ ?_⟩
  · rw [h5]; exact hp.1
  · rw [h5]; exact hp.2

theorem cntK_take (kind : Int) (cs : List (Int × Int)) (k : Nat) (hk : k < cs.length) (c : Int × Int) (hc : cs.getD k (0, 0) = c) : cntK kind (cs.take (k + 1)) = cntK kind (cs.take k) + (if isK kind c then 1 else 0) := by
  have : cs[k] = c := by rw [← hc]; simp [hk]
  unfold cntK
  rw [List.take_succ_eq_append_getElem hk, List.countP_append, this]
  simp [List.countP_cons]
theorem cntK_le (kind : Int) (cs : List (Int × Int)) (k : Nat) : cntK kind (cs.take k) ≤ k := Nat.le_trans List.countP_le_length (by simp; omega)

set_option maxHeartbeats 1000000 in
theorem llKinds_any (wd : Int) (a : Option Addr) (cap : Nat) (cs : List (Int × Int)) (kind : Int) (w : World) (h : CellsAt w a cs) (hm : cs.length ≤ 1048576) :
    Calls Try.prog 21 #[.agg #[.int .i64 wd, .slice a cs.length cap], .int .i64 kind] w fun e w' => e = .returned (.int .i64 (cntK kind cs)) ∧ Below w.heap.size w w' := by
  have hbX : Below w.heap.size w (w.alloc (.cells #[.int .i64 wd, .slice a cs.length cap] 25)) := (by repeat (first | exact Below.refl _ _ | refine Below.alloc ?_ (by first | exact Nat.le_refl _ | (simp; done) | (simp; omega)) _ | refine Below.drew ?_ | refine Below.setCell ?_ (by first | exact Nat.le_refl _ | (simp; done) | (simp; omega)) _))
  go_enter Try.func21, Try.ntmps21
  go_wp2
  go_loopw [5, 6] (fun n i wr => ∃ k : Nat, k ≤ cs.length ∧ i = .int .i64 k ∧ n = .int .i64 (cntK kind (cs.take k)) ∧ Below w.heap.size w wr ∧ wr.cell? ⟨w.heap.size, 1, none⟩ = some (.slice a cs.length cap)) (fun _ i _ => cs.length - (intOf i).toNat)
  case atStart => exact ⟨0, Nat.zero_le _, rfl, by simp [cntK], hbX, by simp [go_sem]⟩
  case round =>
    clear hbX
    obtain ⟨k, hk, rfl, rfl, hb, b1⟩ := hrel
    by_cases hlt : k < cs.length
    · rcases h with h | ⟨b, off, rfl, hbl, hcell⟩
      · subst h; simp at hlt
      obtain ⟨hx, hy⟩ := hcell k hlt
      rw [← hb.cell (p := ⟨b, _, none⟩) hbl] at hx hy
      clear hcell
      obtain ⟨kx, lx, hkl⟩ : ∃ kx lx : Int, cs.getD k (0, 0) = (kx, lx) := ⟨_, _, rfl⟩
      rw [hkl] at hx hy
      have hc := cntK_take kind cs k hlt (kx, lx) hkl
      have hle := cntK_le kind cs k
      have HC : Hid (cntK kind (cs.take (k + 1)) = cntK kind (cs.take k) + (if isK kind (kx, lx) then 1 else 0)) := hc
      clear hc hkl
      obtain ⟨m, hmm⟩ : ∃ m, m = cntK kind (cs.take k) := ⟨_, rfl⟩
      rw [← hmm] at hle HC ⊢
      have hz := hb.size
      have hkind : (isK kind (kx, lx) = true ↔ normK kx = kind) := by simp [isK]
      by_cases h3 : kx = 3
      · subst h3
        by_cases hq : (2 : Int) = kind
        · subst hq
          go_wp2
          go_roundw
          case rel => exact ⟨k + 1, by omega, by go_num, by rw [HC.out]; simp [isK, normK, backK, hmm], ⟨hb.os, hb.tape, hb.output, hb.size, hb.block⟩, b1⟩
          case measure => simp [intOf]; omega
        · go_wp2
          go_roundw
          case rel => exact ⟨k + 1, by omega, by go_num, by rw [HC.out]; simp [isK, normK, backK, hmm, hq], ⟨hb.os, hb.tape, hb.output, hb.size, hb.block⟩, b1⟩
          case measure => simp [intOf]; omega
      by_cases h5 : kx = 5
      · subst h5
        by_cases hq : (4 : Int) = kind
        · subst hq
          go_wp2
          go_roundw
          case rel => exact ⟨k + 1, by omega, by go_num, by rw [HC.out]; simp [isK, normK, backK, hmm], ⟨hb.os, hb.tape, hb.output, hb.size, hb.block⟩, b1⟩
          case measure => simp [intOf]; omega
        · go_wp2
          go_roundw
          case rel => exact ⟨k + 1, by omega, by go_num, by rw [HC.out]; simp [isK, normK, backK, hmm, hq], ⟨hb.os, hb.tape, hb.output, hb.size, hb.block⟩, b1⟩
          case measure => simp [intOf]; omega
      by_cases hq : kx = kind
      · subst hq
        go_wp2
        go_roundw
        case rel => exact ⟨k + 1, by omega, by go_num, by rw [HC.out]; simp [isK, normK, backK, hmm, h3, h5], ⟨hb.os, hb.tape, hb.output, hb.size, hb.block⟩, b1⟩
        case measure => simp [intOf]; omega
      · go_wp2
        go_roundw
        case rel => exact ⟨k + 1, by omega, by go_num, by rw [HC.out]; simp [isK, normK, backK, hmm, h3, h5, hq], ⟨hb.os, hb.tape, hb.output, hb.size, hb.block⟩, b1⟩
        case measure => simp [intOf]; omega
    · have e : cs.take k = cs := List.take_of_length_le (by omega)
      rw [e]
      go_wp2
      go_ret
      exact ⟨rfl, hb⟩

end Go.Proofs.Ytdgahcadjjokcaa
