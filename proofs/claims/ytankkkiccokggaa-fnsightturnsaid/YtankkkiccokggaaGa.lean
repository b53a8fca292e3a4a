/-
  The contracts of impl.GridOk and spec.GridOk: each returns what the plain function 'okG' says of a grid's width and cells, whatever they are, and turns no memory that was there.
-/
import Derived.Test.YtankkkiccokggaaCa
namespace Go.Proofs.Ytankkkiccokggaa
open Go.RowKit

/-- Cells that lie in a row, two words each: at 'b' from 'off' on (where there is one at all). -/
def CellsAt (w : World) (a : Option Addr) (cs : List (Int × Int)) : Prop :=
  cs = [] ∨ ∃ b off, a = some ⟨b, off, none⟩ ∧ b < w.heap.size ∧ ∀ i, i < cs.length →
    w.cell? ⟨b, off + i * 2, none⟩ = some (.int .i64 (cs.getD i (0, 0)).1) ∧ w.cell? ⟨b, off + i * 2 + 1, none⟩ = some (.int .i64 (cs.getD i (0, 0)).2)

def sizeG (wd : Int) (n : Int) : Bool := decide (1 ≤ wd ∧ wd ≤ 5 ∧ n % wd = 0 ∧ 1 ≤ n / wd ∧ n / wd ≤ 5)
def okG (wd : Int) (cs : List (Int × Int)) : Bool := sizeG wd cs.length && cs.all fun c => okC c.1 c.2

theorem all_snoc (cs : List (Int × Int)) (k : Nat) (h : k < cs.length) (p : Int × Int → Bool) : (cs.take (k + 1)).all p = ((cs.take k).all p && p cs[k]) := by
  rw [List.take_succ_eq_append_getElem h, List.all_append]
  simp only [List.all_cons, List.all_nil, Bool.and_true]
theorem okG_size (wd : Int) (cs : List (Int × Int)) (h : sizeG wd cs.length = false) : okG wd cs = false := by simp [okG, h]
theorem okG_no (wd : Int) (cs : List (Int × Int)) (k : Nat) (h : k < cs.length) (hk : okC cs[k].1 cs[k].2 = false) : okG wd cs = false := by
  have : (cs.all fun c => okC c.1 c.2) = false := by
    rw [List.all_eq_false]
    exact ⟨cs[k], List.getElem_mem _, by simp [hk]⟩
  simp [okG, this]
theorem okG_yes (wd : Int) (cs : List (Int × Int)) (h : sizeG wd cs.length = true) (hk : (cs.all fun c => okC c.1 c.2) = true) : okG wd cs = true := by simp only [okG, h, hk, Bool.and_self]

set_option maxHeartbeats 400000 in
theorem implGridOk_any (wd : Int) (a : Option Addr) (cap : Nat) (cs : List (Int × Int)) (w : World) (h : CellsAt w a cs) (hm : cs.length ≤ 4611686018427387904) :
    Calls Try.prog 44 #[.agg #[.int .i64 wd, .slice a cs.length cap]] w fun e w' => e = .returned (.bool (okG wd cs)) ∧ Below w.heap.size w w' := by
  by_cases h1 : 1 ≤ wd
  · have hq0 : 0 ≤ (cs.length : Int) / wd := Int.ediv_nonneg (by omega) (by omega)
    have hq1 : (cs.length : Int) / wd ≤ cs.length := Int.ediv_le_self _ (by omega)
    by_cases h2 : wd ≤ 5
    · by_cases h3 : (cs.length : Int) % wd = 0
      · by_cases h4 : 1 ≤ (cs.length : Int) / wd
        · by_cases h5 : (cs.length : Int) / wd ≤ 5
          · have hne : cs ≠ [] := by intro hx; subst hx; simp at h4
            have HS : Hid (sizeG wd cs.length = true) := by show sizeG wd cs.length = true; simp [sizeG, h1, h2, h3, h4, h5]
            rcases h with h | ⟨b, off, rfl, hbl, hcell⟩
            · exact absurd h hne
            go_enter Try.func44, Try.ntmps44
            go_wp2
            go_loopw [33] (fun i wr => ∃ k : Nat, k ≤ cs.length ∧ i = .int .i64 k ∧ ((cs.take k).all fun c => okC c.1 c.2) = true ∧ Below w.heap.size w wr) (fun i _ => cs.length - (intOf i).toNat)
            case atStart => exact ⟨0, Nat.zero_le _, rfl, by simp, (by repeat (first | exact Below.refl _ _ | refine Below.alloc ?_ (by first | exact Nat.le_refl _ | (simp; done) | (simp; omega)) _ | refine Below.drew ?_ | refine Below.setCell ?_ (by first | exact Nat.le_refl _ | (simp; done) | (simp; omega)) _))⟩
            case round =>
              obtain ⟨k, hk, rfl, hall, hb⟩ := hrel
              by_cases hlt : k < cs.length
              · obtain ⟨hx, hy⟩ := hcell k hlt
                rw [← hb.cell (p := ⟨b, _, none⟩) hbl] at hx hy
                have HA : Hid (((cs.take (k + 1)).all fun c => okC c.1 c.2) = okC cs[k].1 cs[k].2) := by show _ = _; rw [all_snoc cs k hlt, hall]; simp
                clear hall
                have hzr := hb.size
                by_cases hok : okC cs[k].1 cs[k].2 = true
                · go_wp2_with fail
                  refine (implCellOk_any _ _ _).mono ?_
                  rintro e w2 ⟨rfl, hb2⟩
                  go_wp2
                  go_roundw
                  case rel => exact ⟨k + 1, by omega, by go_num, by rw [HA.out]; exact hok, bcall (hb.alloc hzr _) (by simp; omega) hb2⟩
                  case measure => simp [intOf]; omega
                · have hok' : okC cs[k].1 cs[k].2 = false := by simpa using hok
                  clear hok
                  go_wp2_with fail
                  refine (implCellOk_any _ _ _).mono ?_
                  rintro e w2 ⟨rfl, hb2⟩
                  go_wp2
                  go_ret
                  exact ⟨by rw [okG_no wd cs k hlt hok']; rfl, bcall (hb.alloc hzr _) (by simp; omega) hb2⟩
              · go_wp2
                go_ret
                exact ⟨by rw [okG_yes wd cs HS.out (by rw [List.take_of_length_le (by omega)] at hall; exact hall)]; rfl, hb⟩
          · go_enter Try.func44, Try.ntmps44
            go_wp2
            go_ret
            exact ⟨by rw [okG_size wd cs (by simp [sizeG]; omega)]; rfl, (by repeat (first | exact Below.refl _ _ | refine Below.alloc ?_ (by first | exact Nat.le_refl _ | (simp; done) | (simp; omega)) _ | refine Below.drew ?_ | refine Below.setCell ?_ (by first | exact Nat.le_refl _ | (simp; done) | (simp; omega)) _))⟩
        · go_enter Try.func44, Try.ntmps44
          go_wp2
          go_ret
          exact ⟨by rw [okG_size wd cs (by simp [sizeG]; omega)]; rfl, (by repeat (first | exact Below.refl _ _ | refine Below.alloc ?_ (by first | exact Nat.le_refl _ | (simp; done) | (simp; omega)) _ | refine Below.drew ?_ | refine Below.setCell ?_ (by first | exact Nat.le_refl _ | (simp; done) | (simp; omega)) _))⟩
      · go_enter Try.func44, Try.ntmps44
        go_wp2
        go_ret
        exact ⟨by rw [okG_size wd cs (by simp [sizeG]; omega)]; rfl, (by repeat (first | exact Below.refl _ _ | refine Below.alloc ?_ (by first | exact Nat.le_refl _ | (simp; done) | (simp; omega)) _ | refine Below.drew ?_ | refine Below.setCell ?_ (by first | exact Nat.le_refl _ | (simp; done) | (simp; omega)) _))⟩
    · go_enter Try.func44, Try.ntmps44
      go_wp2
      go_ret
      exact ⟨by rw [okG_size wd cs (by simp [sizeG]; omega)]; rfl, (by repeat (first | exact Below.refl _ _ | refine Below.alloc ?_ (by first | exact Nat.le_refl _ | (simp; done) | (simp; omega)) _ | refine Below.drew ?_ | refine Below.setCell ?_ (by first | exact Nat.le_refl _ | (simp; done) | (simp; omega)) _))⟩
  · go_enter Try.func44, Try.ntmps44
    go_wp2
    go_ret
    exact ⟨by rw [okG_size wd cs (by simp [sizeG]; omega)]; rfl, (by repeat (first | exact Below.refl _ _ | refine Below.alloc ?_ (by first | exact Nat.le_refl _ | (simp; done) | (simp; omega)) _ | refine Below.drew ?_ | refine Below.setCell ?_ (by first | exact Nat.le_refl _ | (simp; done) | (simp; omega)) _))⟩

end Go.Proofs.Ytankkkiccokggaa
